import PyProof.Rows.All
import Wide.All
import OpenK.AllK
import Wide.FinOn
import PyProof.ReprRoads
import KE.KTupSum
import HandS.ForMost
import HandS.IsInst
import HandS.Defaults
import HandS.TupAny
import HandS.DictComp
import KE.KDictKeyed
import HandS.TupSets
import HandS.Gcd
import HandS.Property
import HandS.Small
import HandS.Flow
import HandS.SortInts
import HandS.Set
import HandS.Strs
import HandS.ClsMeth
import KE.KMathG
import HandS.Star
import PyProof.LongRange
import HandS.SetFor
import HandS.Style
import PySem.Challenge.RW_clockfolds_k03_whole_kinds_of_years
set_option Elab.async false
set_option linter.all false
set_option maxRecDepth 100000
/-! Own layer over HandS: promises that hold where no repr is under way (guards = some []), repr of data, sum of a tuple. -/
namespace Cf
open PySem PySem.Spec PyProof.Rows L2

/-- as FnOk, but asked only where no repr is under way -/
structure FnG (P : Program) (w : World) (K : PySem.W.Frag) (mg : Str → Option Value) (base : Heap) (CX : CXT) (k : Nat) (f : Addr) (fd : FuncData) (ps : List Str) (sp : Sp) : Prop where
  many : ∀ vs H Q E, sp vs H Q E → vs.length = ps.length
  go : ∀ (A : Around), A.guards = some [] → ∀ (outer : List Env) (s : Shared) (H : Hp) (args : Args) (us : List Value) (vs : List V) (Q : VK) (E : XK),
    Room k A → Env0 P w K mg base A outer s H → BindsTo s fd args (ps.zip us) → Vals vs us → sp vs H Q E →
      codeAny (model P w) A (.call (.ref f) args) (CR CX outer P w H s Q E) s

section
variable {P : Program} {w : World} {K : PySem.W.Frag} {mg : Str → Option Value} {base : Heap} {CX : CXT}

theorem FnG.of {k : Nat} {f : Addr} {fd : FuncData} {ps : List Str} {sp : Sp} (F : FnOk P w K mg base CX k f fd ps sp) : FnG P w K mg base CX k f fd ps sp :=
  { many := F.len, go := fun A _ => F.run A }

/-- a def keeps its promise, its body walked where no repr is under way -/
theorem fn_g {k : Nat} {f : Addr} {name qual : Str} {params : Arguments} {body : List Stmt} {scope : Scope} {dV kV doc pm cdv ct oc : Value} {an od : Option Addr} {osl : Array (Option Value)} {N ps : List Str} {sp : Sp}
    (there : K.lookup f = some ⟨oc, od, .func (PySem.W.fnOf name qual params body scope dV kV doc pm an cdv ct), osl⟩)
    (code : PySem.W.codeIn K cdv qual = true) (sc : FnScope N ps scope) (many : ∀ vs H Q E, sp vs H Q E → vs.length = ps.length)
    (walk : ∀ (A : Around), A.guards = some [] → ∀ (outer : List Env) (s : Shared) (H : Hp) (vs : List V) (Q : VK) (E : XK),
      Room k (A.deeper (envOfC qual scope s.heap.objs.size f cdv)) → sp vs H Q E →
        ∃ t, PSs (cxOf CX P w K mg base N qual scope f cdv A outer s H E) body t ∧ t { nx := fun _ H' => Q .non H', rt := Q } (start N vs) H) :
    FnG P w K mg base CX (k + 1) f (PySem.W.fnOf name qual params body scope dV kV doc pm an cdv ct) ps sp := by
  constructor
  · exact many
  intro A gd outer s H args us vs Q E room env bind vals asked
  have n := many vs H Q E asked
  have inK : K.In s.heap := env.mod.kin.keeps fun b o h => (env.bs b o h).1
  have noLim : s.heap.NoLimit := env.mod.nolimit.keeps fun b o h => (env.bs b o h).1
  have kinds : ∀ y ∈ ps.zip us, scope.names.lookup y.1 = some .local ∨
      (scope.names.lookup y.1 = some .cell ∧ ((cellsFrom (s.heap.objs.size + 1) scope.names []).lookup y.1).isSome = true) := by
    rintro ⟨z, v⟩ hz
    have hz1 := (List.of_mem_zip hz).1
    cases sc.par z hz1 with
    | inl l => exact Or.inl l
    | inr c => exact Or.inr ⟨c, PySem.W.cellsFrom_some _ _ _ (Or.inl c)⟩
  apply codeAny_call_function room.depth (inK _ _ there) rfl sc.co sc.gen rfl (PySem.W.codeRec_of inK code)
  apply bind
  apply wpAny_newFunctionEnv_cells sc.kind kinds
  intro env' he s1 x
  cases he
  refine And.intro (noLim.keeps x.toInCall.keep) (codeAny_func ?_)
  rcases walk A gd outer s H vs Q E (room.deeper _) asked with ⟨t, ht, hq⟩
  have I0 := inv_start (CX := CX) (E := E) (f := f) (qual := qual) (cd := cdv) sc room.hd env n vals x
  apply wpAny_mono (ht.run [] s1 (start N vs) H _ I0 hq)
  · intro fl s' hs
    cases fl with
    | ret u =>
      rcases hs with ⟨v, _, H', J, rv, q⟩
      exact ⟨v, H', J.os, J.bare, J.base, J.hok, rv, q⟩
    | next =>
      rcases hs with ⟨_, H', J, q⟩
      exact ⟨V.non, H', J.os, J.bare, J.base, J.hok, rfl, q⟩
    | brk =>
      rcases hs with ⟨_, _, _, q⟩
      exact q.elim
    | cont =>
      rcases hs with ⟨_, _, _, q⟩
      exact q.elim
  · intro e s' hs
    exact hs

/-- .. of the text's def, none let out -/
theorem funG {x qual : Str} {st : Stmt} {f : Addr} {fd : FuncData} {N ps : List Str} {k : Nat} {sp : Sp} (F : Fun K x qual st f fd) (sc : FnScope N ps (defScope st))
    (many : ∀ vs H Q E, sp vs H Q E → vs.length = ps.length)
    (walk : ∀ (cdv : Value) (A : Around), A.guards = some [] → ∀ (outer : List Env) (s : Shared) (H : Hp) (vs : List V) (Q : VK) (E : XK),
      Room k (A.deeper (envOfC qual (defScope st) s.heap.objs.size f cdv)) → sp vs H Q E →
        ∃ t, PSs (cxOf CX0 P w K mg base N qual (defScope st) f cdv A outer s H E).nox (defBody st) t ∧ t { nx := fun _ H' => Q .non H', rt := Q } (start N vs) H) :
    FnG P w K mg base CX0 (k + 1) f fd ps sp := by
  rcases F.ex with ⟨_, _, _, _, _, _, cdv, _, _, rfl, there, code⟩
  exact fn_g there code sc many fun A gd outer s H vs Q E room asked =>
    let ⟨t, h, q⟩ := walk cdv A gd outer s H vs Q E room asked
    ⟨t, h.nox, q⟩
end

section
variable {X : Cx} {CX : CXT} {k : Nat} {f : Addr} {fd : FuncData} {ps : List Str} {sp : Sp} {dvs : List V} {ds : List Value} {E : XK} {x : Str} {p pos : Pos} {e : Expr} {es : List Expr} {t : TA}
theorem goG {pins : List (Addr × Obj)} {σ : L2.St} {H : Hp} {s : Shared} {Q : VK} {us : List Value} {vs : List V} (F : FnG X.prog X.w X.K X.mg X.base CX k f fd ps sp) (gd : X.A.guards = some []) (room : Room k X.A)
    (hb : Binds X.K fd ps ds) (hd : Vals dvs ds) (out : Passes CX X E) (I : Inv X pins σ H s) (r : Vals vs us) (asked : sp (vs ++ dvs) H Q E) :
    wpAny (model X.prog X.w) X.A (call (.ref f) us) (EP X pins σ Q) X.xe s := by
  have rr : Vals (vs ++ dvs) (us ++ ds) := r.append hd
  have ll : (us ++ ds).length = ps.length := rr.length.symm.trans (F.many _ _ _ _ asked)
  apply wpAny_call
  refine codeAny_mono (F.go X.A gd X.stack s H ⟨us, []⟩ (us ++ ds) (vs ++ dvs) Q E room I.env0 (hb s us I.kIn ll) rr asked) ?_
  intro res s' got
  match res, got with
  | .error e, got => exact out pins σ H s e s' I got
  | .ok (.ret u), got => exact I.after got
  | .ok .next, got => exact got.elim
  | .ok .brk, got => exact got.elim
  | .ok .cont, got => exact got.elim
/-- f(e, ..), f a def of the program that may show containers -/
theorem pe_callG (F : FnG X.prog X.w X.K X.mg X.base CX k f fd ps sp) (gd : X.A.guards = some []) (room : Room k X.A) (hg : Gl X x) (hm : X.mg x = some (.ref f)) (hk : PySem.W.keepIn X.K (.ref f) = true)
    (hb : Binds X.K fd ps ds) (hd : Vals dvs ds) (out : Passes CX X E) (args : PA X (e :: es) t) (hdb : (x == ("__debug__" : Str)) = false := by decide)
    (he : starEach (e :: es) X.env = (false, eval e X.env) :: starEach es X.env := by rfl) (hpl : (backTo pos (starEach es X.env)).any (·.1) = false := by rfl) :
    PE X (.Call (.Name x p) (e :: es) [] pos) (tCall sp dvs E t) := by
  constructor
  intro pins s σ H Q I h
  apply wpAny_Call_Name_kw (ld_glob I hg hm ?_ hdb)
  apply PySem.W.callWith_K (h₀ := X.base) I.ok.mod.kin hk _ he hpl
  apply thn (args.run pos pins s σ H _ I h)
  rintro us s1 ⟨vs, H1, I1, r, q⟩
  exact ⟨I1.kIn, goG F gd room hb hd out I1 r q⟩
end

/-! ### repr -/
/-- data as they lie in the heap: as Dp of the hand layer, and dicts of ints -/
theorem call_reprD {X : Cx} (gd : X.A.guards = some []) (hu : X.A.units + 64 < cLine) : CallR X (.builtin "repr") (fun xs H Q => ∃ (a : Addr) (d : PyData), xs = [.ref a] ∧ Dp X.K H (.ref a) d ∧ d.showable = true ∧ d.hasDict = false ∧ d.depth ≤ 60 ∧ d.shown.length ≤ sizeLine ∧ Q (.str d.shown) H) := by
  intro pins s σ H xs us Q I r h
  obtain ⟨a, d, rfl, hd, sh, nd, dd, sz, q⟩ := h
  obtain ⟨u, rfl, ru⟩ : ∃ u, us = [u] ∧ RelV (.ref a) u := by
    cases r with
    | cons r1 r2 => cases r2; exact ⟨_, rfl, r1⟩
  cases ru
  obtain ⟨as, rd⟩ := Dp.reads I d _ _ hd rfl
  refine repr_of_reads' rd sh (fun z => by rw [nd] at z; cases z) gd (by omega) (fun _ _ e => e) (fun h' u tk k => ?_) sz
  exact ⟨.str _, H, I.kept k, ⟨_, rfl⟩, q⟩
theorem call_repr_bl {X : Cx} : CallR X (.builtin "repr") (fun xs H Q => ∃ b, xs = [.bl b] ∧ Q (.str (if b then "True" else "False")) H) := by
  intro pins s σ H xs us Q I r h
  obtain ⟨b, rfl, q⟩ := h
  obtain ⟨u, rfl, ru⟩ : ∃ u, us = [u] ∧ RelV (.bl b) u := by
    cases r with
    | cons r1 r2 => cases r2; exact ⟨_, rfl, r1⟩
  cases ru
  exact PySem.P.repr_of_bool ⟨.str _, H, I.tok _, ⟨_, rfl⟩, q⟩
theorem call_repr_i {X : Cx} : CallR X (.builtin "repr") (fun xs H Q => ∃ i, xs = [.int i] ∧ i.natAbs.log2 < 1920 ∧ Q (.str (toString i)) H) := by
  intro pins s σ H xs us Q I r h
  obtain ⟨i, rfl, hz, q⟩ := h
  obtain ⟨u, rfl, t, rfl⟩ := vals1 r
  exact PySem.P.repr_of_int hz ⟨.str _, H, I.tok _, ⟨_, rfl⟩, q⟩
/-! ### sum of a tuple of ints -/
def rSumT (K : PySem.W.Frag) : List V → Hp → VK → Prop := fun vs H Q => ∃ (a : Addr) (ns : List Int), vs = [V.ref a] ∧ SqT K H a (ns.map V.int) ∧ Q (.int ns.sum) H
theorem cr_sumT {X : Cx} (hc : X.calm = true) : CallR X (.builtin "sum") (rSumT X.K) := by
  intro pins s σ H vs us Q I r h
  obtain ⟨a, ns, rfl, hs, q⟩ := h
  obtain ⟨its, rv, hl, _⟩ := I.tuple hs
  rw [Vals.ref1 r]
  have hi := rv.ints
  obtain ⟨xs, e⟩ := hi.allInts.items
  have hn : numsOf (intItems xs).toList = ns := by rw [← e]; exact hi.numsOf
  rw [nums_intItems] at hn
  have hl' : s.heap.IsTuple a its.toArray := hl
  rw [e] at hl'
  refine PySem.W.ktm_sumG (I.ok.hd hc) hl' fun h' tk t' hk => ?_
  have e2 : PySem.preSum (numAt xs) xs.size = ns.sum := by
    rw [preSum_eq, List.take_of_length_le (by simp), hn]
  rw [e2]
  exact ⟨.int _, H, I.kept hk, ⟨_, rfl⟩, q⟩
/-! ### a def of the program as its callers see it -/
structure Df (P : Program) (w : World) (K : PySem.W.Frag) (mg : Str → Option Value) (base : Heap) (k : Nat) (x : Str) (ps : List Str) (dvs : List V) (sp : Sp) : Prop where
  ex : ∃ (f : Addr) (fd : FuncData) (ds : List Value), FnOk P w K mg base CX0 k f fd ps sp ∧ mg x = some (.ref f) ∧ PySem.W.keepIn K (.ref f) = true ∧ Vals dvs ds ∧ Binds K fd ps ds
structure Dg (P : Program) (w : World) (K : PySem.W.Frag) (mg : Str → Option Value) (base : Heap) (k : Nat) (x : Str) (ps : List Str) (dvs : List V) (sp : Sp) : Prop where
  ex : ∃ (f : Addr) (fd : FuncData) (ds : List Value), FnG P w K mg base CX0 k f fd ps sp ∧ mg x = some (.ref f) ∧ PySem.W.keepIn K (.ref f) = true ∧ Vals dvs ds ∧ Binds K fd ps ds
/-- called by names alone, ks in the text's order -/
structure Dk (P : Program) (w : World) (K : PySem.W.Frag) (mg : Str → Option Value) (base : Heap) (k : Nat) (x : Str) (ps ks : List Str) (gV : List V → List V) (sp : Sp) : Prop where
  ex : ∃ (f : Addr) (fd : FuncData) (g : List Value → List Value), FnOk P w K mg base CX0 k f fd ps sp ∧ mg x = some (.ref f) ∧ PySem.W.keepIn K (.ref f) = true ∧
    (∀ {vs : List V} {us : List Value}, Vals vs us → Vals (gV vs) (g us)) ∧
    ∀ (s : Shared) (ws : List Value), K.In s.heap → ws.length = ks.length → BindsTo s fd ⟨[], ks.zip ws⟩ (ps.zip (g ws))
def tCallN0 (n : Nat) (sp : Sp) (gV : List V → List V) (tk : TA) : TE := fun σ H Q => tk σ H fun zs H2 => zs.length = n ∧ sp (gV zs) H2 Q E0
section
variable {X : Cx} {k : Nat} {x : Str} {ps ks : List Str} {sp : Sp} {dvs : List V} {p pos : Pos} {e : Expr} {es : List Expr} {t tk : TA} {kws : List Keyword} {gV : List V → List V}
theorem pe_df (D : Df X.prog X.w X.K X.mg X.base k x ps dvs sp) (hr : Room k X.A) (ha : PA X (e :: es) t) (hg : Gl X x := by rfl) (hdb : (x == ("__debug__" : Str)) = false := by decide)
    (he : starEach (e :: es) X.env = (false, eval e X.env) :: starEach es X.env := by rfl) (hpl : (backTo pos (starEach es X.env)).any (·.1) = false := by rfl) :
    PE X (.Call (.Name x p) (e :: es) [] pos) (tCall sp dvs E0 t) := by
  obtain ⟨f, fd, ds, F, m, kp, hv, b⟩ := D.ex
  exact pe_call F hr hg m kp b hv pass0 ha hdb he hpl
theorem pe_dg (D : Dg X.prog X.w X.K X.mg X.base k x ps dvs sp) (gd : X.A.guards = some []) (hr : Room k X.A) (ha : PA X (e :: es) t) (hg : Gl X x := by rfl) (hdb : (x == ("__debug__" : Str)) = false := by decide)
    (he : starEach (e :: es) X.env = (false, eval e X.env) :: starEach es X.env := by rfl) (hpl : (backTo pos (starEach es X.env)).any (·.1) = false := by rfl) :
    PE X (.Call (.Name x p) (e :: es) [] pos) (tCall sp dvs E0 t) := by
  obtain ⟨f, fd, ds, F, m, kp, hv, b⟩ := D.ex
  exact pe_callG F gd hr hg m kp b hv pass0 ha hdb he hpl
theorem pe_dk (D : Dk X.prog X.w X.K X.mg X.base k x ps ks gV sp) (hr : Room k X.A) (hkw : PK X kws tk) (hg : Gl X x := by rfl)
    (hall : (backToKw pos (keywordEach kws X.env)).all (·.1.isSome) = true := by rfl) (hks : (backToKw pos (keywordEach kws X.env)).filterMap (·.1) = ks := by rfl) (hdb : (x == ("__debug__" : Str)) = false := by decide)
    (hpl : ((backTo pos (starEach [] X.env)).any (·.1) || (backToKw pos (keywordEach kws X.env)).any (·.1.isNone)) = false := by rfl) :
    PE X (.Call (.Name x p) [] kws pos) (tCallN0 ks.length sp gV tk) := by
  obtain ⟨f, fd, g, F, m, kp, rel, b⟩ := D.ex
  constructor
  intro pins s σ H Q I h
  apply wpAny_Call_Name_kw (ld_glob I hg m ?_ hdb)
  apply PySem.W.callWith_KW0 (h₀ := X.base) I.ok.mod.kin kp hall ?_ hpl
  apply thn (hkw.run pos pins s σ H _ I h)
  rintro ws s2 ⟨zs, H2, I2, rz, ln, asked⟩
  refine ⟨I2.kIn, ?_⟩
  rw [hks]
  have ll : ws.length = ks.length := rz.length.symm.trans ln
  have rr := rel rz
  apply wpAny_call
  refine codeAny_mono (F.run X.A X.stack s2 H2 ⟨[], ks.zip ws⟩ (g ws) (gV zs) Q E0 hr I2.env0 (b s2 ws I2.kIn ll) rr asked) ?_
  intro res s' got
  match res, got with
  | .error e, got => exact (got : False).elim
  | .ok (.ret u), got => exact I2.after got
  | .ok .next, got => exact got.elim
  | .ok .brk, got => exact got.elim
  | .ok .cont, got => exact got.elim
end
/-! ### small things -/
theorem _root_.L2.Same.sqt {K : PySem.W.Frag} {H H' : Hp} {a : Addr} {xs : List V} (e : Same H H') (h : SqT K H a xs) : SqT K H' a xs := by
  rcases h with (h | ⟨o, h⟩) | h
  · exact .inl (.inl (e _ _ h))
  · exact .inl (.inr ⟨o, e _ _ h⟩)
  · exact .inr h
theorem _root_.L2.Same.new {H : Hp} {p : Addr} {o : HO} (h : H p = none) : Same H (upd H p o) := fun b u e => by rw [upd_ne (ne_of_none e h)]; exact e
theorem _root_.L2.Same.step {H0 H : Hp} {p : Addr} {o : HO} (s : Same H0 H) (h : H p = none) : Same H0 (upd H p o) := s.trans (Same.new h)
theorem _root_.L2.Same.wr {H0 H : Hp} {p : Addr} {o : HO} (s : Same H0 H) (h : H0 p = none) : Same H0 (upd H p o) := fun b u e => by rw [upd_ne (ne_of_none e h)]; exact s b u e
/-- all but the objects at p and q is as it was -/
def But (p q : Addr) (H H' : Hp) : Prop := ∀ b o, H b = some o → b ≠ p → b ≠ q → H' b = some o
theorem But.refl {p q : Addr} {H : Hp} : But p q H H := fun _ _ h _ _ => h
theorem But.trans {p q : Addr} {H H1 H2 : Hp} (a : But p q H H1) (b : But p q H1 H2) : But p q H H2 := fun c o h h1 h2 => b c o (a c o h h1 h2) h1 h2
theorem But.of {p q : Addr} {H H' : Hp} (a : Same H H') : But p q H H' := fun c o h _ _ => a c o h
theorem _root_.L2.Same.but {p q : Addr} {H0 H H' : Hp} (a : Same H0 H) (b : But p q H H') (hp : H0 p = none) (hq : H0 q = none) : Same H0 H' := fun c o h => b c o (a c o h) (ne_of_none h hp) (ne_of_none h hq)
theorem ints_get {ns : List Int} {i : Nat} {y : V} (h : (ns.map V.int)[i]? = some y) : ∃ z, ns[i]? = some z ∧ y = V.int z := by
  rw [List.getElem?_map] at h
  cases e : ns[i]? with
  | none => rw [e] at h; cases h
  | some z => rw [e] at h; exact ⟨z, rfl, (Option.some.inj h).symm⟩
theorem lt_of_get {α : Type} {l : List α} {i : Nat} {y : α} (h : l[i]? = some y) : i < l.length := (List.getElem?_eq_some_iff.mp h).1
theorem iteFF {A B : Prop} {b : Bool} (e : b = false) (h : B) : if b = true then A else B := by subst e; exact iteF h
theorem iteTT {A B : Prop} {b : Bool} (e : b = true) (h : A) : if b = true then A else B := by subst e; exact iteT h
end Cf
/-! The mathematics of the calendar, plain. -/
namespace Cf
def leapB (y : Int) : Bool := decide (y % 4 = 0) && (decide (y % 100 ≠ 0) || decide (y % 400 = 0))
def lyb (y : Int) : Int := (y - 1) / 4 - (y - 1) / 100 + (y - 1) / 400
def ysOf (y : Int) : Int := 365 * (y - 2000) + lyb y - lyb 2000
theorem leapB_iff (y : Int) : leapB y = true ↔ (y % 4 = 0 ∧ (y % 100 ≠ 0 ∨ y % 400 = 0)) := by
  unfold leapB
  simp only [Bool.and_eq_true, Bool.or_eq_true, decide_eq_true_eq]
def leapI (y : Int) : Int := if leapB y = true then 1 else 0
theorem ys_succ (y : Int) : ysOf (y + 1) = ysOf y + 365 + leapI y := by
  unfold ysOf lyb leapI
  have := leapB_iff y
  by_cases h : leapB y = true
  · rw [if_pos h]
    have h2 := this.mp h
    omega
  · rw [if_neg h]
    have h2 : ¬ (y % 4 = 0 ∧ (y % 100 ≠ 0 ∨ y % 400 = 0)) := fun z => h (this.mpr z)
    omega
theorem leapI_01 (y : Int) : leapI y = 0 ∨ leapI y = 1 := by
  unfold leapI
  by_cases h : leapB y = true
  · rw [if_pos h]; exact Or.inr rfl
  · rw [if_neg h]; exact Or.inl rfl
theorem ys_step (y : Int) : ysOf y + 365 ≤ ysOf (y + 1) ∧ ysOf (y + 1) ≤ ysOf y + 366 := by
  have := ys_succ y
  have := leapI_01 y
  omega
theorem ys_mono_nat (y : Int) : ∀ n : Nat, ysOf y + 365 * (n : Int) ≤ ysOf (y + n)
  | 0 => by simp
  | n + 1 => by
    have h1 := ys_mono_nat y n
    have h2 := (ys_step (y + n)).1
    have e : y + ((n + 1 : Nat) : Int) = y + (n : Int) + 1 := by omega
    rw [e]
    omega
theorem ys_lt {y z : Int} (h : y < z) : ysOf y < ysOf z := by
  have h1 := ys_mono_nat y (z - y).toNat
  have e : y + ((z - y).toNat : Int) = z := by omega
  rw [e] at h1
  omega
theorem ys_le {y z : Int} (h : y ≤ z) : ysOf y ≤ ysOf z := by
  by_cases e : y = z
  · rw [e]; exact Int.le_refl _
  · exact Int.le_of_lt (ys_lt (by omega))
theorem ys_le_iff {y z : Int} (h : ysOf y < ysOf (z + 1)) : y ≤ z := by
  by_cases q : y ≤ z
  · exact q
  · have := ys_le (y := z + 1) (z := y) (by omega)
    omega
/-- the law's own first day of a year -/
def lawNY (y : Int) : Int := 365 * (y - 2000) + (y - 2000 + 3) / 4 - (y - 2000 + 99) / 100 + (y - 2000 + 399) / 400
theorem lawNY_eq (y : Int) : lawNY y = ysOf y := by
  unfold lawNY ysOf lyb
  omega
/-- the first try of year_of is never too late -/
theorem first_try {d y : Int} (h1 : ysOf y ≤ d) (h2 : d < ysOf (y + 1)) : 2000 + 400 * (d / 146097) + (d % 146097) / 366 ≤ y := by
  refine ys_le_iff (z := y) ?_
  have : ysOf (2000 + 400 * (d / 146097) + (d % 146097) / 366) ≤ d := by
    unfold ysOf lyb
    omega
  omega
def ml (m : Int) : Int := match m with
  | 1 => 31 | 2 => 28 | 3 => 31 | 4 => 30 | 5 => 31 | 6 => 30 | 7 => 31 | 8 => 31 | 9 => 30 | 10 => 31 | 11 => 30 | 12 => 31 | _ => 0
def mlen (m : Int) (l : Bool) : Int := if m = 2 ∧ l = true then 29 else ml m
def MLs : List Int := [31, 28, 31, 30, 31, 30, 31, 31, 30, 31, 30, 31]
def mst (m : Int) (l : Bool) : Int := (MLs.take (m - 1).toNat).sum + (if l = true ∧ 2 < m then 1 else 0)
theorem m12 {m : Int} (h1 : 1 ≤ m) (h2 : m ≤ 12) : m = 1 ∨ m = 2 ∨ m = 3 ∨ m = 4 ∨ m = 5 ∨ m = 6 ∨ m = 7 ∨ m = 8 ∨ m = 9 ∨ m = 10 ∨ m = 11 ∨ m = 12 := by omega
theorem mst_succ {m : Int} (h1 : 1 ≤ m) (h2 : m ≤ 12) (l : Bool) : mst (m + 1) l = mst m l + mlen m l := by
  rcases m12 h1 h2 with rfl | rfl | rfl | rfl | rfl | rfl | rfl | rfl | rfl | rfl | rfl | rfl <;> cases l <;> decide
theorem mst_1 (l : Bool) : mst 1 l = 0 := by cases l <;> decide
theorem mst_13 (l : Bool) : mst 13 l = 365 + (if l = true then 1 else 0) := by cases l <;> decide
theorem mlen_bd {m : Int} (h1 : 1 ≤ m) (h2 : m ≤ 12) (l : Bool) : 28 ≤ mlen m l ∧ mlen m l ≤ 31 := by
  rcases m12 h1 h2 with rfl | rfl | rfl | rfl | rfl | rfl | rfl | rfl | rfl | rfl | rfl | rfl <;> cases l <;> decide
theorem mst_bd {m : Int} (h1 : 1 ≤ m) (h2 : m ≤ 13) (l : Bool) : 0 ≤ mst m l ∧ mst m l ≤ 366 := by
  have : m = 13 ∨ m ≤ 12 := by omega
  rcases this with rfl | h
  · cases l <;> decide
  · rcases m12 h1 h with rfl | rfl | rfl | rfl | rfl | rfl | rfl | rfl | rfl | rfl | rfl | rfl <;> cases l <;> decide
theorem mst_mono_nat (l : Bool) (m : Int) (h1 : 1 ≤ m) : ∀ n : Nat, m + n ≤ 13 → mst m l + 28 * (n : Int) ≤ mst (m + n) l
  | 0, _ => by simp
  | n + 1, h => by
    have h3 := mst_mono_nat l m h1 n (by omega)
    have h4 := mst_succ (m := m + n) (by omega) (by omega) l
    have h5 := mlen_bd (m := m + n) (by omega) (by omega) l
    have e : m + ((n + 1 : Nat) : Int) = m + (n : Int) + 1 := by omega
    rw [e, h4]
    omega
theorem mst_le {a b : Int} (h1 : 1 ≤ a) (h : a ≤ b) (h2 : b ≤ 13) (l : Bool) : mst a l ≤ mst b l := by
  have h3 := mst_mono_nat l a h1 (b - a).toNat (by omega)
  have e : a + ((b - a).toNat : Int) = b := by omega
  rw [e] at h3
  omega
/-- a date that exists -/
structure IsDate (y m d : Int) : Prop where
  m1 : 1 ≤ m
  m2 : m ≤ 12
  d1 : 1 ≤ d
  d2 : d ≤ mlen m (leapB y)
def dayOf (y m d : Int) : Int := ysOf y + mst m (leapB y) + d - 1
theorem IsDate.year {y m d : Int} (D : IsDate y m d) : ysOf y ≤ dayOf y m d ∧ dayOf y m d < ysOf (y + 1) := by
  have h1 := mst_bd D.m1 (by have := D.m2; omega) (leapB y)
  have h2 := mst_succ D.m1 D.m2 (leapB y)
  have h3 := mst_le (a := m + 1) (b := 13) (by have := D.m1; omega) (by have := D.m2; omega) (by omega) (leapB y)
  have h4 := mst_13 (leapB y)
  have h5 := ys_succ y
  have h6 : leapI y = (if leapB y = true then 1 else 0) := rfl
  have := D.d1
  have := D.d2
  unfold dayOf
  omega
theorem IsDate.month {y m d : Int} (D : IsDate y m d) : mst m (leapB y) ≤ dayOf y m d - ysOf y ∧ dayOf y m d - ysOf y < mst (m + 1) (leapB y) := by
  have h2 := mst_succ D.m1 D.m2 (leapB y)
  have := D.d1
  have := D.d2
  unfold dayOf
  omega
theorem dayOf_first (y m : Int) : dayOf y m 1 = ysOf y + mst m (leapB y) := by unfold dayOf; omega
theorem ys_as_day (y : Int) : ysOf y = dayOf y 1 1 := by rw [dayOf_first, mst_1]; omega
theorem ys_last (y : Int) : ysOf (y + 1) - 1 = dayOf y 12 31 := by
  have h5 := ys_succ y
  have h6 : leapI y = (if leapB y = true then 1 else 0) := rfl
  have h4 := mst_13 (leapB y)
  have h2 := mst_succ (m := 12) (by omega) (by omega) (leapB y)
  have h3 : mlen 12 (leapB y) = 31 := by cases leapB y <;> decide
  unfold dayOf
  have e : (12 : Int) + 1 = 13 := by omega
  rw [e] at h2
  omega
/-- the law's leap year -/
def isLong (y : Int) : Bool := decide (y % 400 = 0) || (decide (y % 4 = 0) && decide (y % 100 ≠ 0))
theorem isLong_eq (y : Int) : isLong y = leapB y := by
  have h1 := leapB_iff y
  have h2 : isLong y = true ↔ (y % 400 = 0 ∨ (y % 4 = 0 ∧ y % 100 ≠ 0)) := by
    unfold isLong
    simp only [Bool.and_eq_true, Bool.or_eq_true, decide_eq_true_eq]
  have h3 : isLong y = true ↔ leapB y = true := by rw [h1, h2]; omega
  cases a : isLong y <;> cases b : leapB y <;> simp_all
def lawSizes (l : Bool) : List Int := [31, if l = true then 29 else 28, 31, 30, 31, 30, 31, 31, 30, 31, 30, 31]
theorem lawSizes_get {m : Int} (h1 : 1 ≤ m) (h2 : m ≤ 12) (l : Bool) : (lawSizes l)[(m - 1).toNat]? = some (mlen m l) := by
  rcases m12 h1 h2 with rfl | rfl | rfl | rfl | rfl | rfl | rfl | rfl | rfl | rfl | rfl | rfl <;> cases l <;> decide
theorem MLs_get {m : Int} (h1 : 1 ≤ m) (h2 : m ≤ 12) : MLs[(m - 1).toNat]? = some (ml m) := by
  rcases m12 h1 h2 with rfl | rfl | rfl | rfl | rfl | rfl | rfl | rfl | rfl | rfl | rfl | rfl <;> decide
/-- the law's first day of a month -/
theorem lawMonth_eq {y m : Int} (h1 : 1 ≤ m) (h2 : m ≤ 12) :
    lawNY y + (([31, 28 + (lawNY (y + 1) - lawNY y - 365), 31, 30, 31, 30, 31, 31, 30, 31, 30, 31] : List Int).take (m - 1).toNat).sum = ysOf y + mst m (leapB y) := by
  rw [lawNY_eq, lawNY_eq]
  have e : ysOf (y + 1) - ysOf y - 365 = leapI y := by have := ys_succ y; omega
  rw [e]
  have h6 : leapI y = (if leapB y = true then 1 else 0) := rfl
  rw [h6]
  rcases m12 h1 h2 with rfl | rfl | rfl | rfl | rfl | rfl | rfl | rfl | rfl | rfl | rfl | rfl <;> cases leapB y <;> simp [mst, MLs] <;> omega
theorem prev_month {m : Int} (h1 : 2 ≤ m) (h2 : m ≤ 12) : (m + 10) % 12 + 1 = m - 1 := by omega
/-- bounds -/
theorem ys_bd {y B : Int} (h1 : -B ≤ y) (h2 : y ≤ B) (hB : 10000 ≤ B) : -(800 * B) ≤ ysOf y ∧ ysOf y ≤ 800 * B := by
  unfold ysOf lyb
  omega
end Cf
namespace Cf
open PySem L2
def top (i : Nat) : Stmt := PySem.Challenge.pw_clockfolds_k03_whole_kinds_of_years.main.body.getD i (.Pass ⟨0, 0, 0, 0⟩)
abbrev clClockError : Stmt := top 1
abbrev clBadNumber : Stmt := top 2
abbrev sBadNumberInit : Stmt := inClass (top 2) 0
abbrev clBadDate : Stmt := top 3
abbrev sBadDateInit : Stmt := inClass (top 3) 0
abbrev sIsNumber : Stmt := top 6
abbrev sCheckNumber : Stmt := top 7
abbrev sIsLeap : Stmt := top 8
abbrev sLeapYearsBefore : Stmt := top 9
abbrev sYearStart : Stmt := top 10
abbrev sMonthLength : Stmt := top 11
abbrev sMonthStart : Stmt := top 12
abbrev sDayOf : Stmt := top 13
abbrev sWeekday : Stmt := top 14
abbrev sKindOf : Stmt := top 15
abbrev sLawBegun : Stmt := top 17
abbrev sLawMixed : Stmt := top 18
abbrev sLawTake : Stmt := top 19
abbrev sLawNewYear : Stmt := top 20
abbrev sLawIsLong : Stmt := top 21
abbrev sLawSize : Stmt := top 22
abbrev sLawSomeYear : Stmt := top 23
abbrev sLawKindRight : Stmt := top 24
abbrev sLawRoundRight : Stmt := top 25
abbrev sLaw : Stmt := top 26
set_option hygiene false
local macro_rules | `(tactic| walk_at "len") => `(tactic| repeat (first | (obtain ⟨e, _⟩ := h; subst e; rfl; done) | (obtain ⟨_, h⟩ := h)))
local macro_rules | `(tactic| walk_at "rd") => `(tactic| repeat (first | refine ⟨_, rfl, ?_⟩ | refine ⟨_, _, rfl, rfl, ?_⟩ | refine ⟨rfl, ?_⟩ | refine ⟨_, _, rfl, ?_⟩))
local macro_rules | `(tactic| walk_at "yes") => `(tactic| (dsimp only [tYes]; rw [if_pos rfl]))
set_option hygiene true
/-! ### the law's draws: a dict with the lists wide and cells and the numbers rest and turn -/
/-- the state of the draws at p: its lists at a and b, at most n numbers mixed so far -/
def stK (a b : Addr) (rest turn : Int) : List (Key × V) := [(Sum.inr "wide", V.ref a), (Sum.inr "cells", V.ref b), (Sum.inr "rest", V.int rest), (Sum.inr "turn", V.int turn)]
theorem kwc : ¬ (Sum.inr ("wide" : Str) : Key) = Sum.inr ("cells" : Str) := by decide +kernel
theorem kwr : ¬ (Sum.inr ("wide" : Str) : Key) = Sum.inr ("rest" : Str) := by decide +kernel
theorem kcr : ¬ (Sum.inr ("cells" : Str) : Key) = Sum.inr ("rest" : Str) := by decide +kernel
theorem kwt : ¬ (Sum.inr ("wide" : Str) : Key) = Sum.inr ("turn" : Str) := by decide +kernel
theorem kct : ¬ (Sum.inr ("cells" : Str) : Key) = Sum.inr ("turn" : Str) := by decide +kernel
theorem krt : ¬ (Sum.inr ("rest" : Str) : Key) = Sum.inr ("turn" : Str) := by decide +kernel
theorem ktr : ¬ (Sum.inr ("turn" : Str) : Key) = Sum.inr ("rest" : Str) := by decide +kernel
theorem stK_wide {a b : Addr} {r t : Int} : valV (stK a b r t) (Sum.inr ("wide" : Str) : Key) = some (V.ref a) := by
  unfold stK
  exact valV_pos rfl
theorem stK_cells {a b : Addr} {r t : Int} : valV (stK a b r t) (Sum.inr ("cells" : Str) : Key) = some (V.ref b) := by
  unfold stK
  rw [valV_neg kwc]
  exact valV_pos rfl
theorem stK_rest {a b : Addr} {r t : Int} : valV (stK a b r t) (Sum.inr ("rest" : Str) : Key) = some (V.int r) := by
  unfold stK
  rw [valV_neg kwr, valV_neg kcr]
  exact valV_pos rfl
theorem stK_turn {a b : Addr} {r t : Int} : valV (stK a b r t) (Sum.inr ("turn" : Str) : Key) = some (V.int t) := by
  unfold stK
  rw [valV_neg kwt, valV_neg kct, valV_neg krt]
  exact valV_pos rfl
theorem nkk {x y : Str} (h : (x == y) = false) : ¬ (Sum.inr x : Key) = Sum.inr y := fun e => by
  have e2 := Sum.inr.inj e
  rw [e2] at h
  simp at h
theorem stK_put_rest (a b : Addr) (r t z : Int) : putK (stK a b r t) (Sum.inr ("rest" : Str) : Key) (V.int z) = stK a b z t := by
  unfold putK
  rw [valV_any, stK_rest]
  rw [if_pos (by rfl)]
  unfold stK
  simp only [List.map_cons, List.map_nil, if_neg kwr, if_neg kcr, if_neg ktr, if_true]
theorem stK_put_turn (a b : Addr) (r t z : Int) : putK (stK a b r t) (Sum.inr ("turn" : Str) : Key) (V.int z) = stK a b r z := by
  unfold putK
  rw [valV_any, stK_turn]
  rw [if_pos (by rfl)]
  unfold stK
  simp only [List.map_cons, List.map_nil, if_neg kwt, if_neg kct, if_neg krt, if_true]
theorem stK_merge (a b : Addr) (r t : Int) : mergeK [] (stK a b r t) = stK a b r t := by
  unfold mergeK stK
  simp only [List.foldl_cons, List.foldl_nil]
  rw [putK_new (kvs := []) _ valV_nil, List.nil_append, putK_new, putK_new, putK_new]
  · rfl
  · rw [valV_neg kwc, valV_nil]
  · rw [valV_put, if_neg (fun e => kcr e.symm), valV_neg kwr, valV_nil]
  · rw [valV_put, if_neg (fun e => krt e.symm), valV_put, if_neg (fun e => kct e.symm), valV_neg kwt, valV_nil]
section
variable {H : Hp} {p a b : Addr} {r t z : Int}
theorem get_wide (h : H p = some (.dK (stK a b r t))) : DGet H p (.str "wide") (some (.ref a)) := by
  have q := DGet.k (k := Sum.inr ("wide" : Str)) h
  rw [stK_wide] at q
  exact q
theorem get_cells (h : H p = some (.dK (stK a b r t))) : DGet H p (.str "cells") (some (.ref b)) := by
  have q := DGet.k (k := Sum.inr ("cells" : Str)) h
  rw [stK_cells] at q
  exact q
theorem get_rest (h : H p = some (.dK (stK a b r t))) : DGet H p (.str "rest") (some (.int r)) := by
  have q := DGet.k (k := Sum.inr ("rest" : Str)) h
  rw [stK_rest] at q
  exact q
theorem get_turn (h : H p = some (.dK (stK a b r t))) : DGet H p (.str "turn") (some (.int t)) := by
  have q := DGet.k (k := Sum.inr ("turn" : Str)) h
  rw [stK_turn] at q
  exact q
theorem put_rest (z : Int) (h : H p = some (.dK (stK a b r t))) : DPut H p (.str "rest") (.int z) (upd H p (.dK (stK a b z t))) := by
  have q := DPut.k (k := Sum.inr ("rest" : Str)) (v := V.int z) h (by show 4 < sizeLine; decide)
  rw [stK_put_rest] at q
  exact q
theorem put_turn (z : Int) (h : H p = some (.dK (stK a b r t))) : DPut H p (.str "turn") (.int z) (upd H p (.dK (stK a b r z))) := by
  have q := DPut.k (k := Sum.inr ("turn" : Str)) (v := V.int z) h (by show 4 < sizeLine; decide)
  rw [stK_put_turn] at q
  exact q
end
structure Stt (p a b : Addr) (n : Nat) (H : Hp) : Prop where
  ex : ∃ (ws cs : List Int) (rest turn : Int), H p = some (.dK (stK a b rest turn)) ∧ H a = some (.lst (ws.map V.int)) ∧ H b = some (.lst (cs.map V.int)) ∧ 0 ≤ turn ∧ turn ≤ (n : Int) ∧ cs.length ≤ 63 ∧ ws.length ≤ 63
  ab : a ≠ b
theorem Stt.pa {p a b : Addr} {n : Nat} {H : Hp} (S : Stt p a b n H) : p ≠ a := by
  obtain ⟨ws, cs, rest, turn, h1, h2, _⟩ := S.ex
  exact ne_of h1 h2 (by intro z; cases z)
theorem Stt.pb {p a b : Addr} {n : Nat} {H : Hp} (S : Stt p a b n H) : p ≠ b := by
  obtain ⟨ws, cs, rest, turn, h1, _, h2, _⟩ := S.ex
  exact ne_of h1 h2 (by intro z; cases z)
theorem Stt.mono {p a b : Addr} {n m : Nat} {H : Hp} (S : Stt p a b n H) (h : n ≤ m) : Stt p a b m H := by
  obtain ⟨⟨ws, cs, rest, turn, h1, h2, h3, h4, h5, h6, h7⟩, h8⟩ := S
  exact ⟨⟨ws, cs, rest, turn, h1, h2, h3, h4, by omega, h6, h7⟩, h8⟩
theorem Stt.same {p a b : Addr} {n : Nat} {H H' : Hp} (S : Stt p a b n H) (h : Same H H') : Stt p a b n H' := by
  obtain ⟨⟨ws, cs, rest, turn, h1, h2, h3, h4⟩, h8⟩ := S
  exact ⟨⟨ws, cs, rest, turn, h _ _ h1, h _ _ h2, h _ _ h3, h4⟩, h8⟩
theorem Stt.there {p a b : Addr} {n : Nat} {H : Hp} (S : Stt p a b n H) : ∃ u v w, H p = some (.dK u) ∧ H a = some (.lst v) ∧ H b = some (.lst w) := by
  obtain ⟨⟨ws, cs, rest, turn, h1, h2, h3, _⟩, _⟩ := S
  exact ⟨_, _, _, h1, h2, h3⟩
theorem eqv_ints_nil (ws : List Int) : PyData.eqv (.list (ws.map PyData.int)) (.list []) = ws.isEmpty := by
  cases ws with
  | nil => rfl
  | cons w ws => simp [PyData.eqv, PyData.eqvAll]
theorem dpInts {K : PySem.W.Frag} {H : Hp} : ∀ ws : List Int, DpAll K H (ws.map V.int) (ws.map PyData.int)
  | [] => .nil
  | w :: ws => .cons (.int w) (dpInts ws)
theorem canLay_ints : ∀ ws : List Int, PyData.canLayAll0 (ws.map PyData.int) = true
  | [] => rfl
  | w :: ws => by simp [PyData.canLayAll0, PyData.canLay0, canLay_ints ws]
theorem depth_ints : ∀ ws : List Int, PyData.depthAll (ws.map PyData.int) ≤ 1
  | [] => by simp [PyData.depthAll]
  | w :: ws => by have := depth_ints ws; simp only [List.map_cons, PyData.depthAll, PyData.depth]; omega
theorem shaped_ints (ws : List Int) : SeqAt.shaped (.list (ws.map PyData.int)) = true := by
  unfold SeqAt.shaped
  rw [Bool.and_eq_true]
  refine ⟨?_, decide_eq_true ?_⟩
  · simp only [PyData.canLay0]; exact canLay_ints ws
  · have := depth_ints ws
    simp only [PyData.depth]; omega
theorem seq0 {y : Int} (xs : List V) : seqIndex? 0 (V.int y :: xs).length = some 0 := by
  unfold seqIndex?
  simp
/-! ### what the text's built-in names mean -/
structure Nm (mg : Str → Option Value) : Prop where
  abs : mg "abs" = none
  int : mg "int" = none
  bool : mg "bool" = none
  isinstance : mg "isinstance" = none
  sum : mg "sum" = none
  divmod : mg "divmod" = none
  min : mg "min" = none
  len : mg "len" = none
  range : mg "range" = none
  repr : mg "repr" = none
  zip : mg "zip" = none
  set : mg "set" = none
section
variable {P : Program} {w : World} {K : PySem.W.Frag} {mg : Str → Option Value} {base : Heap}
/-! ### _law_begun -/
def spBegun (K : PySem.W.Frag) : Sp := fun vs H Q _ => ∃ (l : Addr) (ns : List Int), vs = [.ref l] ∧ SqL K H l (ns.map V.int) ∧ ns.length ≤ 63 ∧
  ∀ (H' : Hp) (p a b : Addr), H p = none → H a = none → H b = none → Same H H' → Stt p a b 0 H' → Q (.ref p) H'
theorem scLawBegun : FnScope ["script", "wide", "cell"] ["script"] (defScope sLawBegun) := ⟨rfl, rfl, rfl, by decide +kernel, rfl, by decide +kernel, by decide +kernel⟩
theorem absI (z : Int) : (if z < 0 then -z else z) = (z.natAbs : Int) := by
  by_cases h : z < 0
  · rw [if_pos h]; omega
  · rw [if_neg h]; omega
theorem ok_begun {f : Addr} {fd : FuncData} (F : Fun K "_law_begun" "_law_begun" sLawBegun f fd) (T : Nm mg) : FnOk P w K mg base CX0 1 f fd ["script"] (spBegun K) := by
  refine F.ok scLawBegun (fun vs H Q E h => ?_) (fun cdv A outer s H vs Q E hr h => ?_)
  · obtain ⟨l, ns, rfl, _⟩ := h
    rfl
  · obtain ⟨l, ns, rfl, hS, hlen, k⟩ := h
    have nd := scLawBegun.nd
    refine ⟨_, pss_cons (ps_setLc (i := 1) (own := [("cell", 2)]) (g := gName 2) rfl nd rfl rfl (sw_true rfl rfl rfl (by decide +kernel)) (pi_list (pv 0))
        (blkOk_by (N := ["script", "wide", "cell"]) (sc := defScope sLawBegun) (by decide +kernel)) (fun _ _ _ _ _ => pg_name (i := 2) nd rfl (Or.inl rfl))
        (fun _ _ _ _ _ => pts_one (pt_cmpR op_ge (pe_callB call_abs (by rfl) T.abs (by decide +kernel) (pa_cons (pv 2) pa_nil)) (pe_op op_pow pe_int pe_int) (nomark _)))
        (fun _ _ _ _ _ => pe_op op_sub (pe_callB call_abs (by rfl) T.abs (by decide +kernel) (pa_cons (pv 2) pa_nil)) (pe_op op_pow pe_int pe_int)))
      (pss_one (ps_ret (pe_disp (pps_cons pe_str (pv 1) (pps_cons pe_str
        (pe_lc (own := [("cell", 2)]) (g := gName 2) (tt := tYes) rfl nd (pi_list (pv 0)) (blkOk_by (N := ["script", "wide", "cell"]) (sc := defScope sLawBegun) (by decide +kernel)) (fun _ _ _ _ _ => pg_name (i := 2) nd rfl (Or.inl rfl)) (fun _ _ _ _ _ => pts_nil)
          (fun _ _ _ _ _ => pe_op op_mod (pe_callTy call_int1 (by rfl) T.int (by decide +kernel) (pa_cons (pe_callB call_abs (by rfl) T.abs (by decide +kernel) (pa_cons (pv 2) pa_nil)) pa_nil)) pe_int))
        (pps_cons pe_str pe_int (pps_cons pe_str pe_int pps_nil)))) (by rfl) (by rfl) (fun z => by cases z) (by decide)))), ?_⟩
    have cp : CPow 10 18 := ⟨by decide, by decide, by decide⟩
    -- the first list
    refine ⟨_, rfl, l, rfl, ⟨_, hS⟩, fun D hD => lc_list (K := K) (a := l) (xs := ns.map V.int) (fun i H' => Same H H' ∧ ∃ acc : List Int, acc.length ≤ i ∧ H' D = some (.lst (acc.map V.int)))
      ⟨Same.new hD, [], Nat.le_refl _, upd_same⟩ (fun i H' _ ⟨s1, _⟩ => s1.seq hS) ?_ ?_⟩
    · rintro i y H' hi ⟨s1, acc, hacc, hDl⟩
      have hil := lt_of_get hi
      rw [List.length_map] at hil
      obtain ⟨z, hz, rfl⟩ := ints_get hi
      refine ⟨rfl, ?_⟩
      refine ⟨_, rfl, _, rfl, _, _, rfl, rfl, cp, _, _, rfl, rfl, _, rfl, ?_⟩
      refine ite2 (fun _ => ?_) (fun _ => ?_)
      · refine ⟨_, rfl, _, rfl, _, _, rfl, rfl, cp, _, _, rfl, rfl, acc.map V.int, hDl, ?_, ?_⟩
        · rw [List.length_map]
          exact small1000 (by omega)
        · refine ⟨s1.wr hD, acc ++ [(if z < 0 then -z else z) - 10 ^ 18], ?_, ?_⟩
          · rw [List.length_append, List.length_singleton]; omega
          · rw [upd_same, List.map_append]; rfl
      · exact ⟨s1, acc, by omega, hDl⟩
    · rintro H1 ⟨s1, acc, hacc, hDl⟩
      rw [List.length_map] at hacc
      -- the dict, empty; its pairs
      intro p hp
      have npD : D ≠ p := ne_of_none hDl hp
      have s2 : Same H (upd H1 p (.dK [])) := s1.step hp
      refine ⟨_, rfl, _, rfl, l, rfl, ⟨_, s2.seq hS⟩, fun B hB => lc_list (K := K) (a := l) (xs := ns.map V.int) (fun i H' => Same (upd H1 p (.dK [])) H' ∧ ∃ cs : List Int, cs.length ≤ i ∧ H' B = some (.lst (cs.map V.int)))
        ⟨Same.new hB, [], Nat.le_refl _, upd_same⟩ (fun i H' _ ⟨s3, _⟩ => (s2.trans s3).seq hS) ?_ ?_⟩
      · rintro i y H' hi ⟨s3, cs, hcs, hBl⟩
        have hil := lt_of_get hi
        rw [List.length_map] at hil
        obtain ⟨z, hz, rfl⟩ := ints_get hi
        refine ⟨rfl, ?_⟩
        dsimp only [tYes]
        rw [if_pos rfl]
        refine ⟨_, rfl, _, rfl, .inl ⟨_, rfl, _, _, rfl, rfl, (by show (0 : Int) < 2147483629; decide), cs.map V.int, hBl, ?_, ?_⟩⟩
        · rw [List.length_map]
          exact small1000 (by omega)
        · refine ⟨s3.wr hB, cs ++ [(if z < 0 then -z else z) % 2147483629], ?_, ?_⟩
          · rw [List.length_append, List.length_singleton]; omega
          · rw [upd_same, List.map_append]; rfl
      · rintro H2 ⟨s3, cs, hcs, hBl⟩
        rw [List.length_map] at hcs
        have hp2 : H2 p = some (.dK []) := s3 _ _ upd_same
        refine ⟨hp2, stK D B 0 0, rfl, (by show 4 ≤ 15; decide), ?_⟩
        have nBp : B ≠ p := ne_of hBl hp2 (by intro z; cases z)
        have hDl2 : H2 D = some (.lst (acc.map V.int)) := s3 _ _ (by rw [upd_ne npD]; exact hDl)
        have nDB : D ≠ B := ne_of_none (show (upd H1 p (.dK [])) D = some _ by rw [upd_ne npD]; exact hDl) hB
        refine k _ p D B (s1.free hp) hD (s1.free (by rw [upd_ne nBp] at hB; exact hB)) ?_ ⟨⟨acc, cs, 0, 0, ?_, ?_, ?_, by decide, by decide, by omega, by omega⟩, nDB⟩
        · exact (s2.trans s3).wr (s1.free hp)
        · rw [upd_same, stK_merge]
        · rw [upd_ne npD]; exact hDl2
        · rw [upd_ne nBp]; exact hBl
/-! ### _law_mixed -/
def spMixed : Sp := fun vs H Q _ => ∃ (p a b : Addr) (n : Nat), vs = [.ref p] ∧ Stt p a b n H ∧ n ≤ 1000000 ∧
  ∀ (z : Int) (H' : Hp), Stt p a b (n + 1) H' → But p a H H' → Q (.int z) H'
theorem scLawMixed : FnScope ["state", "turn", "found", "prime", "blend", "cell"] ["state"] (defScope sLawMixed) := ⟨rfl, rfl, rfl, by decide +kernel, rfl, by decide +kernel, by decide +kernel⟩
theorem ok_mixed {f : Addr} {fd : FuncData} (F : Fun K "_law_mixed" "_law_mixed" sLawMixed f fd) (T : Nm mg) : FnOk P w K mg base CX0 1 f fd ["state"] spMixed := by
  refine F.ok scLawMixed (fun vs H Q E h => ?_) (fun cdv A outer s H vs Q E hr h => ?_)
  · obtain ⟨p, a, b, n, rfl, _⟩ := h
    rfl
  · obtain ⟨p, a, b, n, rfl, S, hn, k⟩ := h
    have nd := scLawMixed.nd
    have hu := hu_of hr
    have npa := S.pa
    have npb := S.pb
    obtain ⟨⟨ws, cs, rest, turn, h1, h2, h3, t0, t1, hcs, hws⟩, nab⟩ := S
    refine ⟨_, pss_cons (ps_par (i := 1) (j := 2) (by rfl) nd rfl rfl (by decide) rfl rfl (pa_cons (pe_op op_add (pe_dget hu (pv 0) pe_str (fun _ _ => rfl)) pe_int) (pa_cons pe_int pa_nil)) (by rfl))
      (pss_cons (ps_dput hu (pv 0) pe_str (pv 1) rfl)
      (pss_cons (ps_for PassesOwn.never rfl (pi_list (pe_lst (pa_cons pe_int (pa_cons pe_int (pa_cons pe_int (pa_cons pe_int pa_nil)))))) (pg_name (i := 3) nd rfl (Or.inl rfl))
        (pss_cons (ps_set (i := 4) nd rfl (Or.inl rfl) (pe_op op_add (pe_op op_mul pe_int (pv 1)) (pe_op op_fdiv (pv 3) pe_int)))
        (pss_cons (ps_for PassesOwn.never rfl (pi_list (pe_dget hu (pv 0) pe_str (fun _ _ => rfl))) (pg_name (i := 5) nd rfl (Or.inl rfl))
          (pss_one (ps_set (i := 4) nd rfl (Or.inl rfl) (pe_op op_mod (pe_callTy call_int1 (by rfl) T.int (by decide +kernel) (pa_cons (pe_op op_add (pe_op op_add (pe_op op_mul (pv 4) pe_int) (pv 5)) (pv 1)) pa_nil)) (pv 3)))))
        (pss_one (ps_set (i := 2) nd rfl (Or.inl rfl) (pe_op op_add (pe_op op_mul (pv 2) pe_int) (pe_op op_mod (pe_callTy call_int1 (by rfl) T.int (by decide +kernel) (pa_cons (pe_op op_pow (pv 4) pe_int) pa_nil)) (pv 3))))))))
      (pss_one (ps_ret (pv 2))))), ?_⟩
    -- turn, found = state['turn'] + 1, 0; state['turn'] = turn
    refine ⟨_, rfl, p, V.int turn, rfl, get_turn h1, _, _, rfl, rfl, _, _, rfl, ?_⟩
    refine ⟨_, rfl, _, rfl, p, _, rfl, put_turn (turn + 1) h1, ?_⟩
    -- the primes
    refine ⟨by show 4 ≤ sizeLine; decide, fun D hD => ?_⟩
    have npD : p ≠ D := ne_of_none (upd_same) hD
    have naD : a ≠ D := ne_of_none (show upd H p _ a = some _ by rw [upd_ne npa.symm]; exact h2) hD
    have nbD : b ≠ D := ne_of_none (show upd H p _ b = some _ by rw [upd_ne npb.symm]; exact h3) hD
    have hp' : upd (upd H p (.dK (stK a b rest (turn + 1)))) D (.lst [V.int 2147483629, V.int 2147483587, V.int 2147483579, V.int 2147483563]) p = some (.dK (stK a b rest (turn + 1))) := by rw [upd_ne npD, upd_same]
    have ha' : upd (upd H p (.dK (stK a b rest (turn + 1)))) D (.lst [V.int 2147483629, V.int 2147483587, V.int 2147483579, V.int 2147483563]) a = some (.lst (ws.map V.int)) := by rw [upd_ne naD, upd_ne npa.symm]; exact h2
    have hb' : upd (upd H p (.dK (stK a b rest (turn + 1)))) D (.lst [V.int 2147483629, V.int 2147483587, V.int 2147483579, V.int 2147483563]) b = some (.lst (cs.map V.int)) := by rw [upd_ne nbD, upd_ne npb.symm]; exact h3
    have hB : But p a H (upd (upd H p (.dK (stK a b rest (turn + 1)))) D (.lst [V.int 2147483629, V.int 2147483587, V.int 2147483579, V.int 2147483563])) := fun c o e c1 c2 => by
      have e2 : upd H p (.dK (stK a b rest (turn + 1))) c = some o := by rw [upd_ne c1]; exact e
      rw [upd_ne (ne_of_none e2 hD)]
      exact e2
    generalize hH2 : upd (upd H p (.dK (stK a b rest (turn + 1)))) D (.lst [V.int 2147483629, V.int 2147483587, V.int 2147483579, V.int 2147483563]) = H2 at hp' ha' hb' hB
    have hDl : H2 D = some (.lst ([2147483629, 2147483587, 2147483579, 2147483563].map V.int)) := by rw [← hH2]; exact upd_same
    have tb : turn + 1 ≤ 1000001 := by omega
    refine ⟨D, rfl, ⟨_, SqL.of hDl⟩, for_list (K := K) (a := D) (xs := [2147483629, 2147483587, 2147483579, 2147483563].map V.int)
      (fun i σ H' => H' = H2 ∧ ∃ (fo : Int) (v4 v5 v6 : Option V), σ = [some (.ref p), some (.int (turn + 1)), some (.int fo), v4, v5, v6]) ⟨rfl, 0, none, none, none, rfl⟩ (fun i σ H' _ ⟨e, _⟩ => by subst e; exact SqL.of hDl) ?_ ?_⟩
    · rintro i y σ H' hi ⟨rfl, fo, v4, v5, v6, rfl⟩
      obtain ⟨pr, hpr, rfl⟩ := ints_get hi
      have hp1 : 1000 < pr ∧ pr < 2147483648 := by
        have hm := List.mem_of_getElem? hpr
        simp only [List.mem_cons, List.not_mem_nil, or_false] at hm
        omega
      refine ⟨_, rfl, _, _, rfl, rfl, .inl ⟨by decide, by decide⟩, _, rfl, _, _, rfl, rfl, ⟨by decide, by decide⟩, _, _, rfl, rfl, ?_⟩
      refine ⟨_, rfl, p, V.ref b, rfl, get_cells hp', b, rfl, ⟨_, SqL.of hb'⟩, for_list (K := K) (a := b) (xs := cs.map V.int)
        (fun j σ H'' => H'' = H' ∧ ∃ (bl : Int) (v6 : Option V), 0 ≤ bl ∧ bl < 2 ^ 63 ∧ σ = [some (.ref p), some (.int (turn + 1)), some (.int fo), some (.int pr), some (.int bl), v6]) ⟨rfl, 61441 * (turn + 1) + pr / 19, v6, ?_, ?_, rfl⟩ (fun i σ H' _ ⟨e, _⟩ => by subst e; exact SqL.of hb') ?_ ?_⟩
      · omega
      · omega
      · rintro j y σ H' hj ⟨rfl, bl, v6, b0, b1, rfl⟩
        obtain ⟨c, hc, rfl⟩ := ints_get hj
        refine ⟨_, rfl, _, _, rfl, rfl, .inr ⟨by decide, by decide⟩, _, rfl, _, _, rfl, rfl, _, rfl, _, _, rfl, rfl, .inl ⟨_, rfl, _, rfl, _, _, rfl, rfl, (by show 0 < pr; omega), ?_⟩⟩
        have m1 := Int.emod_nonneg (bl * 48271 + c + (turn + 1)) (show pr ≠ 0 by omega)
        have m2 := Int.emod_lt_of_pos (bl * 48271 + c + (turn + 1)) (show 0 < pr by omega)
        exact ⟨rfl, (bl * 48271 + c + (turn + 1)) % pr, _, m1, by omega, rfl⟩
      · rintro σ H' ⟨rfl, bl, v6, b0, b1, rfl⟩
        refine ⟨_, rfl, _, _, rfl, rfl, .inr ⟨by decide, by decide⟩, _, rfl, _, _, rfl, rfl, ⟨by decide, by decide, by omega⟩, .inl ⟨_, rfl, _, rfl, _, _, rfl, rfl, (by show 0 < pr; omega), _, _, rfl, rfl, ?_⟩⟩
        exact ⟨rfl, _, _, _, _, rfl⟩
    · rintro σ H' ⟨rfl, fo, v4, v5, v6, rfl⟩
      refine ⟨_, rfl, ?_⟩
      refine k fo H' ⟨⟨ws, cs, rest, turn + 1, hp', ha', hb', by omega, by omega, hcs, hws⟩, nab⟩ hB
/-! ### _law_take -/
def spTake : Sp := fun vs H Q _ => ∃ (p a b : Addr) (n : Nat) (size : Int), vs = [.ref p, .int size] ∧ Stt p a b n H ∧ n ≤ 1000000 ∧ 0 < size ∧ size ≤ 1000000000 ∧
  ∀ (z : Int) (H' : Hp), 0 ≤ z → z < size → Stt p a b (n + 1) H' → But p a H H' → Q (.int z) H'
theorem scLawTake : FnScope ["state", "size", "found"] ["state", "size"] (defScope sLawTake) := ⟨rfl, rfl, rfl, by decide +kernel, rfl, by decide +kernel, by decide +kernel⟩
theorem ok_take {f : Addr} {fd : FuncData} (F : Fun K "_law_take" "_law_take" sLawTake f fd) (T : Nm mg) (DM : Df P w K mg base 1 "_law_mixed" ["state"] [] spMixed) : FnOk P w K mg base CX0 2 f fd ["state", "size"] spTake := by
  refine F.ok scLawTake (fun vs H Q E h => ?_) (fun cdv A outer s H vs Q E hr h => ?_)
  · obtain ⟨p, a, b, n, size, rfl, _⟩ := h
    rfl
  · obtain ⟨p, a, b, n, size, rfl, S, hn, z0, z1, k⟩ := h
    have nd := scLawTake.nd
    have hu := hu_of hr
    refine ⟨_, pss_cons (ps_if (pt_cmpR op_eq (pe_dget hu (pv 0) pe_str (fun _ _ => rfl)) pe_int (nomark _))
        (pss_one (ps_dput hu (pv 0) pe_str (pe_ifExp (pt_cmpR (op_neD hr.units) (pe_dget hu (pv 0) pe_str (fun _ _ => rfl)) (pe_lst pa_nil) (nomark _))
            (pe_bm PySem.F.plainAttrs_list PySem.F.slot_list_pop PySem.F.type_list_pop mt_popAt (pe_dget hu (pv 0) pe_str (fun _ _ => rfl)) (pa_cons pe_int pa_nil))
            (pe_df DM hr (pa_cons (pv 0) pa_nil))) rfl)) pss_nil)
      (pss_cons (ps_set (i := 2) nd rfl (Or.inl rfl) (pe_op op_mod (pe_callTy call_int1 (by rfl) T.int (by decide +kernel) (pa_cons (pe_dget hu (pv 0) pe_str (fun _ _ => rfl)) pa_nil)) (pv 1)))
      (pss_cons (ps_dput hu (pv 0) pe_str (pe_op op_fdiv (pe_dget hu (pv 0) pe_str (fun _ _ => rfl)) (pv 1)) rfl)
      (pss_one (ps_ret (pv 2))))), ?_⟩
    have npa := S.pa
    have npb := S.pb
    have nab := S.ab
    obtain ⟨⟨ws, cs, rest, turn, h1, h2, h3, t0, t1, hcs, hws⟩, _⟩ := id S
    have fin : ∀ (H1 : Hp) (r1 : Int), (∃ (ws' cs' : List Int) (t' : Int), H1 p = some (.dK (stK a b r1 t')) ∧ H1 a = some (.lst (ws'.map V.int)) ∧ H1 b = some (.lst (cs'.map V.int)) ∧ 0 ≤ t' ∧ t' ≤ ((n + 1 : Nat) : Int) ∧ cs'.length ≤ 63 ∧ ws'.length ≤ 63) → But p a H H1 →
        tAsg (tOp (rI (fun _ j => 0 < j) fun i j => .int (i % j)) (tCB (fun xs H Q => (∃ i, xs = [.int i] ∧ Q (.int i) H) ∨ ∃ k, xs = [.bl k] ∧ Q (.int (if k = true then 1 else 0)) H) (tCons (tDGet (tVar 0) (tC (.str "rest"))) tNil)) (tVar 1)) (gName 2)
          { nx := fun σ1 H1 => sDPut (tVar 0) (tC (.str "rest")) (tOp (rI CDiv fun i j => .int (i / j)) (tDGet (tVar 0) (tC (.str "rest"))) (tVar 1)) { nx := fun σ2 H2 => tRet (tVar 2) { nx := fun _ H' => Q .non H', rt := Q } σ2 H2, rt := Q } σ1 H1, rt := Q } [some (.ref p), some (.int size), none] H1 := by
      intro H1 r1 hh bb
      obtain ⟨ws', cs', t', g1, g2, g3, g4⟩ := hh
      refine ⟨_, rfl, p, V.int r1, rfl, get_rest g1, .inl ⟨_, rfl, _, rfl, _, _, rfl, rfl, z0, ?_⟩⟩
      refine ⟨_, rfl, p, V.int r1, rfl, get_rest g1, _, rfl, _, _, rfl, rfl, ⟨z0, by omega⟩, _, rfl, p, _, rfl, put_rest _ g1, _, rfl, ?_⟩
      refine k _ _ (Int.emod_nonneg _ (by omega)) (Int.emod_lt_of_pos _ z0) ⟨⟨ws', cs', _, t', upd_same, ?_, ?_, g4⟩, nab⟩ ?_
      · rw [upd_ne npa.symm]; exact g2
      · rw [upd_ne npb.symm]; exact g3
      · exact fun c o e c1 c2 => by rw [upd_ne c1]; exact bb c o e c1 c2
    refine ⟨_, rfl, p, V.int rest, rfl, get_rest h1, rfl, _, rfl, ?_⟩
    refine ite2 (fun _ => ?_) (fun _ => ?_)
    · -- rest is 0
      refine ⟨_, rfl, p, V.ref a, rfl, get_wide h1, Nat.zero_le _, fun D hD => ?_⟩
      have n1 : p ≠ D := ne_of_none h1 hD
      have n2 : a ≠ D := ne_of_none h2 hD
      have n3 : b ≠ D := ne_of_none h3 hD
      have d1 : upd H D (.lst []) p = some (.dK (stK a b rest turn)) := by rw [upd_ne n1]; exact h1
      have d2 : upd H D (.lst []) a = some (.lst (ws.map V.int)) := by rw [upd_ne n2]; exact h2
      have d3 : upd H D (.lst []) b = some (.lst (cs.map V.int)) := by rw [upd_ne n3]; exact h3
      have d4 : But p a H (upd H D (.lst [])) := But.of (Same.new hD)
      refine ⟨.list (ws.map PyData.int), .list [], .lst (SqL.of d2) (dpInts ws), .lst (SqL.of upd_same) .nil, shaped_ints ws, by decide, _, rfl, ?_⟩
      rw [eqv_ints_nil]
      cases ws with
      | nil =>
        refine iteFF rfl ?_
        refine ⟨_, rfl, p, a, b, n, rfl, ⟨⟨[], cs, rest, turn, d1, d2, d3, t0, t1, hcs, hws⟩, nab⟩, hn, fun y H2 S2 B2 => ?_⟩
        obtain ⟨⟨ws2, cs2, r2, t2, e1, e2, e3, e4⟩, _⟩ := S2
        refine ⟨_, rfl, p, _, rfl, put_rest _ e1, ?_⟩
        refine fin _ y ⟨ws2, cs2, t2, upd_same, ?_, ?_, e4⟩ ?_
        · rw [upd_ne npa.symm]; exact e2
        · rw [upd_ne npb.symm]; exact e3
        · exact fun c o e c1 c2 => by rw [upd_ne c1]; exact B2 c o (d4 c o e c1 c2) c1 c2
      | cons y ws =>
        refine iteTT rfl ?_
        refine ⟨_, rfl, p, V.ref a, rfl, get_wide d1, .inl ⟨rfl, _, SqL.of d2⟩, a, _, 0, 0, V.int y, rfl, rfl, d2, by decide, by decide, seq0 _, rfl, ?_⟩
        have e1 : upd (upd H D (.lst [])) a (.lst (((y :: ws).map V.int).eraseIdx 0)) p = some (.dK (stK a b rest turn)) := by rw [upd_ne npa]; exact d1
        refine ⟨_, rfl, p, _, rfl, put_rest y e1, ?_⟩
        refine fin _ y ⟨ws, cs, turn, upd_same, ?_, ?_, t0, by omega, hcs, ?_⟩ ?_
        · rw [upd_ne npa.symm, upd_same]; rfl
        · rw [upd_ne npb.symm, upd_ne nab.symm]; exact d3
        · rw [List.length_cons] at hws; omega
        · exact fun c o e c1 c2 => by rw [upd_ne c1, upd_ne c2]; exact d4 c o e c1 c2
    · exact fin H rest ⟨ws, cs, turn, h1, h2, h3, t0, by omega, hcs, hws⟩ But.refl
end
end Cf
namespace Cf
open PySem L2
set_option hygiene false
local macro_rules | `(tactic| walk_at "len") => `(tactic| repeat (first | (obtain ⟨e, _⟩ := h; subst e; rfl; done) | (obtain ⟨_, h⟩ := h)))
local macro_rules | `(tactic| walk_at "rd") => `(tactic| repeat (first | refine ⟨_, rfl, ?_⟩ | refine ⟨_, _, rfl, rfl, ?_⟩ | refine ⟨rfl, ?_⟩ | refine ⟨_, _, rfl, ?_⟩))
local macro_rules | `(tactic| walk_at "yes") => `(tactic| (dsimp only [tYes]; rw [if_pos rfl]))
set_option hygiene true
section
variable {P : Program} {w : World} {K : PySem.W.Frag} {mg : Str → Option Value} {base : Heap}
/-! ### the program's constants -/
structure Cn (K : PySem.W.Frag) (mg : Str → Option Value) : Prop where
  cy : ∃ t, mg "CYCLE_YEARS" = some (.int 400 t)
  cd : ∃ t, mg "CYCLE_DAYS" = some (.int 146097 t)
structure Cm (K : PySem.W.Frag) (mg : Str → Option Value) (tp : Addr) : Prop where
  ml : mg "MONTH_LENGTHS" = some (.ref tp)
  sq : ∀ H : Hp, SqT K H tp (MLs.map V.int)
/-! ### is_number, check_number -/
def spIsNum : Sp := fun vs H Q _ => ∃ n : Int, vs = [.int n] ∧ Q (.bl true) H
theorem scIsNumber : FnScope ["value"] ["value"] (defScope sIsNumber) := ⟨rfl, rfl, rfl, by decide +kernel, rfl, by decide +kernel, by decide +kernel⟩
theorem ok_isnum {f : Addr} {fd : FuncData} (F : Fun K "is_number" "is_number" sIsNumber f fd) (T : Nm mg) : FnOk P w K mg base CX0 1 f fd ["value"] spIsNum := by
  refine F.ok scIsNumber (fun vs H Q E h => ?_) (fun cdv A outer s H vs Q E hr h => ?_)
  · obtain ⟨n, rfl, _⟩ := h
    rfl
  · obtain ⟨n, rfl, k⟩ := h
    refine ⟨_, pss_one (ps_ret (pe_and (pe_callB call_isi (by rfl) T.isinstance (by decide +kernel) (pa_cons (pv 0) (pa_cons (pe_bltn (v := .ty "int") (by rfl) T.int (by decide +kernel) rfl) pa_nil)))
      (pe_one (pe_not (pe_callB call_isi (by rfl) T.isinstance (by decide +kernel) (pa_cons (pv 0) (pa_cons (pe_bltn (v := .ty "bool") (by rfl) T.bool (by decide +kernel) rfl) pa_nil))))))), ?_⟩
    refine ⟨_, rfl, _, _, _, _, true, rfl, .ty "int", .base (.int _), kit_ty (by decide +kernel), true, rfl, iteT ?_⟩
    exact ⟨_, rfl, _, _, _, _, false, rfl, .ty "bool", .base (.int _), kit_ty (by decide +kernel), false, rfl, k⟩
def spCheck : Sp := fun vs H Q _ => ∃ n : Int, vs = [.int n, .non] ∧ Q .non H
theorem scCheckNumber : FnScope ["value", "least"] ["value", "least"] (defScope sCheckNumber) := ⟨rfl, rfl, rfl, by decide +kernel, rfl, by decide +kernel, by decide +kernel⟩
theorem ok_check {dV : List V} {f : Addr} {fd : FuncData} (F : FunD K "check_number" "check_number" (defArgs sCheckNumber) (defBody sCheckNumber) (defScope sCheckNumber) dV [] f fd) (DN : Df P w K mg base 1 "is_number" ["value"] [] spIsNum) :
    FnOk P w K mg base CX0 2 f fd ["value", "least"] spCheck := by
  refine F.ok scCheckNumber (fun vs H Q E h => ?_) (fun cdv A outer s H vs Q E hr h => ?_)
  · obtain ⟨n, rfl, _⟩ := h
    rfl
  · obtain ⟨n, rfl, k⟩ := h
    refine ⟨_, PSs.nox (pss_one (ps_if (PW.pt (pw_or (pt_not (pt_val (pe_df DN hr (pa_cons (pv 0) pa_nil)))) (pw_or1 (PW.pt (pw_and (pt_cmpR op_notN (pv 1) pe_non (nomark _)) (pw_and1 (pt_cmpR op_lt (pv 0) (pv 1) (nomark _))))))))
      (pss_one ps_never) pss_nil)), ?_⟩
    refine ⟨_, rfl, n, rfl, true, rfl, iteF ?_⟩
    exact ⟨_, rfl, rfl, false, rfl, iteF (iteF k)⟩
/-! ### is_leap, leap_years_before, year_start -/
def spLeap : Sp := fun vs H Q _ => ∃ y : Int, vs = [.int y] ∧ Q (.bl (leapB y)) H
theorem scIsLeap : FnScope ["year"] ["year"] (defScope sIsLeap) := ⟨rfl, rfl, rfl, by decide +kernel, rfl, by decide +kernel, by decide +kernel⟩
theorem ok_leap {f : Addr} {fd : FuncData} (F : Fun K "is_leap" "is_leap" sIsLeap f fd) (DC : Df P w K mg base 2 "check_number" ["value", "least"] [.non] spCheck) : FnOk P w K mg base CX0 3 f fd ["year"] spLeap := by
  refine F.ok scIsLeap (fun vs H Q E h => ?_) (fun cdv A outer s H vs Q E hr h => ?_)
  · obtain ⟨n, rfl, _⟩ := h
    rfl
  · obtain ⟨y, rfl, k⟩ := h
    refine ⟨_, pss_cons (ps_expr (pe_df DC hr (pa_cons (pv 0) pa_nil))) (pss_one (ps_ret (pe_and (pe_cmpR op_eq (pe_op op_mod (pv 0) pe_int) pe_int (nomark _))
      (pe_one (pe_or (pe_cmpR op_ne (pe_op op_mod (pv 0) pe_int) pe_int (nomark _)) (pe_one (pe_cmpR op_eq (pe_op op_mod (pv 0) pe_int) pe_int (nomark _)))))))), ?_⟩
    refine ⟨_, rfl, y, rfl, _, rfl, _, _, rfl, rfl, (by show (0 : Int) < 4; decide), rfl, _, rfl, ?_⟩
    have k' := k
    unfold leapB at k'
    rw [dec_int]
    by_cases c4 : y % 4 = 0
    · refine iteTT (by simpa using c4) ?_
      rw [decide_eq_true c4, Bool.true_and] at k'
      refine ⟨_, rfl, _, _, rfl, rfl, (by show (0 : Int) < 100; decide), rfl, _, rfl, ?_⟩
      by_cases c1 : y % 100 = 0
      · refine iteFF ?_ ?_
        · rw [dec_int]; simpa using c1
        · refine ⟨_, rfl, _, _, rfl, rfl, (by show (0 : Int) < 400; decide), rfl, ?_⟩
          rw [decide_eq_false (by simpa using c1), Bool.false_or] at k'
          rw [show decide (V.int (y % 400) = V.int 0) = decide (y % 400 = 0) by rw [dec_int]; rfl]
          exact k'
      · refine iteTT ?_ ?_
        · rw [dec_int]; simpa using c1
        · rw [decide_eq_true (by simpa using c1), Bool.true_or] at k'
          exact k'
    · refine iteFF (by simpa using c4) ?_
      rw [decide_eq_false c4, Bool.false_and] at k'
      exact k'
def spLyb : Sp := fun vs H Q _ => ∃ y : Int, vs = [.int y] ∧ Q (.int (lyb y)) H
theorem scLeapYearsBefore : FnScope ["year", "last"] ["year"] (defScope sLeapYearsBefore) := ⟨rfl, rfl, rfl, by decide +kernel, rfl, by decide +kernel, by decide +kernel⟩
theorem ok_lyb {f : Addr} {fd : FuncData} (F : Fun K "leap_years_before" "leap_years_before" sLeapYearsBefore f fd) : FnOk P w K mg base CX0 1 f fd ["year"] spLyb := by
  refine F.ok scLeapYearsBefore (fun vs H Q E h => ?_) (fun cdv A outer s H vs Q E hr h => ?_)
  · obtain ⟨n, rfl, _⟩ := h
    rfl
  · obtain ⟨y, rfl, k⟩ := h
    refine ⟨_, pss_cons (ps_set (i := 1) scLeapYearsBefore.nd rfl (Or.inl rfl) (pe_op op_sub (pv 0) pe_int)) (pss_one (ps_ret (pe_op op_add (pe_op op_sub (pe_op op_fdiv (pv 1) pe_int) (pe_op op_fdiv (pv 1) pe_int)) (pe_op op_fdiv (pv 1) pe_int)))), ?_⟩
    refine ⟨_, rfl, _, _, rfl, rfl, _, rfl, _, _, rfl, rfl, ⟨by decide, by decide⟩, _, rfl, _, _, rfl, rfl, ⟨by decide, by decide⟩, _, _, rfl, rfl, _, rfl, _, _, rfl, rfl, ⟨by decide, by decide⟩, _, _, rfl, rfl, k⟩
def spYs : Sp := fun vs H Q _ => ∃ y : Int, vs = [.int y] ∧ Q (.int (ysOf y)) H
theorem scYearStart : FnScope ["year"] ["year"] (defScope sYearStart) := ⟨rfl, rfl, rfl, by decide +kernel, rfl, by decide +kernel, by decide +kernel⟩
theorem ok_ys {f : Addr} {fd : FuncData} (F : Fun K "year_start" "year_start" sYearStart f fd) (DC : Df P w K mg base 2 "check_number" ["value", "least"] [.non] spCheck) (DL : Df P w K mg base 1 "leap_years_before" ["year"] [] spLyb) :
    FnOk P w K mg base CX0 3 f fd ["year"] spYs := by
  refine F.ok scYearStart (fun vs H Q E h => ?_) (fun cdv A outer s H vs Q E hr h => ?_)
  · obtain ⟨n, rfl, _⟩ := h
    rfl
  · obtain ⟨y, rfl, k⟩ := h
    have hr1 : Room 1 _ := hr.mono (by decide)
    refine ⟨_, pss_cons (ps_expr (pe_df DC hr (pa_cons (pv 0) pa_nil))) (pss_one (ps_ret (pe_op op_sub (pe_op op_add (pe_op op_mul pe_int (pe_op op_sub (pv 0) pe_int)) (pe_df DL hr1 (pa_cons (pv 0) pa_nil))) (pe_df DL hr1 (pa_cons pe_int pa_nil))))), ?_⟩
    refine ⟨_, rfl, y, rfl, _, rfl, _, _, rfl, rfl, _, _, rfl, rfl, .inl ⟨by decide, by decide⟩, _, rfl, y, rfl, _, _, rfl, rfl, 2000, rfl, _, _, rfl, rfl, k⟩
/-! ### months -/
def spMlen : Sp := fun vs H Q _ => ∃ (m : Int) (l : Bool), vs = [.int m, .bl l] ∧ 1 ≤ m ∧ m ≤ 12 ∧ Q (.int (mlen m l)) H
theorem scMonthLength : FnScope ["month", "leap"] ["month", "leap"] (defScope sMonthLength) := ⟨rfl, rfl, rfl, by decide +kernel, rfl, by decide +kernel, by decide +kernel⟩
theorem ok_mlen {f tp : Addr} {fd : FuncData} (F : Fun K "month_length" "month_length" sMonthLength f fd) (M : Cm K mg tp) : FnOk P w K mg base CX0 1 f fd ["month", "leap"] spMlen := by
  refine F.ok scMonthLength (fun vs H Q E h => ?_) (fun cdv A outer s H vs Q E hr h => ?_)
  · obtain ⟨m, l, rfl, _⟩ := h
    rfl
  · obtain ⟨m, l, rfl, m1, m2, k⟩ := h
    refine ⟨_, pss_one (ps_ret (pe_ifExp (PW.pt (pw_and (pt_cmpR op_eq (pv 0) pe_int (nomark _)) (pw_and1 (pt_val (pv 1))))) pe_int (pe_ix ix_tup (pe_glob (v := .ref tp) rfl M.ml rfl) (pe_op op_sub (pv 0) pe_int) (fun _ _ => rfl)))), ?_⟩
    have other : ¬ (m = 2 ∧ l = true) → tOp (rIxT K) (tC (.ref tp)) (tOp (rI0 fun i j => .int (i - j)) (tVar 0) (tC (.int 1))) [some (.int m), some (.bl l)] H Q := fun hn => by
      refine ⟨_, rfl, _, _, rfl, rfl, tp, _, _, V.int (ml m), rfl, rfl, M.sq H, ?_, ?_⟩
      · refine at_of (j := (m - 1).toNat) (by omega) ?_
        rw [List.getElem?_map, MLs_get m1 m2]
        rfl
      · unfold mlen at k
        rw [if_neg hn] at k
        exact k
    refine ⟨_, rfl, rfl, _, rfl, ?_⟩
    by_cases c : m = 2
    · subst c
      refine iteTT (by rfl) ?_
      refine ⟨_, rfl, l, rfl, ?_⟩
      cases l with
      | true => exact iteT k
      | false => exact iteF (other (by intro h; cases h.2))
    · refine iteFF (by rw [dec_int]; simpa using c) ?_
      exact iteF (other fun h => c h.1)
def spMst : Sp := fun vs H Q _ => ∃ (m : Int) (l : Bool), vs = [.int m, .bl l] ∧ 1 ≤ m ∧ m ≤ 13 ∧ ∀ H', Same H H' → Q (.int (mst m l)) H'
theorem scMonthStart : FnScope ["month", "leap", "leap_day"] ["month", "leap"] (defScope sMonthStart) := ⟨rfl, rfl, rfl, by decide +kernel, rfl, by decide +kernel, by decide +kernel⟩
theorem m13 {m : Int} (h1 : 1 ≤ m) (h2 : m ≤ 13) : m = 13 ∨ (1 ≤ m ∧ m ≤ 12) := by omega
theorem cut_ML {m : Int} (h1 : 1 ≤ m) (h2 : m ≤ 12) : cutV (MLs.map V.int) none (some (m - 1)) = (MLs.take (m - 1).toNat).map V.int ∧ ¬ (HT.sIx (MLs.map V.int).length 0 none = 0 ∧ HT.sIx (MLs.map V.int).length (MLs.map V.int).length (some (m - 1)) = (MLs.map V.int).length) := by
  rcases m12 h1 h2 with rfl | rfl | rfl | rfl | rfl | rfl | rfl | rfl | rfl | rfl | rfl | rfl <;> decide
theorem ok_mst {f tp : Addr} {fd : FuncData} (F : Fun K "month_start" "month_start" sMonthStart f fd) (M : Cm K mg tp) (T : Nm mg) : FnOk P w K mg base CX0 1 f fd ["month", "leap"] spMst := by
  refine F.ok scMonthStart (fun vs H Q E h => ?_) (fun cdv A outer s H vs Q E hr h => ?_)
  · obtain ⟨m, l, rfl, _⟩ := h
    rfl
  · obtain ⟨m, l, rfl, m1, m2, k⟩ := h
    refine ⟨_, pss_cons (ps_set (i := 2) scMonthStart.nd rfl (Or.inl rfl) (pe_ifExp (PW.pt (pw_and (pt_val (pv 1)) (pw_and1 (pt_cmpR op_gt (pv 0) pe_int (nomark _))))) pe_int pe_int))
      (pss_one (ps_ret (pe_op op_add (pe_callB (cr_sumT rfl) (by rfl) T.sum (by decide +kernel) (pa_cons (pe_slice sl_tupA (pe_glob (v := .ref tp) rfl M.ml rfl) po_none (po_some (pe_op op_sub (pv 0) pe_int))) pa_nil)) (pv 2)))), ?_⟩
    have rest : ∀ d : Int, d = (if l = true ∧ 2 < m then 1 else 0) → tRet (tOp (rI0 fun i j => .int (i + j)) (tCB (rSumT K) (tCons (tSl (rSlA K) (tC (.ref tp)) tNoPart (tPart (tOp (rI0 fun i j => .int (i - j)) (tVar 0) (tC (.int 1))))) tNil)) (tVar 2))
        { nx := fun _ H' => Q .non H', rt := Q } [some (.int m), some (.bl l), some (.int d)] H := fun d hd => by
      refine ⟨_, rfl, _, _, rfl, rfl, _, rfl, tp, MLs.map V.int, rfl, M.sq H, fun hw => ?_, fun hw p hp => ?_⟩
      · refine ⟨tp, MLs, rfl, M.sq H, _, rfl, _, _, rfl, rfl, ?_⟩
        have e : m = 13 := by
          rcases m13 m1 m2 with e | ⟨a1, a2⟩
          · exact e
          · exact absurd hw (cut_ML a1 a2).2
        subst e
        have e2 : mst 13 l = MLs.sum + d := by
          rw [hd]
          cases l <;> decide
        show Q (.int (MLs.sum + d)) H
        rw [← e2]
        exact k H (Same.refl H)
      · have e : 1 ≤ m ∧ m ≤ 12 := by
          rcases m13 m1 m2 with e | e
          · subst e
            exact absurd (by decide) hw
          · exact e
        refine ⟨p, MLs.take (m - 1).toNat, rfl, ?_, _, rfl, _, _, rfl, rfl, ?_⟩
        · refine SqT.of ?_
          rw [upd_same, (cut_ML e.1 e.2).1]
        · have e2 : mst m l = (MLs.take (m - 1).toNat).sum + d := by
            rw [hd]
            rfl
          show Q (.int ((MLs.take (m - 1).toNat).sum + d)) _
          rw [← e2]
          exact k _ (Same.new hp)
    refine ⟨_, rfl, l, rfl, ?_⟩
    cases l with
    | false => exact iteF (iteF (rest 0 (by rw [if_neg]; intro h; cases h.1)))
    | true =>
      refine iteT ?_
      refine ⟨_, rfl, _, _, rfl, rfl, _, rfl, ?_⟩
      by_cases c : 2 < m
      · exact iteTT (decide_eq_true c) (rest 1 (by rw [if_pos ⟨rfl, c⟩]))
      · exact iteFF (decide_eq_false c) (rest 0 (by rw [if_neg fun h => c h.2]))
/-! ### day_of -/
def spDayOf : Sp := fun vs H Q _ => ∃ y m d : Int, vs = [.int y, .int m, .int d] ∧ IsDate y m d ∧ ∀ H', Same H H' → Q (.int (dayOf y m d)) H'
theorem scDayOf : FnScope ["year", "month", "day", "leap"] ["year", "month", "day"] (defScope sDayOf) := ⟨rfl, rfl, rfl, by decide +kernel, rfl, by decide +kernel, by decide +kernel⟩
theorem ok_dayof {f : Addr} {fd : FuncData} (F : Fun K "day_of" "day_of" sDayOf f fd) (DC : Df P w K mg base 2 "check_number" ["value", "least"] [.non] spCheck) (DL : Df P w K mg base 3 "is_leap" ["year"] [] spLeap)
    (DM : Df P w K mg base 1 "month_length" ["month", "leap"] [] spMlen) (DY : Df P w K mg base 3 "year_start" ["year"] [] spYs) (DS : Df P w K mg base 1 "month_start" ["month", "leap"] [] spMst) :
    FnOk P w K mg base CX0 4 f fd ["year", "month", "day"] spDayOf := by
  refine F.ok scDayOf (fun vs H Q E h => ?_) (fun cdv A outer s H vs Q E hr h => ?_)
  · obtain ⟨y, m, d, rfl, _⟩ := h
    rfl
  · obtain ⟨y, m, d, rfl, D, k⟩ := h
    have hr1 : Room 1 _ := hr.mono (by decide)
    have hr2 : Room 2 _ := hr.mono (by decide)
    refine ⟨_, pss_cons (ps_expr (pe_df DC hr2 (pa_cons (pv 0) pa_nil))) (pss_cons (ps_expr (pe_df DC hr2 (pa_cons (pv 1) pa_nil))) (pss_cons (ps_expr (pe_df DC hr2 (pa_cons (pv 2) pa_nil)))
      (pss_cons (ps_set (i := 3) scDayOf.nd rfl (Or.inl rfl) (pe_df DL hr (pa_cons (pv 0) pa_nil)))
      (pss_cons (ps_if (PW.pt (pw_or (pt_not (pt_chain op_le op_le pe_int (pv 1) pe_int)) (pw_or1 (pt_not (pt_chain op_le op_le pe_int (pv 2) (pe_df DM hr1 (pa_cons (pv 1) (pa_cons (pv 3) pa_nil)))))))) (pss_one ps_never) pss_nil)
      (pss_one (ps_ret (pe_op op_sub (pe_op op_add (pe_op op_add (pe_df DY hr (pa_cons (pv 0) pa_nil)) (pe_df DS hr1 (pa_cons (pv 1) (pa_cons (pv 3) pa_nil)))) (pv 2)) pe_int))))))), ?_⟩
    refine ⟨_, rfl, y, rfl, _, rfl, m, rfl, _, rfl, d, rfl, _, rfl, y, rfl, ?_⟩
    refine ⟨_, rfl, _, _, rfl, rfl, true, congrArg V.bl (decide_eq_true D.m1), iteT ?_⟩
    refine ⟨_, _, rfl, rfl, true, congrArg V.bl (decide_eq_true D.m2), iteF ?_⟩
    refine ⟨_, rfl, _, _, rfl, rfl, true, congrArg V.bl (decide_eq_true D.d1), iteT ?_⟩
    refine ⟨_, rfl, _, rfl, m, leapB y, rfl, D.m1, D.m2, _, _, rfl, rfl, true, congrArg V.bl (decide_eq_true D.d2), ?_⟩
    show if false = true then _ else _
    refine iteF ?_
    refine ⟨_, rfl, y, rfl, _, rfl, _, rfl, m, leapB y, rfl, D.m1, by have := D.m2; omega, fun H' S' => ?_⟩
    exact ⟨_, _, rfl, rfl, _, rfl, _, _, rfl, rfl, _, _, rfl, rfl, k H' S'⟩
/-! ### weekday -/
def spWeekday : Sp := fun vs H Q _ => ∃ d : Int, vs = [.int d] ∧ Q (.int ((d + 5) % 7)) H
theorem scWeekday : FnScope ["day"] ["day"] (defScope sWeekday) := ⟨rfl, rfl, rfl, by decide +kernel, rfl, by decide +kernel, by decide +kernel⟩
theorem ok_weekday {f : Addr} {fd : FuncData} (F : Fun K "weekday" "weekday" sWeekday f fd) (DC : Df P w K mg base 2 "check_number" ["value", "least"] [.non] spCheck) : FnOk P w K mg base CX0 3 f fd ["day"] spWeekday := by
  refine F.ok scWeekday (fun vs H Q E h => ?_) (fun cdv A outer s H vs Q E hr h => ?_)
  · obtain ⟨n, rfl, _⟩ := h
    rfl
  · obtain ⟨d, rfl, k⟩ := h
    refine ⟨_, pss_cons (ps_expr (pe_df DC hr (pa_cons (pv 0) pa_nil))) (pss_one (ps_ret (pe_op op_mod (pe_op op_add (pv 0) pe_int) pe_int))), ?_⟩
    exact ⟨_, rfl, d, rfl, _, rfl, _, _, rfl, rfl, _, _, rfl, rfl, (by show (0 : Int) < 7; decide), k⟩
end
end Cf
namespace Cf
open PySem L2
set_option hygiene false
local macro_rules | `(tactic| walk_at "len") => `(tactic| repeat (first | (obtain ⟨e, _⟩ := h; subst e; rfl; done) | (obtain ⟨_, h⟩ := h)))
local macro_rules | `(tactic| walk_at "rd") => `(tactic| repeat (first | refine ⟨_, rfl, ?_⟩ | refine ⟨_, _, rfl, rfl, ?_⟩ | refine ⟨rfl, ?_⟩ | refine ⟨_, _, rfl, ?_⟩))
local macro_rules | `(tactic| walk_at "yes") => `(tactic| (dsimp only [tYes]; rw [if_pos rfl]))
set_option hygiene true
section
variable {P : Program} {w : World} {K : PySem.W.Frag} {mg : Str → Option Value} {base : Heap}
/-! ### the law's own calendar -/
def spNy : Sp := fun vs H Q _ => ∃ y : Int, vs = [.int y] ∧ Q (.int (ysOf y)) H
theorem scLawNewYear : FnScope ["one_year", "gone"] ["one_year"] (defScope sLawNewYear) := ⟨rfl, rfl, rfl, by decide +kernel, rfl, by decide +kernel, by decide +kernel⟩
theorem ok_ny {f : Addr} {fd : FuncData} (F : Fun K "_law_new_year" "_law_new_year" sLawNewYear f fd) : FnOk P w K mg base CX0 1 f fd ["one_year"] spNy := by
  refine F.ok scLawNewYear (fun vs H Q E h => ?_) (fun cdv A outer s H vs Q E hr h => ?_)
  · obtain ⟨n, rfl, _⟩ := h
    rfl
  · obtain ⟨y, rfl, k⟩ := h
    refine ⟨_, pss_cons (ps_set (i := 1) scLawNewYear.nd rfl (Or.inl rfl) (pe_op op_sub (pv 0) pe_int)) (pss_one (ps_ret (pe_op op_add (pe_op op_sub (pe_op op_add (pe_op op_mul pe_int (pv 1)) (pe_op op_fdiv (pe_op op_add (pv 1) pe_int) pe_int))
      (pe_op op_fdiv (pe_op op_add (pv 1) pe_int) pe_int)) (pe_op op_fdiv (pe_op op_add (pv 1) pe_int) pe_int)))), ?_⟩
    refine ⟨_, rfl, _, _, rfl, rfl, _, rfl, _, _, rfl, rfl, .inl ⟨by decide, by decide⟩, _, rfl, _, _, rfl, rfl, _, _, rfl, rfl, ⟨by decide, by decide⟩, _, _, rfl, rfl, _, rfl, _, _, rfl, rfl, _, _, rfl, rfl, ⟨by decide, by decide⟩, _, _, rfl, rfl,
      _, rfl, _, _, rfl, rfl, _, _, rfl, rfl, ⟨by decide, by decide⟩, _, _, rfl, rfl, ?_⟩
    rw [← lawNY_eq] at k
    exact k
def spLong : Sp := fun vs H Q _ => ∃ y : Int, vs = [.int y] ∧ Q (.bl (leapB y)) H
theorem scLawIsLong : FnScope ["one_year"] ["one_year"] (defScope sLawIsLong) := ⟨rfl, rfl, rfl, by decide +kernel, rfl, by decide +kernel, by decide +kernel⟩
theorem ok_long {f : Addr} {fd : FuncData} (F : Fun K "_law_is_long" "_law_is_long" sLawIsLong f fd) (T : Nm mg) : FnOk P w K mg base CX0 1 f fd ["one_year"] spLong := by
  refine F.ok scLawIsLong (fun vs H Q E h => ?_) (fun cdv A outer s H vs Q E hr h => ?_)
  · obtain ⟨n, rfl, _⟩ := h
    rfl
  · obtain ⟨y, rfl, k⟩ := h
    have k' := k
    rw [← isLong_eq] at k'
    unfold isLong at k'
    refine ⟨_, pss_one (ps_ret (pe_or (pe_cmpR op_eq (pe_op op_mod (pe_callTy call_int1 (by rfl) T.int (by decide +kernel) (pa_cons (pv 0) pa_nil)) pe_int) pe_int (nomark _))
      (pe_one (pe_and (pe_cmpR op_eq (pe_op op_mod (pe_callTy call_int1 (by rfl) T.int (by decide +kernel) (pa_cons (pv 0) pa_nil)) pe_int) pe_int (nomark _))
        (pe_one (pe_cmpR op_ne (pe_op op_mod (pe_callTy call_int1 (by rfl) T.int (by decide +kernel) (pa_cons (pv 0) pa_nil)) pe_int) pe_int (nomark _))))))), ?_⟩
    refine ⟨_, rfl, .inl ⟨_, rfl, _, _, rfl, rfl, (by show (0 : Int) < 400; decide), rfl, _, rfl, ?_⟩⟩
    rw [dec_int]
    by_cases c4 : y % 400 = 0
    · refine iteTT (by simpa using c4) ?_
      rw [decide_eq_true c4, Bool.true_or] at k'
      exact k'
    · refine iteFF (by simpa using c4) ?_
      rw [decide_eq_false c4, Bool.false_or] at k'
      refine ⟨_, rfl, .inl ⟨_, rfl, _, _, rfl, rfl, (by show (0 : Int) < 4; decide), rfl, _, rfl, ?_⟩⟩
      by_cases c1 : y % 4 = 0
      · refine iteTT (by rw [dec_int]; simpa using c1) ?_
        rw [decide_eq_true c1, Bool.true_and] at k'
        refine ⟨_, rfl, .inl ⟨_, rfl, _, _, rfl, rfl, (by show (0 : Int) < 100; decide), rfl, ?_⟩⟩
        rw [show (!decide (V.int (y % 100) = V.int 0)) = decide (y % 100 ≠ 0) by rw [dec_int]; by_cases q : y % 100 = 0 <;> simp [q]]
        exact k'
      · refine iteFF (by rw [dec_int]; simpa using c1) ?_
        rw [decide_eq_false c1, Bool.false_and] at k'
        exact k'
def spSize : Sp := fun vs H Q _ => ∃ y m : Int, vs = [.int y, .int m] ∧ 1 ≤ m ∧ m ≤ 12 ∧ ∀ H', Same H H' → Q (.int (mlen m (leapB y))) H'
theorem scLawSize : FnScope ["one_year", "month"] ["one_year", "month"] (defScope sLawSize) := ⟨rfl, rfl, rfl, by decide +kernel, rfl, by decide +kernel, by decide +kernel⟩
theorem ok_size {f : Addr} {fd : FuncData} (F : Fun K "_law_size" "_law_size" sLawSize f fd) (DI : Df P w K mg base 1 "_law_is_long" ["one_year"] [] spLong) : FnOk P w K mg base CX0 2 f fd ["one_year", "month"] spSize := by
  refine F.ok scLawSize (fun vs H Q E h => ?_) (fun cdv A outer s H vs Q E hr h => ?_)
  · obtain ⟨n, m, rfl, _⟩ := h
    rfl
  · obtain ⟨y, m, rfl, m1, m2, k⟩ := h
    refine ⟨_, pss_one (ps_ret (pe_ix ix_list (pe_lst (pa_cons pe_int (pa_cons (pe_ifExp (pt_val (pe_df DI hr (pa_cons (pv 0) pa_nil))) pe_int pe_int) (pa_cons pe_int (pa_cons pe_int (pa_cons pe_int (pa_cons pe_int (pa_cons pe_int (pa_cons pe_int (pa_cons pe_int (pa_cons pe_int (pa_cons pe_int (pa_cons pe_int pa_nil)))))))))))))
      (pe_op op_sub (pv 1) pe_int) (fun _ _ => rfl))), ?_⟩
    refine ⟨_, rfl, y, rfl, leapB y, rfl, ?_⟩
    have fin : ∀ l : Bool, l = leapB y → ∀ p : Addr, H p = none → tOp (rI0 fun i j => .int (i - j)) (tVar 1) (tC (.int 1)) [some (.int y), some (.int m)] (upd H p (.lst ((lawSizes l).map V.int))) (fun y1 H2 => rIxL K (.ref p) y1 H2 Q) := fun l hl p hp => by
      refine ⟨_, rfl, _, _, rfl, rfl, p, _, _, V.int (mlen m l), rfl, rfl, SqL.of upd_same, ?_, ?_⟩
      · refine at_of (j := (m - 1).toNat) (by omega) ?_
        rw [List.getElem?_map, lawSizes_get m1 m2]
        rfl
      · rw [hl]
        exact k _ (Same.new hp)
    cases e : leapB y with
    | true => exact iteT ⟨by show 12 ≤ sizeLine; decide, fun p hp => fin true e.symm p hp⟩
    | false => exact iteF ⟨by show 12 ≤ sizeLine; decide, fun p hp => fin false e.symm p hp⟩
/-! ### _law_some_year -/
def spSome : Sp := fun vs H Q _ => ∃ (p a b : Addr) (n : Nat), vs = [.ref p] ∧ Stt p a b n H ∧ n ≤ 900000 ∧
  ∀ (y : Int) (H' : Hp), -(10 ^ 28) ≤ y → y ≤ 10 ^ 28 → Stt p a b (n + 20) H' → But p a H H' → Q (.int y) H'
theorem scLawSomeYear : FnScope ["state", "far", "turn", "ways"] ["state"] (defScope sLawSomeYear) := ⟨rfl, rfl, rfl, by decide +kernel, rfl, by decide +kernel, by decide +kernel⟩
theorem ok_some {f : Addr} {fd : FuncData} (F : Fun K "_law_some_year" "_law_some_year" sLawSomeYear f fd) (T : Nm mg) (DT : Df P w K mg base 2 "_law_take" ["state", "size"] [] spTake) : FnOk P w K mg base CX0 3 f fd ["state"] spSome := by
  refine F.ok scLawSomeYear (fun vs H Q E h => ?_) (fun cdv A outer s H vs Q E hr h => ?_)
  · obtain ⟨p, a, b, n, rfl, _⟩ := h
    rfl
  · obtain ⟨p, a, b, n, rfl, S, hn, k⟩ := h
    have nd := scLawSomeYear.nd
    have npa := S.pa
    have cp9 : CPow 10 9 := ⟨by decide, by decide, by decide⟩
    have cp6 : CPow 10 6 := ⟨by decide, by decide, by decide⟩
    refine ⟨_, pss_cons (ps_set (i := 1) nd rfl (Or.inl rfl) pe_int)
      (pss_cons (ps_for PassesOwn.never rfl (pi_range1 rfl T.range (pa_cons pe_int pa_nil)) (pg_name (i := 2) nd rfl (Or.inl rfl))
        (pss_one (ps_set (i := 1) nd rfl (Or.inl rfl) (pe_op op_add (pe_op op_mul (pv 1) (pe_op op_pow pe_int pe_int)) (pe_df DT hr (pa_cons (pv 0) (pa_cons (pe_op op_pow pe_int pe_int) pa_nil)))))))
      (pss_cons (ps_set (i := 3) nd rfl (Or.inl rfl) (pe_lst (pa_cons (pe_op op_add pe_int (pe_df DT hr (pa_cons (pv 0) (pa_cons pe_int pa_nil))))
        (pa_cons (pe_op op_sub (pe_op op_add (pe_op op_mul pe_int (pe_op op_sub (pe_df DT hr (pa_cons (pv 0) (pa_cons pe_int pa_nil))) pe_int)) (pe_df DT hr (pa_cons (pv 0) (pa_cons pe_int pa_nil)))) pe_int) pa_nil))))
      (pss_cons (ps_set (i := 3) nd rfl (Or.inl rfl) (pe_op op_cat (pv 3) (pe_lst (pa_cons (pe_op op_sub (pe_op op_add (pe_op op_mul pe_int (pe_op op_sub (pe_df DT hr (pa_cons (pv 0) (pa_cons (pe_op op_mul pe_int (pe_op op_pow pe_int pe_int)) pa_nil))) (pe_op op_pow pe_int pe_int)))
          (pe_df DT hr (pa_cons (pv 0) (pa_cons pe_int pa_nil)))) pe_int) (pa_cons (pv 1) (pa_cons (pe_op op_sub pe_int (pv 1)) pa_nil))))))
      (pss_one (ps_ret (pe_ix ix_list (pv 3) (pe_df DT hr (pa_cons (pv 0) (pa_cons pe_int pa_nil))) (fun _ _ => rfl))))))), ?_⟩
    refine ⟨3, rfl, by decide, by decide, for_range (n := 3) (fun i σ H' => Stt p a b (n + i) H' ∧ But p a H H' ∧ ∃ (fa : Int) (v : Option V), 0 ≤ fa ∧ fa < 10 ^ (9 * i) ∧ σ = [some (.ref p), some (.int fa), v, none]) ⟨S, But.refl, 0, none, by decide, by decide, rfl⟩ ?_ ?_⟩
    · rintro i σ H1 hi ⟨S1, B1, fa, v, f0, f1, rfl⟩
      refine ⟨_, rfl, _, _, rfl, rfl, cp9, _, _, rfl, rfl, .inr ⟨by decide, by decide⟩, _, rfl, _, _, rfl, rfl, cp9, p, a, b, n + i, _, rfl, S1, by omega, by decide, by decide, fun z H2 z0 z1 S2 B2 => ?_⟩
      refine ⟨_, _, rfl, rfl, S2, B1.trans B2, fa * 1000000000 + z, _, ?_, ?_, rfl⟩
      · have : z < 1000000000 := z1
        omega
      · have z1' : z < 1000000000 := z1
        have hi' : i = 0 ∨ i = 1 ∨ i = 2 := by omega
        rcases hi' with rfl | rfl | rfl
        · have e : (10 : Int) ^ (9 * 0) = 1 := by decide
          have e2 : (10 : Int) ^ (9 * (0 + 1)) = 1000000000 := by decide
          omega
        · have e : (10 : Int) ^ (9 * 1) = 1000000000 := by decide
          have e2 : (10 : Int) ^ (9 * (1 + 1)) = 1000000000000000000 := by decide
          omega
        · have e : (10 : Int) ^ (9 * 2) = 1000000000000000000 := by decide
          have e2 : (10 : Int) ^ (9 * (2 + 1)) = 1000000000000000000000000000 := by decide
          omega
    · rintro σ H1 ⟨S1, B1, fa, v, f0, f1, rfl⟩
      have f1' : fa < 1000000000000000000000000000 := f1
      have eB : (10 : Int) ^ 28 = 10000000000000000000000000000 := by decide
      -- ways = [..]
      refine ⟨_, rfl, p, a, b, n + 3, 60, rfl, S1, by omega, by decide, by decide, fun z1 H2 a1 b1 S2 B2 => ?_⟩
      refine ⟨_, _, rfl, rfl, _, rfl, p, a, b, _, 61, rfl, S2, by omega, by decide, by decide, fun z2 H3 a2 b2 S3 B3 => ?_⟩
      refine ⟨_, _, rfl, rfl, _, _, rfl, rfl, .inl ⟨by decide, by decide⟩, _, rfl, p, a, b, _, 3, rfl, S3, by omega, by decide, by decide, fun z3 H4 a3 b3 S4 B4 => ?_⟩
      refine ⟨_, _, rfl, rfl, _, _, rfl, rfl, (by show 2 ≤ sizeLine; decide), fun q hq => ?_⟩
      -- ways = ways + [..]
      have S5 := S4.same (Same.new (o := .lst [.int (1990 + z1), .int (100 * (z2 - 10) + z3 - 1)]) hq)
      refine ⟨_, rfl, _, rfl, _, _, rfl, rfl, cp6, _, _, rfl, rfl, .inl ⟨by decide, by decide⟩, p, a, b, _, _, rfl, S5, by omega, by decide, by decide, fun z4 H5 a4 b4 S6 B6 => ?_⟩
      refine ⟨_, _, rfl, rfl, cp6, _, _, rfl, rfl, _, _, rfl, rfl, .inl ⟨by decide, by decide⟩, _, rfl, p, a, b, _, 5, rfl, S6, by omega, by decide, by decide, fun z5 H6 a5 b5 S7 B7 => ?_⟩
      refine ⟨_, _, rfl, rfl, _, _, rfl, rfl, _, rfl, _, rfl, _, _, rfl, rfl, (by show 3 ≤ sizeLine; decide), fun q2 hq2 => ?_⟩
      have B5 : But p a H4 (upd H4 q (.lst [.int (1990 + z1), .int (100 * (z2 - 10) + z3 - 1)])) := But.of (Same.new hq)
      obtain ⟨u1, u2, u3, w1, w2, w3⟩ := S4.there
      have nqp : q ≠ p := (ne_of_none w1 hq).symm
      have nqa : q ≠ a := (ne_of_none w2 hq).symm
      have hq6 : H6 q = some (.lst [.int (1990 + z1), .int (100 * (z2 - 10) + z3 - 1)]) := B7 _ _ (B6 _ _ upd_same nqp nqa) nqp nqa
      have nq2 : q ≠ q2 := ne_of_none hq6 hq2
      refine ⟨q, q2, _, _, rfl, rfl, (upd_ne nq2).trans hq6, upd_same, (by show 5 ≤ sizeLine; decide), fun q3 hq3 => ?_⟩
      have S8 := (S7.same (Same.new hq2)).same (Same.new (o := .lst [.int (1990 + z1), .int (100 * (z2 - 10) + z3 - 1), .int (400 * (z4 - 10 ^ (6 : Int).toNat) + z5 - 2), .int fa, .int (0 - fa)]) hq3)
      refine ⟨_, rfl, _, rfl, p, a, b, _, 5, rfl, S8, by omega, by decide, by decide, fun z6 H7 a6 b6 S9 B9 => ?_⟩
      obtain ⟨x1, x2, x3, y1, y2, y3⟩ := (S7.same (Same.new hq2)).there
      have nqp3 : q3 ≠ p := (ne_of_none y1 hq3).symm
      have nqa3 : q3 ≠ a := (ne_of_none y2 hq3).symm
      have h7 := B9 q3 _ upd_same nqp3 nqa3
      have bb : But p a H H7 := ((B1.trans B2).trans (B3.trans B4)).trans ((B5.trans (B6.trans B7)).trans ((But.of (Same.new hq2)).trans ((But.of (Same.new hq3)).trans B9)))
      have fin : ∀ v : Int, -(10 ^ 28) ≤ v → v ≤ 10 ^ 28 → Q (.int v) H7 := fun v c1 c2 => k v H7 c1 c2 (S9.mono (by omega)) bb
      have z6' : z6 = 0 ∨ z6 = 1 ∨ z6 = 2 ∨ z6 = 3 ∨ z6 = 4 := by omega
      have e6 : (10 : Int) ^ (6 : Int).toNat = 1000000 := by decide
      rcases z6' with rfl | rfl | rfl | rfl | rfl
      · exact ⟨q3, _, 0, _, rfl, rfl, SqL.of h7, rfl, fin (1990 + z1) (by omega) (by omega)⟩
      · exact ⟨q3, _, 1, _, rfl, rfl, SqL.of h7, rfl, fin (100 * (z2 - 10) + z3 - 1) (by omega) (by omega)⟩
      · exact ⟨q3, _, 2, _, rfl, rfl, SqL.of h7, rfl, fin (400 * (z4 - 10 ^ (6 : Int).toNat) + z5 - 2) (by omega) (by omega)⟩
      · exact ⟨q3, _, 3, _, rfl, rfl, SqL.of h7, rfl, fin fa (by omega) (by omega)⟩
      · exact ⟨q3, _, 4, _, rfl, rfl, SqL.of h7, rfl, fin (0 - fa) (by omega) (by omega)⟩
end
end Cf
/-! Own layer: kinds of years, yearly days. -/
namespace Cf
inductive Yd where
  | nth (m k w : Int) | last (m w : Int) | frm (m n w : Int) | unt (m n w : Int) | date (m n : Int) | day (n : Int)
deriving DecidableEq
def LeDec (m n : Int) : Prop := m < 12 ∨ (m = 12 ∧ n ≤ 25)
def GeJan (m n : Int) : Prop := 1 < m ∨ (m = 1 ∧ 7 ≤ n)
def MD (m n : Int) : Prop := 1 ≤ m ∧ m ≤ 12 ∧ 1 ≤ n ∧ n ≤ mlen m false
def WD (w : Int) : Prop := 0 ≤ w ∧ w ≤ 6
def Yd.Ok : Yd → Prop
  | .nth m k w => 1 ≤ m ∧ m ≤ 12 ∧ 1 ≤ k ∧ k ≤ 4 ∧ WD w
  | .last m w => 1 ≤ m ∧ m ≤ 12 ∧ WD w
  | .frm m n w => MD m n ∧ LeDec m n ∧ WD w
  | .unt m n w => MD m n ∧ GeJan m n ∧ WD w
  | .date m n => MD m n
  | .day n => 0 ≤ n ∧ n ≤ 364
def onAfter (n w f : Int) : Int := n + (w - f - n) % 7
def onBefore (n w f : Int) : Int := n - (f + n - w) % 7
def numIn : Yd → Int → Bool → Int
  | .nth m k w, f, l => onAfter (mst m l + 7 * (k - 1)) w f
  | .last m w, f, l => onBefore (mst m l + mlen m l - 1) w f
  | .frm m n w, f, l => onAfter (mst m l + n - 1) w f
  | .unt m n w, f, l => onBefore (mst m l + n - 1) w f
  | .date m n, _, l => mst m l + n - 1
  | .day n, _, _ => n
def k1 (y : Int) : Int := (ysOf y + 5) % 7
def dayIn (q : Yd) (y : Int) : Int := ysOf y + numIn q (k1 y) (leapB y)
theorem k1_bd (y : Int) : 0 ≤ k1 y ∧ k1 y < 7 := by unfold k1; omega
theorem ys_400 (y : Int) : ysOf (y + 400) = ysOf y + 146097 := by unfold ysOf lyb; omega
theorem leap_400 (y : Int) : leapB (y + 400) = leapB y := by
  have h1 : (y + 400) % 4 = y % 4 := by omega
  have h2 : (y + 400) % 100 = y % 100 := by omega
  have h3 : (y + 400) % 400 = y % 400 := by omega
  unfold leapB; rw [h1, h2, h3]
theorem k1_400 (y : Int) : k1 (y + 400) = k1 y := by unfold k1; rw [ys_400]; omega
theorem per_nat {α : Type} {f : Int → α} (h : ∀ y, f (y + 400) = f y) (y : Int) : ∀ n : Nat, f (y + 400 * (n : Int)) = f y
  | 0 => by simp
  | n + 1 => by
    have e : y + 400 * ((n + 1 : Nat) : Int) = (y + 400 * (n : Int)) + 400 := by omega
    rw [e, h, per_nat h y n]
theorem per_int {α : Type} {f : Int → α} (h : ∀ y, f (y + 400) = f y) (y z : Int) (e : (z - y) % 400 = 0) : f z = f y := by
  rcases Int.le_total y z with c | c
  · have := per_nat h y ((z - y) / 400).toNat
    rw [← this]; congr 1; omega
  · have := per_nat h z ((y - z) / 400).toNat
    rw [← this]; congr 1; omega
theorem all_kinds_nat : ∀ f : Fin 7, ∀ l : Bool, ∃ y : Fin 400, k1 (2000 + (y.val : Int)) = (f.val : Int) ∧ leapB (2000 + (y.val : Int)) = l := by decide +kernel
/-- every kind of year comes in 400 years from any year on -/
theorem kind_comes (y0 f : Int) (l : Bool) (h0 : 0 ≤ f) (h7 : f < 7) : ∃ y, y0 ≤ y ∧ y < y0 + 400 ∧ k1 y = f ∧ leapB y = l := by
  obtain ⟨y, e1, e2⟩ := all_kinds_nat ⟨f.toNat, by omega⟩ l
  refine ⟨y0 + (2000 + (y.val : Int) - y0) % 400, by omega, by omega, ?_, ?_⟩
  · rw [per_int k1_400 (2000 + (y.val : Int)) _ (by omega), e1]; simp; omega
  · rw [per_int leap_400 (2000 + (y.val : Int)) _ (by omega), e2]
/-- two yearly days differ in a year -/
def Apart (p q : Yd) (y : Int) : Prop := numIn p (k1 y) (leapB y) ≠ numIn q (k1 y) (leapB y)
instance (p q : Yd) (y : Int) : Decidable (Apart p q y) := inferInstanceAs (Decidable (_ ≠ _))
theorem apart_day (p q : Yd) (y : Int) : Apart p q y ↔ dayIn p y ≠ dayIn q y := by unfold Apart dayIn; omega
theorem apart_comm (p q : Yd) (y : Int) : Apart p q y ↔ Apart q p y := by unfold Apart; exact ne_comm
theorem apart_self (p : Yd) (y : Int) : ¬ Apart p p y := by unfold Apart; simp
theorem apart_400 (p q : Yd) (y : Int) : Apart p q (y + 400) = Apart p q y := by unfold Apart; rw [k1_400, leap_400]
/-- the least year at or above y with a difference, told by what is found in 400 years -/
structure Fst (p q : Yd) (y : Int) (r : Option Int) : Prop where
  yes : ∀ z, r = some z → y ≤ z ∧ z < y + 400 ∧ Apart p q z ∧ ∀ x, y ≤ x → x < z → ¬ Apart p q x
  no : r = none → ∀ x, y ≤ x → x < y + 400 → ¬ Apart p q x
theorem Fst.uniq {p q : Yd} {y : Int} {r s : Option Int} (a : Fst p q y r) (b : Fst p q y s) : r = s := by
  cases hr : r with
  | none =>
    cases hs : s with
    | none => rfl
    | some z => obtain ⟨h1, h2, h3, _⟩ := b.yes z hs; exact absurd h3 (a.no hr z h1 h2)
  | some x =>
    cases hs : s with
    | none => obtain ⟨h1, h2, h3, _⟩ := a.yes x hr; exact absurd h3 (b.no hs x h1 h2)
    | some z =>
      obtain ⟨a1, a2, a3, a4⟩ := a.yes x hr
      obtain ⟨b1, b2, b3, b4⟩ := b.yes z hs
      rcases Int.lt_trichotomy x z with c | c | c
      · exact absurd a3 (b4 x a1 c)
      · rw [c]
      · exact absurd b3 (a4 z b1 c)
theorem Fst.comm {p q : Yd} {y : Int} {r : Option Int} (a : Fst p q y r) : Fst q p y r :=
  ⟨fun z e => by obtain ⟨h1, h2, h3, h4⟩ := a.yes z e; exact ⟨h1, h2, (apart_comm _ _ _).mp h3, fun x x1 x2 k => h4 x x1 x2 ((apart_comm _ _ _).mp k)⟩,
   fun e x x1 x2 k => a.no e x x1 x2 ((apart_comm _ _ _).mp k)⟩
theorem Fst.self (p : Yd) (y : Int) : Fst p p y none := ⟨fun _ e => (nomatch e), fun _ x _ _ => apart_self p x⟩
theorem Fst.at {p q : Yd} {y z : Int} (a : Fst p q y (some z)) : Fst p q z (some z) := by
  obtain ⟨h1, h2, h3, h4⟩ := a.yes z rfl
  exact ⟨fun x e => by cases e; exact ⟨Int.le_refl _, by omega, h3, fun x x1 x2 => absurd x2 (by omega)⟩, fun e => (nomatch e)⟩
/-- the kinds of years, ascending -/
def kinds : List (Int × Bool) := [(0, false), (0, true), (1, false), (1, true), (2, false), (2, true), (3, false), (3, true), (4, false), (4, true), (5, false), (5, true), (6, false), (6, true)]
theorem mem_kinds {f : Int} (l : Bool) (h0 : 0 ≤ f) (h7 : f < 7) : (f, l) ∈ kinds := by
  have : f = 0 ∨ f = 1 ∨ f = 2 ∨ f = 3 ∨ f = 4 ∨ f = 5 ∨ f = 6 := by omega
  rcases this with h | h | h | h | h | h | h <;> subst h <;> cases l <;> decide
theorem kinds_mem {f : Int} {l : Bool} (h : (f, l) ∈ kinds) : 0 ≤ f ∧ f < 7 := by
  simp [kinds] at h; omega
/-- no difference for ever: the tables are alike -/
theorem tables_alike {p q : Yd} {y : Int} {r : Option Int} (a : Fst p q y r) : r = none ↔ ∀ k ∈ kinds, numIn p k.1 k.2 = numIn q k.1 k.2 := by
  constructor
  · intro e k hk
    obtain ⟨f, l⟩ := k
    obtain ⟨h0, h7⟩ := kinds_mem hk
    obtain ⟨x, x1, x2, ef, el⟩ := kind_comes y f l h0 h7
    have := a.no e x x1 x2
    unfold Apart at this
    rw [ef, el] at this
    exact Decidable.not_not.mp this
  · intro h
    cases e : r with
    | none => rfl
    | some z =>
      obtain ⟨_, _, h3, _⟩ := a.yes z e
      exact absurd (h (k1 z, leapB z) (mem_kinds _ (k1_bd z).1 (k1_bd z).2)) h3
/-! The law's way through the days. -/
def mdays (b : Int) (n : Nat) (w : Int) : List Int := ((List.range n).map fun i : Nat => b + i).filter fun d => decide ((d + 5) % 7 = w)
theorem mdays_succ (b : Int) (n : Nat) (w : Int) : mdays b (n + 1) w = mdays b n w ++ (if (b + n + 5) % 7 = w then [b + n] else []) := by
  unfold mdays
  rw [List.range_succ, List.map_append, List.filter_append]
  congr 1
  by_cases h : (b + n + 5) % 7 = w <;> simp [h]
/-- the first day at or above b with a weekday -/
def fstW (b w : Int) : Int := b + (w - (b + 5)) % 7
theorem mdays_eq (b w : Int) (hw : WD w) : ∀ n : Nat, mdays b n w = (List.range ((n + 6 - (fstW b w - b).toNat) / 7)).map fun i : Nat => fstW b w + 7 * i
  | 0 => by
    have h : (0 + 6 - (fstW b w - b).toNat) / 7 = 0 := by unfold fstW; omega
    rw [h]; rfl
  | n + 1 => by
    rw [mdays_succ, mdays_eq b w hw n]
    obtain ⟨w0, w6⟩ := hw
    have hf : 0 ≤ fstW b w - b ∧ fstW b w - b < 7 := by unfold fstW; omega
    have hm : (fstW b w + 5) % 7 = w := by unfold fstW; omega
    by_cases h : (b + n + 5) % 7 = w
    · rw [if_pos h]
      have e : (n + 1 + 6 - (fstW b w - b).toNat) / 7 = (n + 6 - (fstW b w - b).toNat) / 7 + 1 := by omega
      rw [e, List.range_succ, List.map_append]
      congr 1
      simp; omega
    · rw [if_neg h, List.append_nil]
      have e : (n + 1 + 6 - (fstW b w - b).toNat) / 7 = (n + 6 - (fstW b w - b).toNat) / 7 := by omega
      rw [e]
theorem mdays_get {b w : Int} (hw : WD w) {n : Nat} (hn : 28 ≤ n) {k : Nat} (hk : k < 4) : (mdays b n w)[k]? = some (fstW b w + 7 * k) := by
  rw [mdays_eq b w hw n, List.getElem?_map, List.getElem?_range (by unfold fstW; omega)]; rfl
theorem mdays_len {b w : Int} (hw : WD w) {n : Nat} (hn : 28 ≤ n) : 4 ≤ (mdays b n w).length := by
  rw [mdays_eq b w hw n]; simp; unfold fstW; omega
theorem mdays_last {b w : Int} (hw : WD w) {n : Nat} (hn : 28 ≤ n) : (mdays b n w)[(mdays b n w).length - 1]? = some (b + n - 1 - (b + n + 4 - w) % 7) := by
  have hl : (mdays b n w).length = (n + 6 - (fstW b w - b).toNat) / 7 := by rw [mdays_eq b w hw n]; simp
  rw [hl, mdays_eq b w hw n, List.getElem?_map, List.getElem?_range (by unfold fstW; omega)]
  obtain ⟨w0, w6⟩ := hw
  simp; unfold fstW; omega
theorem dayIn_nth (m k w y : Int) : dayIn (.nth m k w) y = ysOf y + (mst m (leapB y) + 7 * (k - 1) + (w - (ysOf y + 5) % 7 - (mst m (leapB y) + 7 * (k - 1))) % 7) := rfl
theorem dayIn_last (m w y : Int) : dayIn (.last m w) y = ysOf y + (mst m (leapB y) + mlen m (leapB y) - 1 - ((ysOf y + 5) % 7 + (mst m (leapB y) + mlen m (leapB y) - 1) - w) % 7) := rfl
theorem dayIn_frm (m n w y : Int) : dayIn (.frm m n w) y = ysOf y + (mst m (leapB y) + n - 1 + (w - (ysOf y + 5) % 7 - (mst m (leapB y) + n - 1)) % 7) := rfl
theorem dayIn_unt (m n w y : Int) : dayIn (.unt m n w) y = ysOf y + (mst m (leapB y) + n - 1 - ((ysOf y + 5) % 7 + (mst m (leapB y) + n - 1) - w) % 7) := rfl
theorem dayIn_date (m n y : Int) : dayIn (.date m n) y = ysOf y + (mst m (leapB y) + n - 1) := rfl
theorem dayIn_day (n y : Int) : dayIn (.day n) y = ysOf y + n := rfl
theorem nth_day {m k w y : Int} (h : (Yd.nth m k w).Ok) : fstW (ysOf y + mst m (leapB y)) w + 7 * (k - 1) = dayIn (.nth m k w) y := by
  rw [dayIn_nth]; unfold fstW; omega
theorem last_day {m w y : Int} : ysOf y + mst m (leapB y) + mlen m (leapB y) - 1 - (ysOf y + mst m (leapB y) + mlen m (leapB y) + 4 - w) % 7 = dayIn (.last m w) y := by
  rw [dayIn_last]; omega
theorem date_day {m n y : Int} : ysOf y + mst m (leapB y) + n - 1 = dayIn (.date m n) y := by rw [dayIn_date]; omega
/-- going forth to a weekday -/
theorem from_step {d w y m n : Int} (hw : WD w) (h1 : ysOf y + mst m (leapB y) + n - 1 ≤ d) (h2 : d ≤ dayIn (.frm m n w) y) (h3 : (d + 5) % 7 = w) : d = dayIn (.frm m n w) y := by
  obtain ⟨w0, w6⟩ := hw
  rw [dayIn_frm] at *; omega
theorem from_more {d w y m n : Int} (hw : WD w) (h1 : ysOf y + mst m (leapB y) + n - 1 ≤ d) (h2 : d ≤ dayIn (.frm m n w) y) (h3 : (d + 5) % 7 ≠ w) : d + 1 ≤ dayIn (.frm m n w) y := by
  obtain ⟨w0, w6⟩ := hw
  rw [dayIn_frm] at *; omega
theorem from_first {w y m n : Int} : ysOf y + mst m (leapB y) + n - 1 ≤ dayIn (.frm m n w) y ∧ dayIn (.frm m n w) y ≤ ysOf y + mst m (leapB y) + n - 1 + 6 := by
  rw [dayIn_frm]; omega
theorem until_step {d w y m n : Int} (hw : WD w) (h1 : d ≤ ysOf y + mst m (leapB y) + n - 1) (h2 : dayIn (.unt m n w) y ≤ d) (h3 : (d + 5) % 7 = w) : d = dayIn (.unt m n w) y := by
  obtain ⟨w0, w6⟩ := hw
  rw [dayIn_unt] at *; omega
theorem until_more {d w y m n : Int} (hw : WD w) (h1 : d ≤ ysOf y + mst m (leapB y) + n - 1) (h2 : dayIn (.unt m n w) y ≤ d) (h3 : (d + 5) % 7 ≠ w) : dayIn (.unt m n w) y ≤ d - 1 := by
  obtain ⟨w0, w6⟩ := hw
  rw [dayIn_unt] at *; omega
theorem until_first {w y m n : Int} : dayIn (.unt m n w) y ≤ ysOf y + mst m (leapB y) + n - 1 ∧ ysOf y + mst m (leapB y) + n - 1 - 6 ≤ dayIn (.unt m n w) y := by
  rw [dayIn_unt]; omega
end Cf
namespace Cf
open PySem L2
set_option hygiene false
local macro_rules | `(tactic| walk_at "len") => `(tactic| repeat (first | (obtain ⟨e, _⟩ := h; subst e; rfl; done) | (obtain ⟨_, h⟩ := h)))
local macro_rules | `(tactic| walk_at "rd") => `(tactic| repeat (first | refine ⟨_, rfl, ?_⟩ | refine ⟨_, _, rfl, rfl, ?_⟩ | refine ⟨rfl, ?_⟩ | refine ⟨_, _, rfl, ?_⟩))
local macro_rules | `(tactic| walk_at "yes") => `(tactic| (dsimp only [tYes]; rw [if_pos rfl]))
set_option hygiene true
section
variable {P : Program} {w : World} {K : PySem.W.Frag} {mg : Str → Option Value} {base : Heap}
/-! ### kind_of -/
def spKindOf : Sp := fun vs H Q _ => ∃ y : Int, vs = [.int y] ∧ ∀ (H' : Hp) (q : Addr), Same H H' → H q = none → H' q = some (.tup [.int (k1 y), .bl (leapB y)]) → Q (.ref q) H'
theorem scKindOf : FnScope ["year"] ["year"] (defScope sKindOf) := ⟨rfl, rfl, rfl, by decide +kernel, rfl, by decide +kernel, by decide +kernel⟩
theorem ok_kindof {f : Addr} {fd : FuncData} (F : Fun K "kind_of" "kind_of" sKindOf f fd) (D_check_number : Df P w K mg base 2 "check_number" ["value", "least"] [.non] spCheck) (D_weekday : Df P w K mg base 3 "weekday" ["day"] [] spWeekday) (D_year_start : Df P w K mg base 3 "year_start" ["year"] [] spYs) (D_is_leap : Df P w K mg base 3 "is_leap" ["year"] [] spLeap) : FnOk P w K mg base CX0 4 f fd ["year"] spKindOf := by
  refine F.ok scKindOf (fun vs H Q E h => ?_) (fun cdv A outer s H vs Q E hr h => ?_)
  · obtain ⟨_, rfl, _⟩ := h
    rfl
  · obtain ⟨y, rfl, k⟩ := h
    refine ⟨_, (pss_cons (ps_expr (pe_df D_check_number (hr.mono (by decide)) (pa_cons (pv 0) pa_nil)))
      (pss_one (ps_ret (pe_tup (pa_cons (pe_df D_weekday (hr.mono (by decide)) (pa_cons (pe_df D_year_start (hr.mono (by decide)) (pa_cons (pv 0) pa_nil)) pa_nil)) (pa_cons (pe_df D_is_leap (hr.mono (by decide)) (pa_cons (pv 0) pa_nil)) pa_nil)))))), ?_⟩
    walk_at "rd"
    exact ⟨by show 2 ≤ sizeLine; decide, fun q hq => k _ q (Same.new hq) hq (by rw [upd_same]; rfl)⟩
end
end Cf
/-! Own layer: dicts whose keys are tuples of numbers and truths. -/
namespace Cf
open PySem PySem.Spec PyProof.Rows L2
/-- an entry: the tuple at hand, the numbers that it holds (a truth as 0 or 1), the value -/
abbrev Ent := Addr × List Int × V
def nkey (k : List Int) : NestedKey := .tup (k.map .num)
theorem nums_inj : ∀ {a b : List Int}, a.map NestedKey.num = b.map NestedKey.num → a = b
  | [], [], _ => rfl
  | [], _ :: _, h => nomatch h
  | _ :: _, [], h => nomatch h
  | x :: a, y :: b, h => by
    rw [List.map_cons, List.map_cons] at h
    injection h with h1 h2
    injection h1 with h1
    rw [h1, nums_inj h2]
theorem nkey_inj {a b : List Int} (h : nkey a = nkey b) : a = b := by
  unfold nkey at h
  injection h with h
  exact nums_inj h
inductive NumV : V → Int → Prop
  | int (i : Int) : NumV (.int i) i
  | bl (b : Bool) : NumV (.bl b) (if b = true then 1 else 0)
/-- a tuple of numbers and truths -/
def KeyAt (H : Hp) (q : Addr) (k : List Int) : Prop := k.length ≤ 8 ∧ ∃ vs : List V, H q = some (.tup vs) ∧ Paired NumV vs k
theorem KeyAt.same {H H' : Hp} {q : Addr} {k : List Int} (h : KeyAt H q k) (e : Same H H') : KeyAt H' q k := ⟨h.1, h.2.choose, e _ _ h.2.choose_spec.1, h.2.choose_spec.2⟩
def EntRel (x : Ent) (y : NestedKey × Addr × Value) : Prop := y.1 = nkey x.2.1 ∧ y.2.1 = x.1 ∧ RelV x.2.2 y.2.2
def KObj (P : Program) (w : World) (h : Heap) (a : Addr) (xs : List Ent) : Prop :=
  ∃ (o : Obj) (es : Array DictEntry) (ep : Nat) (ys : List (NestedKey × Addr × Value)), h.get? a = some o ∧ o.ExactDict ∧ o.data = .dict es ep ∧ es.toList = ys.map (entryOfKey (nestedKind P w)) ∧ Paired EntRel xs ys
def KDo (P : Program) (w : World) (a : Addr) (xs : List Ent) : HO := .ext fun h => (a == sysModules) = false ∧ (xs.map fun x => x.2.1).Nodup ∧ xs.length ≤ sizeLine ∧ KObj P w h a xs
def KeysAt (H : Hp) (xs : List Ent) : Prop := ∀ x ∈ xs, KeyAt H x.1 x.2.1
theorem KeysAt.same {H H' : Hp} {xs : List Ent} (h : KeysAt H xs) (e : Same H H') : KeysAt H' xs := fun x hx => (h x hx).same e
section
variable {P : Program} {w : World} {H : Hp} {h : Heap} {a : Addr} {xs : List Ent}
theorem kdo_new (n : (a == sysModules) = false) (nd : (xs.map fun x => x.2.1).Nodup) (sz : xs.length ≤ sizeLine) (k : KObj P w h a xs) : ObjOk P w H h a (KDo P w a xs) := by
  refine ⟨⟨n, nd, sz, k⟩, ?_, ?_⟩
  · obtain ⟨o, _, _, _, e, _⟩ := k
    exact ⟨o, e⟩
  · rintro h1 h2 ⟨n, nd, sz, o, es, ep, ys, e, r⟩ k
    exact ⟨n, nd, sz, o, es, ep, ys, k _ e, r⟩
end
theorem num_nested {h : Heap} {v : V} {i : Int} {u : Value} (n : NumV v i) (r : RelV v u) : NestedIs h (.num i) u := by
  cases n with
  | int i =>
    obtain ⟨t, rfl⟩ := (show ∃ t, u = Value.int i t from r)
    exact .int i t
  | bl b =>
    cases (show u = Value.bool b from r)
    exact .bool rfl
theorem nested_all {h : Heap} : ∀ {vs : List V} {k : List Int} {us : List Value}, Paired NumV vs k → Vals vs us → NestedAll h (k.map .num) us
  | _, _, _, .nil, .nil => .nil
  | _, _, _, .cons n ns, .cons r rs => .cons (num_nested n r) (nested_all ns rs)
theorem depthAll_nums : ∀ k : List Int, NestedKey.depthAll (k.map .num) = 0
  | [] => NestedKey.depthAll.eq_1
  | i :: k => by rw [List.map_cons, NestedKey.depthAll.eq_2, depthAll_nums k]; rfl
theorem depth_nums (k : List Int) : NestedKey.depth (nkey k) ≤ 8 := by
  unfold nkey
  rw [NestedKey.depth.eq_4, depthAll_nums]
  decide
theorem paired_mem {α β : Type} {R : α → β → Prop} : ∀ {xs : List α} {ys : List β}, Paired R xs ys → ∀ y ∈ ys, ∃ x ∈ xs, R x y
  | _, _, .nil, y, h => nomatch h
  | _, _, .cons r rs, y, h => by
    rcases List.mem_cons.mp h with h | h
    · subst h; exact ⟨_, List.mem_cons_self, r⟩
    · obtain ⟨x, hx, q⟩ := paired_mem rs y h
      exact ⟨x, List.mem_cons_of_mem _ hx, q⟩
theorem ent_keys : ∀ {xs : List Ent} {ys : List (NestedKey × Addr × Value)}, Paired EntRel xs ys → ys.map (·.1) = xs.map fun x => nkey x.2.1
  | _, _, .nil => rfl
  | _, _, .cons r rs => by rw [List.map_cons, List.map_cons, ent_keys rs, r.1]
theorem nodup_keys {xs : List Ent} (h : (xs.map fun x => x.2.1).Nodup) : (xs.map fun x => nkey x.2.1).Nodup := by
  induction xs with
  | nil => exact List.nodup_nil
  | cons x xs ih =>
    rw [List.map_cons, List.nodup_cons] at h ⊢
    refine ⟨fun m => h.1 ?_, ih h.2⟩
    obtain ⟨y, hy, e⟩ := List.mem_map.mp m
    exact List.mem_map.mpr ⟨y, hy, nkey_inj e⟩
theorem paired_snoc {α β : Type} {R : α → β → Prop} : ∀ {xs : List α} {ys : List β} {x : α} {y : β}, Paired R xs ys → R x y → Paired R (xs ++ [x]) (ys ++ [y])
  | _, _, _, _, .nil, r => .cons r .nil
  | _, _, _, _, .cons a b, r => .cons a (paired_snoc b r)
/-- the value at a key -/
def valK (xs : List Ent) (k : List Int) : Option V := (xs.find? fun x => decide (x.2.1 = k)).map fun x => x.2.2
theorem ent_find : ∀ {xs : List Ent} {ys : List (NestedKey × Addr × Value)} {k : List Int}, Paired EntRel xs ys → (valK xs k = none ∧ atKey ys (nkey k) = none) ∨ ∃ z p, valK xs k = some z ∧ atKey ys (nkey k) = some p ∧ RelV z p.2
  | _, _, k, .nil => .inl ⟨rfl, rfl⟩
  | x :: xs, y :: ys, k, .cons r rs => by
    have ih := ent_find (k := k) rs
    unfold valK atKey at ih ⊢
    by_cases c : x.2.1 = k
    · have c2 : y.1 = nkey k := by rw [r.1, c]
      rw [List.find?_cons_of_pos (by simpa using c), List.find?_cons_of_pos (by simpa using c2)]
      exact .inr ⟨_, _, rfl, rfl, r.2.2⟩
    · have c2 : ¬ y.1 = nkey k := fun e => c (nkey_inj (by rw [← r.1, e]))
      rw [List.find?_cons_of_neg (by simpa using c), List.find?_cons_of_neg (by simpa using c2)]
      exact ih
theorem valK_none {xs : List Ent} {k : List Int} (h : k ∉ xs.map fun x => x.2.1) : valK xs k = none := by
  unfold valK
  rw [List.find?_eq_none.mpr]
  · rfl
  · intro x hx e
    exact h (List.mem_map.mpr ⟨x, hx, by simpa using e⟩)
section
variable {X : Cx} {pins : List (Addr × Obj)} {σ : L2.St} {H : Hp} {s : Shared}
theorem KeyAt.is (I : Inv X pins σ H s) {q : Addr} {k : List Int} (h : KeyAt H q k) : (nestedKind X.prog X.w).is s.heap (nkey k) q := by
  obtain ⟨_, vs, hq, n⟩ := h
  obtain ⟨its, rv, ⟨o, e1, e2, m, e3⟩, _⟩ := I.tuple (SqT.of hq)
  exact ⟨.tup e1 e2 e3 (nested_all n rv), depth_nums k⟩
theorem kdo_get (I : Inv X pins σ H s) {a : Addr} {xs : List Ent} (ha : H a = some (KDo X.prog X.w a xs)) (hk : KeysAt H xs) :
    (a == sysModules) = false ∧ (xs.map fun x => x.2.1).Nodup ∧ xs.length ≤ sizeLine ∧ ∃ ys, Paired EntRel xs ys ∧ Heap.DictOfH (nestedKind X.prog X.w) s.heap a ys := by
  obtain ⟨n, nd, sz, o, es, ep, ys, e1, e2, e3, e4, e5⟩ := (I.hok a _ ha).1
  refine ⟨n, nd, sz, ys, e5, o, es, ep, e1, e2, e3, e4, ?_, ?_⟩
  · intro y hy
    obtain ⟨x, hx, r1, r2, _⟩ := paired_mem e5 y hy
    rw [r1, r2]
    exact (hk x hx).is I
  · rw [ent_keys e5]
    exact nodup_keys nd

theorem k_dictSet {E : Value → Shared → Prop} {D q : Addr} {xs : List Ent} {k : List Int} {z : V} {r : Value} {Q : Unit → Shared → Prop} (hu : X.A.units + 8 < cLine) (I : Inv X pins σ H s) (hD : H D = some (KDo X.prog X.w D xs)) (hk : KeysAt H xs) (hz : xs.length < sizeLine) (ky : KeyAt H q k) (new : k ∉ xs.map fun x => x.2.1) (rv : RelV z r)
    (h : ∀ s', Inv X pins σ (upd H D (KDo X.prog X.w D (xs ++ [(q, k, z)]))) s' → Q () s') : wpAny (model X.prog X.w) X.A (dictSet D (.ref q) r) Q E s := by
  obtain ⟨n, nd, sz, ys, e5, dd⟩ := kdo_get I hD hk
  have none : atKey ys (nkey k) = none := by
    rcases ent_find (k := k) e5 with ⟨_, q⟩ | ⟨z, p, q, _⟩
    · exact q
    · rw [valK_none new] at q; cases q
  have st : storedH ys (nkey k) q r = ys ++ [(nkey k, q, r)] := by
    unfold storedH
    rw [none]
    rfl
  refine wpAny_dictSet_heap (knd := nestedKind X.prog X.w) hu (ky.is I) dd (fun h' dd' hs => h _ ?_) (by rw [← e5.length]; exact sz)
  rw [st] at dd'
  obtain ⟨o, es, ep, e1, e2, e3, e4, _⟩ := dd'
  refine d_write I (by rw [hD]; exact trivial) hs ⟨o, e1⟩ (kdo_new n ?_ ?_ ⟨o, es, ep, _, e1, e2, e3, e4, paired_snoc e5 ⟨rfl, rfl, rv⟩⟩)
  · rw [List.map_append, List.nodup_append]
    refine ⟨nd, by simp, ?_⟩
    intro a ha b hb
    simp only [List.map_cons, List.map_nil, List.mem_singleton] at hb
    subst hb
    intro e
    subst e
    exact new ha
  · rw [List.length_append, List.length_singleton]; omega
end
/-! ### d[k] -/
def rIxK (P : Program) (w : World) : R2 := fun x y H Q => ∃ (a : Addr) (xs : List Ent) (q : Addr) (k : List Int) (z : V), x = .ref a ∧ y = .ref q ∧ H a = some (KDo P w a xs) ∧ KeysAt H xs ∧ KeyAt H q k ∧ valK xs k = some z ∧ Q z H
theorem k_getItem {X : Cx} {pins : List (Addr × Obj)} {σ : L2.St} {H : Hp} {s : Shared} {a q : Addr} {xs : List Ent} {k : List Int} {z : V} {Q : Value → Shared → Prop} {E : Value → Shared → Prop} (hu : X.A.units + 10 < cLine) (I : Inv X pins σ H s) (ha : H a = some (KDo X.prog X.w a xs)) (hk : KeysAt H xs) (ky : KeyAt H q k) (hv : valK xs k = some z)
    (h : ∀ u s', Inv X pins σ H s' → RelV z u → Q u s') : wpAny (model X.prog X.w) X.A (getItem (.ref a) (.ref q)) Q E s := by
  obtain ⟨n, nd, sz, ys, e5, dd⟩ := kdo_get I ha hk
  rcases ent_find (k := k) e5 with ⟨w, _⟩ | ⟨z', p, w, w2, rz⟩
  · rw [w] at hv; cases hv
  · rw [w] at hv
    cases hv
    refine wpAny_getItem_heap (knd := nestedKind X.prog X.w) (show X.A.in1.units + 8 < cLine by show X.A.units + 1 + 8 < cLine; omega) (ky.is I) dd w2 (h _ _ ?_ rz)
    exact I.tok _
end Cf
set_option maxHeartbeats 4000000
/-! Own layer: sets of tuples of numbers and truths, made of lists of any length that hold few of them. -/
namespace Cf
open PySem PySem.Spec PyProof.Rows L2
/-- at b stands a tuple of these numbers and truths -/
def AtN (h : Heap) (k : List Int) (b : Addr) : Prop := ∃ (o : Obj) (us : Array Value) (n : Nat), h.get? b = some o ∧ o.cls = .type "tuple" ∧ o.data = .seq us n ∧ NestedAll h (k.map .num) us.toList
theorem plain_all {h : Heap} : ∀ {k : List Int} {us : List Value}, NestedAll h (k.map .num) us → ∀ u ∈ us, (∃ i t, u = Value.int i t) ∨ ∃ c, u = Value.bool c
  | [], _, .nil, u, m => nomatch m
  | i :: k, _, .cons (v := v) r rs, u, m => by
    rcases List.mem_cons.mp m with rfl | m
    · cases r with
      | bool _ => exact .inr ⟨_, rfl⟩
      | int _ t => exact .inl ⟨_, _, rfl⟩
    · exact plain_all rs u m
theorem all_any {h h' : Heap} : ∀ {k : List Int} {us : List Value}, NestedAll h (k.map .num) us → NestedAll h' (k.map .num) us
  | [], _, .nil => .nil
  | i :: k, _, .cons r rs => .cons (by cases r with | bool e => exact .bool e | int _ t => exact .int _ t) (all_any rs)
theorem AtN.keep {h h' : Heap} {k : List Int} {b : Addr} (x : AtN h k b) (kk : ∀ o, h.get? b = some o → h'.get? b = some o) : AtN h' k b := by
  obtain ⟨o, us, n, e1, e2, e3, r⟩ := x
  exact ⟨o, us, n, kk _ e1, e2, e3, all_any r⟩
theorem AtN.other {h h' : Heap} {k : List Int} {a b : Addr} {o : Obj} {es : Array (Int × Value)} {ep : Nat} {t : SetTable} (x : AtN h k b) (ho : h.get? a = some o) (hd : o.data = .set es ep t) (sb : Heap.SameBut a h h') : AtN h' k b := by
  refine x.keep fun u hu => ?_
  obtain ⟨o1, us, n, e1, _, e3, _⟩ := x
  have ne : b ≠ a := fun z => by
    subst z
    rw [ho] at e1
    cases e1
    rw [hd] at e3
    cases e3
  rw [sb.2 b ne]; exact hu
section
variable {P : Program} {w : World} {A : Around} {E : Value → Shared → Prop} {s : Shared}
theorem AtN.is {h : Heap} {k : List Int} {b : Addr} (x : AtN h k b) : (nestedKind P w).is h (nkey k) b := by
  obtain ⟨o, us, n, e1, e2, e3, r⟩ := x
  exact ⟨.tup e1 e2 e3 r, depth_nums k⟩
theorem hashes_nums : ∀ k : List Int, NestedKey.hashes w (k.map .num) = k.map (intKind P w).hash
  | [] => by rw [List.map_nil, NestedKey.hashes]; rfl
  | i :: k => by
    rw [List.map_cons, NestedKey.hashes, hashes_nums k, List.map_cons]
    rfl
theorem hash_nums (k : List Int) : (nkey k).hash w = thash P w k := by
  unfold nkey
  rw [NestedKey.hash]
  rw [hashes_nums (P := P)]
  rfl
theorem hash_at {k : List Int} {b : Addr} {Q : Int → Shared → Prop} (x : AtN s.heap k b) (hu : A.units + 8 < cLine) (q : Q (thash P w k) { s with toks := s.toks + (nkey k).draws }) : wpAny (model P w) A (pyHash (.ref b)) Q E s :=
  (nestedKind P w).pyHash hu x.is (by rw [← hash_nums (w := w) k] at q; exact q)
theorem eq_at {k j : List Int} {b c : Addr} {Q : Bool → Shared → Prop} (x : AtN s.heap k b) (y : AtN s.heap j c) (hu : A.units + 8 < cLine) (q : Q (decide (k = j)) s) : wpAny (model P w) A (eqBool (.ref b) (.ref c)) Q E s :=
  (nestedKind P w).eqBool hu x.is y.is (by rw [decide_eq_decide.mpr (show nkey k = nkey j ↔ k = j from ⟨nkey_inj, fun e => by rw [e]⟩)]; exact q)
theorem AtN.ty {k : List Int} {b : Addr} (x : AtN s.heap k b) : s.TypeIs (.ref b) "tuple" := by
  obtain ⟨o, _, _, e1, e2, _⟩ := x
  exact ⟨o, e1, e2⟩
theorem oneClass (n : Nat) {u : Value} (h : (∃ i t, u = Value.int i t) ∨ ∃ c, u = Value.bool c) : ofAClassStatement n u = pure false := by
  rcases h with ⟨i, t, rfl⟩ | ⟨c, rfl⟩ <;> cases n <;> rfl
theorem oneHash (n : Nat) {u : Value} (h : (∃ i t, u = Value.int i t) ∨ ∃ c, u = Value.bool c) : hashByValue n u = pure true := by
  rcases h with ⟨i, t, rfl⟩ | ⟨c, rfl⟩ <;> cases n <;> rfl
theorem class_at {k : List Int} {b : Addr} {Q : Bool → Shared → Prop} (x : AtN s.heap k b) (q : Q false s) : wpAny (model P w) A (ofAClassStatement 8 (.ref b)) Q E s := by
  have ty := x.ty
  obtain ⟨o, us, n, e1, _, e3, r⟩ := x
  have pl := plain_all r
  unfold ofAClassStatement
  refine wpAny_bind (wpAny_typeOf ty ?_)
  dsimp only
  simp only [show (("tuple" : String) == "tuple") = true from by decide, if_true, Bool.not_true, Bool.false_eq_true, if_false]
  show wpAny _ _ (seqItems? (.ref b) >>= _) _ _ s
  refine wpAny_bind (wpAny_seqItems e1 e3 ?_)
  dsimp only
  refine wpAny_bind ?_
  show wpAny _ _ (forIn us _ _) _ _ s
  rw [← Array.forIn_toList]
  refine wpAny_forIn_list _ (fun left r s2 => r.1 = none ∧ s2 = s ∧ ∀ u ∈ left, (∃ i t, u = Value.int i t) ∨ ∃ c, u = Value.bool c) _ ?_ ?_ _ _ ⟨rfl, rfl, pl⟩
  · rintro u left r s2 ⟨_, rfl, al⟩
    rw [oneClass _ (al u List.mem_cons_self)]
    refine wpAny_bind (wpAny_pure ?_)
    simp only [Bool.false_eq_true, if_false]
    exact wpAny_pure ⟨rfl, rfl, fun v hv => al v (List.mem_cons_of_mem _ hv)⟩
  · rintro ⟨r1, r2⟩ s2 ⟨e, rfl, _⟩
    simp only at e
    subst e
    exact wpAny_pure q
theorem byv_at {k : List Int} {b : Addr} {Q : Bool → Shared → Prop} (x : AtN s.heap k b) (q : Q true s) : wpAny (model P w) A (hashByValue 8 (.ref b)) Q E s := by
  have ty := x.ty
  obtain ⟨o, us, n, e1, _, e3, r⟩ := x
  have pl := plain_all r
  unfold hashByValue
  refine wpAny_bind (wpAny_specialOf ty F.slot_tuple_hash.lookup ?_)
  show wpAny _ _ (seqItems? (.ref b) >>= _) _ _ s
  refine wpAny_bind (wpAny_seqItems e1 e3 ?_)
  refine wpAny_bind ?_
  show wpAny _ _ (forIn us _ _) _ _ s
  rw [← Array.forIn_toList]
  refine wpAny_forIn_list _ (fun left r s2 => r.1 = none ∧ s2 = s ∧ ∀ u ∈ left, (∃ i t, u = Value.int i t) ∨ ∃ c, u = Value.bool c) _ ?_ ?_ _ _ ⟨rfl, rfl, pl⟩
  · rintro u left r s2 ⟨_, rfl, al⟩
    rw [oneHash _ (al u List.mem_cons_self)]
    refine wpAny_bind (wpAny_pure ?_)
    simp only [Bool.not_true, Bool.false_eq_true, if_false]
    exact wpAny_pure ⟨rfl, rfl, fun v hv => al v (List.mem_cons_of_mem _ hv)⟩
  · rintro ⟨r1, r2⟩ s2 ⟨e, rfl, _⟩
    simp only at e
    subst e
    exact wpAny_pure q
theorem seen_at {k : List Int} {b : Addr} {Q : Bool → Shared → Prop} (x : AtN s.heap k b) {vs : List Value} (hv : ∀ v ∈ vs, ∃ j c, v = Value.ref c ∧ AtN s.heap j c) (q : Q false s) : wpAny (model P w) A (searchCouldBeSeen (.ref b) vs) Q E s := by
  unfold searchCouldBeSeen
  refine wpAny_bind ?_
  refine wpAny_forIn_list _ (fun left r s2 => r.1 = none ∧ s2 = s ∧ ∀ v ∈ left, ∃ j c, v = Value.ref c ∧ AtN s.heap j c) _ ?_ ?_ _ _ ⟨rfl, rfl, hv⟩
  · rintro v left r s2 ⟨_, rfl, al⟩
    obtain ⟨j, c, rfl, y⟩ := al v List.mem_cons_self
    have al2 : ∀ v ∈ left, ∃ j c, v = Value.ref c ∧ AtN s2.heap j c := fun v hv => al v (List.mem_cons_of_mem _ hv)
    dsimp only
    by_cases e : (b == c || (carriedByValue (.ref b) && carriedByValue (.ref c))) = true
    · exact wp_if_pos e (wpAny_pure ⟨rfl, rfl, al2⟩)
    · refine wp_if_neg e (wpAny_bind ((nestedKind P w).quiet x.is ?_))
      simp only [Bool.not_true, Bool.false_eq_true, if_false]
      refine wpAny_bind ((nestedKind P w).quiet y.is ?_)
      simp only [Bool.not_true, Bool.false_eq_true, if_false]
      refine wpAny_bind (class_at x ?_)
      simp only [Bool.false_eq_true, if_false]
      refine wpAny_bind (class_at y ?_)
      simp only [Bool.false_eq_true, if_false]
      exact wpAny_pure ⟨rfl, rfl, al2⟩
  · rintro ⟨r1, r2⟩ s2 ⟨e, rfl, _⟩
    simp only at e
    subst e
    exact wpAny_pure q
end
/-! ### the set -/
structure SetN (P : Program) (w : World) (h : Heap) (a : Addr) (L : List (Addr × List Int)) (es : Array (Int × Value)) (ep : Nat) (t : SetTable) : Prop where
  obj : ∃ o, h.get? a = some o ∧ o.ExactSet ∧ o.data = .set es ep t
  row : es.toList = rowsOf P w L
  tab : TabOk t (L.map fun p => thash P w p.2)
  ndp : (L.map (·.2)).Nodup
  ats : ∀ p ∈ L, AtN h p.2 p.1
  pln : t.plain = true
  ldd : w.params.followText "set-order" = true ∨ t.led = true
  rm : L.length * 5 < t.mask * 3
  fw : L.length < 64
theorem rows_len {P : Program} {w : World} {L : List (Addr × List Int)} {es : Array (Int × Value)} (e : es.toList = rowsOf P w L) : es.size = L.length := by
  have := congrArg List.length e
  unfold rowsOf at this
  simpa using this
theorem row_get {P : Program} {w : World} {L : List (Addr × List Int)} {es : Array (Int × Value)} (e : es.toList = rowsOf P w L) {i : Nat} {p : Addr × List Int} (hp : L[i]? = some p) : es[i]? = some (thash P w p.2, Value.ref p.1) := by
  rw [← Array.getElem?_toList, e]
  unfold rowsOf
  rw [List.getElem?_map, hp]
  rfl
section
variable {P : Program} {w : World} {A : Around} {E : Value → Shared → Prop} {s : Shared} {a : Addr} {L : List (Addr × List Int)} {es : Array (Int × Value)} {ep : Nat} {t : SetTable}
theorem SetN.fit (N : SetN P w s.heap a L es ep t) : t.fits es.size = true := by
  have h1 := N.tab.sz
  rw [List.length_map] at h1
  have h2 := rows_len N.row
  have h3 := N.rm
  unfold SetTable.fits SetTable.fill
  rw [N.tab.dm, Bool.and_eq_true, beq_iff_eq, decide_eq_true_eq]
  show t.place.size = es.size ∧ t.place.size + 0 ≤ t.mask
  omega
theorem dummy_none (m : Nat) : ∀ (n : Nat) (p : SetTable.Probe), p.dummy = none → (nth m p n).dummy = none
  | 0, _, e => e
  | n + 1, p, e => dummy_none m n (adv m p) (by unfold adv; split <;> exact e)
/-- one look along the way -/
theorem look_on (N : SetN P w s.heap a L es ep t) {x : Addr} {k : List Int} (hx : AtN s.heap k x) (hu : A.units + 8 < cLine) {Z : Nat} (z1 : Z < 10 * SetTable.turns t.mask)
    (z2 : way t.mask (thash P w k) Z ∉ t.place.toList) (z3 : ∀ c, c < Z → way t.mask (thash P w k) c ∈ t.place.toList) {Q : SetFound → Shared → Prop}
    (yes : k ∈ L.map (·.2) → Q (.there none) s) (no : k ∉ L.map (·.2) → Q (.free (way t.mask (thash P w k) Z) false) s) :
    ∀ (f c : Nat) (st : Option SetTable.Probe), c ≤ Z → Z - c < f → st.getD (t.probeStart (thash P w k)) = nth t.mask (runAt t.mask (SetTable.bits (thash P w k) % (t.mask + 1)) (SetTable.bits (thash P w k))) c →
      (∀ (i : Nat) p, L[i]? = some p → p.2 = k → ∃ d, c ≤ d ∧ d < Z ∧ t.place.toList[i]? = some (way t.mask (thash P w k) d)) →
      wpAny (model P w) A (setSearchFrom a (.ref x) (thash P w k) true f st) Q E s
  | 0, c, _, _, lt, _, _ => absurd lt (Nat.not_lt_zero _)
  | f + 1, c, st, le, lt, est, mine => by
    obtain ⟨o, ho, hex, hd⟩ := N.obj
    have odd : ¬ t.gaveWay = true := by
      unfold SetTable.gaveWay
      rw [mask_odd N.tab.mok]
      decide
    rw [setSearchFrom_succ]
    refine wpAny_bind (wpAny_setState_of ho hd N.fit ?_)
    dsimp only
    refine wp_if_neg odd ?_
    try refine wpAny_bind (wpAny_pure ?_)
    have dn := dummy_none t.mask c (runAt t.mask (SetTable.bits (thash P w k) % (t.mask + 1)) (SetTable.bits (thash P w k))) rfl
    have step : ∀ q, nth t.mask (nth t.mask (runAt t.mask (SetTable.bits (thash P w k) % (t.mask + 1)) (SetTable.bits (thash P w k))) c) q = nth t.mask (runAt t.mask (SetTable.bits (thash P w k) % (t.mask + 1)) (SetTable.bits (thash P w k))) (c + q) := fun q => (nth_add t.mask c _ q).symm
    have stepj : ∀ q, (nth t.mask (nth t.mask (runAt t.mask (SetTable.bits (thash P w k) % (t.mask + 1)) (SetTable.bits (thash P w k))) c) q).j = way t.mask (thash P w k) (c + q) := fun q => by rw [step q]
    have hat : ∀ (i : Nat) p, L[i]? = some p → (fun i => (es[i]?.map (·.1)).getD 0) i = thash P w p.2 := fun i p hp => by
      show (es[i]?.map (·.1)).getD 0 = _
      rw [row_get N.row hp]
      rfl
    rcases go_spec t N.tab.ris N.tab.dm (fun i => (es[i]?.map (·.1)).getD 0) (thash P w k) (10 * SetTable.turns t.mask) (Z - c) _ dn (by omega)
      (fun q hq => by rw [stepj]; exact z3 (c + q) (by omega)) (by rw [stepj, show c + (Z - c) = Z by omega]; exact z2) with ⟨q, i, hq, hi, _, before, met⟩ | ⟨before, met⟩
    · have met2 : t.probe (fun i => (es[i]?.map (·.1)).getD 0) (thash P w k) (st.getD (t.probeStart (thash P w k))) = some (.candidate (way t.mask (thash P w k) (c + q)) i (nth t.mask (runAt t.mask (SetTable.bits (thash P w k) % (t.mask + 1)) (SetTable.bits (thash P w k))) (c + (q + 1)))) := by
        rw [est, ← stepj, ← step]
        exact met
      rw [met2]
      dsimp only
      rw [stepj] at hi
      have ilt : i < L.length := by
        have h1 : i < t.place.toList.length := (List.getElem?_eq_some_iff.mp hi).1
        have h2 := N.tab.sz
        rw [List.length_map] at h2
        rw [Array.length_toList] at h1
        omega
      obtain ⟨p, hp⟩ : ∃ p, L[i]? = some p := ⟨_, List.getElem?_eq_getElem ilt⟩
      have pm : p ∈ L := List.mem_of_getElem? hp
      have tail : wpAny (model P w) A (searchRest a (.ref x) (thash P w k) true f es t (way t.mask (thash P w k) (c + q)) i (nth t.mask (runAt t.mask (SetTable.bits (thash P w k) % (t.mask + 1)) (SetTable.bits (thash P w k))) (c + (q + 1)))) Q E s := by
        unfold searchRest
        rw [row_get N.row hp]
        dsimp only
        refine wpAny_bind (wpAny_holding (eq_at (N.ats p pm) hx hu ?_))
        refine wpAny_bind (wpAny_setState_of ho hd N.fit ?_)
        dsimp only
        by_cases same : p.2 = k
        · exact wp_if_pos (by simp [same]) (wpAny_pure (yes (List.mem_map.mpr ⟨p, pm, same⟩)))
        · refine wp_if_neg (by simp [same]) ?_
          try refine wpAny_bind (wpAny_pure ?_)
          rw [sameMem]
          dsimp only
          have live : t.slot (way t.mask (thash P w k) (c + q)) = .live i := slot_live N.tab.ris hi
          simp only [if_true, live, row_get N.row hp]
          refine wpAny_bind (wpAny_isSame_ref_self (wpAny_bind (wpAny_pure ?_)))
          simp only [if_true]
          refine wp_if_neg (by simp [same]) ?_
          refine look_on N hx hu z1 z2 z3 yes no f (c + (q + 1)) _ (by omega) (by omega) rfl fun i2 p2 h2 k2 => ?_
          obtain ⟨d, d1, d2, d3⟩ := mine i2 p2 h2 k2
          refine ⟨d, ?_, d2, d3⟩
          rcases Nat.lt_trichotomy d (c + q) with lt2 | eq2 | gt2
          · exact absurd ((hat i2 p2 h2).trans (congrArg (thash P w) k2)) (before (d - c) i2 (by omega) (by rw [stepj, show c + (d - c) = d by omega]; exact d3))
          · subst eq2
            have l2 := slot_live N.tab.ris d3
            rw [live] at l2
            injection l2 with l2
            rw [← l2, hp] at h2
            cases h2
            exact absurd k2 same
          · omega
      by_cases ld : t.led = true
      · refine wp_if_neg (by simp [ld]) ?_
        try refine wpAny_bind (wpAny_pure ?_)
        exact tail
      · refine wp_if_pos (by simp [ld]) (wpAny_bind (seen_at hx (fun y hy => ?_) ?_))
        · obtain ⟨e, he, rfl⟩ := List.mem_map.mp hy
          have he2 : e ∈ es.toList := by
            have : e ∈ es ∧ e.1 = thash P w k := by simpa using he
            simpa using this.1
          rw [N.row] at he2
          obtain ⟨p2, hp2, rfl⟩ := List.mem_map.mp he2
          exact ⟨p2.2, p2.1, rfl, N.ats p2 hp2⟩
        · refine wp_if_neg (by decide) ?_
          try refine wpAny_bind (wpAny_pure ?_)
          exact tail
    · have met2 : t.probe (fun i => (es[i]?.map (·.1)).getD 0) (thash P w k) (st.getD (t.probeStart (thash P w k))) = some (.empty (way t.mask (thash P w k) Z) none) := by
        have := stepj (Z - c)
        rw [show c + (Z - c) = Z by omega] at this
        rw [est, ← this]
        exact met
      rw [met2]
      dsimp only
      refine wpAny_pure (no fun m => ?_)
      obtain ⟨p2, h2, k2⟩ := List.mem_map.mp m
      obtain ⟨i2, hi2⟩ := List.mem_iff_getElem?.mp h2
      obtain ⟨d, d1, d2, d3⟩ := mine i2 p2 hi2 k2
      exact absurd ((hat i2 p2 hi2).trans (congrArg (thash P w) k2)) (before (d - c) i2 (by omega) (by rw [stepj, show c + (d - c) = d by omega]; exact d3))
theorem look_for (N : SetN P w s.heap a L es ep t) {x : Addr} {k : List Int} (hx : AtN s.heap k x) (hu : A.units + 8 < cLine) {Q : SetFound → Shared → Prop}
    (yes : k ∈ L.map (·.2) → Q (.there none) s)
    (no : ∀ Z, k ∉ L.map (·.2) → way t.mask (thash P w k) Z ∉ t.place.toList → (∀ c, c < Z → way t.mask (thash P w k) c ∈ t.place.toList) → Q (.free (way t.mask (thash P w k) Z) false) s) :
    wpAny (model P w) A (setSearch a (.ref x) (thash P w k) true) Q E s := by
  have room := N.rm
  obtain ⟨Z, z1, z2, z3⟩ := N.tab.first (by rw [List.length_map]; omega) (thash P w k)
  have small : Z < 100000 := by
    have : 10 * SetTable.turns t.mask ≤ 1420 := by
      unfold SetTable.turns
      rcases N.tab.mok with e | e | e <;> omega
    omega
  unfold setSearch
  refine look_on N hx hu z1 z2 z3 yes (fun m => no Z m z2 z3) 100000 0 none (Nat.zero_le _) (by omega) rfl fun i p hp hk => ?_
  have i1 : i < L.length := (List.getElem?_eq_some_iff.mp hp).1
  have i2 : i < t.place.toList.length := by
    have := N.tab.sz
    rw [List.length_map] at this
    rw [Array.length_toList]
    omega
  have hh : (L.map fun p => thash P w p.2)[i]? = some (thash P w k) := by rw [List.getElem?_map, hp, ← hk]; rfl
  obtain ⟨c, c1, c2⟩ := N.tab.before z2 hh (List.getElem?_eq_getElem i2)
  exact ⟨c, Nat.zero_le _, c1, by rw [List.getElem?_eq_getElem i2, c2]⟩
end
section
variable {P : Program} {w : World} {A : Around} {E : Value → Shared → Prop} {s : Shared} {a : Addr} {L : List (Addr × List Int)} {es : Array (Int × Value)} {ep : Nat} {t : SetTable}
/-- laid anew -/
theorem lay_anew {o : Obj} (ho : s.heap.get? a = some o) (hex : o.ExactSet) (hd : o.data = .set es ep t) (row : es.toList = rowsOf P w L) (sz : t.place.size = es.size) (dm : t.dummies = #[]) (fl : es.size ≤ t.mask) (ndp : (L.map (·.2)).Nodup) (ats : ∀ p ∈ L, AtN s.heap p.2 p.1)
    (pln : t.plain = true) (ldd : w.params.followText "set-order" = true ∨ t.led = true) (fw : L.length < 64) {n M : Nat} (e1 : SetTable.sizeAbove n - 1 = M) (e2 : MaskOk M) (e3 : SetTable.sizeAbove n ≤ 128) (rm : L.length * 5 < M * 3) {Q : Unit → Shared → Prop}
    (q : ∀ h' L' es' ep' t', Heap.SameBut a s.heap h' → SetN P w h' a L' es' ep' t' → L'.Perm L → Q () { s with heap := h' }) : wpAny (model P w) A (setRelay a n) Q E s := by
  have zs := rows_len row
  have fit : t.fits es.size = true := by
    unfold SetTable.fits SetTable.fill
    rw [dm, Bool.and_eq_true, beq_iff_eq, decide_eq_true_eq]
    exact ⟨sz, by rw [sz]; show es.size + 0 ≤ t.mask; omega⟩
  obtain ⟨t2, ord, r0, r1, r2, r3, r4, r5, r6⟩ := relaid_ok t (hs := es.map (·.1)) (wanted := n) e1 e2 (by rw [Array.size_map, zs]; omega)
  rw [Array.size_map, zs] at r1
  obtain ⟨L2, o1, o2, o3⟩ := order_rows L es ord row r1
  rw [← o3] at r2
  have z2 : (ord.filterMap (es[·]?)).size = es.size := by rw [rows_len o1, o2.length_eq, zs]
  rw [setRelay_eq]
  refine wpAny_bind (wpAny_setState_of ho hd fit ?_)
  dsimp only
  refine wp_if_neg (by rw [sizeLine_eq]; omega) ?_
  try refine wpAny_bind (wpAny_pure ?_)
  rw [r0]
  dsimp only
  refine wpAny_bind (wp_if_neg (by rw [z2]; simp) ?_)
  try refine wpAny_bind (wpAny_pure ?_)
  refine wpAny_pure ?_
  dsimp only
  refine wpAny_storeSet_of ho hd ?_ (by rw [z2, zs, sizeLine_eq]; omega)
  have sb : Heap.SameBut a s.heap (s.heap.update a (Obj.putSet (ord.filterMap (es[·]?)) t2)) := Heap.SameBut.update ..
  exact q _ L2 (ord.filterMap (es[·]?)) (ep + 1) t2 sb
    ⟨⟨_, store_at ho hd, ⟨hex.1, hex.2.1, hex.2.2⟩, rfl⟩, o1, r2, (o2.map (·.2)).nodup_iff.mpr ndp, fun p m => (ats p (o2.mem_iff.mp m)).other ho hd sb, by rw [r5]; exact pln, by rw [r4]; exact ldd, by rw [o2.length_eq, r3]; exact rm, by rw [o2.length_eq]; exact fw⟩ o2
/-- one more item -/
theorem put_in (N : SetN P w s.heap a L es ep t) {x : Addr} {k : List Int} (hx : AtN s.heap k x) (hu : A.units + 8 < cLine) (fw : L.length + 1 < 64) {Q : Bool → Shared → Prop}
    (q : ∀ b h' L' es' ep' t', Heap.SameBut a s.heap h' → SetN P w h' a L' es' ep' t' → (k ∈ L.map (·.2) → L' = L) → (k ∉ L.map (·.2) → L'.Perm ((x, k) :: L)) → Q b { s with heap := h' }) :
    wpAny (model P w) A (setAddHashed a (.ref x) (thash P w k)) Q E s := by
  obtain ⟨o, ho, hex, hd⟩ := N.obj
  have zs := rows_len N.row
  have room := N.rm
  unfold setAddHashed
  refine wpAny_holding ?_
  rw [show (100000 : Nat) = 99999 + 1 from rfl, setAddHashedIn_succ]
  refine wpAny_bind (wpAny_setState_of ho hd N.fit ?_)
  dsimp only
  refine wp_if_neg (by simp [byScan, Value.scannable]) ?_
  try refine wpAny_bind (wpAny_pure ?_)
  refine wpAny_bind (look_for N hx hu (fun m => ?_) fun Z m z2 z3 => ?_)
  · dsimp only
    exact wpAny_pure (q false s.heap L es ep t (Heap.SameBut.refl a s.heap) N (fun _ => rfl) fun n => absurd m n)
  · dsimp only
    refine wpAny_bind (wpAny_setState_of ho hd N.fit ?_)
    dsimp only
    have tp := N.tab.put z2 z3
    generalize ew : t.put (way t.mask (thash P w k) Z) = both at tp ⊢
    obtain ⟨t1, at1⟩ := both
    obtain ⟨b1, b2, b3, b4, b5, b6, b7, b8, b9⟩ := tp
    dsimp only at b1 b2 b3 b4 b5 b6 b7 b8 b9 ⊢
    have pl1 : t1.plain = true := by rw [b6]; exact N.pln
    subst b1
    first
      | (refine wpAny_bind ?_; refine wp_if_pos pl1 ?_; refine byv_at hx ?_)
      | refine wp_if_pos pl1 (wpAny_bind (byv_at hx ?_))
    simp only [if_true]
    generalize eb : SetTable.below t.place (way t.mask (thash P w k) Z) = i at b2 b3 ⊢
    have row1 : (SetTable.insertAt es i (thash P w k, Value.ref x)).toList = rowsOf P w (L.take i ++ (x, k) :: L.drop i) := by
      rw [SetTable.toList_insertAt, rows_put, N.row]
    have pm := put_perm L i (x, k)
    have len1 : (L.take i ++ (x, k) :: L.drop i).length = L.length + 1 := pm.length_eq
    have hs1 : (L.take i ++ (x, k) :: L.drop i).map (fun p => thash P w p.2) = (L.map fun p => thash P w p.2).take i ++ thash P w k :: (L.map fun p => thash P w p.2).drop i := by
      rw [List.map_append, List.map_cons, List.map_take, List.map_drop]
    rw [← hs1] at b3
    have nd1 : ((L.take i ++ (x, k) :: L.drop i).map (·.2)).Nodup := (pm.map (·.2)).nodup_iff.mpr (by rw [List.map_cons]; exact List.nodup_cons.mpr ⟨m, N.ndp⟩)
    have sz1 : (SetTable.insertAt es i (thash P w k, Value.ref x)).size = L.length + 1 := by rw [rows_len row1, len1]
    generalize SetTable.insertAt es i (thash P w k, Value.ref x) = es1 at row1 sz1 ⊢
    generalize L.take i ++ (x, k) :: L.drop i = L1 at pm len1 b3 nd1 row1
    refine wpAny_bind (wpAny_storeSet_of ho hd ?_ (by rw [sz1, sizeLine_eq]; omega))
    have sb : Heap.SameBut a s.heap (s.heap.update a (Obj.putSet es1 t1)) := Heap.SameBut.update ..
    have ho1 := store_at (es' := es1) (t' := t1) ho hd
    generalize s.heap.update a (Obj.putSet es1 t1) = h1 at sb ho1 ⊢
    have ats1 : ∀ p ∈ L1, AtN h1 p.2 p.1 := fun p hp => by
      rcases List.mem_cons.mp (pm.mem_iff.mp hp) with e | hp
      · rw [e]; exact hx.other ho hd sb
      · exact (N.ats p hp).other ho hd sb
    have ld1 : w.params.followText "set-order" = true ∨ t1.led = true := by rw [b5]; exact N.ldd
    by_cases full : t1.tooFull = true
    · first
        | (refine wpAny_bind ?_; refine wp_if_pos (by simp [full]) ?_)
        | (refine wp_if_pos (by simp [full]) ?_; refine wpAny_bind ?_)
      have much : (L.length + 1) * 5 ≥ t1.mask * 3 := by
        unfold SetTable.tooFull at full
        rw [decide_eq_true_eq, b9, List.length_map] at full
        exact full
      rw [zs]
      have psz : t1.place.size = es1.size := by
        have := b3.sz
        rw [List.length_map, len1] at this
        rw [this, sz1]
      have two : (t.mask = 7 ∧ L.length = 4) ∨ (t.mask = 31 ∧ L.length = 18) := by
        rw [b4] at much
        rcases N.tab.mok with e | e | e
        · left; rw [e] at much room; exact ⟨e, by omega⟩
        · right; rw [e] at much room; exact ⟨e, by omega⟩
        · exfalso; rw [e] at much; omega
      have go : ∀ M, SetTable.sizeAbove (SetTable.grown (L.length + 1)) - 1 = M → MaskOk M → SetTable.sizeAbove (SetTable.grown (L.length + 1)) ≤ 128 → (L.length + 1) * 5 < M * 3 →
          wpAny (model P w) A (setRelay a (SetTable.grown (L.length + 1))) (fun _ s' => wpAny (model P w) A (pure true) Q E s') E { s with heap := h1 } := fun M m1 m2 m3 m4 => by
        refine lay_anew (s := { s with heap := h1 }) ho1 ⟨hex.1, hex.2.1, hex.2.2⟩ rfl row1 psz b3.dm (by rw [sz1, b4]; rcases two with ⟨e, e2⟩ | ⟨e, e2⟩ <;> omega) nd1 ats1 pl1 ld1 (by rw [len1]; exact fw) m1 m2 m3 (by rw [len1]; exact m4) fun h2 L2 es2 ep2 t2 sb2 N2 pm2 => ?_
        exact wpAny_pure (q true h2 L2 es2 ep2 t2 (sb.trans sb2) N2 (fun z => absurd z m) fun _ => pm2.trans pm)
      rcases two with ⟨_, e⟩ | ⟨_, e⟩
      · exact go 31 (by rw [e, size_20]) (.inr (.inl rfl)) (by rw [e, size_20]; decide) (by omega)
      · exact go 127 (by rw [e, size_76]) (.inr (.inr rfl)) (by rw [e, size_76]; decide) (by omega)
    · first
        | refine wp_if_neg (by simp [full]) ?_
        | (refine wpAny_bind ?_; refine wp_if_neg (by simp [full]) ?_; refine wpAny_pure ?_)
      refine wpAny_pure (q true h1 L1 es1 (ep + 1) t1 sb ⟨⟨_, ho1, ⟨hex.1, hex.2.1, hex.2.2⟩, rfl⟩, row1, b3, nd1, ats1, pl1, ld1, ?_, by rw [len1]; exact fw⟩ (fun z => absurd z m) fun _ => pm)
      unfold SetTable.tooFull at full
      rw [decide_eq_true_eq, b9, List.length_map] at full
      rw [len1]
      omega
end
theorem nodup_le {α : Type} [DecidableEq α] : ∀ (l D : List α), l.Nodup → (∀ x ∈ l, x ∈ D) → l.length ≤ D.length
  | [], _, _, _ => Nat.zero_le _
  | x :: l, D, nd, h => by
    obtain ⟨h1, h2⟩ := List.nodup_cons.mp nd
    have hx := h x List.mem_cons_self
    have := nodup_le l (D.erase x) h2 fun y hy => (List.mem_erase_of_ne (fun e => h1 (by rw [← e]; exact hy))).2 (h y (List.mem_cons_of_mem _ hy))
    rw [List.length_erase_of_mem hx] at this
    have : 0 < D.length := List.length_pos_of_mem hx
    rw [List.length_cons]
    omega
section
variable {P : Program} {w : World} {A : Around} {E : Value → Shared → Prop} {s : Shared}
theorem SetN.kept {h h' : Heap} {a : Addr} {L : List (Addr × List Int)} {es : Array (Int × Value)} {ep : Nat} {t : SetTable} (N : SetN P w h a L es ep t) (ka : ∀ o, h.get? a = some o → h'.get? a = some o) (ats : ∀ p ∈ L, AtN h' p.2 p.1) : SetN P w h' a L es ep t := by
  obtain ⟨o, ho, r⟩ := N.obj
  exact ⟨⟨o, ka o ho, r⟩, N.row, N.tab, N.ndp, ats, N.pln, N.ldd, N.rm, N.fw⟩
theorem setN_new {h : Heap} {a : Addr} (ho : h.get? a = some { cls := .type "set", dict := none, data := .set #[] 0 (.fresh 0 0 (!w.params.followText "set-order")) }) : SetN P w h a [] #[] 0 (.fresh 0 0 (!w.params.followText "set-order")) := by
  refine ⟨⟨_, ho, ⟨rfl, rfl, rfl⟩, rfl⟩, rfl, ⟨List.Pairwise.nil, rfl, rfl, .inl rfl, fun _ m => (nomatch m), fun _ _ _ e => (by simp at e)⟩, List.nodup_nil, fun _ m => (nomatch m), rfl, ?_, ?_, ?_⟩
  · show _ ∨ (!w.params.followText "set-order") = true
    cases w.params.followText "set-order"
    · exact .inr rfl
    · exact .inl rfl
  · show 0 * 5 < 7 * 3; decide
  · show 0 < 64; decide
/-- the loop that fills a set from an iterator: few differing items -/
theorem fill_set {I : Addr} {fp wr : List Addr} {G : Array GenState → Array GenState → Prop} {n : Nat} {Pv : Nat → Value → Prop} {St : Nat → Shared → Prop} {R : Result → Shared → Prop}
    (W : WalksS P w A.in1 I fp wr G n Pv St) (S : Addr) (out : S ∉ fp) (ks : List (Addr × List Int)) (ln : n = ks.length) (D : List (List Int)) (dl : D.length ≤ 60) (hD : ∀ p ∈ ks, p.2 ∈ D) (hv : ∀ i v, Pv i v → ∃ p, ks[i]? = some p ∧ v = .ref p.1)
    (h0 : Heap) (hk : ∀ p ∈ ks, AtN h0 p.2 p.1) (nS : h0.get? S = none) (nw : ∀ b ∈ wr, h0.get? b = none) (hu : A.in1.units + 8 < cLine) :
    ∀ (left i : Nat) (s : Shared), n - i = left → i ≤ n → St i s → (∀ b o, h0.get? b = some o → s.heap.get? b = some o) → (∃ L es ep t, SetN P w s.heap S L es ep t ∧ Got ks i L) →
      (∀ s' L es ep t, Moved (S :: wr) G s s' → SetN P w s'.heap S L es ep t → Got ks n L → (∀ b o, h0.get? b = some o → s'.heap.get? b = some o) → R (.ok (.ret .none)) s') →
      codeAny (model P w) A (.builtin "set.update.loop" ⟨[.ref S, .ref I], []⟩) R s := by
  have nSw : S ∉ wr := fun m => out (W.sub _ m)
  have sub1 : ∀ b ∈ wr, b ∈ S :: wr := fun b m => List.mem_cons_of_mem _ m
  have goOn : ∀ {s s' : Shared}, Moved wr G s s' → (∀ b o, h0.get? b = some o → s.heap.get? b = some o) → ∀ b o, h0.get? b = some o → s'.heap.get? b = some o := fun mv kk b o e =>
    mv.heap b o (fun m => by rw [nw b m] at e; cases e) (kk b o e)
  intro left
  induction left with
  | zero =>
    intro i s el le st kk ⟨L, es, ep, t, N, g⟩ fin
    obtain rfl : i = n := by omega
    refine codeAny_builtin F.entry_set_update_loop ?_
    rw [Around.under_plainId F.plain_set_update_loop _]
    show wpAny _ A.in1 (pyNext (.ref I) >>= _) _ _ s
    refine wpAny_bind (W.done s _ _ st fun s2 mv => ?_)
    have kk2 := goOn mv kk
    exact wpAny_pure (fin s2 L es ep t (mv.mono sub1) (N.kept (fun o e => mv.heap S o nSw e) fun p m => (hk p (List.mem_of_mem_take (g.sub p m))).keep fun o e => kk2 _ o e) g kk2)
  | succ left ih =>
    intro i s el le st kk ⟨L, es, ep, t, N, g⟩ fin
    have lt : i < n := by omega
    refine codeAny_builtin F.entry_set_update_loop ?_
    rw [Around.under_plainId F.plain_set_update_loop _]
    show wpAny _ A.in1 (pyNext (.ref I) >>= _) _ _ s
    refine wpAny_bind (W.item i s _ _ lt st fun v s2 pv st2 mv => ?_)
    obtain ⟨p, hp, rfl⟩ := hv i v pv
    have kk2 := goOn mv kk
    have mem : ∀ p ∈ L, p ∈ ks := fun p m => List.mem_of_mem_take (g.sub p m)
    have N2 : SetN P w s2.heap S L es ep t := N.kept (fun o e => mv.heap S o nSw e) fun q m => (hk q (mem q m)).keep fun o e => kk2 _ o e
    have hx : AtN s2.heap p.2 p.1 := (hk p (List.mem_of_getElem? hp)).keep fun o e => kk2 _ o e
    have few : L.length ≤ 60 := by
      have := nodup_le (L.map (·.2)) D N.ndp fun k m => by
        obtain ⟨q, hq, rfl⟩ := List.mem_map.mp m
        exact hD q (mem q hq)
      rw [List.length_map] at this
      omega
    show wpAny _ A.in1 (holding [Value.ref p.1] (setAdd S (.ref p.1)) >>= _) _ _ s2
    refine wpAny_bind (wpAny_holding ?_)
    unfold setAdd
    refine wpAny_holding (wpAny_bind (hash_at hx hu ?_))
    refine put_in (s := { s2 with toks := s2.toks + (nkey p.2).draws }) N2 hx hu (by omega) fun b h3 L3 es3 ep3 t3 sb N3 c1 c2 => ?_
    have g3 : Got ks (i + 1) L3 := by
      by_cases c : p.2 ∈ L.map (·.2)
      · rw [c1 c]; exact g.same hp c
      · exact g.more hp (c2 c)
    have kk3 : ∀ b o, h0.get? b = some o → h3.get? b = some o := fun b o e => (sb.2 b (fun z => by rw [z, nS] at e; cases e)).trans (kk2 b o e)
    refine wpAny_pure ⟨plainId_quiet F.plain_set_update_loop _, ih (i + 1) _ (by omega) lt (W.frame _ s2 _ _ st2 (Nat.le_add_right _ _) fun b m o e => ?_) kk3 ⟨L3, es3, ep3, t3, N3, g3⟩ fun s4 L4 es4 ep4 t4 mv4 N4 g4 kk4 => ?_⟩
    · rw [sb.2 b (fun z : b = S => out (by rw [← z]; exact m))]; exact e
    · refine fin s4 L4 es4 ep4 t4 (Moved.trans W.gtrans ((mv.mono sub1).then_heap (Nat.le_add_right _ _) fun b o m e => ?_) mv4) N4 g4 kk4
      rw [sb.2 b (fun z : b = S => m (by rw [z]; exact List.mem_cons_self))]; exact e
end
section
variable {P : Program} {w : World} {A : Around} {E : Value → Shared → Prop} {s : Shared}
abbrev newS (w : World) : Obj := { cls := .type "set", dict := none, data := .set #[] 0 (.fresh 0 0 (!w.params.followText "set-order")) }
set_option maxHeartbeats 8000000 in
/-- set(xs) of a list in which few tuples stand, often or not -/
theorem set_made {l : Addr} {its : Array Value} (ks : List (Addr × List Int)) (D : List (List Int)) {Q : Value → Shared → Prop} (hh : A.handled = none) (hl : s.heap.IsList l its) (ei : its.toList = ks.map fun p => Value.ref p.1)
    (hk : ∀ p ∈ ks, AtN s.heap p.2 p.1) (dl : D.length ≤ 60) (hD : ∀ p ∈ ks, p.2 ∈ D) (hu : A.units + 11 < cLine)
    (q : ∀ (h' : Heap) (tk : Nat) L es ep t, SetN P w h' s.heap.objs.size L es ep t → Got ks ks.length L → (∀ b o, s.heap.get? b = some o → h'.get? b = some o) → Q (.ref s.heap.objs.size) { s with heap := h', toks := tk }) :
    wpAny (model P w) A (call (.type "set") [.ref l]) Q E s := by
  have nit : its.size = ks.length := by
    have := congrArg List.length ei
    simpa using this
  obtain ⟨cc, ctl, cmro⟩ := F.called_set.mro
  have k1 := F.called_set.made
  have k2 := F.called_set.sub
  refine wpAny_call (codeAny_of_tree ?_)
  show wpAny _ _ (callAny (.type "set") _) _ _ _
  refine wpAny_pure ⟨Code.quiet_builtin _ (by decide +kernel), codeAny_builtin F.entry_type_call ?_⟩
  rw [Around.under_plain (weight_type_call_type "set" [.ref l] []) rfl]
  have k3 := F.called_set.notType
  have k4 := F.called_set.canCreate
  have k5 := F.typeCall_set_1 (.ref l)
  repeat (any_goals (first | assumption | wp_step))
  refine codeAny_mono (code_set_led1 (.ref l) (E := E) (Q₁ := fun obj s1 => obj = .ref s.heap.objs.size ∧ s1 = { s with heap := s.heap.push (newS w) }) ⟨rfl, rfl⟩) fun r s1 hr => ?_
  cases r with
  | error e => exact hr
  | ok fl =>
    cases fl with
    | ret obj =>
      obtain ⟨rfl, rfl⟩ := hr
      have oS : (s.heap.push (newS w)).get? s.heap.objs.size = some (newS w) := Heap.get?_push_size _ rfl
      have tS : Shared.TypeIs { s with heap := s.heap.push (newS w) } (.ref s.heap.objs.size) "set" := ⟨_, oS, rfl⟩
      have k6 := F.called_set.init.lookup
      have k7 := F.called_set.init.bind (.ref s.heap.objs.size)
      repeat (any_goals (first | assumption | wp_step))
      refine codeAny_mono (codeAny_call_builtin (R := wants (fun r s2 => r = .none ∧ ∃ h' tk L es ep t, s2 = { s with heap := h', toks := tk } ∧ SetN P w h' s.heap.objs.size L es ep t ∧ Got ks ks.length L ∧
          (∀ b o, s.heap.get? b = some o → h'.get? b = some o)) E) F.called_set.init.plain F.entry_set_init (check_set_init_1 tS ?_)) fun r2 s2 hr2 => ?_
      · obtain ⟨⟨oc, od, odt, osl⟩, ho, e1, n, e2⟩ := hl
        simp only at e1 e2
        subst e1 e2
        have ho2 : (s.heap.push (newS w)).get? l = some { cls := .type "list", dict := od, data := .seq its n, slots := osl } := Heap.get?_push_of_some _ ho
        have k8 := F.sub_list_set
        have k9 := F.sub_list_frozenset
        have kA : (Value.type "list" == Value.type "dict") = false := by decide
        have hl2 : (s.heap.push (newS w)).IsList l its := ⟨_, ho2, rfl, n, rfl⟩
        unfold Builtin.«set.__init__» noKeywords Builtin.Frozenset.updateFrom
        generalize ePI : pyIter = PI
        wp_walk
        subst ePI
        refine wpAny_pyIter_list hl2 (wpAny_bind (wpAny_runValue ?_))
        have lS : l < s.heap.objs.size := Heap.lt_size ho
        have hh3 : A.in1.in1.in1.handled = none := by simp [hh]
        have apart : l ≠ (s.heap.push (newS w)).objs.size := by
          rw [Heap.size_push]; exact Nat.ne_of_lt (Nat.lt_succ_of_lt lS)
        have out : s.heap.objs.size ∉ [(s.heap.push (newS w)).objs.size, l] := by
          rw [Heap.size_push]
          simp only [List.mem_cons, List.not_mem_nil, or_false, not_or]
          exact ⟨Nat.ne_of_lt (Nat.lt_succ_self _), Nat.ne_of_gt lS⟩
        have hv : ∀ (i : Nat) (v : Value), its[i]? = some v → ∃ p, ks[i]? = some p ∧ v = .ref p.1 := fun i v e => by
          rw [← Array.getElem?_toList, ei, List.getElem?_map] at e
          obtain ⟨p, e1, e2⟩ := Option.map_eq_some_iff.mp e
          exact ⟨p, e1, e2.symm⟩
        have away : ∀ b, s.heap.objs.size ≤ b → s.heap.get? b = none := fun b le => by
          cases z : s.heap.get? b with
          | none => rfl
          | some o => exact absurd (Nat.lt_of_lt_of_le (Heap.lt_size z) le) (Nat.lt_irrefl _)
        refine fill_set ((Walks.list hh3 _ l apart its).toS) s.heap.objs.size out ks nit D dl hD hv s.heap hk (away _ (Nat.le_refl _)) (fun b m => away b (by rw [List.mem_singleton.mp m, Heap.size_push]; exact Nat.le_succ _))
          (by show A.units + 1 + 1 + 1 + 8 < cLine; omega) (its.size - 0) 0 _ (by omega) (Nat.zero_le _) ⟨⟨_, Heap.get?_push_size _ rfl, rfl, rfl⟩, (hl2.push _)⟩ (fun b o e => Heap.get?_push_of_some _ (Heap.get?_push_of_some _ e)) ?first ?last
        case first => exact ⟨[], #[], 0, _, setN_new (Heap.get?_push_of_some _ oS), Got.zero ks⟩
        case last =>
          intro s3 L es ep t mv N g kk
          obtain ⟨h3, g3, d3, t3, os3⟩ := s3
          obtain rfl : g3 = s.gens := mv.gens
          obtain rfl : d3 = s.drawn := mv.drawn
          obtain rfl : os3 = s.os := mv.os
          refine wpAny_pure ?_
          show wpAny _ _ (ret Value.none) _ _ _
          rw [nit] at g
          exact wpAny_pure ⟨rfl, h3, t3, L, es, ep, t, rfl, N, g, kk⟩
      · cases r2 with
        | error e => exact hr2
        | ok f2 =>
          cases f2 with
          | ret r =>
            obtain ⟨rfl, h', tk, L, es, ep, t, rfl, N, g, kk⟩ := hr2
            repeat (any_goals (first | assumption | wp_step))
            exact q _ _ _ _ _ _ N g kk
          | _ => exact hr2.elim
    | _ => exact hr.elim
end
end Cf
/-! Own layer: len(set(..)). -/
namespace Cf
open PySem PySem.Spec PyProof.Rows L2
section
variable {X : Cx}
def tLenSetN (K : PySem.W.Frag) (ta : TE) : TE := fun σ H Q => ta σ H fun x H1 => ∃ (l : Addr) (ks : List (Addr × List Int)) (D : List (List Int)) (n : Nat), x = V.ref l ∧ SqL K H1 l (ks.map fun p => V.ref p.1) ∧ (∀ p ∈ ks, KeyAt H1 p.1 p.2) ∧ D.length ≤ 60 ∧ (∀ p ∈ ks, p.2 ∈ D) ∧
  (∀ L : List (List Int), L.Nodup → (∀ k ∈ L, ∃ p ∈ ks, p.2 = k) → (∀ p ∈ ks, p.2 ∈ L) → L.length = n) ∧ Q (.int (n : Nat)) H1
theorem refs_at : ∀ {ks : List (Addr × List Int)} {us : List Value}, Vals (ks.map fun p => V.ref p.1) us → us = ks.map fun p => Value.ref p.1
  | [], _, .nil => rfl
  | p :: ks, _, .cons r rs => by rw [refs_at rs]; cases r; rfl
theorem KeyAt.atN {pins : List (Addr × Obj)} {σ : L2.St} {H : Hp} {s : Shared} (I : Inv X pins σ H s) {q : Addr} {k : List Int} (h : KeyAt H q k) : AtN s.heap k q := by
  obtain ⟨_, vs, hq, n⟩ := h
  obtain ⟨its, rv, ⟨o, e1, e2, m, e3⟩, _⟩ := I.tuple (SqT.of hq)
  exact ⟨o, _, m, e1, e2, e3, nested_all n rv⟩
theorem pe_lenSetN {e : Expr} {ta : TE} {p1 p2 q1 q2 : Pos} (hc : X.calm = true) (hu : X.A.units + 64 < cLine) (hg : Gl X "len") (hm : X.mg "len" = none) (hg2 : Gl X "set") (hm2 : X.mg "set" = none) (ha : PE X e ta)
    (one : starEach [e] X.env = (false, eval e X.env) :: starEach [] X.env := by rfl) : PE X (.Call (.Name "len" p1) [.Call (.Name "set" p2) [e] [] q2] [] q1) (tLenSetN X.K ta) := by
  refine ⟨fun pins s σ H Q I h => Call_ (ld_blt I hg hm PySem.boot_len (callWith_builtin1 (args_cons ?_ rfl) rfl rfl))⟩
  refine Call_ (ld_blt I hg2 hm2 PyProof.Rows.boot_set ?_)
  refine callWith_type1 (args_cons (thn (ha.run pins s σ H _ I h) fun v s1 ⟨x, H1, I1, r1, l, ks, D, n, ex, hl, hk, dl, hD, cnt, q⟩ => args_nil ?_) one) one rfl
  subst ex
  cases r1
  obtain ⟨its, rv, pl, hz⟩ := I1.list hl
  refine set_made (P := X.prog) (w := X.w) ks D (I1.ok.hd hc) pl.isList (by simpa using refs_at rv) (fun p m => (hk p m).atN I1) dl hD (by omega) fun h' tk L es ep t N g kk => args_nil ?_
  obtain ⟨o, ho, hex, hd⟩ := N.obj
  have ln : L.length = n := by
    have := cnt (L.map (·.2)) N.ndp (fun k m => by
      obtain ⟨p, hp, rfl⟩ := List.mem_map.mp m
      exact ⟨p, List.mem_of_mem_take (g.sub p hp), rfl⟩) fun p m => g.all p (by rw [List.take_length]; exact m)
    rw [List.length_map] at this
    exact this
  have es_ : es.size = n := (rows_len N.row).trans ln
  have I2 : Inv X pins σ H1 { s1 with heap := h', toks := tk } := I1.kept kk
  have few := N.fw
  exact call_len_set ho hex hd (SetN.fit (s := { s1 with heap := h', toks := tk }) N) (by rw [es_]; omega) ⟨.int n, H1, I2.tok _, ⟨_, by rw [es_]⟩, q⟩
end
end Cf
/-! Own layer: mathematics of the kinds of 400 years. -/
namespace Cf
/-- how many of the 400 years from y on are so -/
def cw (p : Int → Bool) (y : Int) : Nat := (List.range 400).countP fun (i : Nat) => p (y + (i : Int))
theorem cw_step {p : Int → Bool} (h : ∀ y, p (y + 400) = p y) (y : Int) : cw p (y + 1) = cw p y := by
  have e1 : (List.range 401).countP (fun (i : Nat) => p (y + (i : Int))) = cw p y + if p (y + 400) = true then 1 else 0 := by
    rw [show (401 : Nat) = 400 + 1 from rfl, List.range_succ, List.countP_append, List.countP_singleton]
    rfl
  have e2 : (List.range 401).countP (fun (i : Nat) => p (y + (i : Int))) = cw p (y + 1) + if p y = true then 1 else 0 := by
    rw [show (401 : Nat) = 400 + 1 from rfl, List.range_succ_eq_map, List.countP_cons, List.countP_map]
    unfold cw
    congr 1
    · refine List.countP_congr fun i _ => ?_
      simp only [Function.comp]
      rw [show y + ((i.succ : Nat) : Int) = y + 1 + (i : Int) by push_cast; omega]
    · simp
  rw [h y] at e1
  omega
theorem cw_up {p : Int → Bool} (h : ∀ y, p (y + 400) = p y) : ∀ n : Nat, cw p (2000 + (n : Int)) = cw p 2000
  | 0 => by simp
  | n + 1 => by
    rw [show 2000 + ((n + 1 : Nat) : Int) = 2000 + (n : Int) + 1 by push_cast; omega, cw_step h, cw_up h n]
theorem cw_down {p : Int → Bool} (h : ∀ y, p (y + 400) = p y) : ∀ n : Nat, cw p (2000 - (n : Int)) = cw p 2000
  | 0 => by simp
  | n + 1 => by
    have := cw_step h (2000 - ((n + 1 : Nat) : Int))
    rw [show 2000 - ((n + 1 : Nat) : Int) + 1 = 2000 - (n : Int) by push_cast; omega, cw_down h n] at this
    exact this.symm
theorem cw_any {p : Int → Bool} (h : ∀ y, p (y + 400) = p y) (y : Int) : cw p y = cw p 2000 := by
  by_cases c : 2000 ≤ y
  · have := cw_up h (y - 2000).toNat
    rwa [show 2000 + ((y - 2000).toNat : Int) = y by omega] at this
  · have := cw_down h (2000 - y).toNat
    rwa [show 2000 - ((2000 - y).toNat : Int) = y by omega] at this
/-- the weekdays on which the leap years among them begin -/
def lpsN (y : Int) (n : Nat) : List Int := ((List.range n).filter fun (i : Nat) => leapB (y + (i : Int))).map fun (i : Nat) => k1 (y + (i : Int))
theorem lps_len (y : Int) : (lpsN y 400).length = 97 := by
  unfold lpsN
  rw [List.length_map, ← List.countP_eq_length_filter]
  have e := cw_any leap_400 y
  unfold cw at e
  rw [e]
  decide +kernel
theorem base7 : ∀ f : Fin 7, 13 ≤ cw (fun y => leapB y && decide (k1 y = (f.val : Int))) 2000 ∧ cw (fun y => leapB y && decide (k1 y = (f.val : Int))) 2000 ≤ 15 := by decide +kernel
theorem lps_count (y f : Int) (h0 : 0 ≤ f) (h7 : f < 7) : 13 ≤ (lpsN y 400).count f ∧ (lpsN y 400).count f ≤ 15 := by
  have e : (lpsN y 400).count f = cw (fun y => leapB y && decide (k1 y = f)) y := by
    unfold lpsN cw
    rw [List.count_eq_countP, List.countP_map, List.countP_filter]
    refine List.countP_congr fun i _ => ?_
    simp only [Function.comp, Bool.and_eq_true, beq_iff_eq, decide_eq_true_eq]
    exact And.comm
  have b := base7 ⟨f.toNat, by omega⟩
  rw [show ((⟨f.toNat, by omega⟩ : Fin 7).val : Int) = f from by show (f.toNat : Int) = f; omega] at b
  rw [e, cw_any fun z => by rw [leap_400, k1_400]]
  exact b
theorem leap_alone {y : Int} (h : leapB y = true) : leapB (y + 1) = false := by
  have a := (leapB_iff y).mp h
  cases e : leapB (y + 1) with
  | false => rfl
  | true => have b := (leapB_iff (y + 1)).mp e; omega
theorem k1_next (y : Int) : k1 (y + 1) = (k1 y + 1 + leapI y) % 7 := by
  unfold k1
  rw [ys_succ]
  omega
end Cf
/-! Own layer: operators of own classes, their truth, an attribute as a target, a class held by a name. -/
namespace Cf
open PySem PySem.Spec PyProof.Rows L2
/-- the class at C has the def at f under this name -/
structure Own (K : PySem.W.Frag) (C : Addr) (nm : Str) (f : Addr) : Prop where
  at_ : PySem.W.findIn K (.ref C) nm = some (some (.ref f))
  fn : PySem.W.isFn K (.ref f) = true
/-- two instances of the class at C, as the def's promise says -/
def rOwn (C : Addr) (sp : Sp) : R2 := fun x y H Q => ∃ a b dx dy fs gs, x = .ref a ∧ y = .ref b ∧ H a = some (.ins C dx fs) ∧ H b = some (.ins C dy gs) ∧ sp [.ref a, .ref b] H Q E0
section
variable {X : Cx} {k : Nat} {C f : Addr} {fd : FuncData} {ps : List Str} {sp : Sp}
theorem back_of {X : Cx} {pins : List (Addr × Obj)} {σ : L2.St} {Q : VK} {v : Value} {s' : Shared} (h : EP X pins σ Q v s') : PySem.W.CmpBack (EP X pins σ Q) v s' := by
  obtain ⟨z, H', I, r, q⟩ := id h
  cases v <;> first | exact h | (cases z <;> first | exact r.elim | (obtain ⟨_, e⟩ := r; cases e) | cases r)
theorem op_own {op : Operator} (hc : PySem.W.selfFirst X.K C = true) (o : Own X.K C (PySem.dunder op.info.2) f) (F : FnOk X.prog X.w X.K X.mg X.base CX0 k f fd ps sp) (hb : Binds X.K fd ps []) (hr : Room k X.A) : OpR X (binaryOp op) (rOwn C sp) := by
  intro pins s σ H x y v u Q I rx ry h
  obtain ⟨a, b, dx, dy, fs, gs, rfl, rfl, ha, hb', q⟩ := h
  cases rx
  cases ry
  obtain ⟨mA, J, _⟩ := ins_get I.hok ha
  obtain ⟨mB, J', _⟩ := ins_get I.hok hb'
  obtain ⟨od, J, _⟩ := J.look
  obtain ⟨od', J', _⟩ := J'.look
  obtain ⟨m, hF⟩ := I.fr
  exact PySem.W.binop_K hF I.ok.mod.kin J J'.type hc o.at_ o.fn (thn (run_fn (us := [.ref a, .ref b]) (vs := [.ref a, .ref b]) F hr hb .nil pass0 I (.cons rfl (.cons rfl .nil)) q) fun v s' z => back_of z)
/-- x == y of two instances by the own __eq__ -/
theorem op_ownEq (hn : PySem.W.notFirst X.K C (.ref C) = true) (o : Own X.K C "__eq__" f) (F : FnOk X.prog X.w X.K X.mg X.base CX0 k f fd ps sp) (hb : Binds X.K fd ps []) (hr : Room k X.A) (hu : X.A.units < cLine) : OpR X (compareOp .Eq) (rOwn C sp) := by
  intro pins s σ H x y v u Q I rx ry h
  obtain ⟨a, b, dx, dy, fs, gs, rfl, rfl, ha, hb', q⟩ := h
  cases rx
  cases ry
  obtain ⟨mA, J, _⟩ := ins_get I.hok ha
  obtain ⟨mB, J', _⟩ := ins_get I.hok hb'
  obtain ⟨od, J, _⟩ := J.look
  obtain ⟨od', J', _⟩ := J'.look
  obtain ⟨m, hF⟩ := I.fr
  show wpAny (model X.prog X.w) X.A (richCompare .Eq (.ref a) (.ref b)) (EP X pins σ Q) X.xe s
  exact PySem.W.cmp_K (op := .Eq) (tb := .ref C) hu hF I.ok.mod.kin J J'.type hn o.at_ o.fn (thn (run_fn (us := [.ref a, .ref b]) (vs := [.ref a, .ref b]) F hr hb .nil pass0 I (.cons rfl (.cons rfl .nil)) q) fun v s' z => back_of z)
/-- an instance's truth by the own __bool__ -/
def rTru (C : Addr) (sp : Sp) : V → Hp → (Bool → Hp → Prop) → Prop := fun x H Q => ∃ a dx fs, x = .ref a ∧ H a = some (.ins C dx fs) ∧ sp [.ref a] H (fun v H' => ∃ b, v = .bl b ∧ Q b H') E0
theorem tru_own (o : Own X.K C "__bool__" f) (F : FnOk X.prog X.w X.K X.mg X.base CX0 k f fd ps sp) (hb : Binds X.K fd ps []) (hr : Room k X.A) : TruR X (rTru C sp) := by
  intro pins s σ H x v Q I rx h
  obtain ⟨a, dx, fs, rfl, ha, q⟩ := h
  cases rx
  obtain ⟨mA, J, _⟩ := ins_get I.hok ha
  obtain ⟨od, J, _⟩ := J.look
  obtain ⟨m, hF⟩ := I.fr
  refine PySem.W.truthy_K hF I.ok.mod.kin J o.at_ o.fn (thn (run_fn (us := [.ref a]) (vs := [.ref a]) F hr hb .nil pass0 I (.cons rfl .nil) q) fun v s' z => ?_)
  obtain ⟨z, H', I', r, b, rfl, q⟩ := z
  cases r
  exact ⟨H', I', q⟩
/-- not e, e an instance -/
def tNotO (r : V → Hp → (Bool → Hp → Prop) → Prop) (ta : TE) : TE := fun σ H Q => ta σ H fun x H1 => r x H1 fun b H2 => Q (.bl (!b)) H2
theorem pe_notO {r : V → Hp → (Bool → Hp → Prop) → Prop} {e : Expr} {ta : TE} {pos : Pos} (ht : TruR X r) (ha : PE X e ta) : PE X (.UnaryOp .Not e pos) (tNotO r ta) := by
  refine ⟨fun pins s σ H Q I h => ?_⟩
  refine UnaryOp_ (thn (ha.run pins s σ H _ I h) fun v s1 ⟨x, H1, I1, r1, q1⟩ => ?_)
  refine not_of (thn (ht pins s1 σ H1 x v _ I1 r1 q1) fun b s2 ⟨H2, I2, q2⟩ => ⟨.bl (!b), H2, I2, rfl, q2⟩)
/-- o.f as one of several targets -/
def gFld (K : PySem.W.Frag) (ta : TE) (f : Str) : TG := fun v σ H Q => ta σ H fun x H1 => ∃ a C dx fs, x = .ref a ∧ H1 a = some (.ins C dx fs) ∧ Cls K C ∧ NoAttr K C f ∧ fs.length < 1000 ∧ Q σ (upd H1 a (.ins C dx (putF f v fs)))
theorem pg_fld {o : Expr} {fn : Str} {pos : Pos} {ta : TE} (ho : PE X o ta)
    (ha : ∀ v, assign (.Attribute o fn pos) X.env v = (do
      let ov ← holding [v] (eval o X.env)
      standAt pos.atName
      holding [v, ov] (setAttr ov fn v)
      release [v, ov] []) := by intro _; rfl) : PG X (.Attribute o fn pos) (gFld X.K ta fn) := by
  refine ⟨fun pins s σ H v u Q I r h => ?_⟩
  rw [ha]
  refine wpAny_bind (wpAny_holding (thn (ho.run pins s σ H _ I h) fun ov s1 ⟨x, H1, I1, r1, a, C, dx, fs, ex, ea, c, n, l, q⟩ => ?_))
  subst ex
  obtain rfl : ov = Value.ref a := r1
  refine wpAny_bind (wpAny_standAt (wpAny_bind (wpAny_holding (setattr_ok I1 ea c n l r fun s3 I3 => ?_))))
  exact wpAny_release ⟨σ, _, I3, q⟩
/-- x(..), x a local name that holds the class at C -/
def tMakeL (i : Nat) (C : Addr) (sp : Sp) (t : TA) : TE := fun σ H Q => σ[i]? = some (some (.ref C)) ∧ tMake C sp [] E0 t σ H Q
theorem pe_makeL {i : Nat} {fI : Addr} {x : Str} {p pos : Pos} {e : Expr} {es : List Expr} {t : TA} (M : Mk X.K C fI) (F : FnOk X.prog X.w X.K X.mg X.base CX0 k fI fd ps sp) (hr : Room (k + 1) X.A) (hN : X.N[i]? = some x) (hv : Vis X.env.scope x) (hb : Binds X.K fd ps []) (ha : PA X (e :: es) t)
    (hdb : (x == ("__debug__" : Str)) = false := by decide) (hcd : (x == ("__classdict__" : Str)) = false := by decide)
    (he : starEach (e :: es) X.env = (false, eval e X.env) :: starEach es X.env := by rfl) (hpl : (backTo pos (starEach es X.env)).any (·.1) = false := by rfl) : PE X (.Call (.Name x p) (e :: es) [] pos) (tMakeL i C sp t) := by
  refine ⟨fun pins s σ H Q I h => ?_⟩
  obtain ⟨hs, ht⟩ := h
  refine wpAny_Call_Name_kw (thn ((pe_var (pos := p) hN hv hdb hcd).run pins s σ H (fun v H1 => v = .ref C ∧ H1 = H) I ⟨.ref C, hs, rfl, rfl⟩) fun u s1 ⟨v, H1, I1, r1, q1⟩ => ?_)
  obtain ⟨rfl, rfl⟩ := q1
  cases r1
  refine PySem.W.callWith_K (h₀ := X.base) I.ok.mod.kin M.kp (thn (ha.run pos pins s1 σ _ _ I1 ht) fun us s2 ⟨vs, H2, I2, r, q⟩ => ⟨I2.kIn, ?_⟩) he hpl
  exact run_make M F hr hb .nil pass0 I2 r q
end
/-! ### math.lcm -/
def rLcm : List V → Hp → VK → Prop := fun vs H Q => ∃ a b : Int, vs = [.int a, .int b] ∧ a.natAbs < 1000000 ∧ b.natAbs < 1000000 ∧ Q (.int ((Nat.lcm a.natAbs b.natAbs : Nat) : Int)) H
theorem cr_lcm {X : Cx} : CallR X (.builtin "math.lcm") rLcm := by
  intro pins s σ H vs us Q I r h
  obtain ⟨a, b, rfl, ha, hb, q⟩ := h
  obtain ⟨t, u, rfl⟩ := Vals.int2 r
  have small : (Nat.lcm a.natAbs b.natAbs).log2 < bitsLine := by
    have h1 : Nat.lcm a.natAbs b.natAbs ≤ a.natAbs * b.natAbs := Nat.div_le_self _ _
    have h2 : a.natAbs * b.natAbs ≤ 1000000 * 1000000 := Nat.mul_le_mul (by omega) (by omega)
    by_cases z : Nat.lcm a.natAbs b.natAbs = 0
    · rw [z]; decide
    · exact Nat.lt_trans ((Nat.log2_lt z).mpr (Nat.lt_of_le_of_lt (Nat.le_trans h1 h2) (by decide +kernel : 1000000 * 1000000 < 2 ^ 64))) (by decide +kernel)
  refine PySem.W.mg_lcm (by omega) (by omega) (by rw [Nat.lcm_one_left]; exact small) ?_
  rw [Nat.lcm_one_left]
  exact ⟨.int _, H, I.tok _, ⟨_, rfl⟩, q⟩
end Cf
/-! Own layer: a set made of a list of ints, of any length below the scan bound; sorted of such. -/
namespace Cf
open PySem PySem.Spec PyProof.Rows L2
section
variable {prog : Program} {w : World} {A : Around} {R : Result → Shared → Prop} {I : Addr} {fp wr : List Addr} {G : Array GenState → Array GenState → Prop} {n : Nat} {P : Nat → Value → Prop} {St : Nat → Shared → Prop}
/-- the loop of an update, the set's table known to rise -/
theorem upd_loop (W : WalksS prog w A.in1 I fp wr G n P St) (Z : Addr) (nZ : Z ∉ fp) (val : Nat → Int) (hval : ∀ i v, P i v → ∃ t, v = .int (val i) t) (room : n + 1 < scanBound) :
    ∀ (k i : Nat) (s : Shared) (S : Int → Bool) (c : Nat), n - i = k → i ≤ n → c ≤ i → St i s → SetR w s.heap Z S c →
      (∀ s' S' c', Moved (Z :: wr) G s s' → c' ≤ n → (∀ z, S' z = true ↔ (S z = true ∨ ∃ j, i ≤ j ∧ j < n ∧ val j = z)) → SetR w s'.heap Z S' c' → R (.ok (.ret .none)) s') →
      codeAny (model prog w) A (.builtin "set.update.loop" ⟨[.ref Z, .ref I], []⟩) R s := by
  have nZw : Z ∉ wr := fun q => nZ (W.sub _ q)
  have sub2 : ∀ b ∈ wr, b ∈ Z :: wr := fun b q => List.mem_cons_of_mem _ q
  intro k; induction k with
  | zero =>
    intro i s S c ek li lc st rs fin
    have e : i = n := by omega
    subst e
    refine codeAny_builtin F.entry_set_update_loop ?_; rw [Around.under_plainId F.plain_set_update_loop _]
    show wpAny _ A.in1 (pyNext (.ref I) >>= _) _ _ s; refine wpAny_bind (W.done s _ _ st fun s' mv => ?_)
    show wpAny _ A.in1 (ret Value.none) _ _ s'; refine wpAny_pure (fin s' S c (mv.mono sub2) (by omega) (fun z => ?_) (rs.at fun o q => mv.heap Z _ nZw q))
    exact ⟨.inl, fun q => q.elim id fun ⟨j, a, b, _⟩ => by omega⟩
  | succ k ih =>
    intro i s S c ek li lc st rs fin
    have lt : i < n := by omega
    refine codeAny_builtin F.entry_set_update_loop ?_; rw [Around.under_plainId F.plain_set_update_loop _]
    show wpAny _ A.in1 (pyNext (.ref I) >>= _) _ _ s; refine wpAny_bind (W.item i s _ _ lt st fun v s' pv' st' mv => ?_)
    obtain ⟨t, rfl⟩ := hval i v pv'
    have rs' : SetR w s'.heap Z S c := rs.at fun o q => mv.heap Z _ nZw q
    show wpAny _ A.in1 (holding [Value.int (val i) t] (setAdd Z (.int (val i) t)) >>= _) _ _ s'; refine wpAny_bind (wpAny_holding ?_)
    unfold setAdd; refine wpAny_holding ?_; refine wpAny_bind ((intKind prog w).pyHash (k := val i) (intKind_is _ _ _ _) ?_)
    refine setR_add_hashed (s := { s' with toks := s'.toks + 1 }) rs' (by omega) fun h' sb r2 => ?_
    refine wpAny_pure ⟨plainId_quiet F.plain_set_update_loop _, ih (i + 1) _ _ _ (by omega) lt (by split <;> omega) (W.frame _ s' _ _ st' (Nat.le_succ _) fun b hb o e => ?_) r2 fun s'' S'' c'' mv2 lc2 mem r3 => ?_⟩
    · rw [sb.2 b (fun q : b = Z => nZ (by rw [← q]; exact hb))]; exact e
    · refine fin s'' S'' c'' (Moved.trans W.gtrans ((mv.mono sub2).then_heap (Nat.le_succ _) fun b o hb e => ?_) mv2) lc2 (fun z => ?_) r3
      · rw [sb.2 b (fun q : b = Z => hb (by rw [q]; exact List.mem_cons_self))]; exact e
      · rw [mem z]
        constructor
        · rintro (q | ⟨j, a, b, e⟩)
          · rcases Bool.or_eq_true_iff.mp q with q | q
            · exact .inl q
            · exact .inr ⟨i, Nat.le_refl _, lt, (of_decide_eq_true q).symm⟩
          · exact .inr ⟨j, by omega, b, e⟩
        · rintro (q | ⟨j, a, b, e⟩)
          · exact .inl (Bool.or_eq_true_iff.mpr (.inl q))
          · by_cases ej : j = i
            · subst ej; exact .inl (Bool.or_eq_true_iff.mpr (.inr (decide_eq_true e.symm)))
            · exact .inr ⟨j, by omega, b, e⟩
end
section
variable {prog : Program} {w : World} {A : Around} {E : Value → Shared → Prop} {s : Shared}
theorem new_set1 (a : Value) {Q₁ : Value → Shared → Prop}
    (h : Q₁ (.ref s.heap.objs.size) { s with heap := s.heap.push { cls := .type "set", dict := none, data := .set #[] 0 (.fresh 0 0 (!w.params.followText "set-order")) } }) :
    codeAny (model prog w) A (.call (.builtin "set.__new__") ⟨[.type "set", a], []⟩) (wants Q₁ E) s := by
  refine codeAny_of_tree ?_; show wpAny _ A.in1 (do checkBuiltinCall "set.__new__" ⟨[.type "set", a], []⟩; again (.builtin "set.__new__" ⟨[.type "set", a], []⟩)) _ _ s
  refine wpAny_bind (wpAny_of_eq (F.newCall_set_1 a) (wpAny_pure ⟨plainId_quiet F.plain_set_new _, codeAny_builtin F.entry_set_new ?_⟩)); rw [Around.under_plainId F.plain_set_new _]
  unfold Builtin.«set.__new__» Builtin.Frozenset.newClass; have sb := sub_set_self; obtain ⟨hp, g, d, tk, os⟩ := s; dsimp only
  wp_walk
  refine wpAny_askSetting (wpAny_pure ?_); dsimp only; simp only [newObj]; refine wpAny_bind (wpAny_alloc (wpAny_pure ?_))
  exact wpAny_pure h
set_option maxHeartbeats 3200000 in
/-- set(l), l a list of ints -/
theorem call_setL {l : Addr} {items : Array Value} {ns : List Int} {Q : Value → Shared → Prop} (hh : A.handled = none) (hl : s.heap.IsList l items) (hi : PyProof.Rows.IntsAre items.toList ns) (room : items.size + 1 < scanBound)
    (fin : ∀ (h' : Heap) (tk : Nat) (S : Int → Bool) (c : Nat), c ≤ items.size → (∀ z, S z = true ↔ z ∈ ns) → SetR w h' s.heap.objs.size S c → (∀ b o, b < s.heap.objs.size → s.heap.get? b = some o → h'.get? b = some o) → Q (.ref s.heap.objs.size) { s with heap := h', toks := tk }) :
    wpAny (model prog w) A (call (.type "set") [.ref l]) Q E s := by
  obtain ⟨cM, tM, eM⟩ := F.called_set.mro; have m1 := F.called_set.made; have m2 := F.called_set.sub
  refine wpAny_call (codeAny_of_tree ?_); show wpAny _ _ (callAny (.type "set") _) _ _ _
  refine wpAny_pure ⟨Code.quiet_builtin _ (by decide +kernel), codeAny_builtin F.entry_type_call ?_⟩; rw [Around.under_plain (weight_type_call_type "set" [.ref l] []) rfl]
  have m3 := F.called_set.notType; have m4 := F.called_set.canCreate; have m5 := F.typeCall_set_1 (.ref l)
  repeat (any_goals (first | assumption | wp_step))
  refine codeAny_mono (new_set1 (.ref l) (E := E) (Q₁ := fun obj s₁ => obj = .ref s.heap.objs.size ∧ s₁ = { s with heap := s.heap.push { cls := .type "set", dict := none, data := .set #[] 0 (.fresh 0 0 (!w.params.followText "set-order")) } }) ⟨rfl, rfl⟩) fun r s₁ hr => ?_
  cases r with
  | error e => exact hr
  | ok fl => cases fl with
    | ret obj =>
      obtain ⟨rfl, rfl⟩ := hr
      have gS : (s.heap.push { cls := .type "set", dict := none, data := .set #[] 0 (.fresh 0 0 (!w.params.followText "set-order")) }).get? s.heap.objs.size = some { cls := .type "set", dict := none, data := .set #[] 0 (.fresh 0 0 (!w.params.followText "set-order")) } := Heap.get?_push_size _ rfl
      have tS : Shared.TypeIs { s with heap := s.heap.push { cls := .type "set", dict := none, data := .set #[] 0 (.fresh 0 0 (!w.params.followText "set-order")) } } (.ref s.heap.objs.size) "set" := ⟨_, gS, rfl⟩
      have i1 := F.called_set.init.lookup; have i2 := F.called_set.init.bind (.ref s.heap.objs.size)
      repeat (any_goals (first | assumption | wp_step))
      refine codeAny_mono (codeAny_call_builtin (R := wants (fun r s₂ => r = .none ∧ ∃ h' tk S c, s₂ = { s with heap := h', toks := tk } ∧ c ≤ items.size ∧ (∀ z, S z = true ↔ z ∈ ns) ∧ SetR w h' s.heap.objs.size S c ∧
          (∀ b o, b < s.heap.objs.size → s.heap.get? b = some o → h'.get? b = some o)) E) F.called_set.init.plain F.entry_set_init (check_set_init_1 tS ?_)) fun r₂ s₂ hr₂ => ?_
      · obtain ⟨ol, gl, cl, nl, dl⟩ := hl; obtain ⟨ocls, odict, odata, oslots⟩ := ol; simp only at cl dl; subst cl; subst dl
        have gl' : (s.heap.push { cls := .type "set", dict := none, data := .set #[] 0 (.fresh 0 0 (!w.params.followText "set-order")) }).get? l = some { cls := .type "list", dict := odict, data := .seq items nl, slots := oslots } := Heap.get?_push_of_some _ gl
        have q1 := F.sub_list_set; have q2 := F.sub_list_frozenset; have q3 : (Value.type "list" == Value.type "dict") = false := by decide
        have il : (s.heap.push { cls := .type "set", dict := none, data := .set #[] 0 (.fresh 0 0 (!w.params.followText "set-order")) }).IsList l items := ⟨_, gl', rfl, nl, rfl⟩
        unfold Builtin.«set.__init__» noKeywords Builtin.Frozenset.updateFrom; generalize ePI : pyIter = PI
        wp_walk
        subst ePI
        refine wpAny_pyIter_list il ?_; refine wpAny_bind (wpAny_runValue ?_)
        have lS : l < s.heap.objs.size := Heap.lt_size gl
        have h3 : A.in1.in1.in1.handled = none := by simp [hh]
        have nI : l ≠ (s.heap.push { cls := .type "set", dict := none, data := .set #[] 0 (.fresh 0 0 (!w.params.followText "set-order")) }).objs.size := by rw [Heap.size_push]; exact Nat.ne_of_lt (Nat.lt_succ_of_lt lS)
        have nF : s.heap.objs.size ∉ [(s.heap.push { cls := .type "set", dict := none, data := .set #[] 0 (.fresh 0 0 (!w.params.followText "set-order")) }).objs.size, l] := by
          rw [Heap.size_push]; simp only [List.mem_cons, List.mem_singleton, List.not_mem_nil, or_false, not_or]; exact ⟨Nat.ne_of_lt (Nat.lt_succ_self _), Nat.ne_of_gt lS⟩
        have hval : ∀ (i : Nat) (v : Value), items[i]? = some v → ∃ t, v = .int ((fun i => ns.getD i 0) i) t := fun i v hv => PyProof.Rows.IntsAre.int_at hi i v (by rw [Array.getElem?_toList]; exact hv)
        have hn : items.size = ns.length := by have := IntsAre.length hi; simpa using this
        refine upd_loop ((Walks.list h3 _ l nI items).toS) s.heap.objs.size nF (fun i => ns.getD i 0) hval room (items.size - 0) 0 _ (fun _ => false) 0 (by omega) (Nat.zero_le _) (Nat.le_refl _) ⟨⟨_, Heap.get?_push_size _ rfl, rfl, rfl⟩, (il.push _)⟩ ?_ ?_
        · exact (setR_fresh w).at fun o q => Heap.get?_push_of_some _ q
        · intro s' S' c' hm hc' mem hS'; obtain ⟨h', g', d', tk', os'⟩ := s'
          have eg : g' = s.gens := hm.gens
          have ed : d' = s.drawn := hm.drawn
          have eo : os' = s.os := hm.os
          subst eg; subst ed; subst eo; show wpAny _ _ _ _ _ _; refine wpAny_pure ?_; show wpAny _ _ (ret Value.none) _ _ _
          refine wpAny_pure ⟨rfl, h', tk', S', c', rfl, hc', fun z => ?_, hS', fun b o hb e => ?_⟩
          · rw [mem z]
            constructor
            · rintro (q | ⟨j, _, b, e⟩)
              · cases q
              · rw [← e, List.getD_eq_getElem?_getD, List.getElem?_eq_getElem (by omega)]
                exact List.getElem_mem _
            · intro q
              obtain ⟨j, hj, e⟩ := List.getElem_of_mem q
              exact .inr ⟨j, Nat.zero_le _, by omega, by rw [List.getD_eq_getElem?_getD, List.getElem?_eq_getElem hj]; exact e⟩
          · have b1 : b ≠ s.heap.objs.size := Nat.ne_of_lt hb
            have b2 : b ≠ (s.heap.push { cls := .type "set", dict := none, data := .set #[] 0 (.fresh 0 0 (!w.params.followText "set-order")) }).objs.size := by rw [Heap.size_push]; exact Nat.ne_of_lt (Nat.lt_succ_of_lt hb)
            refine hm.heap b o ?_ (Heap.get?_push_of_some _ (Heap.get?_push_of_some _ e)); simp only [List.mem_cons, List.mem_singleton, List.not_mem_nil, or_false, not_or]; exact ⟨b1, b2⟩
      · cases r₂ with
        | error e => exact hr₂
        | ok fl₂ => cases fl₂ with
          | ret r =>
            obtain ⟨rfl, h', tk, S, c, rfl, k1, k2, k3, k4⟩ := hr₂
            repeat (any_goals (first | assumption | wp_step))
            exact fin _ _ S c k1 k2 k3 k4
          | _ => exact hr₂.elim
    | _ => exact hr.elim
/-- sorted(found), any number of members -/
theorem sortedR {a : Addr} {S : Int → Bool} {n : Nat} {Q : Value → Shared → Prop} (R : SetR w s.heap a S n) (hh : A.handled = none)
    (fin : ∀ s' p (out : Array Value) (c : Nat) (ns : List Int), (∀ b o, s.heap.get? b = some o → s'.heap.get? b = some o) → s'.gens = s.gens → s'.os = s.os → s.heap.objs.size ≤ p →
      s'.heap.get? p = some (seqObj "list" out c) → IntsAre out.toList ns → ns.Pairwise (· < ·) → (∀ k, k ∈ ns ↔ S k = true) → ns.length = n → Q (.ref p) s') :
    wpAny (model prog w) A (call (.builtin "sorted") [.ref a]) Q E s := by
  obtain ⟨o, es, ep, t, ho, hex, hd, g, nd, hm, hb, hf, hn, hr, hl⟩ := R
  have nb : n < scanBound := by rw [← hn]; exact hb
  refine Calls.call_function_entry kind_sorted plain_sorted entry_sorted (args_sorted1 _) ?_; unfold Builtin.«sorted»; refine wpAny_bind (m := checkCount "sorted" 1 1 _) (wpAny_pure ?_)
  refine wpAny_bind (collect_set (A := A.in1) hh ⟨o, ho, hex.1, hd⟩ hf hb hr hl fun s1 vs k1 hz g1 o1 pm => ?_)
  have vl : vs.length = n := by rw [pm.length_eq, List.length_map, Array.length_toList]; exact hn
  have vz : vs.length ≤ sizeLine := by rw [vl, sizeLine_eq]; unfold scanBound at nb; omega
  have hI : IntsAre vs (vs.map Builtin.Re.reRawOf) := ints_of vs fun v hv => by
    obtain ⟨e, he, q⟩ := List.mem_map.mp (pm.mem_iff.mp hv); obtain ⟨k, tk, h1, _⟩ := g e he
    exact ⟨k, tk, by rw [← q]; exact h1⟩
  have pk : (vs.map Builtin.Re.reRawOf).Perm (es.toList.map keyOf) := by
    have q := pm.map Builtin.Re.reRawOf; rw [List.map_map] at q; exact q
  refine wpAny_bind (wpAny_newList ?_ vz)
  have oL : (s1.heap.push (seqObj "list" vs.toArray 0)).get? s1.heap.objs.size = some (seqObj "list" vs.toArray 0) := Heap.get?_push_size _ rfl
  refine wpAny_bind (wpAny_holding (wpAny_call_entry slot_list_sort ⟨_, oL, rfl⟩ entry_list_sort (SrtO.list_sort_ord SrtO.swo_int oL vz (fun h2 => SrtO.ints_sortable hI h2) fun out b1 b2 => ⟨_, rfl, ?_⟩) (args_list_sort _)))
  obtain ⟨j1, j2, j3⟩ := SrtO.ints_out hI b1 b2
  obtain ⟨c, hc⟩ := sortedHeap_at (vs := vs) (out := out.toArray) oL
  have pn := j2.trans pk
  refine wpAny_pure ⟨_, rfl, fin _ s1.heap.objs.size out.toArray c (out.map SrtO.iv) (fun b u e => ?_) g1 o1 hz hc (by simpa using j1) (lt_of_le_nodup _ j3 (pn.nodup_iff.mpr nd)) (fun k => by rw [pn.mem_iff, ← hm k]) ?_⟩
  · have q := k1 b u e; have lt := Heap.lt_size q
    show (sortedHeap (s1.heap.push (seqObj "list" vs.toArray 0)) s1.heap.objs.size vs out.toArray).get? b = some u
    rw [sortedHeap_old (Nat.ne_of_lt lt) (by rw [size_push']; exact Nat.lt_succ_of_lt lt)]; exact Heap.get?_push_of_some _ q
  · rw [pn.length_eq, List.length_map, Array.length_toList]; exact hn
end
/-- set(ns) -/
def rSetL (K : PySem.W.Frag) (w : World) : List V → Hp → VK → Prop := fun vs H Q => ∃ (l : Addr) (ns : List Int), vs = [.ref l] ∧ SqL K H l (ns.map V.int) ∧ ns.length + 1 < 4096 ∧ ∀ (c : Nat) (p : Addr), c ≤ ns.length → H p = none → Q (.ref p) (upd H p (SetO w p (fun z => decide (z ∈ ns)) c))
theorem cr_setL {X : Cx} (hc : X.calm = true) : CallR X (.type "set") (rSetL X.K X.w) := by
  intro pins s σ H vs us Q I r h
  obtain ⟨l, ns, rfl, hs, room, q⟩ := h
  obtain ⟨its, rv, hl, hz⟩ := I.list hs
  rw [Vals.ref1 r]
  have hi := rv.ints
  have ln : its.toArray.size = ns.length := by rw [List.size_toArray, ← rv.length, List.length_map]
  refine call_setL (I.ok.hd hc) hl.isList (by simpa using hi) (by rw [ln]; exact room) fun h' tk S c lc mem hS keep => ?_
  have R2 : SetR X.w h' s.heap.objs.size (fun z => decide (z ∈ ns)) c := hS.congr fun z => by
    by_cases e : z ∈ ns
    · rw [(mem z).mpr e, decide_eq_true e]
    · rw [decide_eq_false e]; cases q : S z with
      | false => rfl
      | true => exact absurd ((mem z).mp q) e
  exact ⟨.ref _, _, I.laid (t' := tk) (fun b u e => keep b u (Heap.lt_size e) e) (Nat.le_refl _) (setO_new R2), rfl, q c _ (by omega) (I.hok.fresh (Nat.le_refl _))⟩
/-- sorted(found) -/
def rSortedS (w : World) : List V → Hp → VK → Prop := fun vs H Q => ∃ (a : Addr) (S : Int → Bool) (n : Nat), vs = [V.ref a] ∧ H a = some (SetO w a S n) ∧ n < 4096 ∧
  ∀ (ns : List Int) (p : Addr), ns.Pairwise (· < ·) → (∀ k : Int, k ∈ ns ↔ S k = true) → H p = none → Q (.ref p) (upd H p (.lst (ns.map V.int)))
theorem cr_sortedS2 {X : Cx} (hc : X.calm = true) : CallR X (.builtin "sorted") (rSortedS X.w) := by
  intro pins s σ H vs us Q I r h
  obtain ⟨a, S, n, rfl, ha, room, q⟩ := h
  have R := setO_get I ha
  rw [Vals.ref1 r]
  refine sortedR R (I.ok.hd hc) fun s' p out c ns k g o hp hg hi hs hm hl => ?_
  have hlen : (ns.map V.int).length ≤ sizeLine := by rw [List.length_map, hl, sizeLine_eq]; omega
  have hn : H p = none := I.hok.fresh hp
  have J : Inv X pins σ (upd H p (.lst (ns.map V.int))) { s with heap := s'.heap, gens := s'.gens, drawn := s'.drawn, toks := s'.toks } := I.call (ch := []) (Un.laid k hp hn) (I.hok.laid k hp ⟨hlen, out.toList, c, vals_of_ints hi, hg⟩) (by rw [g]; exact I.bare) (fun _ z => nomatch z)
  have e : s' = { s with heap := s'.heap, gens := s'.gens, drawn := s'.drawn, toks := s'.toks } := by cases s'; cases s; cases o; rfl
  rw [e]
  exact ⟨.ref p, _, J, rfl, q ns p hs hm hn⟩
end Cf
/-! Own layer: a range with a step, held by a name and walked later. -/
namespace Cf
open PySem PySem.Spec PyProof.Rows L2
/-- the range object i, j, c at p -/
def RgO (p : Addr) (i j c : Int) : HO := .ext fun h => ∃ t u v, IsRange h p i j c t u v
/-- range(i, j, c) with ends of any size -/
def RgW (i j c : Int) (n : Nat) : Prop := c ≠ 0 ∧ c.natAbs < 1073741824 ∧ Builtin.Range.rangeSize i j c = n
theorem RgC.wide {i j c : Int} {n : Nat} (h : RgC i j c n) : RgW i j c n := ⟨h.1, h.2.1, h.2.2.2⟩
theorem turn_longC {P : Program} {w : World} {K : PySem.W.Frag} {tg : Expr} (it : Addr) (lo c : Int) (n : Nat) : Turn P w K tg (Itc lo c n) [it] it (fun i h => IsLongIter h it (lo + (i : Nat) * c) ((n : Int) - (i : Nat)) c) where
  mem := by simp
  obj := fun i h st b hb => by
    have e : b = it := by simpa using hb
    subst e
    exact ⟨_, st, fun v z => nomatch z⟩
  keep := fun i h h' st k => k it (by simp) _ st
  item := by
    intro X hP hw hK hc i pins s σ H E I hf st hg
    subst hP hw hK
    obtain ⟨f0, f1, f2, f3, f4, f5⟩ := hf it (by simp)
    have W := Walks.longrange (prog := X.prog) (w := X.w) (I.ok.hd hc) it lo c n
    refine W.item i s _ _ hg st fun v h' tk hv st' kk => ?_
    obtain ⟨t, rfl⟩ := hv
    have I1 : Inv X pins σ H { s with heap := h', toks := tk } := I.turned (fun b o hb e => kk b o (by simpa using hb) e) f0 f1 f3 f4 f5
    exact ⟨_, rfl, go_of (s := { s with heap := h', toks := tk }) (n := "longrange_iterator") st' rfl rfl (by decide) ⟨.int (lo + (i : Nat) * c), H, I1, ⟨t, rfl⟩, ⟨rfl, rfl⟩, st', fun b hb => (hf b hb).1⟩⟩
  done := by
    intro X hP hw hK hc i pins s σ H E I hf st hg
    subst hP hw hK
    obtain ⟨f0, f1, f2, f3, f4, f5⟩ := hf it (by simp)
    exact wpAny_pyNext_long_end (I.ok.hd hc) st (by have : n ≤ i := hg; omega) fun h' eb => ⟨rfl, I.turned (t' := s.toks) (fun b o hb e => eb b o hb e) f0 f1 f3 f4 f5⟩
  self := fun A i s Q E st h => wpAny_pyIter_longiter st h
section
variable {X : Cx}
/-- a range object walked, whatever its ends -/
theorem it_range {pins : List (Addr × Obj)} {σ : L2.St} {H : Hp} {s : Shared} {R : It → Hp → Prop} {tg : Expr} {E : Value → Shared → Prop} {p : Addr} {i j k : Int} {n : Nat} {t t' t'' : Tok} (I1 : Inv X pins σ H s) (hr : IsRange s.heap p i j k t t' t'') (c3 : Builtin.Range.rangeSize i j k = n) (q : R (Itc i k n) H) :
    wpAny (model X.prog X.w) X.A (pyIter (.ref p)) (PIE X pins σ tg R) E s := by
  have e1 : i + ((0 : Nat) : Int) * k = i := by simp
  have e2 : (n : Int) - ((0 : Nat) : Int) = Builtin.Range.rangeSize i j k := by rw [c3]; simp
  cases c2 : Builtin.Range.small i j k with
  | true =>
    refine wpAny_pyIter_range hr c2 ?_
    refine pi_one (tk := s.toks) I1 _ (turn_rangeC _ i k n) ?_ q
    show IsRangeIter _ _ (i + ((0 : Nat) : Int) * k) ((n : Int) - ((0 : Nat) : Int)) k
    rw [e1, e2]
    exact Heap.get?_push_size _ rfl
  | false =>
    refine wpAny_pyIter_longrange hr c2 ?_
    refine pi_one (tk := s.toks) I1 _ (turn_longC _ i k n) ?_ q
    show IsLongIter _ _ (i + ((0 : Nat) : Int) * k) ((n : Int) - ((0 : Nat) : Int)) k
    rw [e1, e2]
    exact Heap.get?_push_size _ rfl
theorem cr_range3 : CallR X (.type "range") (fun vs H Q => ∃ i j c n, vs = [.int i, .int j, .int c] ∧ RgW i j c n ∧ ∀ p, H p = none → Q (.ref p) (upd H p (RgO p i j c))) := by
  intro pins s σ H vs us Q I r h
  obtain ⟨i, j, c, n, rfl, ⟨c0, c1, c3⟩, q⟩ := h
  cases r with
  | cons r rr =>
    cases rr with
    | cons r' rr =>
      cases rr with
      | cons r'' rr =>
        cases rr
        obtain ⟨t, rfl⟩ := r
        obtain ⟨t', rfl⟩ := r'
        obtain ⟨t'', rfl⟩ := r''
        refine call_range_3 c0 ?_ (.inl (PyProof.noPylong_small c1))
        refine ⟨.ref s.heap.objs.size, upd H s.heap.objs.size (RgO s.heap.objs.size i j c), I.laid (t' := s.toks) (fun b o e => Heap.get?_push_of_some _ e) (Nat.le_refl _) ?_, rfl, q _ (I.hok.fresh (Nat.le_refl _))⟩
        exact ⟨⟨t, t', t'', Heap.get?_push_size _ rfl⟩, ⟨_, Heap.get?_push_size _ rfl⟩, fun h1 h2 ⟨a, b, d, e⟩ k => ⟨a, b, d, k _ e⟩⟩
def iRgV (te : TE) : TI := fun σ H R => te σ H fun x H1 => ∃ p i j c n, x = .ref p ∧ H1 p = some (RgO p i j c) ∧ RgW i j c n ∧ R (Itc i c n) H1
theorem pi_rgV {tg e : Expr} {te : TE} (he : PE X e te) : PI X tg e (iRgV te) := by
  refine ⟨fun pins s σ H R I h => ?_⟩
  refine thn (he.run pins s σ H _ I h) fun v s1 ⟨x, H1, I1, r1, q1⟩ => ?_
  obtain ⟨p, i, j, k, n, rfl, hp, ⟨c0, c1, c3⟩, q⟩ := q1
  cases r1
  obtain ⟨⟨t, t', t'', hr⟩, _⟩ := I1.hok p _ hp
  exact it_range I1 hr c3 q
/-- range(a, b), whatever the ends -/
def iRng2W (ta : TA) : TI := fun σ H R => ta σ H fun vs H1 => ∃ (i j : Int) (n : Nat), vs = [.int i, .int j] ∧ Builtin.Range.rangeSize i j 1 = n ∧ R (Itc i 1 n) H1
theorem pi_range2W {tg a b : Expr} {ta : TA} {p pos : Pos} (hg : Gl X "range") (hm : X.mg "range" = none) (ha : PA X [a, b] ta) (hs : starEach [a, b] X.env = [(false, eval a X.env), (false, eval b X.env)] := by rfl) (hs2 : starEach [b] X.env = [(false, eval b X.env)] := by rfl) :
    PI X tg (.Call (.Name "range" p) [a, b] [] pos) (iRng2W ta) := by
  refine ⟨fun pins s σ H R I h => ?_⟩
  refine Call_ (ld_blt I hg hm boot_range (PyProof.Rows.callWith_type1 (thn (ha.run pos pins s σ H _ I h) fun us s1 ⟨vs, H1, I1, r1, q1⟩ => ?_) (by rw [hs, hs2]) (by rw [hs2]; rfl)))
  obtain ⟨i, j, n, e, c3, q⟩ := q1
  subst e
  cases r1 with
  | cons r rr =>
    cases rr with
    | cons r' rr =>
      cases rr
      obtain ⟨t, rfl⟩ := r
      obtain ⟨t', rfl⟩ := r'
      refine call_range_2 ?_
      refine it_range (I1.kept fun b o e => Heap.get?_push_of_some _ e) (IsRange.new ..) c3 q
end
end Cf
namespace Cf
open PySem L2
set_option hygiene false
local macro_rules | `(tactic| walk_at "len") => `(tactic| repeat (first | (obtain ⟨e, _⟩ := h; subst e; rfl; done) | (obtain ⟨_, h⟩ := h)))
local macro_rules | `(tactic| walk_at "rd") => `(tactic| repeat (first | refine ⟨_, rfl, ?_⟩ | refine ⟨_, _, rfl, rfl, ?_⟩ | refine ⟨rfl, ?_⟩ | refine ⟨_, _, rfl, ?_⟩))
local macro_rules | `(tactic| walk_at "yes") => `(tactic| (dsimp only [tYes]; rw [if_pos rfl]))
set_option hygiene true
section
variable {P : Program} {w : World} {K : PySem.W.Frag} {mg : Str → Option Value} {base : Heap}
theorem szl {n : Nat} (h : n ≤ 8000000) : n < sizeLine := by rw [sizeLine_eq]; omega
theorem szle {n : Nat} (h : n ≤ 8000000) : n ≤ sizeLine := Nat.le_of_lt (szl h)
theorem lc_rangeC {lo : Int} {n : Nat} {g : TG} {tt : TT} {te : TE} {vs : List Nat} {σ : L2.St} {H1 : Hp} {D : Addr} {Qd : Hp → Prop} (Pv : Nat → Hp → Prop) (h0 : Pv 0 (upd H1 D (.lst [])))
    (hs : ∀ (i : Nat) (H : Hp), i < n → Pv i H → g (V.int (lo + (i : Int))) (wipe σ vs) H fun σ2 H2 => wipe σ2 vs = wipe σ vs ∧ tt σ2 H2 fun b H3 =>
      if b = true then te σ2 H3 fun y H4 => ∃ acc, H4 D = some (.lst acc) ∧ acc.length < sizeLine ∧ Pv (i + 1) (upd H4 D (.lst (acc ++ [y]))) else Pv (i + 1) H3) (hd : ∀ H, Pv n H → Qd H) :
    ∃ W : Nat → Nat → Hp → Prop, (∃ m, W 0 m (upd H1 D (.lst []))) ∧ ∀ (i m : Nat) (H : Hp), W i m H →
      (Itc lo 1 n).stop i H ∧ Qd H ∨ (Itc lo 1 n).go i H ∧ ∃ N : Hp → Prop, (∀ H', N H' → ∃ m', m' < m ∧ W (i + 1) m' H') ∧ ∀ (x : V) (H' : Hp), (Itc lo 1 n).yld i H x H' → g x (wipe σ vs) H' fun σ2 H2 => wipe σ2 vs = wipe σ vs ∧ tt σ2 H2 fun b H3 =>
        if b = true then te σ2 H3 fun y H4 => ∃ acc, H4 D = some (.lst acc) ∧ acc.length < sizeLine ∧ N (upd H4 D (.lst (acc ++ [y]))) else N H3 := by
  refine ⟨fun i m H => m = n - i ∧ i ≤ n ∧ Pv i H, ⟨n, rfl, Nat.zero_le n, h0⟩, fun i m H wv => ?_⟩
  obtain ⟨rfl, hi, p⟩ := wv
  by_cases c : i < n
  · refine .inr ⟨c, Pv (i + 1), fun H' p' => ⟨n - (i + 1), by omega, rfl, c, p'⟩, fun x H' y => ?_⟩
    obtain ⟨rfl, rfl⟩ := y
    rw [Int.mul_one]
    exact hs i H' c p
  · obtain rfl : i = n := by omega
    exact .inl ⟨Nat.le_refl _, hd H p⟩
theorem rangeN (lo hi : Int) (h : lo ≤ hi) : Builtin.Range.rangeSize lo hi 1 = ((hi - lo).toNat : Nat) := by
  unfold Builtin.Range.rangeSize
  rw [if_pos (by decide)]
  split <;> omega
/-! ### _law_kind_right -/
def kD (k : Int) (l : Bool) : PyData := .tuple [.int k, .bool l]
theorem dp_kind {H : Hp} {q : Addr} {k : Int} {l : Bool} (h : H q = some (.tup [.int k, .bl l])) : Dp K H (.ref q) (kD k l) := .tup (SqT.of h) (.cons (.int k) (.cons (.bl l) .nil))
theorem shaped_kind (k : Int) (l : Bool) : SeqAt.shaped (kD k l) = true := by
  unfold SeqAt.shaped kD
  rw [Bool.and_eq_true]
  exact ⟨by simp [PyData.canLay0, PyData.canLayAll0], decide_eq_true (by simp [PyData.depth, PyData.depthAll])⟩
theorem eqv_kind (k : Int) (l : Bool) : PyData.eqv (kD k l) (kD k l) = true := SeqAt.eqv_refl _ (SeqAt.canLay_of_shaped (shaped_kind k l))
theorem show_kind {k : Int} (h0 : 0 ≤ k) (h7 : k < 7) (l : Bool) : (kD k l).showable = true ∧ (kD k l).hasDict = false ∧ (kD k l).depth ≤ 60 ∧ (kD k l).shown.length ≤ sizeLine := by
  have e : k = 0 ∨ k = 1 ∨ k = 2 ∨ k = 3 ∨ k = 4 ∨ k = 5 ∨ k = 6 := by omega
  rcases e with rfl | rfl | rfl | rfl | rfl | rfl | rfl <;> cases l <;> exact ⟨by decide +kernel, by decide +kernel, by decide +kernel, szle (by decide +kernel)⟩
theorem tup_but {p a b q : Addr} {n : Nat} {H H' : Hp} {vs : List V} (S : Stt p a b n H) (B : But p a H H') (h : H q = some (.tup vs)) : H' q = some (.tup vs) := by
  obtain ⟨ws, cs, rest, turn, h1, h2, _⟩ := S.ex
  exact B _ _ h (ne_of h h1 (by intro z; cases z)) (ne_of h h2 (by intro z; cases z))
def gV1 : List V → List V := fun vs => [vs.getD 0 .non]
def spKR : Sp := fun vs H Q _ => ∃ (p a b : Addr) (n : Nat) (y : Int), vs = [.ref p, .int y] ∧ Stt p a b n H ∧ n ≤ 900000 ∧ ∀ H', Stt p a b (n + 3) H' → But p a H H' → Q (.bl true) H'
theorem scLawKindRight : FnScope ["state", "one_year", "kind", "begin", "times", "month", "day", "gone", "one"] ["state", "one_year"] (defScope sLawKindRight) := ⟨rfl, rfl, rfl, by decide +kernel, rfl, by decide +kernel, by decide +kernel⟩
set_option maxHeartbeats 2000000 in
theorem ok_kr {f : Addr} {fd : FuncData} (F : Fun K "_law_kind_right" "_law_kind_right" sLawKindRight f fd) (T : Nm mg) (D_kind_of : Df P w K mg base 4 "kind_of" ["year"] [] spKindOf) (K_kind_of : Dk P w K mg base 4 "kind_of" ["year"] ["year"] gV1 spKindOf) (D_law_new_year : Df P w K mg base 1 "_law_new_year" ["one_year"] [] spNy) (D_law_is_long : Df P w K mg base 1 "_law_is_long" ["one_year"] [] spLong)
    (D_law_take : Df P w K mg base 2 "_law_take" ["state", "size"] [] spTake) (D_year_start : Df P w K mg base 3 "year_start" ["year"] [] spYs) (D_law_size : Df P w K mg base 2 "_law_size" ["one_year", "month"] [] spSize) (D_weekday : Df P w K mg base 3 "weekday" ["day"] [] spWeekday) (D_day_of : Df P w K mg base 4 "day_of" ["year", "month", "day"] [] spDayOf) :
    FnG P w K mg base CX0 5 f fd ["state", "one_year"] spKR := by
  refine funG F scLawKindRight (fun vs H Q E h => ?_) (fun cdv A gd outer s H vs Q E hr h => ?_)
  · obtain ⟨_, _, _, _, _, rfl, _⟩ := h
    rfl
  · obtain ⟨p, a, b, n, y, rfl, S, hn, k⟩ := h
    have nd := scLawKindRight.nd
    have hu := hr.units
    refine ⟨_, (pss_cons (ps_par (i := 2) (j := 3) (by rfl) nd rfl rfl (by decide) rfl rfl (pa_cons (pe_df D_kind_of (hr.mono (by decide)) (pa_cons (pv 1) pa_nil)) (pa_cons (pe_df D_law_new_year (hr.mono (by decide)) (pa_cons (pv 1) pa_nil)) pa_nil)) (by rfl))
      (pss_cons (ps_if (PW.pt (pw_or (pt_cmpR op_ne (pe_callB (call_reprD gd hu) (by rfl) T.repr (by decide +kernel) (pa_cons (pv 2) pa_nil)) (pe_callB (call_reprD gd hu) (by rfl) T.repr (by decide +kernel) (pa_cons (pe_tup (pa_cons (pe_op op_mod (pe_callTy call_int1 (by rfl) T.int (by decide +kernel) (pa_cons (pe_op op_add (pv 3) pe_int) pa_nil)) pe_int) (pa_cons (pe_df D_law_is_long (hr.mono (by decide)) (pa_cons (pv 1) pa_nil)) pa_nil))) pa_nil)) (nomark _)) (pw_or1 (pt_cmpR (op_neD hu) (pe_dk K_kind_of (hr.mono (by decide)) (pk_cons (pv 1) pk_nil)) (pv 2) (nomark _)))))
        (pss_one (ps_ret pe_bl))
        pss_nil)
      (pss_cons (ps_set (i := 4) nd rfl (Or.inl rfl) (pe_op op_sub (pe_df D_law_take (hr.mono (by decide)) (pa_cons (pv 0) (pa_cons pe_int pa_nil))) pe_int))
      (pss_cons (ps_if (PW.pt (pw_or (pt_cmpR (op_neD hu) (pe_df D_kind_of (hr.mono (by decide)) (pa_cons (pe_op op_add (pv 1) (pe_op op_mul pe_int (pv 4))) pa_nil)) (pv 2) (nomark _)) (pw_or1 (pt_cmpR op_ne (pe_op op_sub (pe_df D_year_start (hr.mono (by decide)) (pa_cons (pe_op op_add (pv 1) (pe_op op_mul pe_int (pv 4))) pa_nil)) (pv 3)) (pe_op op_mul pe_int (pv 4)) (nomark _)))))
        (pss_one (ps_ret pe_bl))
        pss_nil)
      (pss_cons (ps_set (i := 5) nd rfl (Or.inl rfl) (pe_op op_add pe_int (pe_df D_law_take (hr.mono (by decide)) (pa_cons (pv 0) (pa_cons pe_int pa_nil)))))
      (pss_cons (ps_set (i := 6) nd rfl (Or.inl rfl) (pe_op op_add pe_int (pe_df D_law_take (hr.mono (by decide)) (pa_cons (pv 0) (pa_cons (pe_df D_law_size (hr.mono (by decide)) (pa_cons (pv 1) (pa_cons (pv 5) pa_nil))) pa_nil)))))
      (pss_cons (ps_set (i := 7) nd rfl (Or.inl rfl) (pe_op op_sub (pe_op op_add (pe_callB (cr_sum rfl) (by rfl) T.sum (by decide +kernel) (pa_cons (pe_lc (own := [("one", 8)]) (g := (gName 8)) (tt := tYes) rfl nd (pi_range2W (by rfl) T.range (pa_cons pe_int (pa_cons (pv 5) pa_nil))) (blkOk_by (N := ["state", "one_year", "kind", "begin", "times", "month", "day", "gone", "one"]) (sc := defScope sLawKindRight) (by decide +kernel)) (fun _ _ _ _ _ => pg_name (i := 8) nd rfl (Or.inl rfl)) (fun _ _ _ _ _ => pts_nil) (fun _ _ _ _ _ => (pe_df D_law_size (hr.mono (by decide)) (pa_cons (pv 1) (pa_cons (pv 8) pa_nil))))) pa_nil)) (pv 6)) pe_int))
      (pss_cons (ps_if (pt_cmpR op_ne (pe_df D_weekday (hr.mono (by decide)) (pa_cons (pe_df D_day_of (hr.mono (by decide)) (pa_cons (pv 1) (pa_cons (pv 5) (pa_cons (pv 6) pa_nil)))) pa_nil)) (pe_op op_mod (pe_callTy call_int1 (by rfl) T.int (by decide +kernel) (pa_cons (pe_op op_add (pe_ix ix_tup (pv 2) pe_int (fun _ _ => rfl)) (pv 7)) pa_nil)) pe_int) (nomark _))
        (pss_one (ps_ret pe_bl))
        pss_nil)
      (pss_one (ps_ret (pe_cmpR op_eq (pe_ix ix_tup (pe_df D_kind_of (hr.mono (by decide)) (pa_cons (pe_op op_add (pv 1) pe_int) pa_nil)) pe_int (fun _ _ => rfl)) (pe_op op_mod (pe_callTy call_int1 (by rfl) T.int (by decide +kernel) (pa_cons (pe_op op_add (pe_op op_add (pe_ix ix_tup (pv 2) pe_int (fun _ _ => rfl)) pe_int) (pe_callTy call_int1 (by rfl) T.int (by decide +kernel) (pa_cons (pe_ix ix_tup (pv 2) pe_int (fun _ _ => rfl)) pa_nil))) pa_nil)) pe_int) (nomark _)))))))))))), ?_⟩
    walk_at "rd"
    refine fun H1 q S1 nq hq => ?_
    walk_at "rd"
    have kb := k1_bd y
    have sk := show_kind kb.1 kb.2 (leapB y)
    refine ⟨q, _, rfl, dp_kind hq, sk.1, sk.2.1, sk.2.2.1, sk.2.2.2, ?_⟩
    walk_at "rd"
    refine .inl ⟨_, rfl, ?_⟩
    walk_at "rd"
    refine ⟨by show (0 : Int) < 7; decide, ?_⟩
    walk_at "rd"
    refine ⟨szle (by simp), fun t ht => ?_⟩
    have s2 := Same.new (o := .tup [V.int ((ysOf y + 5) % 7), V.bl (leapB y)]) ht
    have et : (upd H1 t (.tup [V.int ((ysOf y + 5) % 7), V.bl (leapB y)])) t = some (.tup [V.int (k1 y), V.bl (leapB y)]) := upd_same
    have S2 := S1.trans s2
    have hq2 := s2 _ _ hq
    clear s2
    generalize (upd H1 t (.tup [V.int ((ysOf y + 5) % 7), V.bl (leapB y)])) = H2 at *
    walk_at "rd"
    refine ⟨t, _, rfl, dp_kind et, sk.1, sk.2.1, sk.2.2.1, sk.2.2.2, rfl, ?_⟩
    refine ⟨false, by rw [decide_eq_true rfl]; rfl, ?_⟩
    refine iteFF rfl ?_
    walk_at "rd"
    refine fun H3 q3 S3 _ hq3 => ?_
    have hq23 := S3 _ _ hq2
    walk_at "rd"
    refine ⟨_, _, dp_kind hq3, dp_kind hq23, shaped_kind _ _, shaped_kind _ _, false, by rw [eqv_kind]; rfl, ?_⟩
    refine iteFF rfl ?_
    have S03 := S2.trans S3
    walk_at "rd"
    refine ⟨p, a, b, _, _, rfl, S.same S03, by omega, by decide, by decide, fun z H4 z0 z1 St4 B4 => ?_⟩
    have hq4 := tup_but (S.same S03) B4 hq23
    have ek : k1 (y + 400 * (z - 1000)) = k1 y := per_int k1_400 _ _ (by omega)
    have el : leapB (y + 400 * (z - 1000)) = leapB y := per_int leap_400 _ _ (by omega)
    have ey : ysOf (y + 400 * (z - 1000)) = ysOf y + 146097 * (z - 1000) := by unfold ysOf lyb; omega
    walk_at "rd"
    refine ⟨.inl ⟨by decide, by decide⟩, ?_⟩
    walk_at "rd"
    refine fun H5 q5 S5 _ hq5 => ?_
    rw [ek, el] at hq5
    have hq45 := S5 _ _ hq4
    walk_at "rd"
    refine ⟨_, _, dp_kind hq5, dp_kind hq45, shaped_kind _ _, shaped_kind _ _, false, by rw [eqv_kind]; rfl, ?_⟩
    refine iteFF rfl ?_
    walk_at "rd"
    refine ⟨.inl ⟨by decide, by decide⟩, ?_⟩
    walk_at "rd"
    refine ⟨.inl ⟨by decide, by decide⟩, ?_⟩
    have e1 : V.int (ysOf (y + 400 * (z - 1000)) - ysOf y) = V.int (146097 * (z - 1000)) := congrArg V.int (by omega)
    refine ⟨rfl, false, congrArg (fun c => V.bl (!c)) (decide_eq_true e1), ?_⟩
    refine iteFF rfl ?_
    have St5 := St4.same S5
    walk_at "rd"
    refine ⟨p, a, b, _, _, rfl, St5, by omega, by decide, by decide, fun zm H6 m0 m1 St6 B6 => ?_⟩
    have hq6 := tup_but St5 B6 hq45
    walk_at "rd"
    refine ⟨by omega, by omega, fun H7 S7 => ?_⟩
    have St7 := St6.same S7
    have hq7 := S7 _ _ hq6
    have mb := mlen_bd (m := 1 + zm) (by omega) (by omega) (leapB y)
    walk_at "rd"
    refine ⟨p, a, b, _, _, rfl, St7, by omega, by omega, by omega, fun zd H8 d0 d1 St8 B8 => ?_⟩
    have hq8 := tup_but St7 B8 hq7
    walk_at "rd"
    refine ⟨_, _, _, rfl, rangeN _ _ (by omega), fun D hD => ?_⟩
    refine lc_rangeC (fun i H' => Same H8 H' ∧ ∃ ns : List Int, H' D = some (.lst (ns.map V.int)) ∧ ns.sum = mst (1 + (i : Int)) (leapB y) ∧ ns.length = i) ⟨Same.new hD, [], upd_same, (mst_1 _).symm, rfl⟩ (fun i H9 hi inv => ?_) fun H9 inv => ?_
    · obtain ⟨S9, ns, dn, sm, ln⟩ := inv
      refine ⟨rfl, ?_⟩
      walk_at "rd"
      refine ⟨by omega, by omega, fun H10 S10 => ?_⟩
      refine ⟨_, S10 _ _ dn, by rw [List.length_map]; exact szl (by omega), (S9.trans S10).wr hD, ns ++ [mlen (1 + (i : Int)) (leapB y)], by rw [upd_same, List.map_append]; rfl, ?_, by rw [List.length_append, ln]; rfl⟩
      rw [List.sum_append, sm, show 1 + ((i + 1 : Nat) : Int) = 1 + (i : Int) + 1 by push_cast; omega, mst_succ (by omega) (by omega)]
      simp
    · obtain ⟨S9, ns, dn, sm, ln⟩ := inv
      rw [show 1 + (((1 + zm) - 1).toNat : Int) = 1 + zm by omega] at sm
      walk_at "rd"
      refine ⟨D, ns, rfl, SqL.of dn, ?_⟩
      rw [sm]
      walk_at "rd"
      have hq9 := S9 _ _ hq8
      have hd : IsDate y (1 + zm) (1 + zd) := ⟨by omega, by omega, by omega, by omega⟩
      refine ⟨y, 1 + zm, 1 + zd, rfl, hd, fun H10 S10 => ?_⟩
      have hq10 := S10 _ _ hq9
      walk_at "rd"
      refine ⟨q, _, _, _, rfl, rfl, SqT.of hq10, atI_nat (j := 0) rfl, ?_⟩
      walk_at "rd"
      refine .inl ⟨_, rfl, ?_⟩
      walk_at "rd"
      refine ⟨by show (0 : Int) < 7; decide, ?_⟩
      have e2 : V.int ((dayOf y (1 + zm) (1 + zd) + 5) % 7) = V.int ((k1 y + (mst (1 + zm) (leapB y) + (1 + zd) - 1)) % 7) := congrArg V.int (by unfold dayOf k1; omega)
      refine ⟨rfl, false, congrArg (fun c => V.bl (!c)) (decide_eq_true e2), ?_⟩
      refine iteFF rfl ?_
      walk_at "rd"
      refine fun H11 q11 S11 _ hq11 => ?_
      have hqe := S11 _ _ hq10
      walk_at "rd"
      refine ⟨q11, _, _, _, rfl, rfl, SqT.of hq11, atI_nat (j := 0) rfl, ?_⟩
      walk_at "rd"
      refine ⟨q, _, _, _, rfl, rfl, SqT.of hqe, atI_nat (j := 0) rfl, ?_⟩
      walk_at "rd"
      refine ⟨q, _, _, _, rfl, rfl, SqT.of hqe, atI_nat (j := 1) rfl, ?_⟩
      walk_at "rd"
      refine .inr ⟨_, rfl, ?_⟩
      walk_at "rd"
      refine .inl ⟨_, rfl, ?_⟩
      walk_at "rd"
      refine ⟨by show (0 : Int) < 7; decide, ?_⟩
      have e3 : V.int (k1 (y + 1)) = V.int ((k1 y + 1 + (if leapB y = true then 1 else 0)) % 7) := congrArg V.int (by rw [k1_next]; rfl)
      refine ⟨rfl, ?_⟩
      show Q (V.bl (decide (V.int (k1 (y + 1)) = V.int ((k1 y + 1 + if leapB y = true then 1 else 0) % 7)))) H11
      rw [decide_eq_true e3]
      have SE := (S9.trans S10).trans S11
      exact k H11 ((St8.same SE).mono (by omega)) ((((((But.of S03).trans B4).trans (But.of S5)).trans B6).trans (But.of S7)).trans B8 |>.trans (But.of SE))
end
end Cf
namespace Cf
open PySem L2
set_option hygiene false
local macro_rules | `(tactic| walk_at "len") => `(tactic| repeat (first | (obtain ⟨e, _⟩ := h; subst e; rfl; done) | (obtain ⟨_, h⟩ := h)))
local macro_rules | `(tactic| walk_at "rd") => `(tactic| repeat (first | refine ⟨_, rfl, ?_⟩ | refine ⟨_, _, rfl, rfl, ?_⟩ | refine ⟨rfl, ?_⟩ | refine ⟨_, _, rfl, ?_⟩))
local macro_rules | `(tactic| walk_at "yes") => `(tactic| (dsimp only [tYes]; rw [if_pos rfl]))
set_option hygiene true
section
variable {P : Program} {w : World} {K : PySem.W.Frag} {mg : Str → Option Value} {base : Heap}
/-! ### _law_round_right -/
theorem paired_get' {α β : Type} {R : α → β → Prop} : ∀ {xs : List α} {ys : List β}, Paired R xs ys → ∀ (i : Nat) (x : α), xs[i]? = some x → ∃ y, ys[i]? = some y ∧ R x y
  | _, _, .nil, i, y, h => by simp at h
  | _, _, .cons r rs, 0, y, h => by
    simp at h; subst h; exact ⟨_, rfl, r⟩
  | _, _, .cons r rs, i + 1, y, h => by
    rw [List.getElem?_cons_succ] at h
    obtain ⟨x, e, q⟩ := paired_get' rs i y h
    exact ⟨x, by rw [List.getElem?_cons_succ]; exact e, q⟩
def ysN (y : Int) (n : Nat) : List Int := (List.range n).map fun (j : Nat) => y + (j : Int)
theorem ysN_succ (y : Int) (n : Nat) : ysN y (n + 1) = ysN y n ++ [y + (n : Int)] := by unfold ysN; rw [List.range_succ, List.map_append]; rfl
theorem ysN_len (y : Int) (n : Nat) : (ysN y n).length = n := by unfold ysN; simp
theorem ysN_get {y : Int} {n i : Nat} (h : i < n) : (ysN y n)[i]? = some (y + (i : Int)) := by unfold ysN; simp [h]
theorem lpsN_succ (y : Int) (n : Nat) : lpsN y (n + 1) = lpsN y n ++ if leapB (y + (n : Int)) = true then [k1 (y + (n : Int))] else [] := by
  unfold lpsN
  rw [List.range_succ, List.filter_append, List.map_append]
  congr 1
  by_cases c : leapB (y + (n : Int)) = true
  · simp [c]
  · simp [c]
theorem lpsN_le (y : Int) (n : Nat) : (lpsN y n).length ≤ n := by
  unfold lpsN
  rw [List.length_map]
  exact Nat.le_trans (List.length_filter_le _ _) (by simp)
abbrev KT (H : Hp) (t : Addr) (z : Int) : Prop := H t = some (.tup [.int (k1 z), .bl (leapB z)])
def kDs (zs : List Int) : PyData := .list (zs.map fun z => kD (k1 z) (leapB z))
theorem lay_kds : ∀ zs : List Int, PyData.canLayAll0 (zs.map fun z => kD (k1 z) (leapB z)) = true
  | [] => rfl
  | z :: zs => by
    have := lay_kds zs
    simp only [List.map_cons, PyData.canLayAll0, this, Bool.and_true]
    simp [kD, PyData.canLay0, PyData.canLayAll0]
theorem dep_kds : ∀ zs : List Int, PyData.depthAll (zs.map fun z => kD (k1 z) (leapB z)) ≤ 3
  | [] => by simp [PyData.depthAll]
  | z :: zs => by
    have := dep_kds zs
    have e : (kD (k1 z) (leapB z)).depth ≤ 2 := by simp [kD, PyData.depth, PyData.depthAll]
    simp only [List.map_cons, PyData.depthAll]
    omega
theorem shaped_kds (zs : List Int) : SeqAt.shaped (kDs zs) = true := by
  unfold SeqAt.shaped kDs
  rw [Bool.and_eq_true]
  refine ⟨by simp [PyData.canLay0, lay_kds zs], decide_eq_true ?_⟩
  have := dep_kds zs
  simp [PyData.depth]
  omega
theorem dp_kds {H : Hp} : ∀ {ts : List Addr} {zs : List Int}, Paired (KT H) ts zs → DpAll K H (ts.map V.ref) (zs.map fun z => kD (k1 z) (leapB z))
  | _, _, .nil => .nil
  | _, _, .cons r rs => .cons (dp_kind r) (dp_kds rs)
def keyZ (z : Int) : List Int := [k1 z, if leapB z = true then 1 else 0]
def all14 : List (List Int) := [[0, 0], [0, 1], [1, 0], [1, 1], [2, 0], [2, 1], [3, 0], [3, 1], [4, 0], [4, 1], [5, 0], [5, 1], [6, 0], [6, 1]]
theorem key_14 (z : Int) : keyZ z ∈ all14 := by
  have kb := k1_bd z
  unfold keyZ
  have e : k1 z = 0 ∨ k1 z = 1 ∨ k1 z = 2 ∨ k1 z = 3 ∨ k1 z = 4 ∨ k1 z = 5 ∨ k1 z = 6 := by omega
  rcases e with e | e | e | e | e | e | e <;> rw [e] <;> (cases leapB z <;> decide)
theorem all14_in (y : Int) {x : List Int} (h : x ∈ all14) : ∃ i : Nat, i < 400 ∧ keyZ (y + (i : Int)) = x := by
  have go : ∀ (f : Int) (l : Bool), 0 ≤ f → f < 7 → ∃ i : Nat, i < 400 ∧ keyZ (y + (i : Int)) = [f, if l = true then 1 else 0] := fun f l h0 h7 => by
    obtain ⟨z, z0, z1, e1, e2⟩ := kind_comes y f l h0 h7
    refine ⟨(z - y).toNat, by omega, ?_⟩
    rw [show y + ((z - y).toNat : Int) = z by omega]
    unfold keyZ
    rw [e1, e2]
  unfold all14 at h
  simp only [List.mem_cons, List.not_mem_nil, or_false] at h
  rcases h with rfl | rfl | rfl | rfl | rfl | rfl | rfl | rfl | rfl | rfl | rfl | rfl | rfl | rfl
  · exact go 0 false (by decide) (by decide)
  · exact go 0 true (by decide) (by decide)
  · exact go 1 false (by decide) (by decide)
  · exact go 1 true (by decide) (by decide)
  · exact go 2 false (by decide) (by decide)
  · exact go 2 true (by decide) (by decide)
  · exact go 3 false (by decide) (by decide)
  · exact go 3 true (by decide) (by decide)
  · exact go 4 false (by decide) (by decide)
  · exact go 4 true (by decide) (by decide)
  · exact go 5 false (by decide) (by decide)
  · exact go 5 true (by decide) (by decide)
  · exact go 6 false (by decide) (by decide)
  · exact go 6 true (by decide) (by decide)
def keysOf : List Addr → List Int → List (Addr × List Int)
  | t :: ts, z :: zs => (t, keyZ z) :: keysOf ts zs
  | _, _ => []
theorem keys_refs {H : Hp} : ∀ {ts : List Addr} {zs : List Int}, Paired (KT H) ts zs → (keysOf ts zs).map (fun p => V.ref p.1) = ts.map V.ref
  | _, _, .nil => rfl
  | _, _, .cons _ rs => congrArg (_ :: ·) (keys_refs rs)
theorem keys_at {H : Hp} : ∀ {ts : List Addr} {zs : List Int}, Paired (KT H) ts zs → ∀ p ∈ keysOf ts zs, KeyAt H p.1 p.2 ∧ ∃ z, p.2 = keyZ z
  | _, _, .nil, p, m => nomatch m
  | _, _, .cons (b := z) r rs, p, m => by
    rcases List.mem_cons.mp m with rfl | m
    · exact ⟨⟨by show 2 ≤ 8; decide, _, r, .cons (.int _) (.cons (.bl _) .nil)⟩, z, rfl⟩
    · exact keys_at rs p m
theorem keys_has {H : Hp} : ∀ {ts : List Addr} {zs : List Int}, Paired (KT H) ts zs → ∀ z ∈ zs, ∃ p ∈ keysOf ts zs, p.2 = keyZ z
  | _, _, .nil, z, m => nomatch m
  | _, _, .cons _ rs, z, m => by
    rcases List.mem_cons.mp m with rfl | m
    · exact ⟨_, List.mem_cons_self, rfl⟩
    · obtain ⟨p, hp, e⟩ := keys_has rs z m
      exact ⟨p, List.mem_cons_of_mem _ hp, e⟩
theorem count14 {H : Hp} {y : Int} {ts : List Addr} (pr : Paired (KT H) ts (ysN y 400)) (L : List (List Int)) (nd : L.Nodup) (h1 : ∀ k ∈ L, ∃ p ∈ keysOf ts (ysN y 400), p.2 = k) (h2 : ∀ p ∈ keysOf ts (ysN y 400), p.2 ∈ L) : L.length = 14 := by
  have a := nodup_le L all14 nd fun k m => by
    obtain ⟨p, hp, rfl⟩ := h1 k m
    obtain ⟨z, e⟩ := (keys_at pr p hp).2
    rw [e]; exact key_14 z
  have b := nodup_le all14 L (by decide) fun x m => by
    obtain ⟨i, hi, rfl⟩ := all14_in y m
    obtain ⟨p, hp, e⟩ := keys_has pr (y + (i : Int)) (List.mem_of_getElem? (ysN_get hi))
    rw [← e]; exact h2 p hp
  have : all14.length = 14 := rfl
  omega
theorem lc_zipC {a b : Addr} {xs ys : List V} {g : TG} {tt : TT} {te : TE} {vs : List Nat} {σ : L2.St} {H1 : Hp} {D : Addr} {Qd : Hp → Prop} (Pv : Nat → Hp → Prop) (h0 : Pv 0 (upd H1 D (.lst [])))
    (ka : ∀ i H, Pv i H → SqL K H a xs) (kb : ∀ i H, Pv i H → SqL K H b ys)
    (hs : ∀ (i : Nat) (H : Hp) (x y : V) (T : Addr), xs[i]? = some x → ys[i]? = some y → H T = none → Pv i H → g (V.ref T) (wipe σ vs) (upd H T (.tup [x, y])) fun σ2 H2 => wipe σ2 vs = wipe σ vs ∧ tt σ2 H2 fun b H3 =>
      if b = true then te σ2 H3 fun y H4 => ∃ acc, H4 D = some (.lst acc) ∧ acc.length < sizeLine ∧ Pv (i + 1) (upd H4 D (.lst (acc ++ [y]))) else Pv (i + 1) H3) (hd : ∀ i H, Pv i H → Qd H) :
    ∃ W : Nat → Nat → Hp → Prop, (∃ m, W 0 m (upd H1 D (.lst []))) ∧ ∀ (i m : Nat) (H : Hp), W i m H →
      (Itz K a b).stop i H ∧ Qd H ∨ (Itz K a b).go i H ∧ ∃ N : Hp → Prop, (∀ H', N H' → ∃ m', m' < m ∧ W (i + 1) m' H') ∧ ∀ (x : V) (H' : Hp), (Itz K a b).yld i H x H' → g x (wipe σ vs) H' fun σ2 H2 => wipe σ2 vs = wipe σ vs ∧ tt σ2 H2 fun b H3 =>
        if b = true then te σ2 H3 fun y H4 => ∃ acc, H4 D = some (.lst acc) ∧ acc.length < sizeLine ∧ N (upd H4 D (.lst (acc ++ [y]))) else N H3 := by
  refine ⟨fun i m H => m = xs.length - i ∧ Pv i H, ⟨xs.length, rfl, h0⟩, fun i m H wv => ?_⟩
  obtain ⟨rfl, p⟩ := wv
  by_cases c : i < xs.length ∧ i < ys.length
  · obtain ⟨x, hx⟩ : ∃ x, xs[i]? = some x := ⟨_, List.getElem?_eq_getElem c.1⟩
    obtain ⟨y, hy⟩ : ∃ y, ys[i]? = some y := ⟨_, List.getElem?_eq_getElem c.2⟩
    refine .inr ⟨⟨xs, ys, x, y, ka i H p, kb i H p, hx, hy⟩, Pv (i + 1), fun H' p' => ⟨xs.length - (i + 1), by omega, rfl, p'⟩, fun v H' yl => ?_⟩
    obtain ⟨T, x2, y2, rfl, hT, rfl, e1, e2⟩ := yl
    exact hs i H x2 y2 T (e1 xs (ka i H p)) (e2 ys (kb i H p)) hT p
  · exact .inl ⟨⟨xs, ys, ka i H p, kb i H p, by omega⟩, hd i H p⟩
theorem for_rangeC {lo : Int} {n : Nat} {g : TG} {tb : TS} {D : Ends} {σ : L2.St} {H : Hp} (Pv : Nat → L2.St → Hp → Prop) (h0 : Pv 0 σ H)
    (hs : ∀ (i : Nat) (σ : L2.St) (H : Hp), i < n → Pv i σ H → g (V.int (lo + (i : Int))) σ H fun σ2 H2 => tb { nx := Pv (i + 1), rt := D.rt, bk := D.nx, ct := Pv (i + 1) } σ2 H2)
    (hd : ∀ (σ : L2.St) (H : Hp), Pv n σ H → D.nx σ H) :
    ∃ W : Nat → Nat → L2.St → Hp → Prop, (∃ m, W 0 m σ H) ∧ ∀ (i m : Nat) (σ : L2.St) (H : Hp), W i m σ H → (Itc lo 1 n).stop i H ∧ D.nx σ H ∨ (Itc lo 1 n).go i H ∧ ∃ N : L2.St → Hp → Prop, (∀ (σ' : L2.St) (H' : Hp), N σ' H' → ∃ m', m' < m ∧ W (i + 1) m' σ' H') ∧
      ∀ (x : V) (H' : Hp), (Itc lo 1 n).yld i H x H' → g x σ H' fun σ2 H2 => tb { nx := N, rt := D.rt, bk := D.nx, ct := N } σ2 H2 := by
  refine ⟨fun i m σ H => m = n - i ∧ i ≤ n ∧ Pv i σ H, ⟨n, rfl, Nat.zero_le n, h0⟩, fun i m σ H wv => ?_⟩
  obtain ⟨rfl, hi, p⟩ := wv
  by_cases c : i < n
  · refine .inr ⟨c, Pv (i + 1), fun σ' H' p' => ⟨n - (i + 1), by omega, rfl, c, p'⟩, fun x H' y => ?_⟩
    obtain ⟨rfl, rfl⟩ := y
    rw [Int.mul_one]
    exact hs i σ H' c p
  · have : i = n := by omega
    subst this
    exact .inl ⟨Nat.le_refl _, hd σ H p⟩
def spRR : Sp := fun vs H Q _ => ∃ y : Int, vs = [.int y] ∧ ∀ H', Same H H' → Q (.bl true) H'
theorem scLawRoundRight : FnScope ["one_year", "sorts", "later", "leaps", "kind", "one", "other", "due"] ["one_year"] (defScope sLawRoundRight) := ⟨rfl, rfl, rfl, by decide +kernel, rfl, by decide +kernel, by decide +kernel⟩
set_option maxHeartbeats 2000000 in
theorem ok_rr {f : Addr} {fd : FuncData} (F : Fun K "_law_round_right" "_law_round_right" sLawRoundRight f fd) (T : Nm mg) (D_kind_of : Df P w K mg base 4 "kind_of" ["year"] [] spKindOf) (D_law_new_year : Df P w K mg base 1 "_law_new_year" ["one_year"] [] spNy) (D_law_is_long : Df P w K mg base 1 "_law_is_long" ["one_year"] [] spLong) :
    FnOk P w K mg base CX0 5 f fd ["one_year"] spRR := by
  refine F.ok scLawRoundRight (fun vs H Q E h => ?_) (fun cdv A outer s H vs Q E hr h => ?_)
  · obtain ⟨_, rfl, _⟩ := h
    rfl
  · obtain ⟨y, rfl, k⟩ := h
    have nd := scLawRoundRight.nd
    have hu := hr.units
    refine ⟨_, (pss_cons (ps_setLc (i := 1) (own := [("later", 2)]) (g := (gName 2)) (tt := tYes) rfl nd rfl rfl (sw_true rfl rfl rfl (by decide +kernel)) (pi_range2W (by rfl) T.range (pa_cons (pv 0) (pa_cons (pe_op op_add (pv 0) pe_int) pa_nil))) (blkOk_by (N := ["one_year", "sorts", "later", "leaps", "kind", "one", "other", "due"]) (sc := defScope sLawRoundRight) (by decide +kernel)) (fun _ _ _ _ _ => pg_name (i := 2) nd rfl (Or.inl rfl)) (fun _ _ _ _ _ => pts_nil) (fun _ _ _ _ _ => (pe_df D_kind_of (hr.mono (by decide)) (pa_cons (pv 2) pa_nil))))
      (pss_cons (ps_set (i := 3) nd rfl (Or.inr rfl) (pe_lc (own := [("kind", 4)]) (g := (gName 4)) rfl nd (pi_list (pv 1)) (blkOk_by (N := ["one_year", "sorts", "later", "leaps", "kind", "one", "other", "due"]) (sc := defScope sLawRoundRight) (by decide +kernel)) (fun _ _ _ _ _ => pg_name (i := 4) nd rfl (Or.inl rfl)) (fun _ _ _ _ _ => (pts_one (pt_val (pe_ix (show IxR _ (rIxT K) from ix_tup) (pv 4) pe_int (fun _ _ => rfl))))) (fun _ _ _ _ _ => (pe_ix (show IxR _ (rIxT K) from ix_tup) (pv 4) pe_int (fun _ _ => rfl)))))
      (pss_cons (ps_if (PW.pt (pw_or (pt_cmpR op_ne (pe_lenSetN rfl hu (by rfl) T.len (by rfl) T.set (pv 1)) pe_int (nomark _)) (pw_or1 (pt_cmpR op_ne (pe_callB call_len_seq (by rfl) T.len (by decide +kernel) (pa_cons (pv 3) pa_nil)) pe_int (nomark _)))))
        (pss_one (ps_ret pe_bl))
        pss_nil)
      (pss_cons (ps_if (pt_cmpR (op_neD hu) (pe_lc (own := [("one", 5)]) (g := (gName 5)) rfl nd (pi_range1 (by rfl) T.range (pa_cons pe_int pa_nil)) (blkOk_by (N := ["one_year", "sorts", "later", "leaps", "kind", "one", "other", "due"]) (sc := defScope sLawRoundRight) (by decide +kernel)) (fun _ _ _ _ _ => pg_name (i := 5) nd rfl (Or.inl rfl)) (fun _ _ _ _ _ => (pts_one (pt_not (pt_chain op_le op_le pe_int (show PE _ _ (tBM K "list" (rCntI K) (tVar 3) (tCons (tVar 5) tNil)) from pe_bm PySem.F.plainAttrs_list PySem.F.slot_list_count PySem.F.type_list_count mt_lcount (pv 3) (pa_cons (pv 5) pa_nil)) pe_int)))) (fun _ _ _ _ _ => (pv 5))) (pe_lst pa_nil) (nomark _))
        (pss_one (ps_ret pe_bl))
        pss_nil)
      (pss_cons (ps_if (pt_cmpR (op_neD hu) (pe_lc (own := [("one", 5), ("other", 6)]) (g := (gTup K 2 (gCons (gName 5) (gCons (gName 6) gNil)))) rfl nd (pi_zip (by rfl) T.zip (pa_cons (pv 1) (pa_cons (pe_slice sl_list (pv 1) (po_some pe_int) po_none) pa_nil))) (blkOk_by (N := ["one_year", "sorts", "later", "leaps", "kind", "one", "other", "due"]) (sc := defScope sLawRoundRight) (by decide +kernel)) (fun _ _ _ _ _ => pg_tup (by rfl) (pgs_cons (pg_name (i := 5) nd rfl (Or.inl rfl)) (pgs_cons (pg_name (i := 6) nd rfl (Or.inl rfl)) pgs_nil))) (fun _ _ _ _ _ => (pts_one (PW.pt (pw_and (pt_val (pe_ix (show IxR _ (rIxT K) from ix_tup) (pv 5) pe_int (fun _ _ => rfl))) (pw_and1 (pt_val (pe_ix (show IxR _ (rIxT K) from ix_tup) (pv 6) pe_int (fun _ _ => rfl)))))))) (fun _ _ _ _ _ => pe_int)) (pe_lst pa_nil) (nomark _))
        (pss_one (ps_ret pe_bl))
        pss_nil)
      (pss_cons (ps_set (i := 7) nd rfl (Or.inl rfl) (pe_lst pa_nil))
      (pss_cons (ps_for PassesOwn.never rfl (pi_range2W (by rfl) T.range (pa_cons (pv 0) (pa_cons (pe_op op_add (pv 0) pe_int) pa_nil))) (pg_name (i := 2) nd rfl (Or.inl rfl))
        (pss_one (ps_expr (pe_bm PySem.F.plainAttrs_list PySem.F.slot_list_append PySem.F.type_list_append mt_append (pv 7) (pa_cons (pe_tup (pa_cons (pe_op op_mod (pe_callTy call_int1 (by rfl) T.int (by decide +kernel) (pa_cons (pe_op op_add (pe_df D_law_new_year (hr.mono (by decide)) (pa_cons (pv 2) pa_nil)) pe_int) pa_nil)) pe_int) (pa_cons (pe_df D_law_is_long (hr.mono (by decide)) (pa_cons (pv 2) pa_nil)) pa_nil))) pa_nil)))))
      (pss_one (ps_ret (pe_cmpR (op_eqD hu) (pv 1) (pv 7) (nomark _))))))))))), ?_⟩
    walk_at "rd"
    have r400 : Builtin.Range.rangeSize y (y + 400) 1 = (400 : Nat) := by
      rw [rangeN _ _ (by omega), show (y + 400 - y).toNat = 400 by omega]
    refine ⟨_, _, _, rfl, r400, fun D hD => ?_⟩
    refine lc_rangeC (fun i H' => Same H H' ∧ ∃ ts : List Addr, H' D = some (.lst (ts.map V.ref)) ∧ Paired (KT H') ts (ysN y i)) ⟨Same.new hD, [], upd_same, .nil⟩ (fun i H2 hi inv => ?_) fun H2 inv => ?_
    · obtain ⟨S2, ts, dt, pr⟩ := inv
      have lt : ts.length = i := by rw [pr.length, ysN_len]
      refine ⟨rfl, ?_⟩
      walk_at "rd"
      refine fun H3 q S3 nq hq => ?_
      have dt3 := S3 _ _ dt
      have keep : ∀ (o : HO) (c : Addr) (vs : List L2.V), H3 c = some (.tup vs) → (upd H3 D o) c = some (.tup vs) := fun o c vs g => by
        have : c ≠ D := fun z => by rw [z, dt3] at g; cases g
        rw [upd_ne this]; exact g
      refine ⟨_, dt3, by rw [List.length_map]; exact szl (by omega), (S2.trans S3).wr hD, ts ++ [q], by rw [upd_same, List.map_append]; rfl, ?_⟩
      rw [ysN_succ]
      exact Paired.snoc (Paired.mapP pr fun t z e => keep _ _ _ (S3 _ _ e)) (keep _ _ _ hq)
    obtain ⟨S2, ts, dt, pr⟩ := inv
    have lt : ts.length = 400 := by rw [pr.length, ysN_len]
    walk_at "rd"
    refine ⟨⟨_, SqL.of dt⟩, fun D2 hD2 => ?_⟩
    refine lc_list (K := K) (a := D) (xs := ts.map V.ref) (fun i H' => Same H2 H' ∧ H' D2 = some (.lst ((lpsN y i).map V.int))) ⟨Same.new hD2, upd_same⟩ (fun i H' _ ⟨s1, _⟩ => SqL.of (s1 _ _ dt)) ?_ ?_
    · rintro i y' H3 hi ⟨S3, d3⟩
      rw [List.getElem?_map] at hi
      obtain ⟨t, ht, rfl⟩ := Option.map_eq_some_iff.mp hi
      obtain ⟨z, hz, ez⟩ := paired_get' pr _ t ht
      have li : i < 400 := by rw [← lt]; exact (List.getElem?_eq_some_iff.mp ht).1
      rw [ysN_get li] at hz
      cases hz
      have ez3 := S3 _ _ ez
      refine ⟨rfl, ?_⟩
      walk_at "rd"
      refine ⟨t, _, _, _, rfl, rfl, SqT.of ez3, atI_nat (j := 1) rfl, ?_⟩
      walk_at "rd"
      have sc := lpsN_succ y i
      have ll := lpsN_le y i
      by_cases c : leapB (y + (i : Int)) = true
      · rw [if_pos c] at sc
        refine iteTT c ?_
        walk_at "rd"
        refine ⟨t, _, _, _, rfl, rfl, SqT.of ez3, atI_nat (j := 0) rfl, ?_⟩
        exact ⟨_, d3, by rw [List.length_map]; exact szl (by omega), S3.wr hD2, by rw [upd_same, sc, List.map_append]; rfl⟩
      · rw [if_neg c, List.append_nil] at sc
        refine iteFF (by simpa using c) ?_
        exact ⟨S3, by rw [sc]; exact d3⟩
    · rintro H3 ⟨S3, d3⟩
      rw [List.length_map, lt] at d3
      have dt3 := S3 _ _ dt
      have pr3 : Paired (KT H3) ts (ysN y 400) := Paired.mapP pr fun t z e => S3 _ _ e
      walk_at "rd"
      refine ⟨D, keysOf ts (ysN y 400), all14, 14, rfl, by rw [keys_refs pr3]; exact SqL.of dt3, fun p m => (keys_at pr3 p m).1, by decide, fun p m => by obtain ⟨z, e⟩ := (keys_at pr3 p m).2; rw [e]; exact key_14 z, fun L nd h1 h2 => count14 pr3 L nd h1 h2, ?_⟩
      walk_at "rd"
      refine ⟨D2, _, rfl, .inl (SqL.of d3), ?_⟩
      rw [List.length_map, lps_len]
      walk_at "rd"
      refine ⟨by decide, by decide, fun D3 hD3 => ?_⟩
      refine lc_range (lo := 0) (n := 7) (fun i H' => Same H3 H' ∧ H' D3 = some (.lst [])) ⟨Same.new hD3, upd_same⟩ ?_ ?_
      · rintro i H4 hi ⟨S4, d4⟩
        have cb := lps_count y (0 + (i : Int)) (by omega) (by omega)
        refine ⟨rfl, ?_⟩
        walk_at "rd"
        refine ⟨.inl ⟨rfl, _, SqL.of (S4 _ _ d3)⟩, ?_⟩
        walk_at "rd"
        refine ⟨D2, _, _, rfl, rfl, SqL.of (S4 _ _ d3), ?_⟩
        walk_at "rd"
        refine iteTT (decide_eq_true (by omega)) ?_
        walk_at "rd"
        have e15 : decide (((lpsN y 400).count (0 + (i : Int)) : Int) ≤ 15) = true := decide_eq_true (by omega)
        rw [e15]
        exact iteFF rfl ⟨S4, d4⟩
      · rintro H4 ⟨S4, d4⟩
        walk_at "rd"
        refine ⟨szle (by simp), fun q hq => ?_⟩
        have s5 := Same.new (o := .lst []) hq
        refine ⟨.list [], .list [], .lst (SqL.of (s5 _ _ d4)) .nil, .lst (SqL.of upd_same) .nil, by decide, by decide, false, by simp [PyData.eqv, PyData.eqvAll], ?_⟩
        refine iteFF rfl ?_
        have S5 := S4.trans s5
        clear s5
        generalize (upd H4 q (.lst [])) = H5 at *
        have dt5 := S5 _ _ dt3
        walk_at "rd"
        refine ⟨D, _, rfl, SqL.of dt5, fun q6 hq6 => ?_⟩
        have e6 : cutV (ts.map V.ref) (some 1) none = (ts.drop 1).map V.ref := by
          unfold cutV
          rw [List.length_map, lt]
          show ((ts.map V.ref).drop 1).take (400 - 1) = _
          rw [← List.map_drop, List.take_of_length_le (by rw [List.length_map, List.length_drop]; omega)]
        rw [e6]
        have s6 := Same.new (o := .lst ((ts.drop 1).map V.ref)) hq6
        have eq6 : (upd H5 q6 (.lst ((ts.drop 1).map V.ref))) q6 = some (.lst ((ts.drop 1).map V.ref)) := upd_same
        have S6 := S5.trans s6
        have dt6 := s6 _ _ dt5
        clear s6
        generalize (upd H5 q6 (.lst ((ts.drop 1).map V.ref))) = H6 at *
        have pr6 : Paired (KT H6) ts (ysN y 400) := Paired.mapP pr3 fun t z e => S6 _ _ e
        walk_at "rd"
        refine ⟨D, q6, _, _, rfl, SqL.of dt6, SqL.of eq6, fun D4 hD4 => ?_⟩
        refine lc_zipC (fun i H' => Same H6 H' ∧ H' D4 = some (.lst [])) ⟨Same.new hD4, upd_same⟩ (fun i H' ⟨s1, _⟩ => SqL.of (s1 _ _ dt6)) (fun i H' ⟨s1, _⟩ => SqL.of (s1 _ _ eq6)) (fun i H7 x1 x2 T hx1 hx2 hT inv => ?_) fun i H7 inv => ?_
        · obtain ⟨S7, d7⟩ := inv
          rw [List.getElem?_map] at hx1 hx2
          obtain ⟨t1, ht1, rfl⟩ := Option.map_eq_some_iff.mp hx1
          obtain ⟨t2, ht2, rfl⟩ := Option.map_eq_some_iff.mp hx2
          rw [List.getElem?_drop] at ht2
          obtain ⟨z1, hz1, ez1⟩ := paired_get' pr6 _ t1 ht1
          obtain ⟨z2, hz2, ez2⟩ := paired_get' pr6 _ t2 ht2
          have l1 : i < 400 := by rw [← lt]; exact (List.getElem?_eq_some_iff.mp ht1).1
          have l2 : 1 + i < 400 := by rw [← lt]; exact (List.getElem?_eq_some_iff.mp ht2).1
          rw [ysN_get l1] at hz1
          rw [ysN_get l2] at hz2
          cases hz1
          cases hz2
          have s8 := Same.new (o := .tup [V.ref t1, V.ref t2]) hT
          refine ⟨T, _, rfl, SqT.of upd_same, rfl, ?_⟩
          have z18 := s8 _ _ (S7 _ _ ez1)
          have z28 := s8 _ _ (S7 _ _ ez2)
          have d8 := s8 _ _ d7
          have S8 := S7.trans s8
          clear s8
          generalize (upd H7 T (.tup [V.ref t1, V.ref t2])) = H8 at *
          walk_at "rd"
          refine ⟨t1, _, _, _, rfl, rfl, SqT.of z18, atI_nat (j := 1) rfl, ?_⟩
          walk_at "rd"
          by_cases c : leapB (y + (i : Int)) = true
          · refine iteTT c ?_
            walk_at "rd"
            refine ⟨t2, _, _, _, rfl, rfl, SqT.of z28, atI_nat (j := 1) rfl, ?_⟩
            walk_at "rd"
            have la := leap_alone c
            refine iteFF (by rw [show y + ((1 + i : Nat) : Int) = y + (i : Int) + 1 by push_cast; omega]; exact la) ?_
            exact ⟨S8, d8⟩
          · refine iteFF (by simpa using c) ?_
            exact iteFF rfl ⟨S8, d8⟩
        · obtain ⟨S7, d7⟩ := inv
          walk_at "rd"
          refine ⟨szle (by simp), fun q8 hq8 => ?_⟩
          have s8 := Same.new (o := .lst []) hq8
          refine ⟨.list [], .list [], .lst (SqL.of (s8 _ _ d7)) .nil, .lst (SqL.of upd_same) .nil, by decide, by decide, false, by simp [PyData.eqv, PyData.eqvAll], ?_⟩
          refine iteFF rfl ?_
          have S8 := S7.trans s8
          clear s8
          generalize (upd H7 q8 (.lst [])) = H8 at *
          have dt8 := S8 _ _ dt6
          have pr8 : Paired (KT H8) ts (ysN y 400) := Paired.mapP pr6 fun t z e => S8 _ _ e
          walk_at "rd"
          refine ⟨szle (by simp), fun D5 hD5 => ?_⟩
          walk_at "rd"
          refine ⟨_, _, _, rfl, r400, for_rangeC (fun i σ H' => (Same H8 H' ∧ ∃ us : List Addr, H' D5 = some (.lst (us.map V.ref)) ∧ Paired (KT H') us (ysN y i)) ∧ ∃ v2 v4 v5 v6 : Option V, σ = [some (.int y), some (.ref D), v2, some (.ref D2), v4, v5, v6, some (.ref D5)])
            ⟨⟨Same.new hD5, [], upd_same, .nil⟩, _, _, _, _, rfl⟩ (fun i σ H9 hi inv => ?_) fun σ H9 inv => ?_⟩
          · obtain ⟨⟨S9, us, du, pu⟩, v2, v4, v5, v6, rfl⟩ := inv
            have lu : us.length = i := by rw [pu.length, ysN_len]
            walk_at "rd"
            refine ⟨.inl ⟨rfl, _, SqL.of du⟩, ?_⟩
            walk_at "rd"
            refine .inl ⟨_, rfl, ?_⟩
            walk_at "rd"
            refine ⟨by show (0 : Int) < 7; decide, ?_⟩
            walk_at "rd"
            refine ⟨szle (by simp), fun q hq => ?_⟩
            have s10 := Same.new (o := .tup [V.int ((ysOf (y + (i : Int)) + 5) % 7), V.bl (leapB (y + (i : Int)))]) hq
            have e10 : KT (upd H9 q (.tup [V.int ((ysOf (y + (i : Int)) + 5) % 7), V.bl (leapB (y + (i : Int)))])) q (y + (i : Int)) := upd_same
            have du10 := s10 _ _ du
            have pu10 : Paired (KT (upd H9 q (.tup [V.int ((ysOf (y + (i : Int)) + 5) % 7), V.bl (leapB (y + (i : Int)))]))) us (ysN y i) := Paired.mapP pu fun t z e => s10 _ _ e
            have S10 := S9.trans s10
            clear s10
            generalize (upd H9 q (.tup [V.int ((ysOf (y + (i : Int)) + 5) % 7), V.bl (leapB (y + (i : Int)))])) = H10 at *
            have keep : ∀ (o : HO) (c : Addr) (vs : List L2.V), H10 c = some (.tup vs) → (upd H10 D5 o) c = some (.tup vs) := fun o c vs g => by
              have : c ≠ D5 := fun z => by rw [z, du10] at g; cases g
              rw [upd_ne this]; exact g
            walk_at "rd"
            refine ⟨D5, _, _, rfl, rfl, du10, by rw [List.length_map]; exact szl (by omega), ?_⟩
            refine ⟨⟨S10.wr hD5, us ++ [q], by rw [upd_same, List.map_append]; rfl, ?_⟩, _, _, _, _, rfl⟩
            rw [ysN_succ]
            exact Paired.snoc (Paired.mapP pu10 fun t z e => keep _ _ _ e) (keep _ _ _ e10)
          · obtain ⟨⟨S9, us, du, pu⟩, v2, v4, v5, v6, rfl⟩ := inv
            walk_at "rd"
            have dt9 := S9 _ _ dt8
            have pr9 : Paired (KT H9) ts (ysN y 400) := Paired.mapP pr8 fun t z e => S9 _ _ e
            refine ⟨kDs (ysN y 400), kDs (ysN y 400), .lst (SqL.of dt9) (dp_kds pr9), .lst (SqL.of du) (dp_kds pu), shaped_kds _, shaped_kds _, ?_⟩
            rw [SeqAt.eqv_refl _ (SeqAt.canLay_of_shaped (shaped_kds _))]
            exact k H9 ((((S2.trans S3).trans S6).trans S8).trans S9)
end
end Cf
namespace Cf
open PySem L2
set_option hygiene false
local macro_rules | `(tactic| walk_at "len") => `(tactic| repeat (first | (obtain ⟨e, _⟩ := h; subst e; rfl; done) | (obtain ⟨_, h⟩ := h)))
local macro_rules | `(tactic| walk_at "rd") => `(tactic| repeat (first | refine ⟨_, rfl, ?_⟩ | refine ⟨_, _, rfl, rfl, ?_⟩ | refine ⟨rfl, ?_⟩ | refine ⟨_, _, rfl, ?_⟩))
local macro_rules | `(tactic| walk_at "yes") => `(tactic| (dsimp only [tYes]; rw [if_pos rfl]))
set_option hygiene true
section
variable {P : Program} {w : World} {K : PySem.W.Frag} {mg : Str → Option Value} {base : Heap}
/-! ### law -/
def spLaw (K : PySem.W.Frag) : Sp := fun vs H Q _ => ∃ (l : Addr) (ns : List Int), vs = [.ref l] ∧ SqL K H l (ns.map V.int) ∧ ns.length ≤ 63 ∧ ∀ H', Q (.bl true) H'
theorem scLaw : FnScope ["script", "state", "turn", "one_year"] ["script"] (defScope sLaw) := ⟨rfl, rfl, rfl, by decide +kernel, rfl, by decide +kernel, by decide +kernel⟩
set_option maxHeartbeats 2000000 in
theorem ok_law {f : Addr} {fd : FuncData} (F : Fun K "law" "law" sLaw f fd) (T : Nm mg) (D_law_begun : Df P w K mg base 1 "_law_begun" ["script"] [] (spBegun K)) (D_law_some_year : Df P w K mg base 3 "_law_some_year" ["state"] [] spSome) (D_law_kind_right : Dg P w K mg base 5 "_law_kind_right" ["state", "one_year"] [] spKR) (D_law_round_right : Df P w K mg base 5 "_law_round_right" ["one_year"] [] spRR) (D_is_leap : Df P w K mg base 3 "is_leap" ["year"] [] spLeap) :
    FnG P w K mg base CX0 6 f fd ["script"] (spLaw K) := by
  refine funG F scLaw (fun vs H Q E h => ?_) (fun cdv A gd outer s H vs Q E hr h => ?_)
  · obtain ⟨_, _, rfl, _⟩ := h
    rfl
  · obtain ⟨l, ns, rfl, hS, hlen, k⟩ := h
    have nd := scLaw.nd
    have hu := hr.units
    refine ⟨_, (pss_cons (ps_set (i := 1) nd rfl (Or.inl rfl) (pe_df D_law_begun (hr.mono (by decide)) (pa_cons (pv 0) pa_nil)))
      (pss_cons (ps_for PassesOwn.never rfl (pi_range1 (by rfl) T.range (pa_cons (pe_op op_add pe_int (pe_callB (call_min2 rfl) (by rfl) T.min (by decide +kernel) (pa_cons (pe_callB call_len_seq (by rfl) T.len (by decide +kernel) (pa_cons (pv 0) pa_nil)) (pa_cons pe_int pa_nil)))) pa_nil)) (pg_name (i := 2) nd rfl (Or.inl rfl))
        (pss_one (ps_if (pt_not (pt_val (pe_dg D_law_kind_right gd (hr.mono (by decide)) (pa_cons (pv 1) (pa_cons (pe_df D_law_some_year (hr.mono (by decide)) (pa_cons (pv 1) pa_nil)) pa_nil)))))
          (pss_one (ps_ret pe_bl))
          pss_nil)))
      (pss_cons (ps_set (i := 3) nd rfl (Or.inl rfl) (pe_df D_law_some_year (hr.mono (by decide)) (pa_cons (pv 1) pa_nil)))
      (pss_one (ps_ret (pe_and (pe_df D_law_round_right (hr.mono (by decide)) (pa_cons (pv 3) pa_nil)) (pe_one (pe_cmpR op_eq (pe_df D_is_leap (hr.mono (by decide)) (pa_cons (pe_op op_add (pv 3) pe_int) pa_nil)) (pe_df D_is_leap (hr.mono (by decide)) (pa_cons (pv 3) pa_nil)) (nomark _))))))))), ?_⟩
    walk_at "rd"
    refine ⟨l, ns, rfl, hS, hlen, fun H1 p a b p0 a0 b0 S1 St1 => ?_⟩
    walk_at "rd"
    refine ⟨l, _, rfl, .inl (S1.seq hS), _, _, rfl, _, _, rfl, rfl, _, rfl, ?_, ?_, ?_⟩
    · rw [List.length_map]
      split <;> omega
    · rw [List.length_map]
      split <;> omega
    refine for_range (fun i σ H' => Stt p a b (200 * i) H' ∧ ∃ v2 v3 : Option V, σ = [some (.ref l), some (.ref p), v2, v3]) ⟨St1, none, none, rfl⟩ ?_ ?_
    · rintro i σ H2 hi ⟨St2, v2, v3, rfl⟩
      have hi2 : i ≤ 40 := by
        rw [List.length_map] at hi
        split at hi <;> omega
      walk_at "rd"
      refine ⟨p, a, b, _, rfl, St2, by omega, fun y H3 y0 y1 St3 B3 => ?_⟩
      walk_at "rd"
      refine ⟨p, a, b, _, y, rfl, St3, by omega, fun H4 St4 B4 => ?_⟩
      walk_at "rd"
      refine iteFF rfl ?_
      exact ⟨St4.mono (by omega), _, _, rfl⟩
    · rintro σ H2 ⟨St2, v2, v3, rfl⟩
      have cnt : (List.map V.int ns).length ≤ 63 := by rw [List.length_map]; exact hlen
      walk_at "rd"
      refine ⟨p, a, b, _, rfl, St2, ?_, fun y H3 y0 y1 St3 B3 => ?_⟩
      · split <;> omega
      walk_at "rd"
      refine fun H4 S4 => ?_
      walk_at "rd"
      rw [leap_400, decide_eq_true rfl]
      exact k H4
end
end Cf
/-! The end of a law whose def is promised where no repr is under way. -/
namespace Cf
open PySem PySem.Spec PyProof.Rows L2
section
variable {P : Program} {w : World} {K : PySem.W.Frag} {mg mb : Str → Option Value} {k : Nat} {fa a : Addr} {fd : FuncData} {x : Str} {sp : Sp} {st : Shared} {vs : List Value} {ns : List Int}
/-- the script's own object -/
def scrO (vs : List Value) : Obj := { cls := .type "list", data := .seq vs.toArray }
/-- nothing is tracked but the script, where it is none of the module's own objects -/
noncomputable def scrH (K : PySem.W.Frag) (a : Addr) (vs : List Value) (ns : List Int) : Hp := fun b =>
  open Classical in if b = a ∧ K.lookup a = none then some (.frz (scrO vs) (.lst (ns.map V.int))) else none
theorem scrH_some {b : Addr} {u : HO} (h : scrH K a vs ns b = some u) : b = a ∧ K.lookup a = none ∧ u = .frz (scrO vs) (.lst (ns.map V.int)) := by
  unfold scrH at h
  split at h
  · rename_i c
    exact ⟨c.1, c.2, (Option.some.inj h).symm⟩
  · cases h
theorem scrH_at (h : K.lookup a = none) : scrH K a vs ns a = some (.frz (scrO vs) (.lst (ns.map V.int))) := by
  unfold scrH
  exact if_pos ⟨rfl, h⟩
theorem scrH_no (h : ∀ o, K.lookup a = some o → True) {b : Addr} (hb : b ≠ a ∨ K.lookup a ≠ none) : scrH K a vs ns b = none := by
  unfold scrH
  refine if_neg fun c => ?_
  rcases hb with z | z
  · exact z c.1
  · exact z c.2
theorem law_g (KX : K.In st.heap) (hns : st.heap.Ns mainGlobals mg) (hb : st.heap.Ns builtinsNs mb) (hbb : ∀ x : Str, x ≠ "__name__" → mb x = bootBuiltins x) (lim : st.heap.NoLimit) (hg : st.gens = #[])
    (ha : st.heap.get? a = some (scrO vs)) (hi : IntsAre vs ns) (hl : ns.length ≤ sizeLine) (room : Room k callerA)
    (F : ∀ base : Heap, K.In base → base.Ns mainGlobals mg → FnG P w K mg base CX0 k fa fd [x] sp) (hbind : ∀ (s : Shared) (u : Value), BindsTo s fd ⟨[u], []⟩ [(x, u)])
    (hsp : ∀ H : Hp, SqL K H a (ns.map V.int) → sp [.ref a] H (fun v _ => v = .bl true) fun _ _ _ => False) :
    codeAny (model P w) callerA (.call (.ref fa) ⟨[.ref a], []⟩) (fun r s' => r = .ok (.ret (.bool true)) ∧ OldK st.heap s'.heap ∧ s'.os = st.os ∧ AllBare s'.gens) st := by
  have vals := vals_ints hi
  have len := hi.length
  have inH : SqL K (scrH K a vs ns) a (ns.map V.int) := by
    cases q : K.lookup a with
    | none => exact Or.inl (Or.inr ⟨_, scrH_at q⟩)
    | some o =>
      have e := KX a o q
      rw [ha] at e
      cases e
      refine Or.inr ⟨_, vs.toArray, _, q, rfl, rfl, rfl, ?_, ?_⟩
      · rw [List.size_toArray]; omega
      · simpa using vals
  have held : HOk P w (scrH K a vs ns) st.heap := by
    intro b u e
    obtain ⟨rfl, _, rfl⟩ := scrH_some e
    refine ⟨ha, ?_, vs, _, vals, ha⟩
    rw [List.length_map]
    exact hl
  -- what is not the script stands in the base
  have put : ∀ {b : Addr} {o : Obj}, st.heap.get? b = some o → scrH K a vs ns b = none → (hidT st.heap (scrH K a vs ns)).get? b = some o := fun e n => hidT_get e n
  have names : ∀ {b : Addr} {m : Str → Option Value}, st.heap.Ns b m → (hidT st.heap (scrH K a vs ns)).Ns b m := by
    rintro b m ⟨o, es, ep, e, d, r⟩
    refine ⟨o, es, ep, put e ?_, d, r⟩
    cases q : scrH K a vs ns b with
    | none => rfl
    | some u =>
      obtain ⟨rfl, _, _⟩ := scrH_some q
      rw [ha] at e
      cases e
      cases (show Data.seq vs.toArray _ = Data.dict es ep from d)
  have inB : K.In (hidT st.heap (scrH K a vs ns)) := by
    intro b o e
    refine put (KX b o e) ?_
    cases q : scrH K a vs ns b with
    | none => rfl
    | some u =>
      obtain ⟨rfl, z, _⟩ := scrH_some q
      rw [z] at e
      cases e
  have md : Mod K mg (hidT st.heap (scrH K a vs ns)) := by
    obtain ⟨mc, l1, l2⟩ := lim
    exact { kin := inB, glob := names hns, blt := ⟨mb, names hb, hbb⟩, nolimit := ⟨mc, names l1, l2⟩ }
  have env : Env0 P w K mg (hidT st.heap (scrH K a vs ns)) callerA [] st (scrH K a vs ns) :=
    { frames := rfl, mod := md, bs := fun _ _ e => of_hidT e, bsz := Nat.le_of_eq (hidT_size _ _), funs := trivial, frf := fun b hb => (by cases hb), hok := held, bare := .of_eq hg }
  refine codeAny_mono ((F _ inB (names hns)).go callerA rfl [] st (scrH K a vs ns) ⟨[.ref a], []⟩ [.ref a] [.ref a] _ _ room env (hbind st (.ref a)) (.cons rfl .nil) (hsp _ inH)) ?_
  intro r s' h
  match r, h with
  | .error e, h => exact (h : False).elim
  | .ok .next, h => exact (h : False).elim
  | .ok .brk, h => exact (h : False).elim
  | .ok .cont, h => exact (h : False).elim
  | .ok (.ret u), ⟨v, H', os, bare, un, hok', rv, q⟩ =>
    subst q
    cases (show u = Value.bool true from rv)
    refine ⟨rfl, OldK.of_keep fun b o e => ?_, os, bare⟩
    cases q : scrH K a vs ns b with
    | none => exact un.keep b o e q (by intro z; cases z) (by intro z; cases z)
    | some u =>
      obtain ⟨rfl, _, rfl⟩ := scrH_some q
      have z := un.frzs b _ _ q
      obtain ⟨e2, _⟩ := hok' b _ z
      rw [ha] at e
      cases e
      exact e2
end
theorem walk_g {l : PySem.W.OpenLaw} {n k : Nat} {q : Program} {loose : List Str} {XP : (Str → Option Value) → Heap → Prop} {YP : World → Heap → Prop} {d : DefRec} {K : Params → PySem.W.Frag} {sp : PySem.W.Frag → Sp} {x : Str}
    (most : l.most = some n) (n2 : n ≤ sizeLine) (dflt : d.params.defaults = []) (room : Room k callerA) (hY : ∀ (w : World) (h : Heap), YP w h → (K w.params).In h)
    (F : ∀ (w : World) (mg : Str → Option Value) (fa : Addr) (h : Heap), (K w.params).In h → h.Ns mainGlobals mg → mg d.name = some (.ref fa) →
      ∃ fd : FuncData, (∀ (s : Shared) (u : Value), BindsTo s fd ⟨[u], []⟩ [(x, u)]) ∧ ∀ base : Heap, (K w.params).In base → base.Ns mainGlobals mg → FnG l.prog w (K w.params) mg base CX0 k fa fd [x] (sp (K w.params)))
    (hsp : ∀ (K : PySem.W.Frag) (H : Hp) (a : Addr) (ns : List Int), ns.length ≤ n → SqL K H a (ns.map V.int) → sp K [.ref a] H (fun v _ => v = .bl true) fun _ _ _ => False) :
    PySem.W.WalkO q loose XP YP l.row.toRowW d [] (fun f vs => PySem.call f vs) := by
  apply Att.attach_call most dflt
  intro w s0 s1 mg mb fa o pm cd doc a vs ns G Y ho hd hcd hmg hobj hints hlen hg
  have inK := hY w _ Y
  obtain ⟨fd, hb, hF⟩ := F w mg fa _ inK G.T.g hmg
  exact law_g inK G.T.g G.T.b G.T.builtins G.T.nolimit hg hobj hints (Nat.le_trans hlen n2) room hF hb fun H hS => hsp _ H a ns hlen hS
end Cf
namespace Cf
open PySem L2 PySem.Spec PyProof.Rows
theorem getD_rel : ∀ {vs : List V} {us : List Value} (i : Nat), Vals vs us → RelV (vs.getD i .non) (us.getD i .none)
  | _, _, _, .nil => rfl
  | _, _, 0, .cons r _ => r
  | _, _, i + 1, .cons _ t => getD_rel i t

set_option maxHeartbeats 4000000 in
theorem all_mk {l : PySem.W.OpenLaw} {w : World} {K : PySem.W.Frag} {h : Heap} {mg : Str → Option Value} {fa : Addr} (X : K.In h) (G : h.Ns mainGlobals mg) (hfa : mg "law" = some (.ref fa))
    {f0 : Addr} {od0 an0 : Option Addr} {sl0 : Array (Option Value)} {oc0 kV0 dc0 pm0 cd0 ct0 : Value}
    {f1 : Addr} {od1 an1 : Option Addr} {sl1 : Array (Option Value)} {oc1 kV1 dc1 pm1 cd1 ct1 : Value}
    {T1 : Addr} {oT1 : Value} {dT1 : Option Addr} {nT1 : Nat} {sT1 : Array (Option Value)}
    {f2 : Addr} {od2 an2 : Option Addr} {sl2 : Array (Option Value)} {oc2 kV2 dc2 pm2 cd2 ct2 : Value}
    {f3 : Addr} {od3 an3 : Option Addr} {sl3 : Array (Option Value)} {oc3 kV3 dc3 pm3 cd3 ct3 : Value}
    {f4 : Addr} {od4 an4 : Option Addr} {sl4 : Array (Option Value)} {oc4 kV4 dc4 pm4 cd4 ct4 : Value}
    {f5 : Addr} {od5 an5 : Option Addr} {sl5 : Array (Option Value)} {oc5 kV5 dc5 pm5 cd5 ct5 : Value}
    {f6 : Addr} {od6 an6 : Option Addr} {sl6 : Array (Option Value)} {oc6 kV6 dc6 pm6 cd6 ct6 : Value}
    {f7 : Addr} {od7 an7 : Option Addr} {sl7 : Array (Option Value)} {oc7 kV7 dc7 pm7 cd7 ct7 : Value}
    {f8 : Addr} {od8 an8 : Option Addr} {sl8 : Array (Option Value)} {oc8 kV8 dc8 pm8 cd8 ct8 : Value}
    {f9 : Addr} {od9 an9 : Option Addr} {sl9 : Array (Option Value)} {oc9 kV9 dc9 pm9 cd9 ct9 : Value}
    {f10 : Addr} {od10 an10 : Option Addr} {sl10 : Array (Option Value)} {oc10 kV10 dc10 pm10 cd10 ct10 : Value}
    {f11 : Addr} {od11 an11 : Option Addr} {sl11 : Array (Option Value)} {oc11 kV11 dc11 pm11 cd11 ct11 : Value}
    {f12 : Addr} {od12 an12 : Option Addr} {sl12 : Array (Option Value)} {oc12 kV12 dc12 pm12 cd12 ct12 : Value}
    {f13 : Addr} {od13 an13 : Option Addr} {sl13 : Array (Option Value)} {oc13 kV13 dc13 pm13 cd13 ct13 : Value}
    {f14 : Addr} {od14 an14 : Option Addr} {sl14 : Array (Option Value)} {oc14 kV14 dc14 pm14 cd14 ct14 : Value}
    {f15 : Addr} {od15 an15 : Option Addr} {sl15 : Array (Option Value)} {oc15 kV15 dc15 pm15 cd15 ct15 : Value}
    {f16 : Addr} {od16 an16 : Option Addr} {sl16 : Array (Option Value)} {oc16 kV16 dc16 pm16 cd16 ct16 : Value}
    {f17 : Addr} {od17 an17 : Option Addr} {sl17 : Array (Option Value)} {oc17 kV17 dc17 pm17 cd17 ct17 : Value}
    {f18 : Addr} {od18 an18 : Option Addr} {sl18 : Array (Option Value)} {oc18 kV18 dc18 pm18 cd18 ct18 : Value}
    {f19 : Addr} {od19 an19 : Option Addr} {sl19 : Array (Option Value)} {oc19 kV19 dc19 pm19 cd19 ct19 : Value}
    {tp : Addr} {ddM : Option Addr} {nM : Nat} {slM : Array (Option Value)} {w0 w1 w2 w3 w4 w5 w6 w7 w8 w9 w10 w11 : Tok}
    (a0 : PySem.W.nsIn K mainGlobals "is_number" = some (some (.ref f0)))
    (l0 : K.lookup f0 = some ⟨oc0, od0, .func (PySem.W.fnOf "is_number" "is_number" (defArgs sIsNumber) (defBody sIsNumber) (defScope sIsNumber) .none kV0 dc0 pm0 an0 cd0 ct0), sl0⟩)
    (c0 : PySem.W.codeIn K cd0 "is_number" = true)
    (k0 : PySem.W.keepIn K (.ref f0) = true)
    (a1 : PySem.W.nsIn K mainGlobals "check_number" = some (some (.ref f1)))
    (l1 : K.lookup f1 = some ⟨oc1, od1, .func (PySem.W.fnOf "check_number" "check_number" (defArgs sCheckNumber) (defBody sCheckNumber) (defScope sCheckNumber) (.ref T1) kV1 dc1 pm1 an1 cd1 ct1), sl1⟩)
    (c1 : PySem.W.codeIn K cd1 "check_number" = true)
    (k1 : PySem.W.keepIn K (.ref f1) = true)
    (lT1 : K.lookup T1 = some ⟨oT1, dT1, .seq #[.none] nT1, sT1⟩)
    (a2 : PySem.W.nsIn K mainGlobals "is_leap" = some (some (.ref f2)))
    (l2 : K.lookup f2 = some ⟨oc2, od2, .func (PySem.W.fnOf "is_leap" "is_leap" (defArgs sIsLeap) (defBody sIsLeap) (defScope sIsLeap) .none kV2 dc2 pm2 an2 cd2 ct2), sl2⟩)
    (c2 : PySem.W.codeIn K cd2 "is_leap" = true)
    (k2 : PySem.W.keepIn K (.ref f2) = true)
    (a3 : PySem.W.nsIn K mainGlobals "leap_years_before" = some (some (.ref f3)))
    (l3 : K.lookup f3 = some ⟨oc3, od3, .func (PySem.W.fnOf "leap_years_before" "leap_years_before" (defArgs sLeapYearsBefore) (defBody sLeapYearsBefore) (defScope sLeapYearsBefore) .none kV3 dc3 pm3 an3 cd3 ct3), sl3⟩)
    (c3 : PySem.W.codeIn K cd3 "leap_years_before" = true)
    (k3 : PySem.W.keepIn K (.ref f3) = true)
    (a4 : PySem.W.nsIn K mainGlobals "year_start" = some (some (.ref f4)))
    (l4 : K.lookup f4 = some ⟨oc4, od4, .func (PySem.W.fnOf "year_start" "year_start" (defArgs sYearStart) (defBody sYearStart) (defScope sYearStart) .none kV4 dc4 pm4 an4 cd4 ct4), sl4⟩)
    (c4 : PySem.W.codeIn K cd4 "year_start" = true)
    (k4 : PySem.W.keepIn K (.ref f4) = true)
    (a5 : PySem.W.nsIn K mainGlobals "month_length" = some (some (.ref f5)))
    (l5 : K.lookup f5 = some ⟨oc5, od5, .func (PySem.W.fnOf "month_length" "month_length" (defArgs sMonthLength) (defBody sMonthLength) (defScope sMonthLength) .none kV5 dc5 pm5 an5 cd5 ct5), sl5⟩)
    (c5 : PySem.W.codeIn K cd5 "month_length" = true)
    (k5 : PySem.W.keepIn K (.ref f5) = true)
    (a6 : PySem.W.nsIn K mainGlobals "month_start" = some (some (.ref f6)))
    (l6 : K.lookup f6 = some ⟨oc6, od6, .func (PySem.W.fnOf "month_start" "month_start" (defArgs sMonthStart) (defBody sMonthStart) (defScope sMonthStart) .none kV6 dc6 pm6 an6 cd6 ct6), sl6⟩)
    (c6 : PySem.W.codeIn K cd6 "month_start" = true)
    (k6 : PySem.W.keepIn K (.ref f6) = true)
    (a7 : PySem.W.nsIn K mainGlobals "day_of" = some (some (.ref f7)))
    (l7 : K.lookup f7 = some ⟨oc7, od7, .func (PySem.W.fnOf "day_of" "day_of" (defArgs sDayOf) (defBody sDayOf) (defScope sDayOf) .none kV7 dc7 pm7 an7 cd7 ct7), sl7⟩)
    (c7 : PySem.W.codeIn K cd7 "day_of" = true)
    (k7 : PySem.W.keepIn K (.ref f7) = true)
    (a8 : PySem.W.nsIn K mainGlobals "weekday" = some (some (.ref f8)))
    (l8 : K.lookup f8 = some ⟨oc8, od8, .func (PySem.W.fnOf "weekday" "weekday" (defArgs sWeekday) (defBody sWeekday) (defScope sWeekday) .none kV8 dc8 pm8 an8 cd8 ct8), sl8⟩)
    (c8 : PySem.W.codeIn K cd8 "weekday" = true)
    (k8 : PySem.W.keepIn K (.ref f8) = true)
    (a9 : PySem.W.nsIn K mainGlobals "kind_of" = some (some (.ref f9)))
    (l9 : K.lookup f9 = some ⟨oc9, od9, .func (PySem.W.fnOf "kind_of" "kind_of" (defArgs sKindOf) (defBody sKindOf) (defScope sKindOf) .none kV9 dc9 pm9 an9 cd9 ct9), sl9⟩)
    (c9 : PySem.W.codeIn K cd9 "kind_of" = true)
    (k9 : PySem.W.keepIn K (.ref f9) = true)
    (a10 : PySem.W.nsIn K mainGlobals "_law_begun" = some (some (.ref f10)))
    (l10 : K.lookup f10 = some ⟨oc10, od10, .func (PySem.W.fnOf "_law_begun" "_law_begun" (defArgs sLawBegun) (defBody sLawBegun) (defScope sLawBegun) .none kV10 dc10 pm10 an10 cd10 ct10), sl10⟩)
    (c10 : PySem.W.codeIn K cd10 "_law_begun" = true)
    (k10 : PySem.W.keepIn K (.ref f10) = true)
    (a11 : PySem.W.nsIn K mainGlobals "_law_mixed" = some (some (.ref f11)))
    (l11 : K.lookup f11 = some ⟨oc11, od11, .func (PySem.W.fnOf "_law_mixed" "_law_mixed" (defArgs sLawMixed) (defBody sLawMixed) (defScope sLawMixed) .none kV11 dc11 pm11 an11 cd11 ct11), sl11⟩)
    (c11 : PySem.W.codeIn K cd11 "_law_mixed" = true)
    (k11 : PySem.W.keepIn K (.ref f11) = true)
    (a12 : PySem.W.nsIn K mainGlobals "_law_take" = some (some (.ref f12)))
    (l12 : K.lookup f12 = some ⟨oc12, od12, .func (PySem.W.fnOf "_law_take" "_law_take" (defArgs sLawTake) (defBody sLawTake) (defScope sLawTake) .none kV12 dc12 pm12 an12 cd12 ct12), sl12⟩)
    (c12 : PySem.W.codeIn K cd12 "_law_take" = true)
    (k12 : PySem.W.keepIn K (.ref f12) = true)
    (a13 : PySem.W.nsIn K mainGlobals "_law_new_year" = some (some (.ref f13)))
    (l13 : K.lookup f13 = some ⟨oc13, od13, .func (PySem.W.fnOf "_law_new_year" "_law_new_year" (defArgs sLawNewYear) (defBody sLawNewYear) (defScope sLawNewYear) .none kV13 dc13 pm13 an13 cd13 ct13), sl13⟩)
    (c13 : PySem.W.codeIn K cd13 "_law_new_year" = true)
    (k13 : PySem.W.keepIn K (.ref f13) = true)
    (a14 : PySem.W.nsIn K mainGlobals "_law_is_long" = some (some (.ref f14)))
    (l14 : K.lookup f14 = some ⟨oc14, od14, .func (PySem.W.fnOf "_law_is_long" "_law_is_long" (defArgs sLawIsLong) (defBody sLawIsLong) (defScope sLawIsLong) .none kV14 dc14 pm14 an14 cd14 ct14), sl14⟩)
    (c14 : PySem.W.codeIn K cd14 "_law_is_long" = true)
    (k14 : PySem.W.keepIn K (.ref f14) = true)
    (a15 : PySem.W.nsIn K mainGlobals "_law_size" = some (some (.ref f15)))
    (l15 : K.lookup f15 = some ⟨oc15, od15, .func (PySem.W.fnOf "_law_size" "_law_size" (defArgs sLawSize) (defBody sLawSize) (defScope sLawSize) .none kV15 dc15 pm15 an15 cd15 ct15), sl15⟩)
    (c15 : PySem.W.codeIn K cd15 "_law_size" = true)
    (k15 : PySem.W.keepIn K (.ref f15) = true)
    (a16 : PySem.W.nsIn K mainGlobals "_law_some_year" = some (some (.ref f16)))
    (l16 : K.lookup f16 = some ⟨oc16, od16, .func (PySem.W.fnOf "_law_some_year" "_law_some_year" (defArgs sLawSomeYear) (defBody sLawSomeYear) (defScope sLawSomeYear) .none kV16 dc16 pm16 an16 cd16 ct16), sl16⟩)
    (c16 : PySem.W.codeIn K cd16 "_law_some_year" = true)
    (k16 : PySem.W.keepIn K (.ref f16) = true)
    (a17 : PySem.W.nsIn K mainGlobals "_law_kind_right" = some (some (.ref f17)))
    (l17 : K.lookup f17 = some ⟨oc17, od17, .func (PySem.W.fnOf "_law_kind_right" "_law_kind_right" (defArgs sLawKindRight) (defBody sLawKindRight) (defScope sLawKindRight) .none kV17 dc17 pm17 an17 cd17 ct17), sl17⟩)
    (c17 : PySem.W.codeIn K cd17 "_law_kind_right" = true)
    (k17 : PySem.W.keepIn K (.ref f17) = true)
    (a18 : PySem.W.nsIn K mainGlobals "_law_round_right" = some (some (.ref f18)))
    (l18 : K.lookup f18 = some ⟨oc18, od18, .func (PySem.W.fnOf "_law_round_right" "_law_round_right" (defArgs sLawRoundRight) (defBody sLawRoundRight) (defScope sLawRoundRight) .none kV18 dc18 pm18 an18 cd18 ct18), sl18⟩)
    (c18 : PySem.W.codeIn K cd18 "_law_round_right" = true)
    (k18 : PySem.W.keepIn K (.ref f18) = true)
    (a19 : PySem.W.nsIn K mainGlobals "law" = some (some (.ref f19)))
    (l19 : K.lookup f19 = some ⟨oc19, od19, .func (PySem.W.fnOf "law" "law" (defArgs sLaw) (defBody sLaw) (defScope sLaw) .none kV19 dc19 pm19 an19 cd19 ct19), sl19⟩)
    (c19 : PySem.W.codeIn K cd19 "law" = true)
    (k19 : PySem.W.keepIn K (.ref f19) = true)
    (z_abs : PySem.W.nsIn K mainGlobals "abs" = some none)
    (z_int : PySem.W.nsIn K mainGlobals "int" = some none)
    (z_bool : PySem.W.nsIn K mainGlobals "bool" = some none)
    (z_isinstance : PySem.W.nsIn K mainGlobals "isinstance" = some none)
    (z_sum : PySem.W.nsIn K mainGlobals "sum" = some none)
    (z_divmod : PySem.W.nsIn K mainGlobals "divmod" = some none)
    (z_min : PySem.W.nsIn K mainGlobals "min" = some none)
    (z_len : PySem.W.nsIn K mainGlobals "len" = some none)
    (z_range : PySem.W.nsIn K mainGlobals "range" = some none)
    (z_repr : PySem.W.nsIn K mainGlobals "repr" = some none)
    (z_zip : PySem.W.nsIn K mainGlobals "zip" = some none)
    (z_set : PySem.W.nsIn K mainGlobals "set" = some none)
    (aM : PySem.W.nsIn K mainGlobals "MONTH_LENGTHS" = some (some (.ref tp)))
    (lM : K.lookup tp = some ⟨.type "tuple", ddM, .seq #[.int 31 w0, .int 28 w1, .int 31 w2, .int 30 w3, .int 31 w4, .int 30 w5, .int 31 w6, .int 31 w7, .int 30 w8, .int 31 w9, .int 30 w10, .int 31 w11] nM, slM⟩)
    : ∃ fd : FuncData, (∀ (s : Shared) (v : Value), BindsTo s fd ⟨[v], []⟩ [("script", v)]) ∧ ∀ base : Heap, K.In base → base.Ns mainGlobals mg → FnG l.prog w K mg base CX0 6 fa fd ["script"] (spLaw K) := by
  have e := hfa.symm.trans (PySem.W.mg_of X G a19)
  cases e
  refine ⟨PySem.W.fnOf "law" "law" (defArgs sLaw) (defBody sLaw) (defScope sLaw) .none kV19 dc19 pm19 an19 cd19 ct19, fun s v => .of_eq rfl, fun base _ _ => ?_⟩
  have T : Nm mg := { abs := PySem.W.mg_none_of X G z_abs, int := PySem.W.mg_none_of X G z_int, bool := PySem.W.mg_none_of X G z_bool, isinstance := PySem.W.mg_none_of X G z_isinstance, sum := PySem.W.mg_none_of X G z_sum, divmod := PySem.W.mg_none_of X G z_divmod, min := PySem.W.mg_none_of X G z_min, len := PySem.W.mg_none_of X G z_len, range := PySem.W.mg_none_of X G z_range, repr := PySem.W.mg_none_of X G z_repr, zip := PySem.W.mg_none_of X G z_zip, set := PySem.W.mg_none_of X G z_set }
  have M : Cm K mg tp := ⟨PySem.W.mg_of X G aM, fun H => .inr ⟨_, _, _, lM, rfl, rfl, (by show 12 ≤ sizeLine; decide), .cons ⟨_, rfl⟩ (.cons ⟨_, rfl⟩ (.cons ⟨_, rfl⟩ (.cons ⟨_, rfl⟩ (.cons ⟨_, rfl⟩ (.cons ⟨_, rfl⟩ (.cons ⟨_, rfl⟩ (.cons ⟨_, rfl⟩ (.cons ⟨_, rfl⟩ (.cons ⟨_, rfl⟩ (.cons ⟨_, rfl⟩ (.cons ⟨_, rfl⟩ (.nil))))))))))))⟩⟩
  have F_is_number := fun_mk (st := sIsNumber) l0 c0 k0
  have b_is_number := F_is_number.binds (ps := ["value"]) fun _ _ _ _ _ _ us hl => match us, hl with | [_], _ => rfl
  have G_is_number : FnOk l.prog w K mg base CX0 1 f0 _ ["value"] spIsNum := ok_isnum F_is_number T
  have D_is_number : Df l.prog w K mg base 1 "is_number" ["value"] [] spIsNum := ⟨⟨_, _, [], G_is_number, PySem.W.mg_of X G a0, k0, .nil, b_is_number⟩⟩
  have F_check_number : FunD K "check_number" "check_number" (defArgs sCheckNumber) (defBody sCheckNumber) (defScope sCheckNumber) [.non] [] f1 _ := ⟨⟨_, _, _, _, _, _, _, _, _, _, rfl, l1, c1, .inr ⟨by simp, _, _, [.none], _, rfl, lT1, rfl, .cons rfl .nil⟩, .inl rfl⟩, k1⟩
  obtain ⟨ds1, v1, b1⟩ := F_check_number.binds1 (ps := ["value", "least"]) 1 0 (by simp) (by rfl) (fun T kV doc pm an cdv ct us its h1 h2 => match us, its, h1, h2 with | [_], [_], _, _ => ⟨_, rfl, rfl⟩)
  have D_check_number : Df l.prog w K mg base 2 "check_number" ["value", "least"] [.non] spCheck := ⟨⟨_, _, ds1, ok_check F_check_number D_is_number, PySem.W.mg_of X G a1, k1, v1, b1⟩⟩
  have F_is_leap := fun_mk (st := sIsLeap) l2 c2 k2
  have b_is_leap := F_is_leap.binds (ps := ["year"]) fun _ _ _ _ _ _ us hl => match us, hl with | [_], _ => rfl
  have G_is_leap : FnOk l.prog w K mg base CX0 3 f2 _ ["year"] spLeap := ok_leap F_is_leap D_check_number
  have D_is_leap : Df l.prog w K mg base 3 "is_leap" ["year"] [] spLeap := ⟨⟨_, _, [], G_is_leap, PySem.W.mg_of X G a2, k2, .nil, b_is_leap⟩⟩
  have F_leap_years_before := fun_mk (st := sLeapYearsBefore) l3 c3 k3
  have b_leap_years_before := F_leap_years_before.binds (ps := ["year"]) fun _ _ _ _ _ _ us hl => match us, hl with | [_], _ => rfl
  have G_leap_years_before : FnOk l.prog w K mg base CX0 1 f3 _ ["year"] spLyb := ok_lyb F_leap_years_before
  have D_leap_years_before : Df l.prog w K mg base 1 "leap_years_before" ["year"] [] spLyb := ⟨⟨_, _, [], G_leap_years_before, PySem.W.mg_of X G a3, k3, .nil, b_leap_years_before⟩⟩
  have F_year_start := fun_mk (st := sYearStart) l4 c4 k4
  have b_year_start := F_year_start.binds (ps := ["year"]) fun _ _ _ _ _ _ us hl => match us, hl with | [_], _ => rfl
  have G_year_start : FnOk l.prog w K mg base CX0 3 f4 _ ["year"] spYs := ok_ys F_year_start D_check_number D_leap_years_before
  have D_year_start : Df l.prog w K mg base 3 "year_start" ["year"] [] spYs := ⟨⟨_, _, [], G_year_start, PySem.W.mg_of X G a4, k4, .nil, b_year_start⟩⟩
  have F_month_length := fun_mk (st := sMonthLength) l5 c5 k5
  have b_month_length := F_month_length.binds (ps := ["month", "leap"]) fun _ _ _ _ _ _ us hl => match us, hl with | [_, _], _ => rfl
  have G_month_length : FnOk l.prog w K mg base CX0 1 f5 _ ["month", "leap"] spMlen := ok_mlen F_month_length M
  have D_month_length : Df l.prog w K mg base 1 "month_length" ["month", "leap"] [] spMlen := ⟨⟨_, _, [], G_month_length, PySem.W.mg_of X G a5, k5, .nil, b_month_length⟩⟩
  have F_month_start := fun_mk (st := sMonthStart) l6 c6 k6
  have b_month_start := F_month_start.binds (ps := ["month", "leap"]) fun _ _ _ _ _ _ us hl => match us, hl with | [_, _], _ => rfl
  have G_month_start : FnOk l.prog w K mg base CX0 1 f6 _ ["month", "leap"] spMst := ok_mst F_month_start M T
  have D_month_start : Df l.prog w K mg base 1 "month_start" ["month", "leap"] [] spMst := ⟨⟨_, _, [], G_month_start, PySem.W.mg_of X G a6, k6, .nil, b_month_start⟩⟩
  have F_day_of := fun_mk (st := sDayOf) l7 c7 k7
  have b_day_of := F_day_of.binds (ps := ["year", "month", "day"]) fun _ _ _ _ _ _ us hl => match us, hl with | [_, _, _], _ => rfl
  have G_day_of : FnOk l.prog w K mg base CX0 4 f7 _ ["year", "month", "day"] spDayOf := ok_dayof F_day_of D_check_number D_is_leap D_month_length D_year_start D_month_start
  have D_day_of : Df l.prog w K mg base 4 "day_of" ["year", "month", "day"] [] spDayOf := ⟨⟨_, _, [], G_day_of, PySem.W.mg_of X G a7, k7, .nil, b_day_of⟩⟩
  have F_weekday := fun_mk (st := sWeekday) l8 c8 k8
  have b_weekday := F_weekday.binds (ps := ["day"]) fun _ _ _ _ _ _ us hl => match us, hl with | [_], _ => rfl
  have G_weekday : FnOk l.prog w K mg base CX0 3 f8 _ ["day"] spWeekday := ok_weekday F_weekday D_check_number
  have D_weekday : Df l.prog w K mg base 3 "weekday" ["day"] [] spWeekday := ⟨⟨_, _, [], G_weekday, PySem.W.mg_of X G a8, k8, .nil, b_weekday⟩⟩
  have F_kind_of := fun_mk (st := sKindOf) l9 c9 k9
  have b_kind_of := F_kind_of.binds (ps := ["year"]) fun _ _ _ _ _ _ us hl => match us, hl with | [_], _ => rfl
  have G_kind_of : FnOk l.prog w K mg base CX0 4 f9 _ ["year"] spKindOf := ok_kindof F_kind_of D_check_number D_weekday D_year_start D_is_leap
  have D_kind_of : Df l.prog w K mg base 4 "kind_of" ["year"] [] spKindOf := ⟨⟨_, _, [], G_kind_of, PySem.W.mg_of X G a9, k9, .nil, b_kind_of⟩⟩
  have K_kind_of : Dk l.prog w K mg base 4 "kind_of" ["year"] ["year"] gV1 spKindOf := ⟨⟨_, _, (fun us => [us.getD 0 .none]), G_kind_of, PySem.W.mg_of X G a9, k9, (fun r => .cons (getD_rel 0 r) .nil), fun s ws _ hl => match ws, hl with | [_], _ => .of_eq rfl⟩⟩
  have F_law_begun := fun_mk (st := sLawBegun) l10 c10 k10
  have b_law_begun := F_law_begun.binds (ps := ["script"]) fun _ _ _ _ _ _ us hl => match us, hl with | [_], _ => rfl
  have G_law_begun : FnOk l.prog w K mg base CX0 1 f10 _ ["script"] (spBegun K) := ok_begun F_law_begun T
  have D_law_begun : Df l.prog w K mg base 1 "_law_begun" ["script"] [] (spBegun K) := ⟨⟨_, _, [], G_law_begun, PySem.W.mg_of X G a10, k10, .nil, b_law_begun⟩⟩
  have F_law_mixed := fun_mk (st := sLawMixed) l11 c11 k11
  have b_law_mixed := F_law_mixed.binds (ps := ["state"]) fun _ _ _ _ _ _ us hl => match us, hl with | [_], _ => rfl
  have G_law_mixed : FnOk l.prog w K mg base CX0 1 f11 _ ["state"] spMixed := ok_mixed F_law_mixed T
  have D_law_mixed : Df l.prog w K mg base 1 "_law_mixed" ["state"] [] spMixed := ⟨⟨_, _, [], G_law_mixed, PySem.W.mg_of X G a11, k11, .nil, b_law_mixed⟩⟩
  have F_law_take := fun_mk (st := sLawTake) l12 c12 k12
  have b_law_take := F_law_take.binds (ps := ["state", "size"]) fun _ _ _ _ _ _ us hl => match us, hl with | [_, _], _ => rfl
  have G_law_take : FnOk l.prog w K mg base CX0 2 f12 _ ["state", "size"] spTake := ok_take F_law_take T D_law_mixed
  have D_law_take : Df l.prog w K mg base 2 "_law_take" ["state", "size"] [] spTake := ⟨⟨_, _, [], G_law_take, PySem.W.mg_of X G a12, k12, .nil, b_law_take⟩⟩
  have F_law_new_year := fun_mk (st := sLawNewYear) l13 c13 k13
  have b_law_new_year := F_law_new_year.binds (ps := ["one_year"]) fun _ _ _ _ _ _ us hl => match us, hl with | [_], _ => rfl
  have G_law_new_year : FnOk l.prog w K mg base CX0 1 f13 _ ["one_year"] spNy := ok_ny F_law_new_year
  have D_law_new_year : Df l.prog w K mg base 1 "_law_new_year" ["one_year"] [] spNy := ⟨⟨_, _, [], G_law_new_year, PySem.W.mg_of X G a13, k13, .nil, b_law_new_year⟩⟩
  have F_law_is_long := fun_mk (st := sLawIsLong) l14 c14 k14
  have b_law_is_long := F_law_is_long.binds (ps := ["one_year"]) fun _ _ _ _ _ _ us hl => match us, hl with | [_], _ => rfl
  have G_law_is_long : FnOk l.prog w K mg base CX0 1 f14 _ ["one_year"] spLong := ok_long F_law_is_long T
  have D_law_is_long : Df l.prog w K mg base 1 "_law_is_long" ["one_year"] [] spLong := ⟨⟨_, _, [], G_law_is_long, PySem.W.mg_of X G a14, k14, .nil, b_law_is_long⟩⟩
  have F_law_size := fun_mk (st := sLawSize) l15 c15 k15
  have b_law_size := F_law_size.binds (ps := ["one_year", "month"]) fun _ _ _ _ _ _ us hl => match us, hl with | [_, _], _ => rfl
  have G_law_size : FnOk l.prog w K mg base CX0 2 f15 _ ["one_year", "month"] spSize := ok_size F_law_size D_law_is_long
  have D_law_size : Df l.prog w K mg base 2 "_law_size" ["one_year", "month"] [] spSize := ⟨⟨_, _, [], G_law_size, PySem.W.mg_of X G a15, k15, .nil, b_law_size⟩⟩
  have F_law_some_year := fun_mk (st := sLawSomeYear) l16 c16 k16
  have b_law_some_year := F_law_some_year.binds (ps := ["state"]) fun _ _ _ _ _ _ us hl => match us, hl with | [_], _ => rfl
  have G_law_some_year : FnOk l.prog w K mg base CX0 3 f16 _ ["state"] spSome := ok_some F_law_some_year T D_law_take
  have D_law_some_year : Df l.prog w K mg base 3 "_law_some_year" ["state"] [] spSome := ⟨⟨_, _, [], G_law_some_year, PySem.W.mg_of X G a16, k16, .nil, b_law_some_year⟩⟩
  have F_law_kind_right := fun_mk (st := sLawKindRight) l17 c17 k17
  have b_law_kind_right := F_law_kind_right.binds (ps := ["state", "one_year"]) fun _ _ _ _ _ _ us hl => match us, hl with | [_, _], _ => rfl
  have G_law_kind_right : FnG l.prog w K mg base CX0 5 f17 _ ["state", "one_year"] spKR := ok_kr F_law_kind_right T D_kind_of K_kind_of D_law_new_year D_law_is_long D_law_take D_year_start D_law_size D_weekday D_day_of
  have D_law_kind_right : Dg l.prog w K mg base 5 "_law_kind_right" ["state", "one_year"] [] spKR := ⟨⟨_, _, [], G_law_kind_right, PySem.W.mg_of X G a17, k17, .nil, b_law_kind_right⟩⟩
  have F_law_round_right := fun_mk (st := sLawRoundRight) l18 c18 k18
  have b_law_round_right := F_law_round_right.binds (ps := ["one_year"]) fun _ _ _ _ _ _ us hl => match us, hl with | [_], _ => rfl
  have G_law_round_right : FnOk l.prog w K mg base CX0 5 f18 _ ["one_year"] spRR := ok_rr F_law_round_right T D_kind_of D_law_new_year D_law_is_long
  have D_law_round_right : Df l.prog w K mg base 5 "_law_round_right" ["one_year"] [] spRR := ⟨⟨_, _, [], G_law_round_right, PySem.W.mg_of X G a18, k18, .nil, b_law_round_right⟩⟩
  have F_law := fun_mk (st := sLaw) l19 c19 k19
  exact (ok_law F_law T D_law_begun D_law_some_year D_law_kind_right D_law_round_right D_is_leap)
end Cf
open PySem PySem.W PyProof.Rows
set_option maxRecDepth 100000 in
set_option maxHeartbeats 0 in
theorem PySem.Challenge.cw_clockfolds_k03_whole_kinds_of_years_holds : PySem.Challenge.rw_clockfolds_k03_whole_kinds_of_years.Holds := by
  w_on; o_law; k_head; (case hw => w_witness2)
  k_fill
  refine Cf.walk_g (l := PySem.Challenge.rw_clockfolds_k03_whole_kinds_of_years) (n := 63) (k := 6) (sp := Cf.spLaw) (x := "script") rfl (by decide) rfl ⟨rfl, by decide, by decide⟩ (fun w h Y => PySem.W.kIn_of Y) ?F (fun K H a ns hl hS => ⟨a, ns, rfl, hS, hl, fun _ => rfl⟩)
  case F =>
    intro w mg fa h KX G hmg
    refine' Cf.all_mk KX G hmg ?a0 ?l0 ?c0 ?k0 ?a1 ?l1 ?c1 ?k1 ?lT1 ?a2 ?l2 ?c2 ?k2 ?a3 ?l3 ?c3 ?k3 ?a4 ?l4 ?c4 ?k4 ?a5 ?l5 ?c5 ?k5 ?a6 ?l6 ?c6 ?k6 ?a7 ?l7 ?c7 ?k7 ?a8 ?l8 ?c8 ?k8 ?a9 ?l9 ?c9 ?k9 ?a10 ?l10 ?c10 ?k10 ?a11 ?l11 ?c11 ?k11 ?a12 ?l12 ?c12 ?k12 ?a13 ?l13 ?c13 ?k13 ?a14 ?l14 ?c14 ?k14 ?a15 ?l15 ?c15 ?k15 ?a16 ?l16 ?c16 ?k16 ?a17 ?l17 ?c17 ?k17 ?a18 ?l18 ?c18 ?k18 ?a19 ?l19 ?c19 ?k19 ?z_abs ?z_int ?z_bool ?z_isinstance ?z_sum ?z_divmod ?z_min ?z_len ?z_range ?z_repr ?z_zip ?z_set ?aM ?lM
    (case a0 => k_is)
    (case l0 => k_is)
    (case c0 => k_is)
    (case k0 => k_is)
    (case a1 => k_is)
    (case l1 => k_is)
    (case c1 => k_is)
    (case k1 => k_is)
    (case lT1 => k_is)
    (case a2 => k_is)
    (case l2 => k_is)
    (case c2 => k_is)
    (case k2 => k_is)
    (case a3 => k_is)
    (case l3 => k_is)
    (case c3 => k_is)
    (case k3 => k_is)
    (case a4 => k_is)
    (case l4 => k_is)
    (case c4 => k_is)
    (case k4 => k_is)
    (case a5 => k_is)
    (case l5 => k_is)
    (case c5 => k_is)
    (case k5 => k_is)
    (case a6 => k_is)
    (case l6 => k_is)
    (case c6 => k_is)
    (case k6 => k_is)
    (case a7 => k_is)
    (case l7 => k_is)
    (case c7 => k_is)
    (case k7 => k_is)
    (case a8 => k_is)
    (case l8 => k_is)
    (case c8 => k_is)
    (case k8 => k_is)
    (case a9 => k_is)
    (case l9 => k_is)
    (case c9 => k_is)
    (case k9 => k_is)
    (case a10 => k_is)
    (case l10 => k_is)
    (case c10 => k_is)
    (case k10 => k_is)
    (case a11 => k_is)
    (case l11 => k_is)
    (case c11 => k_is)
    (case k11 => k_is)
    (case a12 => k_is)
    (case l12 => k_is)
    (case c12 => k_is)
    (case k12 => k_is)
    (case a13 => k_is)
    (case l13 => k_is)
    (case c13 => k_is)
    (case k13 => k_is)
    (case a14 => k_is)
    (case l14 => k_is)
    (case c14 => k_is)
    (case k14 => k_is)
    (case a15 => k_is)
    (case l15 => k_is)
    (case c15 => k_is)
    (case k15 => k_is)
    (case a16 => k_is)
    (case l16 => k_is)
    (case c16 => k_is)
    (case k16 => k_is)
    (case a17 => k_is)
    (case l17 => k_is)
    (case c17 => k_is)
    (case k17 => k_is)
    (case a18 => k_is)
    (case l18 => k_is)
    (case c18 => k_is)
    (case k18 => k_is)
    (case a19 => k_is)
    (case l19 => k_is)
    (case c19 => k_is)
    (case k19 => k_is)
    (case z_abs => k_is)
    (case z_int => k_is)
    (case z_bool => k_is)
    (case z_isinstance => k_is)
    (case z_sum => k_is)
    (case z_divmod => k_is)
    (case z_min => k_is)
    (case z_len => k_is)
    (case z_range => k_is)
    (case z_repr => k_is)
    (case z_zip => k_is)
    (case z_set => k_is)
    (case aM => k_is)
    (case lM => k_is)
