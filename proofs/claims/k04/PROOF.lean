import PyProof.Rows.All
import Wide.All
import OpenK.AllK
import Wide.FinOn
import PyProof.ReprRoads
import KE.KTupSum
import HandS.ForMost
import HandS.IsInst
import HandS.Defaults
import HandS.TupAny
import HandS.ExcInit
import HandS.ExcIs
import HandS.ExcField
import HandS.ExcValue
import KE.KExcIs
import HandS.ForExc
import HandS.Lambda
import HandS.CallSlots
import HandS.ExcOwn
import HandS.WordsExc
import HandS.Style
import HandS.EndBits
import KE.KNest
import PySem.Challenge.RW_clockfolds_k04_dates_refused
set_option Elab.async false
set_option linter.all false
set_option maxRecDepth 100000
/-! Own layer over HandS: promises that hold where no repr is under way (guards = some []), repr of data, sum of a tuple. -/
namespace Cf
open PySem PySem.Spec PyProof.Rows L2

/-- as FnOk, but asked only where no repr is under way -/
structure FnG (P : Program) (w : World) (K : PySem.W.Frag) (mg : Str → Option Value) (base : Heap) (CX : CXT) (k : Nat) (f : Addr) (fd : FuncData) (ps : List Str) (sp : Sp) : Prop where
  many : ∀ vs H Q E, sp vs H Q E → vs.length = ps.length
  go : ∀ (A : Around), A.guards = some [] → ∀ (outer : List Env) (s : Shared) (H : Hp) (args : Args) (us : List Value) (vs : List V) (Q : VK) (E : XK),
    Room k A → Env0 P w K mg base A outer s H → BindsTo s fd args (ps.zip us) → Vals vs us → sp vs H Q E →
      codeAny (model P w) A (.call (.ref f) args) (CR CX outer P w H s Q E) s

section
variable {P : Program} {w : World} {K : PySem.W.Frag} {mg : Str → Option Value} {base : Heap} {CX : CXT}

theorem FnG.of {k : Nat} {f : Addr} {fd : FuncData} {ps : List Str} {sp : Sp} (F : FnOk P w K mg base CX k f fd ps sp) : FnG P w K mg base CX k f fd ps sp :=
  { many := F.len, go := fun A _ => F.run A }

/-- a def keeps its promise, its body walked where no repr is under way -/
theorem fn_g {k : Nat} {f : Addr} {name qual : Str} {params : Arguments} {body : List Stmt} {scope : Scope} {dV kV doc pm cdv ct oc : Value} {an od : Option Addr} {osl : Array (Option Value)} {N ps : List Str} {sp : Sp}
    (there : K.lookup f = some ⟨oc, od, .func (PySem.W.fnOf name qual params body scope dV kV doc pm an cdv ct), osl⟩)
    (code : PySem.W.codeIn K cdv qual = true) (sc : FnScope N ps scope) (many : ∀ vs H Q E, sp vs H Q E → vs.length = ps.length)
    (walk : ∀ (A : Around), A.guards = some [] → ∀ (outer : List Env) (s : Shared) (H : Hp) (vs : List V) (Q : VK) (E : XK),
      Room k (A.deeper (envOfC qual scope s.heap.objs.size f cdv)) → sp vs H Q E →
        ∃ t, PSs (cxOf CX P w K mg base N qual scope f cdv A outer s H E) body t ∧ t { nx := fun _ H' => Q .non H', rt := Q } (start N vs) H) :
    FnG P w K mg base CX (k + 1) f (PySem.W.fnOf name qual params body scope dV kV doc pm an cdv ct) ps sp := by
  constructor
  · exact many
  intro A gd outer s H args us vs Q E room env bind vals asked
  have n := many vs H Q E asked
  have inK : K.In s.heap := env.mod.kin.keeps fun b o h => (env.bs b o h).1
  have noLim : s.heap.NoLimit := env.mod.nolimit.keeps fun b o h => (env.bs b o h).1
  have kinds : ∀ y ∈ ps.zip us, scope.names.lookup y.1 = some .local ∨
      (scope.names.lookup y.1 = some .cell ∧ ((cellsFrom (s.heap.objs.size + 1) scope.names []).lookup y.1).isSome = true) := by
    rintro ⟨z, v⟩ hz
    have hz1 := (List.of_mem_zip hz).1
    cases sc.par z hz1 with
    | inl l => exact Or.inl l
    | inr c => exact Or.inr ⟨c, PySem.W.cellsFrom_some _ _ _ (Or.inl c)⟩
  apply codeAny_call_function room.depth (inK _ _ there) rfl sc.co sc.gen rfl (PySem.W.codeRec_of inK code)
  apply bind
  apply wpAny_newFunctionEnv_cells sc.kind kinds
  intro env' he s1 x
  cases he
  refine And.intro (noLim.keeps x.toInCall.keep) (codeAny_func ?_)
  rcases walk A gd outer s H vs Q E (room.deeper _) asked with ⟨t, ht, hq⟩
  have I0 := inv_start (CX := CX) (E := E) (f := f) (qual := qual) (cd := cdv) sc room.hd env n vals x
  apply wpAny_mono (ht.run [] s1 (start N vs) H _ I0 hq)
  · intro fl s' hs
    cases fl with
    | ret u =>
      rcases hs with ⟨v, _, H', J, rv, q⟩
      exact ⟨v, H', J.os, J.bare, J.base, J.hok, rv, q⟩
    | next =>
      rcases hs with ⟨_, H', J, q⟩
      exact ⟨V.non, H', J.os, J.bare, J.base, J.hok, rfl, q⟩
    | brk =>
      rcases hs with ⟨_, _, _, q⟩
      exact q.elim
    | cont =>
      rcases hs with ⟨_, _, _, q⟩
      exact q.elim
  · intro e s' hs
    exact hs

/-- .. of the text's def, none let out -/
theorem funG {x qual : Str} {st : Stmt} {f : Addr} {fd : FuncData} {N ps : List Str} {k : Nat} {sp : Sp} (F : Fun K x qual st f fd) (sc : FnScope N ps (defScope st))
    (many : ∀ vs H Q E, sp vs H Q E → vs.length = ps.length)
    (walk : ∀ (cdv : Value) (A : Around), A.guards = some [] → ∀ (outer : List Env) (s : Shared) (H : Hp) (vs : List V) (Q : VK) (E : XK),
      Room k (A.deeper (envOfC qual (defScope st) s.heap.objs.size f cdv)) → sp vs H Q E →
        ∃ t, PSs (cxOf CX0 P w K mg base N qual (defScope st) f cdv A outer s H E).nox (defBody st) t ∧ t { nx := fun _ H' => Q .non H', rt := Q } (start N vs) H) :
    FnG P w K mg base CX0 (k + 1) f fd ps sp := by
  rcases F.ex with ⟨_, _, _, _, _, _, cdv, _, _, rfl, there, code⟩
  exact fn_g there code sc many fun A gd outer s H vs Q E room asked =>
    let ⟨t, h, q⟩ := walk cdv A gd outer s H vs Q E room asked
    ⟨t, h.nox, q⟩
end

section
variable {X : Cx} {CX : CXT} {k : Nat} {f : Addr} {fd : FuncData} {ps : List Str} {sp : Sp} {dvs : List V} {ds : List Value} {E : XK} {x : Str} {p pos : Pos} {e : Expr} {es : List Expr} {t : TA}
theorem goG {pins : List (Addr × Obj)} {σ : L2.St} {H : Hp} {s : Shared} {Q : VK} {us : List Value} {vs : List V} (F : FnG X.prog X.w X.K X.mg X.base CX k f fd ps sp) (gd : X.A.guards = some []) (room : Room k X.A)
    (hb : Binds X.K fd ps ds) (hd : Vals dvs ds) (out : Passes CX X E) (I : Inv X pins σ H s) (r : Vals vs us) (asked : sp (vs ++ dvs) H Q E) :
    wpAny (model X.prog X.w) X.A (call (.ref f) us) (EP X pins σ Q) X.xe s := by
  have rr : Vals (vs ++ dvs) (us ++ ds) := r.append hd
  have ll : (us ++ ds).length = ps.length := rr.length.symm.trans (F.many _ _ _ _ asked)
  apply wpAny_call
  refine codeAny_mono (F.go X.A gd X.stack s H ⟨us, []⟩ (us ++ ds) (vs ++ dvs) Q E room I.env0 (hb s us I.kIn ll) rr asked) ?_
  intro res s' got
  match res, got with
  | .error e, got => exact out pins σ H s e s' I got
  | .ok (.ret u), got => exact I.after got
  | .ok .next, got => exact got.elim
  | .ok .brk, got => exact got.elim
  | .ok .cont, got => exact got.elim
/-- f(e, ..), f a def of the program that may show containers -/
theorem pe_callG (F : FnG X.prog X.w X.K X.mg X.base CX k f fd ps sp) (gd : X.A.guards = some []) (room : Room k X.A) (hg : Gl X x) (hm : X.mg x = some (.ref f)) (hk : PySem.W.keepIn X.K (.ref f) = true)
    (hb : Binds X.K fd ps ds) (hd : Vals dvs ds) (out : Passes CX X E) (args : PA X (e :: es) t) (hdb : (x == ("__debug__" : Str)) = false := by decide)
    (he : starEach (e :: es) X.env = (false, eval e X.env) :: starEach es X.env := by rfl) (hpl : (backTo pos (starEach es X.env)).any (·.1) = false := by rfl) :
    PE X (.Call (.Name x p) (e :: es) [] pos) (tCall sp dvs E t) := by
  constructor
  intro pins s σ H Q I h
  apply wpAny_Call_Name_kw (ld_glob I hg hm ?_ hdb)
  apply PySem.W.callWith_K (h₀ := X.base) I.ok.mod.kin hk _ he hpl
  apply thn (args.run pos pins s σ H _ I h)
  rintro us s1 ⟨vs, H1, I1, r, q⟩
  exact ⟨I1.kIn, goG F gd room hb hd out I1 r q⟩
end

/-! ### repr -/
/-- data as they lie in the heap: as Dp of the hand layer, and dicts of ints -/
theorem call_reprD {X : Cx} (gd : X.A.guards = some []) (hu : X.A.units + 64 < cLine) : CallR X (.builtin "repr") (fun xs H Q => ∃ (a : Addr) (d : PyData), xs = [.ref a] ∧ Dp X.K H (.ref a) d ∧ d.showable = true ∧ d.hasDict = false ∧ d.depth ≤ 60 ∧ d.shown.length ≤ sizeLine ∧ Q (.str d.shown) H) := by
  intro pins s σ H xs us Q I r h
  obtain ⟨a, d, rfl, hd, sh, nd, dd, sz, q⟩ := h
  obtain ⟨u, rfl, ru⟩ : ∃ u, us = [u] ∧ RelV (.ref a) u := by
    cases r with
    | cons r1 r2 => cases r2; exact ⟨_, rfl, r1⟩
  cases ru
  obtain ⟨as, rd⟩ := Dp.reads I d _ _ hd rfl
  refine repr_of_reads' rd sh (fun z => by rw [nd] at z; cases z) gd (by omega) (fun _ _ e => e) (fun h' u tk k => ?_) sz
  exact ⟨.str _, H, I.kept k, ⟨_, rfl⟩, q⟩
theorem call_repr_bl {X : Cx} : CallR X (.builtin "repr") (fun xs H Q => ∃ b, xs = [.bl b] ∧ Q (.str (if b then "True" else "False")) H) := by
  intro pins s σ H xs us Q I r h
  obtain ⟨b, rfl, q⟩ := h
  obtain ⟨u, rfl, ru⟩ : ∃ u, us = [u] ∧ RelV (.bl b) u := by
    cases r with
    | cons r1 r2 => cases r2; exact ⟨_, rfl, r1⟩
  cases ru
  exact PySem.P.repr_of_bool ⟨.str _, H, I.tok _, ⟨_, rfl⟩, q⟩
theorem call_repr_i {X : Cx} : CallR X (.builtin "repr") (fun xs H Q => ∃ i, xs = [.int i] ∧ i.natAbs.log2 < 1920 ∧ Q (.str (toString i)) H) := by
  intro pins s σ H xs us Q I r h
  obtain ⟨i, rfl, hz, q⟩ := h
  obtain ⟨u, rfl, t, rfl⟩ := vals1 r
  exact PySem.P.repr_of_int hz ⟨.str _, H, I.tok _, ⟨_, rfl⟩, q⟩
/-! ### sum of a tuple of ints -/
def rSumT (K : PySem.W.Frag) : List V → Hp → VK → Prop := fun vs H Q => ∃ (a : Addr) (ns : List Int), vs = [V.ref a] ∧ SqT K H a (ns.map V.int) ∧ Q (.int ns.sum) H
theorem cr_sumT {X : Cx} (hc : X.calm = true) : CallR X (.builtin "sum") (rSumT X.K) := by
  intro pins s σ H vs us Q I r h
  obtain ⟨a, ns, rfl, hs, q⟩ := h
  obtain ⟨its, rv, hl, _⟩ := I.tuple hs
  rw [Vals.ref1 r]
  have hi := rv.ints
  obtain ⟨xs, e⟩ := hi.allInts.items
  have hn : numsOf (intItems xs).toList = ns := by rw [← e]; exact hi.numsOf
  rw [nums_intItems] at hn
  have hl' : s.heap.IsTuple a its.toArray := hl
  rw [e] at hl'
  refine PySem.W.ktm_sumG (I.ok.hd hc) hl' fun h' tk t' hk => ?_
  have e2 : PySem.preSum (numAt xs) xs.size = ns.sum := by
    rw [preSum_eq, List.take_of_length_le (by simp), hn]
  rw [e2]
  exact ⟨.int _, H, I.kept hk, ⟨_, rfl⟩, q⟩
/-! ### a def of the program as its callers see it -/
structure Df (P : Program) (w : World) (K : PySem.W.Frag) (mg : Str → Option Value) (base : Heap) (k : Nat) (x : Str) (ps : List Str) (dvs : List V) (sp : Sp) : Prop where
  ex : ∃ (f : Addr) (fd : FuncData) (ds : List Value), FnOk P w K mg base CX0 k f fd ps sp ∧ mg x = some (.ref f) ∧ PySem.W.keepIn K (.ref f) = true ∧ Vals dvs ds ∧ Binds K fd ps ds
structure Dg (P : Program) (w : World) (K : PySem.W.Frag) (mg : Str → Option Value) (base : Heap) (k : Nat) (x : Str) (ps : List Str) (dvs : List V) (sp : Sp) : Prop where
  ex : ∃ (f : Addr) (fd : FuncData) (ds : List Value), FnG P w K mg base CX0 k f fd ps sp ∧ mg x = some (.ref f) ∧ PySem.W.keepIn K (.ref f) = true ∧ Vals dvs ds ∧ Binds K fd ps ds
/-- called by names alone, ks in the text's order -/
structure Dk (P : Program) (w : World) (K : PySem.W.Frag) (mg : Str → Option Value) (base : Heap) (k : Nat) (x : Str) (ps ks : List Str) (gV : List V → List V) (sp : Sp) : Prop where
  ex : ∃ (f : Addr) (fd : FuncData) (g : List Value → List Value), FnOk P w K mg base CX0 k f fd ps sp ∧ mg x = some (.ref f) ∧ PySem.W.keepIn K (.ref f) = true ∧
    (∀ {vs : List V} {us : List Value}, Vals vs us → Vals (gV vs) (g us)) ∧
    ∀ (s : Shared) (ws : List Value), K.In s.heap → ws.length = ks.length → BindsTo s fd ⟨[], ks.zip ws⟩ (ps.zip (g ws))
def tCallN0 (n : Nat) (sp : Sp) (gV : List V → List V) (tk : TA) : TE := fun σ H Q => tk σ H fun zs H2 => zs.length = n ∧ sp (gV zs) H2 Q E0
section
variable {X : Cx} {k : Nat} {x : Str} {ps ks : List Str} {sp : Sp} {dvs : List V} {p pos : Pos} {e : Expr} {es : List Expr} {t tk : TA} {kws : List Keyword} {gV : List V → List V}
theorem pe_df (D : Df X.prog X.w X.K X.mg X.base k x ps dvs sp) (hr : Room k X.A) (ha : PA X (e :: es) t) (hg : Gl X x := by rfl) (hdb : (x == ("__debug__" : Str)) = false := by decide)
    (he : starEach (e :: es) X.env = (false, eval e X.env) :: starEach es X.env := by rfl) (hpl : (backTo pos (starEach es X.env)).any (·.1) = false := by rfl) :
    PE X (.Call (.Name x p) (e :: es) [] pos) (tCall sp dvs E0 t) := by
  obtain ⟨f, fd, ds, F, m, kp, hv, b⟩ := D.ex
  exact pe_call F hr hg m kp b hv pass0 ha hdb he hpl
theorem pe_dg (D : Dg X.prog X.w X.K X.mg X.base k x ps dvs sp) (gd : X.A.guards = some []) (hr : Room k X.A) (ha : PA X (e :: es) t) (hg : Gl X x := by rfl) (hdb : (x == ("__debug__" : Str)) = false := by decide)
    (he : starEach (e :: es) X.env = (false, eval e X.env) :: starEach es X.env := by rfl) (hpl : (backTo pos (starEach es X.env)).any (·.1) = false := by rfl) :
    PE X (.Call (.Name x p) (e :: es) [] pos) (tCall sp dvs E0 t) := by
  obtain ⟨f, fd, ds, F, m, kp, hv, b⟩ := D.ex
  exact pe_callG F gd hr hg m kp b hv pass0 ha hdb he hpl
theorem pe_dk (D : Dk X.prog X.w X.K X.mg X.base k x ps ks gV sp) (hr : Room k X.A) (hkw : PK X kws tk) (hg : Gl X x := by rfl)
    (hall : (backToKw pos (keywordEach kws X.env)).all (·.1.isSome) = true := by rfl) (hks : (backToKw pos (keywordEach kws X.env)).filterMap (·.1) = ks := by rfl) (hdb : (x == ("__debug__" : Str)) = false := by decide)
    (hpl : ((backTo pos (starEach [] X.env)).any (·.1) || (backToKw pos (keywordEach kws X.env)).any (·.1.isNone)) = false := by rfl) :
    PE X (.Call (.Name x p) [] kws pos) (tCallN0 ks.length sp gV tk) := by
  obtain ⟨f, fd, g, F, m, kp, rel, b⟩ := D.ex
  constructor
  intro pins s σ H Q I h
  apply wpAny_Call_Name_kw (ld_glob I hg m ?_ hdb)
  apply PySem.W.callWith_KW0 (h₀ := X.base) I.ok.mod.kin kp hall ?_ hpl
  apply thn (hkw.run pos pins s σ H _ I h)
  rintro ws s2 ⟨zs, H2, I2, rz, ln, asked⟩
  refine ⟨I2.kIn, ?_⟩
  rw [hks]
  have ll : ws.length = ks.length := rz.length.symm.trans ln
  have rr := rel rz
  apply wpAny_call
  refine codeAny_mono (F.run X.A X.stack s2 H2 ⟨[], ks.zip ws⟩ (g ws) (gV zs) Q E0 hr I2.env0 (b s2 ws I2.kIn ll) rr asked) ?_
  intro res s' got
  match res, got with
  | .error e, got => exact (got : False).elim
  | .ok (.ret u), got => exact I2.after got
  | .ok .next, got => exact got.elim
  | .ok .brk, got => exact got.elim
  | .ok .cont, got => exact got.elim
end
/-! ### small things -/
theorem _root_.L2.Same.sqt {K : PySem.W.Frag} {H H' : Hp} {a : Addr} {xs : List V} (e : Same H H') (h : SqT K H a xs) : SqT K H' a xs := by
  rcases h with (h | ⟨o, h⟩) | h
  · exact .inl (.inl (e _ _ h))
  · exact .inl (.inr ⟨o, e _ _ h⟩)
  · exact .inr h
theorem _root_.L2.Same.new {H : Hp} {p : Addr} {o : HO} (h : H p = none) : Same H (upd H p o) := fun b u e => by rw [upd_ne (ne_of_none e h)]; exact e
theorem _root_.L2.Same.step {H0 H : Hp} {p : Addr} {o : HO} (s : Same H0 H) (h : H p = none) : Same H0 (upd H p o) := s.trans (Same.new h)
theorem _root_.L2.Same.wr {H0 H : Hp} {p : Addr} {o : HO} (s : Same H0 H) (h : H0 p = none) : Same H0 (upd H p o) := fun b u e => by rw [upd_ne (ne_of_none e h)]; exact s b u e
/-- all but the objects at p and q is as it was -/
def But (p q : Addr) (H H' : Hp) : Prop := ∀ b o, H b = some o → b ≠ p → b ≠ q → H' b = some o
theorem But.refl {p q : Addr} {H : Hp} : But p q H H := fun _ _ h _ _ => h
theorem But.trans {p q : Addr} {H H1 H2 : Hp} (a : But p q H H1) (b : But p q H1 H2) : But p q H H2 := fun c o h h1 h2 => b c o (a c o h h1 h2) h1 h2
theorem But.of {p q : Addr} {H H' : Hp} (a : Same H H') : But p q H H' := fun c o h _ _ => a c o h
theorem _root_.L2.Same.but {p q : Addr} {H0 H H' : Hp} (a : Same H0 H) (b : But p q H H') (hp : H0 p = none) (hq : H0 q = none) : Same H0 H' := fun c o h => b c o (a c o h) (ne_of_none h hp) (ne_of_none h hq)
theorem ints_get {ns : List Int} {i : Nat} {y : V} (h : (ns.map V.int)[i]? = some y) : ∃ z, ns[i]? = some z ∧ y = V.int z := by
  rw [List.getElem?_map] at h
  cases e : ns[i]? with
  | none => rw [e] at h; cases h
  | some z => rw [e] at h; exact ⟨z, rfl, (Option.some.inj h).symm⟩
theorem lt_of_get {α : Type} {l : List α} {i : Nat} {y : α} (h : l[i]? = some y) : i < l.length := (List.getElem?_eq_some_iff.mp h).1
theorem iteFF {A B : Prop} {b : Bool} (e : b = false) (h : B) : if b = true then A else B := by subst e; exact iteF h
theorem iteTT {A B : Prop} {b : Bool} (e : b = true) (h : A) : if b = true then A else B := by subst e; exact iteT h
end Cf
/-! The mathematics of the calendar, plain. -/
namespace Cf
def leapB (y : Int) : Bool := decide (y % 4 = 0) && (decide (y % 100 ≠ 0) || decide (y % 400 = 0))
def lyb (y : Int) : Int := (y - 1) / 4 - (y - 1) / 100 + (y - 1) / 400
def ysOf (y : Int) : Int := 365 * (y - 2000) + lyb y - lyb 2000
theorem leapB_iff (y : Int) : leapB y = true ↔ (y % 4 = 0 ∧ (y % 100 ≠ 0 ∨ y % 400 = 0)) := by
  unfold leapB
  simp only [Bool.and_eq_true, Bool.or_eq_true, decide_eq_true_eq]
def leapI (y : Int) : Int := if leapB y = true then 1 else 0
theorem ys_succ (y : Int) : ysOf (y + 1) = ysOf y + 365 + leapI y := by
  unfold ysOf lyb leapI
  have := leapB_iff y
  by_cases h : leapB y = true
  · rw [if_pos h]
    have h2 := this.mp h
    omega
  · rw [if_neg h]
    have h2 : ¬ (y % 4 = 0 ∧ (y % 100 ≠ 0 ∨ y % 400 = 0)) := fun z => h (this.mpr z)
    omega
theorem leapI_01 (y : Int) : leapI y = 0 ∨ leapI y = 1 := by
  unfold leapI
  by_cases h : leapB y = true
  · rw [if_pos h]; exact Or.inr rfl
  · rw [if_neg h]; exact Or.inl rfl
theorem ys_step (y : Int) : ysOf y + 365 ≤ ysOf (y + 1) ∧ ysOf (y + 1) ≤ ysOf y + 366 := by
  have := ys_succ y
  have := leapI_01 y
  omega
theorem ys_mono_nat (y : Int) : ∀ n : Nat, ysOf y + 365 * (n : Int) ≤ ysOf (y + n)
  | 0 => by simp
  | n + 1 => by
    have h1 := ys_mono_nat y n
    have h2 := (ys_step (y + n)).1
    have e : y + ((n + 1 : Nat) : Int) = y + (n : Int) + 1 := by omega
    rw [e]
    omega
theorem ys_lt {y z : Int} (h : y < z) : ysOf y < ysOf z := by
  have h1 := ys_mono_nat y (z - y).toNat
  have e : y + ((z - y).toNat : Int) = z := by omega
  rw [e] at h1
  omega
theorem ys_le {y z : Int} (h : y ≤ z) : ysOf y ≤ ysOf z := by
  by_cases e : y = z
  · rw [e]; exact Int.le_refl _
  · exact Int.le_of_lt (ys_lt (by omega))
theorem ys_le_iff {y z : Int} (h : ysOf y < ysOf (z + 1)) : y ≤ z := by
  by_cases q : y ≤ z
  · exact q
  · have := ys_le (y := z + 1) (z := y) (by omega)
    omega
/-- the law's own first day of a year -/
def lawNY (y : Int) : Int := 365 * (y - 2000) + (y - 2000 + 3) / 4 - (y - 2000 + 99) / 100 + (y - 2000 + 399) / 400
theorem lawNY_eq (y : Int) : lawNY y = ysOf y := by
  unfold lawNY ysOf lyb
  omega
/-- the first try of year_of is never too late -/
theorem first_try {d y : Int} (h1 : ysOf y ≤ d) (h2 : d < ysOf (y + 1)) : 2000 + 400 * (d / 146097) + (d % 146097) / 366 ≤ y := by
  refine ys_le_iff (z := y) ?_
  have : ysOf (2000 + 400 * (d / 146097) + (d % 146097) / 366) ≤ d := by
    unfold ysOf lyb
    omega
  omega
def ml (m : Int) : Int := match m with
  | 1 => 31 | 2 => 28 | 3 => 31 | 4 => 30 | 5 => 31 | 6 => 30 | 7 => 31 | 8 => 31 | 9 => 30 | 10 => 31 | 11 => 30 | 12 => 31 | _ => 0
def mlen (m : Int) (l : Bool) : Int := if m = 2 ∧ l = true then 29 else ml m
def MLs : List Int := [31, 28, 31, 30, 31, 30, 31, 31, 30, 31, 30, 31]
def mst (m : Int) (l : Bool) : Int := (MLs.take (m - 1).toNat).sum + (if l = true ∧ 2 < m then 1 else 0)
theorem m12 {m : Int} (h1 : 1 ≤ m) (h2 : m ≤ 12) : m = 1 ∨ m = 2 ∨ m = 3 ∨ m = 4 ∨ m = 5 ∨ m = 6 ∨ m = 7 ∨ m = 8 ∨ m = 9 ∨ m = 10 ∨ m = 11 ∨ m = 12 := by omega
theorem mst_succ {m : Int} (h1 : 1 ≤ m) (h2 : m ≤ 12) (l : Bool) : mst (m + 1) l = mst m l + mlen m l := by
  rcases m12 h1 h2 with rfl | rfl | rfl | rfl | rfl | rfl | rfl | rfl | rfl | rfl | rfl | rfl <;> cases l <;> decide
theorem mst_1 (l : Bool) : mst 1 l = 0 := by cases l <;> decide
theorem mst_13 (l : Bool) : mst 13 l = 365 + (if l = true then 1 else 0) := by cases l <;> decide
theorem mlen_bd {m : Int} (h1 : 1 ≤ m) (h2 : m ≤ 12) (l : Bool) : 28 ≤ mlen m l ∧ mlen m l ≤ 31 := by
  rcases m12 h1 h2 with rfl | rfl | rfl | rfl | rfl | rfl | rfl | rfl | rfl | rfl | rfl | rfl <;> cases l <;> decide
theorem mst_bd {m : Int} (h1 : 1 ≤ m) (h2 : m ≤ 13) (l : Bool) : 0 ≤ mst m l ∧ mst m l ≤ 366 := by
  have : m = 13 ∨ m ≤ 12 := by omega
  rcases this with rfl | h
  · cases l <;> decide
  · rcases m12 h1 h with rfl | rfl | rfl | rfl | rfl | rfl | rfl | rfl | rfl | rfl | rfl | rfl <;> cases l <;> decide
theorem mst_mono_nat (l : Bool) (m : Int) (h1 : 1 ≤ m) : ∀ n : Nat, m + n ≤ 13 → mst m l + 28 * (n : Int) ≤ mst (m + n) l
  | 0, _ => by simp
  | n + 1, h => by
    have h3 := mst_mono_nat l m h1 n (by omega)
    have h4 := mst_succ (m := m + n) (by omega) (by omega) l
    have h5 := mlen_bd (m := m + n) (by omega) (by omega) l
    have e : m + ((n + 1 : Nat) : Int) = m + (n : Int) + 1 := by omega
    rw [e, h4]
    omega
theorem mst_le {a b : Int} (h1 : 1 ≤ a) (h : a ≤ b) (h2 : b ≤ 13) (l : Bool) : mst a l ≤ mst b l := by
  have h3 := mst_mono_nat l a h1 (b - a).toNat (by omega)
  have e : a + ((b - a).toNat : Int) = b := by omega
  rw [e] at h3
  omega
/-- a date that exists -/
structure IsDate (y m d : Int) : Prop where
  m1 : 1 ≤ m
  m2 : m ≤ 12
  d1 : 1 ≤ d
  d2 : d ≤ mlen m (leapB y)
def dayOf (y m d : Int) : Int := ysOf y + mst m (leapB y) + d - 1
theorem IsDate.year {y m d : Int} (D : IsDate y m d) : ysOf y ≤ dayOf y m d ∧ dayOf y m d < ysOf (y + 1) := by
  have h1 := mst_bd D.m1 (by have := D.m2; omega) (leapB y)
  have h2 := mst_succ D.m1 D.m2 (leapB y)
  have h3 := mst_le (a := m + 1) (b := 13) (by have := D.m1; omega) (by have := D.m2; omega) (by omega) (leapB y)
  have h4 := mst_13 (leapB y)
  have h5 := ys_succ y
  have h6 : leapI y = (if leapB y = true then 1 else 0) := rfl
  have := D.d1
  have := D.d2
  unfold dayOf
  omega
theorem IsDate.month {y m d : Int} (D : IsDate y m d) : mst m (leapB y) ≤ dayOf y m d - ysOf y ∧ dayOf y m d - ysOf y < mst (m + 1) (leapB y) := by
  have h2 := mst_succ D.m1 D.m2 (leapB y)
  have := D.d1
  have := D.d2
  unfold dayOf
  omega
theorem dayOf_first (y m : Int) : dayOf y m 1 = ysOf y + mst m (leapB y) := by unfold dayOf; omega
theorem ys_as_day (y : Int) : ysOf y = dayOf y 1 1 := by rw [dayOf_first, mst_1]; omega
theorem ys_last (y : Int) : ysOf (y + 1) - 1 = dayOf y 12 31 := by
  have h5 := ys_succ y
  have h6 : leapI y = (if leapB y = true then 1 else 0) := rfl
  have h4 := mst_13 (leapB y)
  have h2 := mst_succ (m := 12) (by omega) (by omega) (leapB y)
  have h3 : mlen 12 (leapB y) = 31 := by cases leapB y <;> decide
  unfold dayOf
  have e : (12 : Int) + 1 = 13 := by omega
  rw [e] at h2
  omega
/-- the law's leap year -/
def isLong (y : Int) : Bool := decide (y % 400 = 0) || (decide (y % 4 = 0) && decide (y % 100 ≠ 0))
theorem isLong_eq (y : Int) : isLong y = leapB y := by
  have h1 := leapB_iff y
  have h2 : isLong y = true ↔ (y % 400 = 0 ∨ (y % 4 = 0 ∧ y % 100 ≠ 0)) := by
    unfold isLong
    simp only [Bool.and_eq_true, Bool.or_eq_true, decide_eq_true_eq]
  have h3 : isLong y = true ↔ leapB y = true := by rw [h1, h2]; omega
  cases a : isLong y <;> cases b : leapB y <;> simp_all
def lawSizes (l : Bool) : List Int := [31, if l = true then 29 else 28, 31, 30, 31, 30, 31, 31, 30, 31, 30, 31]
theorem lawSizes_get {m : Int} (h1 : 1 ≤ m) (h2 : m ≤ 12) (l : Bool) : (lawSizes l)[(m - 1).toNat]? = some (mlen m l) := by
  rcases m12 h1 h2 with rfl | rfl | rfl | rfl | rfl | rfl | rfl | rfl | rfl | rfl | rfl | rfl <;> cases l <;> decide
theorem MLs_get {m : Int} (h1 : 1 ≤ m) (h2 : m ≤ 12) : MLs[(m - 1).toNat]? = some (ml m) := by
  rcases m12 h1 h2 with rfl | rfl | rfl | rfl | rfl | rfl | rfl | rfl | rfl | rfl | rfl | rfl <;> decide
/-- the law's first day of a month -/
theorem lawMonth_eq {y m : Int} (h1 : 1 ≤ m) (h2 : m ≤ 12) :
    lawNY y + (([31, 28 + (lawNY (y + 1) - lawNY y - 365), 31, 30, 31, 30, 31, 31, 30, 31, 30, 31] : List Int).take (m - 1).toNat).sum = ysOf y + mst m (leapB y) := by
  rw [lawNY_eq, lawNY_eq]
  have e : ysOf (y + 1) - ysOf y - 365 = leapI y := by have := ys_succ y; omega
  rw [e]
  have h6 : leapI y = (if leapB y = true then 1 else 0) := rfl
  rw [h6]
  rcases m12 h1 h2 with rfl | rfl | rfl | rfl | rfl | rfl | rfl | rfl | rfl | rfl | rfl | rfl <;> cases leapB y <;> simp [mst, MLs] <;> omega
theorem prev_month {m : Int} (h1 : 2 ≤ m) (h2 : m ≤ 12) : (m + 10) % 12 + 1 = m - 1 := by omega
/-- bounds -/
theorem ys_bd {y B : Int} (h1 : -B ≤ y) (h2 : y ≤ B) (hB : 10000 ≤ B) : -(800 * B) ≤ ysOf y ∧ ysOf y ≤ 800 * B := by
  unfold ysOf lyb
  omega
end Cf
/-! Own errors as values: made (also by names), asked by isinstance, their fields read. -/
namespace Cf
section
open PySem PySem.W PySem.Calls PyProof.Rows PySem.HandSPX
section
variable {M : Model} {A : Around} {E : Value → Shared → Prop} {R : Result → Shared → Prop} {prog : Program} {w : World} {g : Array GenState} {d : Drawn} {t : Nat} {os : OsState} {h : Heap}
variable {bs bm bmB : List Value} {nm q : Str} {hdct ab : Bool} {C N : Addr} {sn : List Str} {sub : List Value} {col : Option Bool} {dd : Option Addr} {B newId initId : String} {k0 k1 k2 k3 k5 : Option Value} {rest : List Value} {kw : List (Str × Value)}
theorem ex_check (B0 : ExcBaseFacts B newId initId bmB) (alike : ∀ T : String, bm.contains (.type T) = bmB.contains (.type T)) {Q : Unit → Shared → Prop} (cls : h.get? C = some (excClassObj nm q C N bs bm hdct sn sub ab col dd k0 k1 k2 k3 k5 newId)) (go : Q () ⟨h, g, d, t, os⟩) :
    wpAny M A (checkBuiltinCall newId ⟨.ref C :: rest, kw⟩) Q E ⟨h, g, d, t, os⟩ := by
  have z1 : (Value.ref C :: bm).contains (.type B) = true := by rw [List.contains_cons, alike, B0.hasB, Bool.or_true]
  have z2 := B0.noStar
  simp only [checkBuiltinCall, B0.newKind, B0.newSplit, B0.newRow]
  repeat (first | refine wpAny_loadPart_at cls ?_ | (refine wpAny_isSubtype_exc cls ?_; rw [z1]) | refine wpAny_staticBase_exc cls ?_ | refine wpAny_madeBy_exc cls ?_ | simp only [bne_self_eq_false, Bool.false_eq_true, if_false] | wp_step)
  exact go
theorem ex_new (B0 : ExcBaseFacts B newId initId bmB) (alike : ∀ T : String, bm.contains (.type T) = bmB.contains (.type T)) (cls : h.get? C = some (excClassObj nm q C N bs bm hdct sn sub ab col dd k0 k1 k2 k3 k5 newId))
    (go : R (.ok (.ret (.ref (h.objs.size + 1)))) ⟨(h.push (kdv_tup rest)).push (excO C h.objs.size), g, d, t, os⟩) (few : rest.length ≤ sizeLine) : codeAny (model prog w) A (.builtin newId ⟨.ref C :: rest, kw⟩) R ⟨h, g, d, t, os⟩ := by
  have z0 := B0.ends
  have z1 : (Value.ref C :: bm).contains (.type B) = true := by rw [List.contains_cons, alike, B0.hasB, Bool.or_true]
  have z2 : (Value.ref C :: bm).contains (.type "AttributeError") = false := by rw [List.contains_cons, alike, B0.noAttr]; rfl
  have z3 : (Value.ref C :: bm).contains (.type "NameError") = false := by rw [List.contains_cons, alike, B0.noName]; rfl
  refine codeAny_builtinAt B0.entry (by
    unfold Builtin.«BaseException.__new__»; refine PySem.wpAt_bind ?_
    show PySem.wpAt _ _ _ (stack >>= _) _ _ _; refine PySem.wpAt_bind (PySem.wpAt_stack fun p below => PySem.wpAt_of_wpAny ?_)
    wp_walk
    refine PySem.wpAt_of_wpAny ?_; rw [B0.owner]
    repeat (first | with_reducible refine wpAny_madeHere_exc B0.canon cls ?_ | with_reducible refine wpAny_loadPart_at cls ?_ | (with_reducible refine wpAny_isSubtype_exc cls ?_; first | rw [z1] | rw [z2] | rw [z3]) | wp_step)
    show R _ _; rw [Heap.size_push]
    exact go)
theorem ex_type (B0 : ExcBaseFacts B newId initId bmB) (alike : ∀ T : String, bm.contains (.type T) = bmB.contains (.type T)) {fI : Addr} {Q : Fin → Shared → Prop} (cls : h.get? C = some (excClassObj nm q C N bs bm hdct sn sub ab col dd k0 k1 k2 k3 k5 newId))
    (ini : W.Looks (model prog w) h (typeLookup (.ref C) "__init__") (some (.ref fI))) (bnd : ∀ self, W.Looks (model prog w) h (bindSpecial (.ref fI) self) (.ref fI, [self])) (few : rest.length ≤ sizeLine)
    (go : codeAny (model prog w) A (.call (.ref fI) ⟨.ref (h.objs.size + 1) :: rest, kw⟩) (fun r s' => match r with | .ok (.ret v) => v = .none ∧ Q (.done (.ret (.ref (h.objs.size + 1)))) s' | .ok _ => False | .error e => E e s')
      ⟨(h.push (kdv_tup rest)).push (excO C h.objs.size), g, d, t, os⟩) : wpAny (model prog w) A (Builtin.«type.__call__» ⟨.ref C :: rest, kw⟩) Q E ⟨h, g, d, t, os⟩ := by
  repeat (first | with_reducible refine wpAny_loadPart_at cls ?_ | with_reducible refine wpAny_madeBy_exc cls ?_ | wp_step)
  refine codeAny_call_builtin_code (Code.quiet_builtin _ B0.quiet) (ex_check B0 alike cls (ex_new B0 alike cls ?_ few))
  show wpAny _ _ _ _ _ _
  have old : ∀ b o, h.get? b = some o → ((h.push (kdv_tup rest)).push (excO C h.objs.size)).get? b = some o := fun _ _ e => Heap.get?_push_of_some _ (Heap.get?_push_of_some _ e)
  have cls' := old _ _ cls
  have mine : ((h.push (kdv_tup rest)).push (excO C h.objs.size)).get? (h.objs.size + 1) = some (excO C h.objs.size) := by heap_get
  have z4 : (Value.ref C :: bm).contains (.ref C) = true := by simp
  have ini' := ini.keeps old
  have bnd' := (bnd (.ref (h.objs.size + 1))).keeps old
  unfold isInstance
  repeat (first | with_reducible refine wpAny_loadPart_at mine ?_ | (with_reducible refine wpAny_isSubtype_exc cls' ?_; rw [z4]) | wp_step)
  show wpAny _ _ (typeLookup (.ref C) _) _ _ _
  refine ini'.at (wpAny_holding (wpAny_bind (bnd'.at (wpAny_bind (wpAny_call (codeAny_mono go fun r s' z => ?_))))))
  rcases r with e | (v | _ | _ | _) <;> first | exact z | exact z.elim | skip
  obtain ⟨rfl, z⟩ := z
  first | exact wpAny_pure (wpAny_pure z) | (wp_walk; exact z)
theorem ex_checkT {Q : Unit → Shared → Prop} (cls : h.get? C = some (excClassObj nm q C N bs bm hdct sn sub ab col dd k0 k1 k2 k3 k5 newId)) (go : Q () ⟨h, g, d, t, os⟩) : wpAny M A (checkBuiltinCall "type.__call__" ⟨.ref C :: rest, kw⟩) Q E ⟨h, g, d, t, os⟩ := by
  have y3 := tc_sub
  have y4 : (⟨h, g, d, t, os⟩ : Shared).TypeIs (.ref C) "type" := ⟨_, cls, rfl⟩
  simp only [checkBuiltinCall, tc_kind, tc_split]; repeat (any_goals (first | assumption | with_reducible refine wpAny_loadPart_at cls ?_ | with_reducible refine wpAny_onRaise ?_ | with_reducible refine wpAny_map ?_ | wp_step))
theorem ex_call (B0 : ExcBaseFacts B newId initId bmB) (alike : ∀ T : String, bm.contains (.type T) = bmB.contains (.type T)) {fI : Addr} (cls : h.get? C = some (excClassObj nm q C N bs bm hdct sn sub ab col dd k0 k1 k2 k3 k5 newId))
    (ini : W.Looks (model prog w) h (typeLookup (.ref C) "__init__") (some (.ref fI))) (bnd : ∀ self, W.Looks (model prog w) h (bindSpecial (.ref fI) self) (.ref fI, [self])) (few : rest.length ≤ sizeLine)
    (go : codeAny (model prog w) (A.under (.builtin "type.__call__" ⟨.ref C :: rest, kw⟩)) (.call (.ref fI) ⟨.ref (h.objs.size + 1) :: rest, kw⟩) (W.InitBack (h.objs.size + 1) R) ⟨(h.push (kdv_tup rest)).push (excO C h.objs.size), g, d, t, os⟩) :
    codeAny (model prog w) A (.call (.ref C) ⟨rest, kw⟩) R ⟨h, g, d, t, os⟩ := by
  have y1 := tc_lookup
  have y2 := tc_bind (.ref C)
  have y4 : (⟨h, g, d, t, os⟩ : Shared).TypeIs (.ref C) "type" := ⟨_, cls, rfl⟩
  refine codeAny_of_tree ?_
  show wpAny _ _ (callAny (.ref C) _) _ _ _
  repeat (any_goals (first | assumption | with_reducible refine wpAny_loadPart_at cls ?_ | wp_step))
  refine ⟨rfl, codeAny_call_builtin_at (Code.quiet_builtin _ (by decide +kernel)) entry_typeCall (ex_checkT cls (ex_type B0 alike cls ini bnd few (codeAny_mono go fun r s' z => ?_)))⟩
  rcases r with e | (v | _ | _ | _) <;> exact z
end
end
section
open PySem PySem.Spec PyProof.Rows L2
/-- an error of the class at C stands at a, its fields fl -/
def ExAt (H : Hp) (a C : Addr) (fl : List (Str × V)) : Prop := ∃ dx, H a = some (exo a C (some dx)) ∧ H dx = some (exd dx fl)
theorem ExAt.same {H H' : Hp} {a C : Addr} {fl : List (Str × V)} (e : ExAt H a C fl) (s : Same H H') : ExAt H' a C fl := by
  obtain ⟨dx, h1, h2⟩ := e
  exact ⟨dx, s _ _ h1, s _ _ h2⟩
/-- what a class's __init__ promises: mk tells the fields of the values -/
def spE (C : Addr) (n : Nat) (mk : List V → List (Str × V)) : Sp := fun vs H Q _ => ∃ (a : Addr) (us : List V), vs = .ref a :: us ∧ us.length = n ∧ H a = some (exo a C none) ∧
  ∀ H' : Hp, (∀ b o, H b = some o → b ≠ a → H' b = some o) → ExAt H' a C (mk us) → Q .non H'
/-- an own error class, as its callers see it -/
structure Ec (P : Program) (w : World) (K : PySem.W.Frag) (mg : Str → Option Value) (base : Heap) (x : Str) (C : Addr) (n : Nat) (ks : List Str) (pick : List V → List V) (mk : List V → List (Str × V)) : Prop where
  ox : OexC K C
  m : mg x = some (.ref C)
  ex : ∃ (fI : Addr) (fd : FuncData) (ps : List Str) (pk : List Value → List Value), PySem.W.findIn K (.ref C) "__init__" = some (some (.ref fI)) ∧ PySem.W.typeIn K (.ref fI) = some (.type "function") ∧ FnOk P w K mg base CX0 1 fI fd ps (spE C n mk) ∧ Binds K fd ps [] ∧
    (∀ {vs : List V} {us : List Value}, Vals vs us → Vals (pick vs) (pk us)) ∧ (∀ vs : List V, vs.length = ks.length → (pick vs).length = n) ∧
    ∀ (s : Shared) (self : Value) (ws : List Value), K.In s.heap → ws.length = ks.length → BindsTo s fd ⟨[self], ks.zip ws⟩ (ps.zip (self :: pk ws))
/-- the reading of a making -/
def tEc (C : Addr) (n : Nat) (pick : List V → List V) (mk : List V → List (Str × V)) (ta : TA) : TE := fun σ H Q => ta σ H fun vs H1 => (pick vs).length = n ∧ vs.length ≤ 1000 ∧ ∀ (a : Addr) (H2 : Hp), H1 a = none → Same H1 H2 → ExAt H2 a C (mk (pick vs)) → Q (.ref a) H2
section
variable {X : Cx} {x : Str} {C : Addr} {n : Nat} {ks : List Str} {pick : List V → List V} {mk : List V → List (Str × V)} {p pos : Pos} {e : Expr} {es : List Expr} {kws : List Keyword} {ta : TA}
theorem ec_run {pins : List (Addr × Obj)} {σ : L2.St} {H1 : Hp} {s1 : Shared} {Q : VK} {us : List Value} {vs' : List V} {kw : List (Str × Value)} {fI : Addr} {fd : FuncData} {ps : List Str} (D : OexC X.K C)
    (ini : PySem.W.findIn X.K (.ref C) "__init__" = some (some (.ref fI))) (tfn : PySem.W.typeIn X.K (.ref fI) = some (.type "function")) (F : FnOk X.prog X.w X.K X.mg X.base CX0 1 fI fd ps (spE C n mk)) (room : Room 2 X.A)
    (I1 : Inv X pins σ H1 s1) (few : us.length ≤ sizeLine) (us' : List Value) (rel : Vals vs' us') (ln : vs'.length = n) (bind : ∀ (s : Shared) (self : Value), X.K.In s.heap → BindsTo s fd ⟨self :: us, kw⟩ (ps.zip (self :: us')))
    (go : ∀ (a : Addr) (H2 : Hp), H1 a = none → Same H1 H2 → ExAt H2 a C (mk vs') → Q (.ref a) H2) : wpAny (model X.prog X.w) X.A (call (.ref C) us kw) (EP X pins σ Q) X.xe s1 := by
  obtain ⟨nm, q, N, bs, bm, sn, sub, ab, col, dd, k0, k1, k2, k3, k5, hC, hbm⟩ := D.cls
  obtain ⟨hp, g, dr, tk, os⟩ := s1
  have fresh : H1 (hp.objs.size + 1) = none := I1.hok.fresh (Nat.le_succ _)
  have mine : ((hp.push (PySem.W.kdv_tup us)).push (PySem.HandSPX.excO C hp.objs.size)).get? (hp.objs.size + 1) = some (PySem.HandSPX.excO C hp.objs.size) := by heap_get
  have I2 : Inv X pins σ (upd H1 (hp.objs.size + 1) (exo (hp.objs.size + 1) C none)) ⟨(hp.push (PySem.W.kdv_tup us)).push (PySem.HandSPX.excO C hp.objs.size), g, dr, tk, os⟩ :=
    I1.laid (t' := tk) (fun _ _ e => Heap.get?_push_of_some _ (Heap.get?_push_of_some _ e)) (Nat.le_succ _) (exo_ok mine)
  have asked : spE C n mk (.ref (hp.objs.size + 1) :: vs') (upd H1 (hp.objs.size + 1) (exo (hp.objs.size + 1) C none)) (fun v H2 => v = .non ∧ Q (.ref (hp.objs.size + 1)) H2) E0 :=
    ⟨_, vs', rfl, ln, upd_same, fun H2 keep at_ => ⟨rfl, go _ H2 fresh (fun b o eb => keep b o (by rw [upd_ne (ne_of_none eb fresh)]; exact eb) (ne_of_none eb fresh)) at_⟩⟩
  refine wpAny_call (ex_call PySem.F.excBase_ValueError (fun Y => PySem.HandSPX.refsVE_contains Y bm hbm) (I1.kIn _ _ hC) (PySem.W.looks_findIn I1.kIn ini) (fun self => PySem.W.bind_fn I1.kIn self tfn) few
    (codeAny_mono (F.run _ X.stack _ _ ⟨_, kw⟩ (Value.ref (hp.objs.size + 1) :: us') _ _ E0 (room.make C us kw) (I2.env0.make C us kw) (bind _ _ I2.kIn) (show Vals (V.ref (hp.objs.size + 1) :: vs') (Value.ref (hp.objs.size + 1) :: us') from .cons rfl rel) asked) fun r s' got => ?_))
  match r, got with
  | .error er, got => exact (got : False).elim
  | .ok .next, got => exact got.elim
  | .ok .brk, got => exact got.elim
  | .ok .cont, got => exact got.elim
  | .ok (.ret u), got =>
    obtain ⟨v, H', I3, rv, ev, q3⟩ := I2.after got
    subst ev
    exact ⟨rv, ⟨V.ref (hp.objs.size + 1), H', I3, rfl, q3⟩⟩
/-- C(e, ..) -/
theorem pe_ec (D : Ec X.prog X.w X.K X.mg X.base x C n ks pick mk) (room : Room 2 X.A) (args : PA X (e :: es) ta) (hg : Gl X x := by rfl) (hdb : (x == ("__debug__" : Str)) = false := by decide)
    (he : starEach (e :: es) X.env = (false, eval e X.env) :: starEach es X.env := by rfl) (hpl : (backTo pos (starEach es X.env)).any (·.1) = false := by rfl) :
    PE X (.Call (.Name x p) (e :: es) [] pos) (tEc C n id mk ta) := by
  obtain ⟨fI, fd, ps, pk, h1, h2, F, b, _, _, _⟩ := D.ex
  constructor
  intro pins s σ H Q I h
  apply wpAny_Call_Name_kw (ld_glob I hg D.m ?_ hdb)
  apply PySem.W.callWith_K (h₀ := X.base) I.ok.mod.kin D.ox.kC _ he hpl
  apply thn (args.run pos pins s σ H _ I h)
  rintro us s1 ⟨vs, H1, I1, r, ln, lt, go⟩
  refine ⟨I1.kIn, ?_⟩
  rw [List.nil_append]
  refine ec_run D.ox h1 h2 F room I1 ?_ us r ln (fun s self X0 => ?_) go
  · rw [← r.length]; exact Nat.le_of_lt (small1000 lt)
  · have z := b s (self :: us) X0 (by
      have q := F.len (.ref 0 :: vs) (upd H1 0 (exo 0 C none)) (fun _ _ => True) E0 ⟨0, vs, rfl, ln, upd_same, fun _ _ _ => trivial⟩
      rw [← q]
      simp only [List.length_cons, List.append_nil, r.length])
    rw [List.append_nil] at z
    exact z
/-- C(k = e, ..) -/
theorem pe_eck (D : Ec X.prog X.w X.K X.mg X.base x C n ks pick mk) (room : Room 2 X.A) (hkw : PK X kws ta) (hg : Gl X x := by rfl)
    (hall : (backToKw pos (keywordEach kws X.env)).all (·.1.isSome) = true := by rfl) (hks : (backToKw pos (keywordEach kws X.env)).filterMap (·.1) = ks := by rfl) (hdb : (x == ("__debug__" : Str)) = false := by decide)
    (hpl : ((backTo pos (starEach [] X.env)).any (·.1) || (backToKw pos (keywordEach kws X.env)).any (·.1.isNone)) = false := by rfl) :
    PE X (.Call (.Name x p) [] kws pos) (fun σ H Q => ta σ H fun vs H1 => vs.length = ks.length ∧ ∀ (a : Addr) (H2 : Hp), H1 a = none → Same H1 H2 → ExAt H2 a C (mk (pick vs)) → Q (.ref a) H2) := by
  obtain ⟨fI, fd, ps, pk, h1, h2, F, b, rel, lnk, bk⟩ := D.ex
  constructor
  intro pins s σ H Q I h
  apply wpAny_Call_Name_kw (ld_glob I hg D.m ?_ hdb)
  apply PySem.W.callWith_KW0 (h₀ := X.base) I.ok.mod.kin D.ox.kC hall ?_ hpl
  apply thn (hkw.run pos pins s σ H _ I h)
  rintro ws s2 ⟨zs, H2, I2, rz, ln, go⟩
  refine ⟨I2.kIn, ?_⟩
  rw [hks]
  have ll : ws.length = ks.length := rz.length.symm.trans ln
  exact ec_run (us := []) D.ox h1 h2 F room I2 (Nat.zero_le _) (pk ws) (rel rz) (lnk zs ln) (fun s self X0 => bk s self ws X0 ll) go
/-! ### a field of an error -/
theorem pe_exf {f : Str} {o : Expr} {to : TE} (he : PE X o to) (hb : attributeBase o f X.env (eval o X.env) = eval o X.env := by rfl) :
    PE X (.Attribute o f pos) (fun σ H Q => to σ H fun y H1 => ∃ (a D : Addr) (fl : List (Str × V)) (v : V), y = .ref a ∧ ExAt H1 a D fl ∧ XfC X.K D ∧ PySem.W.findIn X.K (.ref D) f = some none ∧ fl.lookup f = some v ∧ Q v H1) := by
  constructor
  intro pins s σ H Q I h
  refine attr_of hb (thn (he.run pins s σ H _ I h) fun u s1 hh => ?_)
  obtain ⟨y, H1, I1, ry, a, D, fl, v, rfl, ⟨dx, ea, ed⟩, T, no, l, q⟩ := hh
  obtain rfl : u = Value.ref a := ry
  obtain ⟨t1, ho⟩ := exo_at I1.hok ea
  obtain ⟨mA, hns, hr⟩ := exd_at I1.hok ed
  obtain ⟨od, hod, hl⟩ := lookIn_ns hns
  obtain ⟨u, hu, ru⟩ := RelO.some_of (v := v) (o := mA f) (by rw [← l]; exact hr f)
  have J : PySem.W.InstAt s1.heap a { cls := .ref D, dict := some dx, data := .fields #[.ref t1, .none, .none, .none, .bool false, .none] } D (some od) := ⟨ho, rfl, rfl, hod⟩
  exact HandSPX.exc_get I1.kIn J T.ga T.gg T.exC (PySem.W.findObj_own T.hdC no rfl (by rw [hl, hu])) (handed_of ru) ⟨v, H1, I1.tok _, ru, q⟩
end
end
end Cf
/-! repr of a list whose items are plain data or dicts of ints -/
namespace Cf
section
open PySem PySem.Spec PyProof.Rows L2
/-- data without a dict, or a dict of ints to ints -/
inductive Dz (K : PySem.W.Frag) (H : Hp) : V → PyData → Prop
  | flat {v : V} {d : PyData} : Dp K H v d → d.hasDict = false → Dz K H v d
  | nums {a : Addr} (is : List (Int × Int)) : H a = some (.dK (is.map fun z => (Sum.inl z.1, V.int z.2))) → Dz K H (.ref a) (.dict (is.map fun z => (.int z.1, .int z.2)))
theorem rdAll_ints {h : Heap} : ∀ (is : List Int) (us : List Value), Paired (fun (i : Int) (u : Value) => ∃ t, u = Value.int i t) is us → ReadsAll h us (is.map PyData.int) []
  | [], _, .nil => .nil
  | i :: is, _, .cons hd tl => by
    obtain ⟨t, rfl⟩ := hd
    exact ReadsAll.cons (as := []) (bs := []) (Reads.int i t) (rdAll_ints is _ tl)
theorem pairs_ints {P : Program} {w : World} : ∀ (is : List (Int × Int)) (vs : List (Key × Value)) (es : List DictEntry), KV (is.map fun z => (Sum.inl z.1, V.int z.2)) vs → Pairs (mixKind P w) es vs →
    Paired (fun (i : Int) (u : Value) => ∃ t, u = Value.int i t) (is.map (·.1)) (es.map (·.key)) ∧ Paired (fun (i : Int) (u : Value) => ∃ t, u = Value.int i t) (is.map (·.2)) (es.map (·.val))
  | [], _, _, .nil, .nil => ⟨.nil, .nil⟩
  | z :: is, _, _, .cons hd tl, .cons k1 k2 k3 => by
    obtain ⟨h1, h2⟩ := pairs_ints is _ _ tl k3
    obtain ⟨e1, e2⟩ := hd
    rcases keyIs_shape k1 with ⟨i, t, q, e⟩ | ⟨x, t, q, e⟩
    · rw [q] at e1
      have e3 : z.1 = i := Sum.inl.inj e1
      obtain ⟨t2, e4⟩ := e2
      subst e3
      exact ⟨.cons ⟨t, e⟩ h1, .cons ⟨t2, k2.trans e4⟩ h2⟩
    · rw [q] at e1
      exact nomatch e1
section
variable {X : Cx} {pins : List (Addr × Obj)} {σ : L2.St} {H : Hp} {s : Shared}
theorem Dz.reads (I : Inv X pins σ H s) {v : V} {u : Value} {d : PyData} (z : Dz X.K H v d) (r : RelV v u) : ∃ as, Reads s.heap u d as ∧ (d.hasDict = true → sysModules ∉ as) := by
  cases z with
  | flat h n =>
    obtain ⟨as, q⟩ := Dp.reads I d v u h r
    exact ⟨as, q, fun y => by rw [n] at y; cases y⟩
  | @nums a is h =>
    cases r
    obtain ⟨_, lo, vs, kv, o, es, ep, g1, g2, g3, g4, g5, g6⟩ := dk_of I.hok h
    obtain ⟨p1, p2⟩ := pairs_ints is vs es.toList kv g5
    refine ⟨_, Reads.dict (as := []) (bs := []) g1 g2.1 g3 ?_ ?_, ?_⟩
    · have := rdAll_ints (h := s.heap) _ _ p1
      rw [List.map_map] at this ⊢
      exact this
    · have := rdAll_ints (h := s.heap) _ _ p2
      rw [List.map_map] at this ⊢
      exact this
    · intro _ m
      have lo' := beq_eq_false_iff_ne.mp lo
      rcases List.mem_append.mp m with m | m
      · rcases List.mem_cons.mp m with m | m
        · exact lo' m.symm
        · cases m
      · cases m
theorem Dz.all (I : Inv X pins σ H s) : ∀ {vs : List V} {ds : List PyData} {us : List Value}, Paired (Dz X.K H) vs ds → Vals vs us → PyData.showableAll ds = true → (∀ t ∈ PyData.shownAll ds, t.length ≤ sizeLine) →
    (∃ as, ReadsAll s.heap us ds as) ∧ ∃ bs, ReadAtMost s.heap (PyData.depthAll ds) bs ∧ ReprAllK X.prog X.w bs s.heap (PyData.depthAll ds) us (PyData.shownAll ds)
  | _, _, _, .nil, .nil, _, _ => ⟨⟨[], .nil⟩, [], (fun _ h => nomatch h), by simp only [PyData.shownAll]; exact .nil⟩
  | _, _, _, .cons (a := v) (b := d) z zs, .cons r rs, sh, le => by
    rename_i vs' ds' b' us'
    have sh' : d.showable = true ∧ PyData.showableAll ds' = true := by simpa [PyData.showableAll] using sh
    obtain ⟨as, q1, q2⟩ := z.reads I r
    have le1 := le _ (by simp only [PyData.shownAll]; exact List.mem_cons_self ..)
    obtain ⟨⟨as2, w1⟩, b2, w2, w3⟩ := Dz.all I zs rs sh'.2 fun t ht => le t (by simp only [PyData.shownAll]; exact List.mem_cons_of_mem _ ht)
    obtain ⟨b1, y1, y2⟩ := ReprK.of_reads (prog := X.prog) (w := X.w) q1 sh'.1 q2 le1
    refine ⟨⟨_, .cons q1 w1⟩, b1 ++ b2, ?_, ?_⟩
    · exact (y1.mono (by simp only [PyData.depthAll]; omega)).append (w2.mono (by simp only [PyData.depthAll]; omega))
    · simp only [PyData.shownAll]
      exact .cons ((y2.more fun b m => List.mem_append_left _ m).level_le (by simp only [PyData.depthAll]; omega)) (w3.more_le (fun b m => List.mem_append_right _ m) (by simp only [PyData.depthAll]; omega))
end
/-- repr(list) of at least one such item -/
def rReprZ (K : PySem.W.Frag) : List V → Hp → VK → Prop := fun xs H Q => ∃ (a : Addr) (v : V) (vs : List V) (ds : List PyData), xs = [.ref a] ∧ SqL K H a (v :: vs) ∧ Paired (Dz K H) (v :: vs) ds ∧ PyData.showableAll ds = true ∧ PyData.depthAll ds ≤ 60 ∧
  (listText (PyData.shownAll ds)).length ≤ sizeLine ∧ Q (.str (listText (PyData.shownAll ds))) H
theorem call_reprZ {X : Cx} (gd : X.A.guards = some []) (hu : X.A.units + 64 < cLine) : CallR X (.builtin "repr") (rReprZ X.K) := by
  intro pins s σ H xs us Q I r h
  obtain ⟨a, v, vs, ds, rfl, hs, hz, sh, dd, sz, q⟩ := h
  obtain ⟨u, rfl, ru⟩ : ∃ u, us = [u] ∧ RelV (.ref a) u := by
    cases r with
    | cons r1 r2 => cases r2; exact ⟨_, rfl, r1⟩
  cases ru
  obtain ⟨its, rv, ⟨o, n, ho, hc, _, hd⟩, _⟩ := I.list hs
  obtain ⟨⟨as, ra⟩, bs, b1, b2⟩ := Dz.all I hz rv sh fun t ht => Nat.le_trans (listText_mem_le ht) sz
  have rd : Reads s.heap (.ref a) (.list ds) (a :: as) := .list ho hc hd (by simpa using ra)
  have na : a ∉ bs := not_mem_of_deeper rd (by simp only [PyData.depth]; omega) b1
  cases its with
  | nil => cases rv
  | cons i its =>
    have nl := b2.length_eq
    have nit := b2.item
    refine call_repr_slot (by omega) ⟨o, ho, hc⟩ F.slot_list_repr.toG ?_
    refine call_list_reprK (d := PyData.depthAll ds) ho hc hd na (by simpa using nl) (fun i y e => nit i y (by simpa using e)) gd (fun b _ => Clear.nil b) ?_ (fun _ _ e => e) ?_ sz
    · show X.A.units + 1 + (PyData.depthAll ds + 1) < cLine
      omega
    · intro h' u tk k
      exact ⟨_, _, rfl, .str _, H, I.kept k, ⟨_, rfl⟩, q⟩
/-! the heap without two places -/
def cut (p q : Addr) (H : Hp) : Hp := fun b => if b = p ∨ b = q then none else H b
theorem cut_same (p q : Addr) (H : Hp) : Same (cut p q H) H := fun b o e => by
  unfold cut at e
  split at e
  · cases e
  · exact e
theorem cut_of {p q b : Addr} {H : Hp} {o : HO} (e : H b = some o) (h1 : b ≠ p) (h2 : b ≠ q) : cut p q H b = some o := by
  unfold cut
  rw [if_neg (by rintro (z | z) <;> contradiction)]
  exact e
theorem But.cut {p q : Addr} {H H' : Hp} (b : But p q H H') : Same (cut p q H) (cut p q H') := fun c o e => by
  unfold Cf.cut at e
  split at e
  · cases e
  · rename_i n
    exact cut_of (b c o e (fun z => n (.inl z)) (fun z => n (.inr z))) (fun z => n (.inl z)) fun z => n (.inr z)
theorem Same.cut {p q : Addr} {H H' : Hp} (b : Same H H') : Same (cut p q H) (cut p q H') := But.cut (But.of b)
theorem sql_keep {K : PySem.W.Frag} {H H' : Hp} {a : Addr} {xs : List V} (e : Same H H') (h : SqL K H a xs) : SqL K H' a xs := by
  rcases h with (h | ⟨o, h⟩) | h
  · exact .inl (.inl (e _ _ h))
  · exact .inl (.inr ⟨o, e _ _ h⟩)
  · exact .inr h
mutual
theorem Dp.keep {K : PySem.W.Frag} {H H' : Hp} (s : Same H H') : ∀ (d : PyData) (v : V), Dp K H v d → Dp K H' v d
  | .none, _, h => by cases h; exact .non
  | .bool _, _, h => by cases h; exact .bl _
  | .int _, _, h => by cases h; exact .int _
  | .str _, _, h => by cases h; exact .str _
  | .list ds, _, h => by cases h with | lst a b => exact .lst (sql_keep s a) (Dp.keepAll s ds _ b)
  | .tuple ds, _, h => by cases h with | tup a b => exact .tup (s.sqt a) (Dp.keepAll s ds _ b)
  | .dict _, _, h => by cases h
theorem Dp.keepAll {K : PySem.W.Frag} {H H' : Hp} (s : Same H H') : ∀ (ds : List PyData) (vs : List V), DpAll K H vs ds → DpAll K H' vs ds
  | [], _, h => by cases h; exact .nil
  | d :: ds, _, h => by cases h with | cons a b => exact .cons (Dp.keep s d _ a) (Dp.keepAll s ds _ b)
end
theorem Dz.keep {K : PySem.W.Frag} {H H' : Hp} (s : Same H H') {v : V} {d : PyData} (h : Dz K H v d) : Dz K H' v d := by
  cases h with
  | flat h n => exact .flat (Dp.keep s d v h) n
  | nums is h => exact .nums is (s _ _ h)
end
end Cf
namespace Cf
open PySem L2
def top (i : Nat) : Stmt := PySem.Challenge.pw_clockfolds_k04_dates_refused.main.body.getD i (.Pass ⟨0, 0, 0, 0⟩)
abbrev sClockerror : Stmt := top 1
abbrev sBadnumber : Stmt := top 2
abbrev sBaddate : Stmt := top 3
abbrev sBaddays : Stmt := top 4
abbrev sBadyearly : Stmt := top 5
abbrev sBadrow : Stmt := top 6
abbrev sBadorder : Stmt := top 7
abbrev sBadzone : Stmt := top 8
abbrev sBadword : Stmt := top 9
abbrev sToofew : Stmt := top 10
abbrev sBadlog : Stmt := top 11
abbrev sBadlimit : Stmt := top 12
abbrev sBadtext : Stmt := top 13
abbrev sIsNumber : Stmt := top 18
abbrev sCheckNumber : Stmt := top 19
abbrev sIsLeap : Stmt := top 20
abbrev sLeapYearsBefore : Stmt := top 21
abbrev sYearStart : Stmt := top 22
abbrev sMonthLength : Stmt := top 23
abbrev sMonthStart : Stmt := top 24
abbrev sDayOf : Stmt := top 25
abbrev sYearOf : Stmt := top 26
abbrev sDateOf : Stmt := top 27
abbrev sWeekday : Stmt := top 28
abbrev sWeekOf : Stmt := top 29
abbrev sKindOf : Stmt := top 30
abbrev sLawBegun : Stmt := top 32
abbrev sLawMixed : Stmt := top 33
abbrev sLawTake : Stmt := top 34
abbrev sLawPick : Stmt := top 35
abbrev sLawIsLong : Stmt := top 36
abbrev sLawSize : Stmt := top 37
abbrev sLawSomeYear : Stmt := top 38
abbrev sLawRaised : Stmt := top 39
abbrev sLawOdd : Stmt := top 40
abbrev sLawSimpleRight : Stmt := top 41
abbrev sLawGap : Stmt := top 42
abbrev sLawDateRight : Stmt := top 43
abbrev sLaw : Stmt := top 44
/-! ### the law's draws: a dict with the lists wide and cells and the numbers rest and turn -/
/-- the state of the draws at p: its lists at a and b, at most n numbers mixed so far -/
def stK (a b : Addr) (rest turn : Int) : List (Key × V) := [(Sum.inr "wide", V.ref a), (Sum.inr "cells", V.ref b), (Sum.inr "rest", V.int rest), (Sum.inr "turn", V.int turn)]
theorem kwc : ¬ (Sum.inr ("wide" : Str) : Key) = Sum.inr ("cells" : Str) := by decide +kernel
theorem kwr : ¬ (Sum.inr ("wide" : Str) : Key) = Sum.inr ("rest" : Str) := by decide +kernel
theorem kcr : ¬ (Sum.inr ("cells" : Str) : Key) = Sum.inr ("rest" : Str) := by decide +kernel
theorem kwt : ¬ (Sum.inr ("wide" : Str) : Key) = Sum.inr ("turn" : Str) := by decide +kernel
theorem kct : ¬ (Sum.inr ("cells" : Str) : Key) = Sum.inr ("turn" : Str) := by decide +kernel
theorem krt : ¬ (Sum.inr ("rest" : Str) : Key) = Sum.inr ("turn" : Str) := by decide +kernel
theorem ktr : ¬ (Sum.inr ("turn" : Str) : Key) = Sum.inr ("rest" : Str) := by decide +kernel
theorem stK_wide {a b : Addr} {r t : Int} : valV (stK a b r t) (Sum.inr ("wide" : Str) : Key) = some (V.ref a) := by
  unfold stK
  exact valV_pos rfl
theorem stK_cells {a b : Addr} {r t : Int} : valV (stK a b r t) (Sum.inr ("cells" : Str) : Key) = some (V.ref b) := by
  unfold stK
  rw [valV_neg kwc]
  exact valV_pos rfl
theorem stK_rest {a b : Addr} {r t : Int} : valV (stK a b r t) (Sum.inr ("rest" : Str) : Key) = some (V.int r) := by
  unfold stK
  rw [valV_neg kwr, valV_neg kcr]
  exact valV_pos rfl
theorem stK_turn {a b : Addr} {r t : Int} : valV (stK a b r t) (Sum.inr ("turn" : Str) : Key) = some (V.int t) := by
  unfold stK
  rw [valV_neg kwt, valV_neg kct, valV_neg krt]
  exact valV_pos rfl
theorem nkk {x y : Str} (h : (x == y) = false) : ¬ (Sum.inr x : Key) = Sum.inr y := fun e => by
  have e2 := Sum.inr.inj e
  rw [e2] at h
  simp at h
theorem stK_put_rest (a b : Addr) (r t z : Int) : putK (stK a b r t) (Sum.inr ("rest" : Str) : Key) (V.int z) = stK a b z t := by
  unfold putK
  rw [valV_any, stK_rest]
  rw [if_pos (by rfl)]
  unfold stK
  simp only [List.map_cons, List.map_nil, if_neg kwr, if_neg kcr, if_neg ktr, if_true]
theorem stK_put_turn (a b : Addr) (r t z : Int) : putK (stK a b r t) (Sum.inr ("turn" : Str) : Key) (V.int z) = stK a b r z := by
  unfold putK
  rw [valV_any, stK_turn]
  rw [if_pos (by rfl)]
  unfold stK
  simp only [List.map_cons, List.map_nil, if_neg kwt, if_neg kct, if_neg krt, if_true]
theorem stK_merge (a b : Addr) (r t : Int) : mergeK [] (stK a b r t) = stK a b r t := by
  unfold mergeK stK
  simp only [List.foldl_cons, List.foldl_nil]
  rw [putK_new (kvs := []) _ valV_nil, List.nil_append, putK_new, putK_new, putK_new]
  · rfl
  · rw [valV_neg kwc, valV_nil]
  · rw [valV_put, if_neg (fun e => kcr e.symm), valV_neg kwr, valV_nil]
  · rw [valV_put, if_neg (fun e => krt e.symm), valV_put, if_neg (fun e => kct e.symm), valV_neg kwt, valV_nil]
section
variable {H : Hp} {p a b : Addr} {r t z : Int}
theorem get_wide (h : H p = some (.dK (stK a b r t))) : DGet H p (.str "wide") (some (.ref a)) := by
  have q := DGet.k (k := Sum.inr ("wide" : Str)) h
  rw [stK_wide] at q
  exact q
theorem get_cells (h : H p = some (.dK (stK a b r t))) : DGet H p (.str "cells") (some (.ref b)) := by
  have q := DGet.k (k := Sum.inr ("cells" : Str)) h
  rw [stK_cells] at q
  exact q
theorem get_rest (h : H p = some (.dK (stK a b r t))) : DGet H p (.str "rest") (some (.int r)) := by
  have q := DGet.k (k := Sum.inr ("rest" : Str)) h
  rw [stK_rest] at q
  exact q
theorem get_turn (h : H p = some (.dK (stK a b r t))) : DGet H p (.str "turn") (some (.int t)) := by
  have q := DGet.k (k := Sum.inr ("turn" : Str)) h
  rw [stK_turn] at q
  exact q
theorem put_rest (z : Int) (h : H p = some (.dK (stK a b r t))) : DPut H p (.str "rest") (.int z) (upd H p (.dK (stK a b z t))) := by
  have q := DPut.k (k := Sum.inr ("rest" : Str)) (v := V.int z) h (by show 4 < sizeLine; decide)
  rw [stK_put_rest] at q
  exact q
theorem put_turn (z : Int) (h : H p = some (.dK (stK a b r t))) : DPut H p (.str "turn") (.int z) (upd H p (.dK (stK a b r z))) := by
  have q := DPut.k (k := Sum.inr ("turn" : Str)) (v := V.int z) h (by show 4 < sizeLine; decide)
  rw [stK_put_turn] at q
  exact q
end
structure Stt (p a b : Addr) (n : Nat) (H : Hp) : Prop where
  ex : ∃ (ws cs : List Int) (rest turn : Int), H p = some (.dK (stK a b rest turn)) ∧ H a = some (.lst (ws.map V.int)) ∧ H b = some (.lst (cs.map V.int)) ∧ 0 ≤ turn ∧ turn ≤ (n : Int) ∧ cs.length ≤ 63 ∧ ws.length ≤ 63
  ab : a ≠ b
theorem Stt.pa {p a b : Addr} {n : Nat} {H : Hp} (S : Stt p a b n H) : p ≠ a := by
  obtain ⟨ws, cs, rest, turn, h1, h2, _⟩ := S.ex
  exact ne_of h1 h2 (by intro z; cases z)
theorem Stt.pb {p a b : Addr} {n : Nat} {H : Hp} (S : Stt p a b n H) : p ≠ b := by
  obtain ⟨ws, cs, rest, turn, h1, _, h2, _⟩ := S.ex
  exact ne_of h1 h2 (by intro z; cases z)
theorem Stt.mono {p a b : Addr} {n m : Nat} {H : Hp} (S : Stt p a b n H) (h : n ≤ m) : Stt p a b m H := by
  obtain ⟨⟨ws, cs, rest, turn, h1, h2, h3, h4, h5, h6, h7⟩, h8⟩ := S
  exact ⟨⟨ws, cs, rest, turn, h1, h2, h3, h4, by omega, h6, h7⟩, h8⟩
theorem Stt.same {p a b : Addr} {n : Nat} {H H' : Hp} (S : Stt p a b n H) (h : Same H H') : Stt p a b n H' := by
  obtain ⟨⟨ws, cs, rest, turn, h1, h2, h3, h4⟩, h8⟩ := S
  exact ⟨⟨ws, cs, rest, turn, h _ _ h1, h _ _ h2, h _ _ h3, h4⟩, h8⟩
theorem Stt.there {p a b : Addr} {n : Nat} {H : Hp} (S : Stt p a b n H) : ∃ u v w, H p = some (.dK u) ∧ H a = some (.lst v) ∧ H b = some (.lst w) := by
  obtain ⟨⟨ws, cs, rest, turn, h1, h2, h3, _⟩, _⟩ := S
  exact ⟨_, _, _, h1, h2, h3⟩
theorem eqv_ints_nil (ws : List Int) : PyData.eqv (.list (ws.map PyData.int)) (.list []) = ws.isEmpty := by
  cases ws with
  | nil => rfl
  | cons w ws => simp [PyData.eqv, PyData.eqvAll]
theorem dpInts {K : PySem.W.Frag} {H : Hp} : ∀ ws : List Int, DpAll K H (ws.map V.int) (ws.map PyData.int)
  | [] => .nil
  | w :: ws => .cons (.int w) (dpInts ws)
theorem canLay_ints : ∀ ws : List Int, PyData.canLayAll0 (ws.map PyData.int) = true
  | [] => rfl
  | w :: ws => by simp [PyData.canLayAll0, PyData.canLay0, canLay_ints ws]
theorem depth_ints : ∀ ws : List Int, PyData.depthAll (ws.map PyData.int) ≤ 1
  | [] => by simp [PyData.depthAll]
  | w :: ws => by have := depth_ints ws; simp only [List.map_cons, PyData.depthAll, PyData.depth]; omega
theorem shaped_ints (ws : List Int) : SeqAt.shaped (.list (ws.map PyData.int)) = true := by
  unfold SeqAt.shaped
  rw [Bool.and_eq_true]
  refine ⟨?_, decide_eq_true ?_⟩
  · simp only [PyData.canLay0]; exact canLay_ints ws
  · have := depth_ints ws
    simp only [PyData.depth]; omega
theorem seq0 {y : Int} (xs : List V) : seqIndex? 0 (V.int y :: xs).length = some 0 := by
  unfold seqIndex?
  simp
/-! ### what the text's built-in names mean -/
structure Nm (mg : Str → Option Value) : Prop where
  abs : mg "abs" = none
  int : mg "int" = none
  bool : mg "bool" = none
  isinstance : mg "isinstance" = none
  sum : mg "sum" = none
  divmod : mg "divmod" = none
  min : mg "min" = none
  len : mg "len" = none
  range : mg "range" = none
  repr : mg "repr" = none
section
variable {P : Program} {w : World} {K : PySem.W.Frag} {mg : Str → Option Value} {base : Heap}
/-! ### _law_begun -/
def spBegun (K : PySem.W.Frag) : Sp := fun vs H Q _ => ∃ (l : Addr) (ns : List Int), vs = [.ref l] ∧ SqL K H l (ns.map V.int) ∧ ns.length ≤ 63 ∧
  ∀ (H' : Hp) (p a b : Addr), H p = none → H a = none → H b = none → Same H H' → Stt p a b 0 H' → Q (.ref p) H'
theorem scLawBegun : FnScope ["script", "wide", "cell"] ["script"] (defScope sLawBegun) := ⟨rfl, rfl, rfl, by decide +kernel, rfl, by decide +kernel, by decide +kernel⟩
theorem absI (z : Int) : (if z < 0 then -z else z) = (z.natAbs : Int) := by
  by_cases h : z < 0
  · rw [if_pos h]; omega
  · rw [if_neg h]; omega
theorem ok_begun {f : Addr} {fd : FuncData} (F : Fun K "_law_begun" "_law_begun" sLawBegun f fd) (T : Nm mg) : FnOk P w K mg base CX0 1 f fd ["script"] (spBegun K) := by
  refine F.ok scLawBegun (fun vs H Q E h => ?_) (fun cdv A outer s H vs Q E hr h => ?_)
  · obtain ⟨l, ns, rfl, _⟩ := h
    rfl
  · obtain ⟨l, ns, rfl, hS, hlen, k⟩ := h
    have nd := scLawBegun.nd
    refine ⟨_, pss_cons (ps_setLc (i := 1) (own := [("cell", 2)]) (g := gName 2) rfl nd rfl rfl (sw_true rfl rfl rfl (by decide +kernel)) (pi_list (pv 0))
        (blkOk_by (N := ["script", "wide", "cell"]) (sc := defScope sLawBegun) (by decide +kernel)) (fun _ _ _ _ _ => pg_name (i := 2) nd rfl (Or.inl rfl))
        (fun _ _ _ _ _ => pts_one (pt_cmpR op_ge (pe_callB call_abs (by rfl) T.abs (by decide +kernel) (pa_cons (pv 2) pa_nil)) (pe_op op_pow pe_int pe_int) (nomark _)))
        (fun _ _ _ _ _ => pe_op op_sub (pe_callB call_abs (by rfl) T.abs (by decide +kernel) (pa_cons (pv 2) pa_nil)) (pe_op op_pow pe_int pe_int)))
      (pss_one (ps_ret (pe_disp (pps_cons pe_str (pv 1) (pps_cons pe_str
        (pe_lc (own := [("cell", 2)]) (g := gName 2) (tt := tYes) rfl nd (pi_list (pv 0)) (blkOk_by (N := ["script", "wide", "cell"]) (sc := defScope sLawBegun) (by decide +kernel)) (fun _ _ _ _ _ => pg_name (i := 2) nd rfl (Or.inl rfl)) (fun _ _ _ _ _ => pts_nil)
          (fun _ _ _ _ _ => pe_op op_mod (pe_callTy call_int1 (by rfl) T.int (by decide +kernel) (pa_cons (pe_callB call_abs (by rfl) T.abs (by decide +kernel) (pa_cons (pv 2) pa_nil)) pa_nil)) pe_int))
        (pps_cons pe_str pe_int (pps_cons pe_str pe_int pps_nil)))) (by rfl) (by rfl) (fun z => by cases z) (by decide)))), ?_⟩
    have cp : CPow 10 18 := ⟨by decide, by decide, by decide⟩
    -- the first list
    refine ⟨_, rfl, l, rfl, ⟨_, hS⟩, fun D hD => lc_list (K := K) (a := l) (xs := ns.map V.int) (fun i H' => Same H H' ∧ ∃ acc : List Int, acc.length ≤ i ∧ H' D = some (.lst (acc.map V.int)))
      ⟨Same.new hD, [], Nat.le_refl _, upd_same⟩ (fun i H' _ ⟨s1, _⟩ => s1.seq hS) ?_ ?_⟩
    · rintro i y H' hi ⟨s1, acc, hacc, hDl⟩
      have hil := lt_of_get hi
      rw [List.length_map] at hil
      obtain ⟨z, hz, rfl⟩ := ints_get hi
      refine ⟨rfl, ?_⟩
      refine ⟨_, rfl, _, rfl, _, _, rfl, rfl, cp, _, _, rfl, rfl, _, rfl, ?_⟩
      refine ite2 (fun _ => ?_) (fun _ => ?_)
      · refine ⟨_, rfl, _, rfl, _, _, rfl, rfl, cp, _, _, rfl, rfl, acc.map V.int, hDl, ?_, ?_⟩
        · rw [List.length_map]
          exact small1000 (by omega)
        · refine ⟨s1.wr hD, acc ++ [(if z < 0 then -z else z) - 10 ^ 18], ?_, ?_⟩
          · rw [List.length_append, List.length_singleton]; omega
          · rw [upd_same, List.map_append]; rfl
      · exact ⟨s1, acc, by omega, hDl⟩
    · rintro H1 ⟨s1, acc, hacc, hDl⟩
      rw [List.length_map] at hacc
      -- the dict, empty; its pairs
      intro p hp
      have npD : D ≠ p := ne_of_none hDl hp
      have s2 : Same H (upd H1 p (.dK [])) := s1.step hp
      refine ⟨_, rfl, _, rfl, l, rfl, ⟨_, s2.seq hS⟩, fun B hB => lc_list (K := K) (a := l) (xs := ns.map V.int) (fun i H' => Same (upd H1 p (.dK [])) H' ∧ ∃ cs : List Int, cs.length ≤ i ∧ H' B = some (.lst (cs.map V.int)))
        ⟨Same.new hB, [], Nat.le_refl _, upd_same⟩ (fun i H' _ ⟨s3, _⟩ => (s2.trans s3).seq hS) ?_ ?_⟩
      · rintro i y H' hi ⟨s3, cs, hcs, hBl⟩
        have hil := lt_of_get hi
        rw [List.length_map] at hil
        obtain ⟨z, hz, rfl⟩ := ints_get hi
        refine ⟨rfl, ?_⟩
        dsimp only [tYes]
        rw [if_pos rfl]
        refine ⟨_, rfl, _, rfl, .inl ⟨_, rfl, _, _, rfl, rfl, (by show (0 : Int) < 2147483629; decide), cs.map V.int, hBl, ?_, ?_⟩⟩
        · rw [List.length_map]
          exact small1000 (by omega)
        · refine ⟨s3.wr hB, cs ++ [(if z < 0 then -z else z) % 2147483629], ?_, ?_⟩
          · rw [List.length_append, List.length_singleton]; omega
          · rw [upd_same, List.map_append]; rfl
      · rintro H2 ⟨s3, cs, hcs, hBl⟩
        rw [List.length_map] at hcs
        have hp2 : H2 p = some (.dK []) := s3 _ _ upd_same
        refine ⟨hp2, stK D B 0 0, rfl, (by show 4 ≤ 15; decide), ?_⟩
        have nBp : B ≠ p := ne_of hBl hp2 (by intro z; cases z)
        have hDl2 : H2 D = some (.lst (acc.map V.int)) := s3 _ _ (by rw [upd_ne npD]; exact hDl)
        have nDB : D ≠ B := ne_of_none (show (upd H1 p (.dK [])) D = some _ by rw [upd_ne npD]; exact hDl) hB
        refine k _ p D B (s1.free hp) hD (s1.free (by rw [upd_ne nBp] at hB; exact hB)) ?_ ⟨⟨acc, cs, 0, 0, ?_, ?_, ?_, by decide, by decide, by omega, by omega⟩, nDB⟩
        · exact (s2.trans s3).wr (s1.free hp)
        · rw [upd_same, stK_merge]
        · rw [upd_ne npD]; exact hDl2
        · rw [upd_ne nBp]; exact hBl
/-! ### _law_mixed -/
def spMixed : Sp := fun vs H Q _ => ∃ (p a b : Addr) (n : Nat), vs = [.ref p] ∧ Stt p a b n H ∧ n ≤ 1000000 ∧
  ∀ (z : Int) (H' : Hp), Stt p a b (n + 1) H' → But p a H H' → Q (.int z) H'
theorem scLawMixed : FnScope ["state", "turn", "found", "prime", "blend", "cell"] ["state"] (defScope sLawMixed) := ⟨rfl, rfl, rfl, by decide +kernel, rfl, by decide +kernel, by decide +kernel⟩
theorem ok_mixed {f : Addr} {fd : FuncData} (F : Fun K "_law_mixed" "_law_mixed" sLawMixed f fd) (T : Nm mg) : FnOk P w K mg base CX0 1 f fd ["state"] spMixed := by
  refine F.ok scLawMixed (fun vs H Q E h => ?_) (fun cdv A outer s H vs Q E hr h => ?_)
  · obtain ⟨p, a, b, n, rfl, _⟩ := h
    rfl
  · obtain ⟨p, a, b, n, rfl, S, hn, k⟩ := h
    have nd := scLawMixed.nd
    have hu := hu_of hr
    have npa := S.pa
    have npb := S.pb
    obtain ⟨⟨ws, cs, rest, turn, h1, h2, h3, t0, t1, hcs, hws⟩, nab⟩ := S
    refine ⟨_, pss_cons (ps_par (i := 1) (j := 2) (by rfl) nd rfl rfl (by decide) rfl rfl (pa_cons (pe_op op_add (pe_dget hu (pv 0) pe_str (fun _ _ => rfl)) pe_int) (pa_cons pe_int pa_nil)) (by rfl))
      (pss_cons (ps_dput hu (pv 0) pe_str (pv 1) rfl)
      (pss_cons (ps_for PassesOwn.never rfl (pi_list (pe_lst (pa_cons pe_int (pa_cons pe_int (pa_cons pe_int (pa_cons pe_int pa_nil)))))) (pg_name (i := 3) nd rfl (Or.inl rfl))
        (pss_cons (ps_set (i := 4) nd rfl (Or.inl rfl) (pe_op op_add (pe_op op_mul pe_int (pv 1)) (pe_op op_fdiv (pv 3) pe_int)))
        (pss_cons (ps_for PassesOwn.never rfl (pi_list (pe_dget hu (pv 0) pe_str (fun _ _ => rfl))) (pg_name (i := 5) nd rfl (Or.inl rfl))
          (pss_one (ps_set (i := 4) nd rfl (Or.inl rfl) (pe_op op_mod (pe_callTy call_int1 (by rfl) T.int (by decide +kernel) (pa_cons (pe_op op_add (pe_op op_add (pe_op op_mul (pv 4) pe_int) (pv 5)) (pv 1)) pa_nil)) (pv 3)))))
        (pss_one (ps_set (i := 2) nd rfl (Or.inl rfl) (pe_op op_add (pe_op op_mul (pv 2) pe_int) (pe_op op_mod (pe_callTy call_int1 (by rfl) T.int (by decide +kernel) (pa_cons (pe_op op_pow (pv 4) pe_int) pa_nil)) (pv 3))))))))
      (pss_one (ps_ret (pv 2))))), ?_⟩
    -- turn, found = state['turn'] + 1, 0; state['turn'] = turn
    refine ⟨_, rfl, p, V.int turn, rfl, get_turn h1, _, _, rfl, rfl, _, _, rfl, ?_⟩
    refine ⟨_, rfl, _, rfl, p, _, rfl, put_turn (turn + 1) h1, ?_⟩
    -- the primes
    refine ⟨by show 4 ≤ sizeLine; decide, fun D hD => ?_⟩
    have npD : p ≠ D := ne_of_none (upd_same) hD
    have naD : a ≠ D := ne_of_none (show upd H p _ a = some _ by rw [upd_ne npa.symm]; exact h2) hD
    have nbD : b ≠ D := ne_of_none (show upd H p _ b = some _ by rw [upd_ne npb.symm]; exact h3) hD
    have hp' : upd (upd H p (.dK (stK a b rest (turn + 1)))) D (.lst [V.int 2147483629, V.int 2147483587, V.int 2147483579, V.int 2147483563]) p = some (.dK (stK a b rest (turn + 1))) := by rw [upd_ne npD, upd_same]
    have ha' : upd (upd H p (.dK (stK a b rest (turn + 1)))) D (.lst [V.int 2147483629, V.int 2147483587, V.int 2147483579, V.int 2147483563]) a = some (.lst (ws.map V.int)) := by rw [upd_ne naD, upd_ne npa.symm]; exact h2
    have hb' : upd (upd H p (.dK (stK a b rest (turn + 1)))) D (.lst [V.int 2147483629, V.int 2147483587, V.int 2147483579, V.int 2147483563]) b = some (.lst (cs.map V.int)) := by rw [upd_ne nbD, upd_ne npb.symm]; exact h3
    have hB : But p a H (upd (upd H p (.dK (stK a b rest (turn + 1)))) D (.lst [V.int 2147483629, V.int 2147483587, V.int 2147483579, V.int 2147483563])) := fun c o e c1 c2 => by
      have e2 : upd H p (.dK (stK a b rest (turn + 1))) c = some o := by rw [upd_ne c1]; exact e
      rw [upd_ne (ne_of_none e2 hD)]
      exact e2
    generalize hH2 : upd (upd H p (.dK (stK a b rest (turn + 1)))) D (.lst [V.int 2147483629, V.int 2147483587, V.int 2147483579, V.int 2147483563]) = H2 at hp' ha' hb' hB
    have hDl : H2 D = some (.lst ([2147483629, 2147483587, 2147483579, 2147483563].map V.int)) := by rw [← hH2]; exact upd_same
    have tb : turn + 1 ≤ 1000001 := by omega
    refine ⟨D, rfl, ⟨_, SqL.of hDl⟩, for_list (K := K) (a := D) (xs := [2147483629, 2147483587, 2147483579, 2147483563].map V.int)
      (fun i σ H' => H' = H2 ∧ ∃ (fo : Int) (v4 v5 v6 : Option V), σ = [some (.ref p), some (.int (turn + 1)), some (.int fo), v4, v5, v6]) ⟨rfl, 0, none, none, none, rfl⟩ (fun i σ H' _ ⟨e, _⟩ => by subst e; exact SqL.of hDl) ?_ ?_⟩
    · rintro i y σ H' hi ⟨rfl, fo, v4, v5, v6, rfl⟩
      obtain ⟨pr, hpr, rfl⟩ := ints_get hi
      have hp1 : 1000 < pr ∧ pr < 2147483648 := by
        have hm := List.mem_of_getElem? hpr
        simp only [List.mem_cons, List.not_mem_nil, or_false] at hm
        omega
      refine ⟨_, rfl, _, _, rfl, rfl, .inl ⟨by decide, by decide⟩, _, rfl, _, _, rfl, rfl, ⟨by decide, by decide⟩, _, _, rfl, rfl, ?_⟩
      refine ⟨_, rfl, p, V.ref b, rfl, get_cells hp', b, rfl, ⟨_, SqL.of hb'⟩, for_list (K := K) (a := b) (xs := cs.map V.int)
        (fun j σ H'' => H'' = H' ∧ ∃ (bl : Int) (v6 : Option V), 0 ≤ bl ∧ bl < 2 ^ 63 ∧ σ = [some (.ref p), some (.int (turn + 1)), some (.int fo), some (.int pr), some (.int bl), v6]) ⟨rfl, 61441 * (turn + 1) + pr / 19, v6, ?_, ?_, rfl⟩ (fun i σ H' _ ⟨e, _⟩ => by subst e; exact SqL.of hb') ?_ ?_⟩
      · omega
      · omega
      · rintro j y σ H' hj ⟨rfl, bl, v6, b0, b1, rfl⟩
        obtain ⟨c, hc, rfl⟩ := ints_get hj
        refine ⟨_, rfl, _, _, rfl, rfl, .inr ⟨by decide, by decide⟩, _, rfl, _, _, rfl, rfl, _, rfl, _, _, rfl, rfl, .inl ⟨_, rfl, _, rfl, _, _, rfl, rfl, (by show 0 < pr; omega), ?_⟩⟩
        have m1 := Int.emod_nonneg (bl * 48271 + c + (turn + 1)) (show pr ≠ 0 by omega)
        have m2 := Int.emod_lt_of_pos (bl * 48271 + c + (turn + 1)) (show 0 < pr by omega)
        exact ⟨rfl, (bl * 48271 + c + (turn + 1)) % pr, _, m1, by omega, rfl⟩
      · rintro σ H' ⟨rfl, bl, v6, b0, b1, rfl⟩
        refine ⟨_, rfl, _, _, rfl, rfl, .inr ⟨by decide, by decide⟩, _, rfl, _, _, rfl, rfl, ⟨by decide, by decide, by omega⟩, .inl ⟨_, rfl, _, rfl, _, _, rfl, rfl, (by show 0 < pr; omega), _, _, rfl, rfl, ?_⟩⟩
        exact ⟨rfl, _, _, _, _, rfl⟩
    · rintro σ H' ⟨rfl, fo, v4, v5, v6, rfl⟩
      refine ⟨_, rfl, ?_⟩
      refine k fo H' ⟨⟨ws, cs, rest, turn + 1, hp', ha', hb', by omega, by omega, hcs, hws⟩, nab⟩ hB
/-! ### _law_take -/
def spTake : Sp := fun vs H Q _ => ∃ (p a b : Addr) (n : Nat) (size : Int), vs = [.ref p, .int size] ∧ Stt p a b n H ∧ n ≤ 1000000 ∧ 0 < size ∧ size ≤ 1000000000 ∧
  ∀ (z : Int) (H' : Hp), 0 ≤ z → z < size → Stt p a b (n + 1) H' → But p a H H' → Q (.int z) H'
theorem scLawTake : FnScope ["state", "size", "found"] ["state", "size"] (defScope sLawTake) := ⟨rfl, rfl, rfl, by decide +kernel, rfl, by decide +kernel, by decide +kernel⟩
theorem ok_take {f : Addr} {fd : FuncData} (F : Fun K "_law_take" "_law_take" sLawTake f fd) (T : Nm mg) (DM : Df P w K mg base 1 "_law_mixed" ["state"] [] spMixed) : FnOk P w K mg base CX0 2 f fd ["state", "size"] spTake := by
  refine F.ok scLawTake (fun vs H Q E h => ?_) (fun cdv A outer s H vs Q E hr h => ?_)
  · obtain ⟨p, a, b, n, size, rfl, _⟩ := h
    rfl
  · obtain ⟨p, a, b, n, size, rfl, S, hn, z0, z1, k⟩ := h
    have nd := scLawTake.nd
    have hu := hu_of hr
    refine ⟨_, pss_cons (ps_if (pt_cmpR op_eq (pe_dget hu (pv 0) pe_str (fun _ _ => rfl)) pe_int (nomark _))
        (pss_one (ps_dput hu (pv 0) pe_str (pe_ifExp (pt_cmpR (op_neD hr.units) (pe_dget hu (pv 0) pe_str (fun _ _ => rfl)) (pe_lst pa_nil) (nomark _))
            (pe_bm PySem.F.plainAttrs_list PySem.F.slot_list_pop PySem.F.type_list_pop mt_popAt (pe_dget hu (pv 0) pe_str (fun _ _ => rfl)) (pa_cons pe_int pa_nil))
            (pe_df DM hr (pa_cons (pv 0) pa_nil))) rfl)) pss_nil)
      (pss_cons (ps_set (i := 2) nd rfl (Or.inl rfl) (pe_op op_mod (pe_callTy call_int1 (by rfl) T.int (by decide +kernel) (pa_cons (pe_dget hu (pv 0) pe_str (fun _ _ => rfl)) pa_nil)) (pv 1)))
      (pss_cons (ps_dput hu (pv 0) pe_str (pe_op op_fdiv (pe_dget hu (pv 0) pe_str (fun _ _ => rfl)) (pv 1)) rfl)
      (pss_one (ps_ret (pv 2))))), ?_⟩
    have npa := S.pa
    have npb := S.pb
    have nab := S.ab
    obtain ⟨⟨ws, cs, rest, turn, h1, h2, h3, t0, t1, hcs, hws⟩, _⟩ := id S
    have fin : ∀ (H1 : Hp) (r1 : Int), (∃ (ws' cs' : List Int) (t' : Int), H1 p = some (.dK (stK a b r1 t')) ∧ H1 a = some (.lst (ws'.map V.int)) ∧ H1 b = some (.lst (cs'.map V.int)) ∧ 0 ≤ t' ∧ t' ≤ ((n + 1 : Nat) : Int) ∧ cs'.length ≤ 63 ∧ ws'.length ≤ 63) → But p a H H1 →
        tAsg (tOp (rI (fun _ j => 0 < j) fun i j => .int (i % j)) (tCB (fun xs H Q => (∃ i, xs = [.int i] ∧ Q (.int i) H) ∨ ∃ k, xs = [.bl k] ∧ Q (.int (if k = true then 1 else 0)) H) (tCons (tDGet (tVar 0) (tC (.str "rest"))) tNil)) (tVar 1)) (gName 2)
          { nx := fun σ1 H1 => sDPut (tVar 0) (tC (.str "rest")) (tOp (rI CDiv fun i j => .int (i / j)) (tDGet (tVar 0) (tC (.str "rest"))) (tVar 1)) { nx := fun σ2 H2 => tRet (tVar 2) { nx := fun _ H' => Q .non H', rt := Q } σ2 H2, rt := Q } σ1 H1, rt := Q } [some (.ref p), some (.int size), none] H1 := by
      intro H1 r1 hh bb
      obtain ⟨ws', cs', t', g1, g2, g3, g4⟩ := hh
      refine ⟨_, rfl, p, V.int r1, rfl, get_rest g1, .inl ⟨_, rfl, _, rfl, _, _, rfl, rfl, z0, ?_⟩⟩
      refine ⟨_, rfl, p, V.int r1, rfl, get_rest g1, _, rfl, _, _, rfl, rfl, ⟨z0, by omega⟩, _, rfl, p, _, rfl, put_rest _ g1, _, rfl, ?_⟩
      refine k _ _ (Int.emod_nonneg _ (by omega)) (Int.emod_lt_of_pos _ z0) ⟨⟨ws', cs', _, t', upd_same, ?_, ?_, g4⟩, nab⟩ ?_
      · rw [upd_ne npa.symm]; exact g2
      · rw [upd_ne npb.symm]; exact g3
      · exact fun c o e c1 c2 => by rw [upd_ne c1]; exact bb c o e c1 c2
    refine ⟨_, rfl, p, V.int rest, rfl, get_rest h1, rfl, _, rfl, ?_⟩
    refine ite2 (fun _ => ?_) (fun _ => ?_)
    · -- rest is 0
      refine ⟨_, rfl, p, V.ref a, rfl, get_wide h1, Nat.zero_le _, fun D hD => ?_⟩
      have n1 : p ≠ D := ne_of_none h1 hD
      have n2 : a ≠ D := ne_of_none h2 hD
      have n3 : b ≠ D := ne_of_none h3 hD
      have d1 : upd H D (.lst []) p = some (.dK (stK a b rest turn)) := by rw [upd_ne n1]; exact h1
      have d2 : upd H D (.lst []) a = some (.lst (ws.map V.int)) := by rw [upd_ne n2]; exact h2
      have d3 : upd H D (.lst []) b = some (.lst (cs.map V.int)) := by rw [upd_ne n3]; exact h3
      have d4 : But p a H (upd H D (.lst [])) := But.of (Same.new hD)
      refine ⟨.list (ws.map PyData.int), .list [], .lst (SqL.of d2) (dpInts ws), .lst (SqL.of upd_same) .nil, shaped_ints ws, by decide, _, rfl, ?_⟩
      rw [eqv_ints_nil]
      cases ws with
      | nil =>
        refine iteFF rfl ?_
        refine ⟨_, rfl, p, a, b, n, rfl, ⟨⟨[], cs, rest, turn, d1, d2, d3, t0, t1, hcs, hws⟩, nab⟩, hn, fun y H2 S2 B2 => ?_⟩
        obtain ⟨⟨ws2, cs2, r2, t2, e1, e2, e3, e4⟩, _⟩ := S2
        refine ⟨_, rfl, p, _, rfl, put_rest _ e1, ?_⟩
        refine fin _ y ⟨ws2, cs2, t2, upd_same, ?_, ?_, e4⟩ ?_
        · rw [upd_ne npa.symm]; exact e2
        · rw [upd_ne npb.symm]; exact e3
        · exact fun c o e c1 c2 => by rw [upd_ne c1]; exact B2 c o (d4 c o e c1 c2) c1 c2
      | cons y ws =>
        refine iteTT rfl ?_
        refine ⟨_, rfl, p, V.ref a, rfl, get_wide d1, .inl ⟨rfl, _, SqL.of d2⟩, a, _, 0, 0, V.int y, rfl, rfl, d2, by decide, by decide, seq0 _, rfl, ?_⟩
        have e1 : upd (upd H D (.lst [])) a (.lst (((y :: ws).map V.int).eraseIdx 0)) p = some (.dK (stK a b rest turn)) := by rw [upd_ne npa]; exact d1
        refine ⟨_, rfl, p, _, rfl, put_rest y e1, ?_⟩
        refine fin _ y ⟨ws, cs, turn, upd_same, ?_, ?_, t0, by omega, hcs, ?_⟩ ?_
        · rw [upd_ne npa.symm, upd_same]; rfl
        · rw [upd_ne npb.symm, upd_ne nab.symm]; exact d3
        · rw [List.length_cons] at hws; omega
        · exact fun c o e c1 c2 => by rw [upd_ne c1, upd_ne c2]; exact d4 c o e c1 c2
    · exact fin H rest ⟨ws, cs, turn, h1, h2, h3, t0, by omega, hcs, hws⟩ But.refl
end
end Cf
namespace Cf
open PySem L2
def inner (s : Stmt) : Stmt := match s with
  | .ClassDef _ _ _ b _ _ _ _ _ _ _ => b.getD 0 (.Pass ⟨0, 0, 0, 0⟩)
  | _ => .Pass ⟨0, 0, 0, 0⟩
section
variable {P : Program} {w : World} {K : PySem.W.Frag} {mg : Str → Option Value} {base : Heap} {C f : Addr} {fd : FuncData}

def mk0 : List V → List (Str × V) := fun us => [("value", us.getD 0 .non)]
theorem sc0 : FnScope ["self", "value"] ["self", "value"] (defScope (inner sBadnumber)) := ⟨rfl, rfl, rfl, by decide +kernel, rfl, by decide +kernel, by decide +kernel⟩
theorem ok0 (F : Fun K "__init__" "BadNumber.__init__" (inner sBadnumber) f fd) (O : OexC K C) (h0 : PySem.W.findIn K (.ref C) "value" = some none) : FnOk P w K mg base CX0 1 f fd ["self", "value"] (spE C 1 mk0) := by
  refine F.ok sc0 (fun vs H Q E h => ?_) (fun cdv A outer s H vs Q E hr h => ?_)
  · obtain ⟨a, us, rfl, l, _⟩ := h
    match us, l with
    | [_], _ => rfl
  · obtain ⟨a, us, rfl, l, ha, go⟩ := h
    match us, l, go with
    | [v], _, go =>
      refine ⟨_, pss_one (ps_ost (pv 0) (pv 1)), ?_⟩
      refine ⟨_, rfl, _, rfl, a, C, rfl, O, h0, .inl ⟨ha, fun dx hx ne => ?_⟩⟩
      exact go _ (fun b o e nb => by rw [upd_ne nb, upd_ne (ne_of_none e hx)]; exact e) ⟨dx, upd_same, by rw [upd_ne ne]; exact upd_same⟩
def mk1 : List V → List (Str × V) := fun us => [("value", us.getD 0 .non)]
theorem sc1 : FnScope ["self", "value"] ["self", "value"] (defScope (inner sBaddate)) := ⟨rfl, rfl, rfl, by decide +kernel, rfl, by decide +kernel, by decide +kernel⟩
theorem ok1 (F : Fun K "__init__" "BadDate.__init__" (inner sBaddate) f fd) (O : OexC K C) (h0 : PySem.W.findIn K (.ref C) "value" = some none) : FnOk P w K mg base CX0 1 f fd ["self", "value"] (spE C 1 mk1) := by
  refine F.ok sc1 (fun vs H Q E h => ?_) (fun cdv A outer s H vs Q E hr h => ?_)
  · obtain ⟨a, us, rfl, l, _⟩ := h
    match us, l with
    | [_], _ => rfl
  · obtain ⟨a, us, rfl, l, ha, go⟩ := h
    match us, l, go with
    | [v], _, go =>
      refine ⟨_, pss_one (ps_ost (pv 0) (pv 1)), ?_⟩
      refine ⟨_, rfl, _, rfl, a, C, rfl, O, h0, .inl ⟨ha, fun dx hx ne => ?_⟩⟩
      exact go _ (fun b o e nb => by rw [upd_ne nb, upd_ne (ne_of_none e hx)]; exact e) ⟨dx, upd_same, by rw [upd_ne ne]; exact upd_same⟩
def mk2 : List V → List (Str × V) := fun us => [("value", us.getD 0 .non)]
theorem sc2 : FnScope ["self", "value"] ["self", "value"] (defScope (inner sBaddays)) := ⟨rfl, rfl, rfl, by decide +kernel, rfl, by decide +kernel, by decide +kernel⟩
theorem ok2 (F : Fun K "__init__" "BadDays.__init__" (inner sBaddays) f fd) (O : OexC K C) (h0 : PySem.W.findIn K (.ref C) "value" = some none) : FnOk P w K mg base CX0 1 f fd ["self", "value"] (spE C 1 mk2) := by
  refine F.ok sc2 (fun vs H Q E h => ?_) (fun cdv A outer s H vs Q E hr h => ?_)
  · obtain ⟨a, us, rfl, l, _⟩ := h
    match us, l with
    | [_], _ => rfl
  · obtain ⟨a, us, rfl, l, ha, go⟩ := h
    match us, l, go with
    | [v], _, go =>
      refine ⟨_, pss_one (ps_ost (pv 0) (pv 1)), ?_⟩
      refine ⟨_, rfl, _, rfl, a, C, rfl, O, h0, .inl ⟨ha, fun dx hx ne => ?_⟩⟩
      exact go _ (fun b o e nb => by rw [upd_ne nb, upd_ne (ne_of_none e hx)]; exact e) ⟨dx, upd_same, by rw [upd_ne ne]; exact upd_same⟩
def mk3 : List V → List (Str × V) := fun us => [("value", us.getD 0 .non)]
theorem sc3 : FnScope ["self", "value"] ["self", "value"] (defScope (inner sBadyearly)) := ⟨rfl, rfl, rfl, by decide +kernel, rfl, by decide +kernel, by decide +kernel⟩
theorem ok3 (F : Fun K "__init__" "BadYearly.__init__" (inner sBadyearly) f fd) (O : OexC K C) (h0 : PySem.W.findIn K (.ref C) "value" = some none) : FnOk P w K mg base CX0 1 f fd ["self", "value"] (spE C 1 mk3) := by
  refine F.ok sc3 (fun vs H Q E h => ?_) (fun cdv A outer s H vs Q E hr h => ?_)
  · obtain ⟨a, us, rfl, l, _⟩ := h
    match us, l with
    | [_], _ => rfl
  · obtain ⟨a, us, rfl, l, ha, go⟩ := h
    match us, l, go with
    | [v], _, go =>
      refine ⟨_, pss_one (ps_ost (pv 0) (pv 1)), ?_⟩
      refine ⟨_, rfl, _, rfl, a, C, rfl, O, h0, .inl ⟨ha, fun dx hx ne => ?_⟩⟩
      exact go _ (fun b o e nb => by rw [upd_ne nb, upd_ne (ne_of_none e hx)]; exact e) ⟨dx, upd_same, by rw [upd_ne ne]; exact upd_same⟩
def mk4 : List V → List (Str × V) := fun us => [("index", us.getD 0 .non)]
theorem sc4 : FnScope ["self", "index"] ["self", "index"] (defScope (inner sBadrow)) := ⟨rfl, rfl, rfl, by decide +kernel, rfl, by decide +kernel, by decide +kernel⟩
theorem ok4 (F : Fun K "__init__" "BadRow.__init__" (inner sBadrow) f fd) (O : OexC K C) (h0 : PySem.W.findIn K (.ref C) "index" = some none) : FnOk P w K mg base CX0 1 f fd ["self", "index"] (spE C 1 mk4) := by
  refine F.ok sc4 (fun vs H Q E h => ?_) (fun cdv A outer s H vs Q E hr h => ?_)
  · obtain ⟨a, us, rfl, l, _⟩ := h
    match us, l with
    | [_], _ => rfl
  · obtain ⟨a, us, rfl, l, ha, go⟩ := h
    match us, l, go with
    | [v], _, go =>
      refine ⟨_, pss_one (ps_ost (pv 0) (pv 1)), ?_⟩
      refine ⟨_, rfl, _, rfl, a, C, rfl, O, h0, .inl ⟨ha, fun dx hx ne => ?_⟩⟩
      exact go _ (fun b o e nb => by rw [upd_ne nb, upd_ne (ne_of_none e hx)]; exact e) ⟨dx, upd_same, by rw [upd_ne ne]; exact upd_same⟩
def mk5 : List V → List (Str × V) := fun us => [("index", us.getD 1 .non), ("year", us.getD 0 .non)]
theorem sc5 : FnScope ["self", "year", "index"] ["self", "year", "index"] (defScope (inner sBadorder)) := ⟨rfl, rfl, rfl, by decide +kernel, rfl, by decide +kernel, by decide +kernel⟩
theorem ok5 (F : Fun K "__init__" "BadOrder.__init__" (inner sBadorder) f fd) (O : OexC K C) (h0 : PySem.W.findIn K (.ref C) "year" = some none) (h1 : PySem.W.findIn K (.ref C) "index" = some none) : FnOk P w K mg base CX0 1 f fd ["self", "year", "index"] (spE C 2 mk5) := by
  refine F.ok sc5 (fun vs H Q E h => ?_) (fun cdv A outer s H vs Q E hr h => ?_)
  · obtain ⟨a, us, rfl, l, _⟩ := h
    match us, l with
    | [_, _], _ => rfl
  · obtain ⟨a, us, rfl, l, ha, go⟩ := h
    match us, l, go with
    | [v, u], _, go =>
      refine ⟨_, pss_cons (ps_ost (pv 0) (pv 1)) (pss_one (ps_ost (pv 0) (pv 2))), ?_⟩
      refine ⟨_, rfl, _, rfl, a, C, rfl, O, h0, .inl ⟨ha, fun dx hx ne => ?_⟩⟩
      refine ⟨_, rfl, _, rfl, a, C, rfl, O, h1, .inr ⟨dx, _, upd_same, by rw [upd_ne ne]; exact upd_same, by show (1 : Nat) ≤ 900; decide, ?_⟩⟩
      exact go _ (fun b o e nb => by rw [upd_ne (ne_of_none e hx), upd_ne nb, upd_ne (ne_of_none e hx)]; exact e) ⟨dx, by rw [upd_ne (Ne.symm ne)]; exact upd_same, upd_same⟩
def mk6 : List V → List (Str × V) := fun us => [("index", us.getD 0 .non)]
theorem sc6 : FnScope ["self", "index"] ["self", "index"] (defScope (inner sBadzone)) := ⟨rfl, rfl, rfl, by decide +kernel, rfl, by decide +kernel, by decide +kernel⟩
theorem ok6 (F : Fun K "__init__" "BadZone.__init__" (inner sBadzone) f fd) (O : OexC K C) (h0 : PySem.W.findIn K (.ref C) "index" = some none) : FnOk P w K mg base CX0 1 f fd ["self", "index"] (spE C 1 mk6) := by
  refine F.ok sc6 (fun vs H Q E h => ?_) (fun cdv A outer s H vs Q E hr h => ?_)
  · obtain ⟨a, us, rfl, l, _⟩ := h
    match us, l with
    | [_], _ => rfl
  · obtain ⟨a, us, rfl, l, ha, go⟩ := h
    match us, l, go with
    | [v], _, go =>
      refine ⟨_, pss_one (ps_ost (pv 0) (pv 1)), ?_⟩
      refine ⟨_, rfl, _, rfl, a, C, rfl, O, h0, .inl ⟨ha, fun dx hx ne => ?_⟩⟩
      exact go _ (fun b o e nb => by rw [upd_ne nb, upd_ne (ne_of_none e hx)]; exact e) ⟨dx, upd_same, by rw [upd_ne ne]; exact upd_same⟩
def mk7 : List V → List (Str × V) := fun us => [("value", us.getD 0 .non)]
theorem sc7 : FnScope ["self", "value"] ["self", "value"] (defScope (inner sBadword)) := ⟨rfl, rfl, rfl, by decide +kernel, rfl, by decide +kernel, by decide +kernel⟩
theorem ok7 (F : Fun K "__init__" "BadWord.__init__" (inner sBadword) f fd) (O : OexC K C) (h0 : PySem.W.findIn K (.ref C) "value" = some none) : FnOk P w K mg base CX0 1 f fd ["self", "value"] (spE C 1 mk7) := by
  refine F.ok sc7 (fun vs H Q E h => ?_) (fun cdv A outer s H vs Q E hr h => ?_)
  · obtain ⟨a, us, rfl, l, _⟩ := h
    match us, l with
    | [_], _ => rfl
  · obtain ⟨a, us, rfl, l, ha, go⟩ := h
    match us, l, go with
    | [v], _, go =>
      refine ⟨_, pss_one (ps_ost (pv 0) (pv 1)), ?_⟩
      refine ⟨_, rfl, _, rfl, a, C, rfl, O, h0, .inl ⟨ha, fun dx hx ne => ?_⟩⟩
      exact go _ (fun b o e nb => by rw [upd_ne nb, upd_ne (ne_of_none e hx)]; exact e) ⟨dx, upd_same, by rw [upd_ne ne]; exact upd_same⟩
def mk8 : List V → List (Str × V) := fun us => [("number", us.getD 0 .non)]
theorem sc8 : FnScope ["self", "number"] ["self", "number"] (defScope (inner sToofew)) := ⟨rfl, rfl, rfl, by decide +kernel, rfl, by decide +kernel, by decide +kernel⟩
theorem ok8 (F : Fun K "__init__" "TooFew.__init__" (inner sToofew) f fd) (O : OexC K C) (h0 : PySem.W.findIn K (.ref C) "number" = some none) : FnOk P w K mg base CX0 1 f fd ["self", "number"] (spE C 1 mk8) := by
  refine F.ok sc8 (fun vs H Q E h => ?_) (fun cdv A outer s H vs Q E hr h => ?_)
  · obtain ⟨a, us, rfl, l, _⟩ := h
    match us, l with
    | [_], _ => rfl
  · obtain ⟨a, us, rfl, l, ha, go⟩ := h
    match us, l, go with
    | [v], _, go =>
      refine ⟨_, pss_one (ps_ost (pv 0) (pv 1)), ?_⟩
      refine ⟨_, rfl, _, rfl, a, C, rfl, O, h0, .inl ⟨ha, fun dx hx ne => ?_⟩⟩
      exact go _ (fun b o e nb => by rw [upd_ne nb, upd_ne (ne_of_none e hx)]; exact e) ⟨dx, upd_same, by rw [upd_ne ne]; exact upd_same⟩
def mk9 : List V → List (Str × V) := fun us => [("index", us.getD 0 .non)]
theorem sc9 : FnScope ["self", "index"] ["self", "index"] (defScope (inner sBadlog)) := ⟨rfl, rfl, rfl, by decide +kernel, rfl, by decide +kernel, by decide +kernel⟩
theorem ok9 (F : Fun K "__init__" "BadLog.__init__" (inner sBadlog) f fd) (O : OexC K C) (h0 : PySem.W.findIn K (.ref C) "index" = some none) : FnOk P w K mg base CX0 1 f fd ["self", "index"] (spE C 1 mk9) := by
  refine F.ok sc9 (fun vs H Q E h => ?_) (fun cdv A outer s H vs Q E hr h => ?_)
  · obtain ⟨a, us, rfl, l, _⟩ := h
    match us, l with
    | [_], _ => rfl
  · obtain ⟨a, us, rfl, l, ha, go⟩ := h
    match us, l, go with
    | [v], _, go =>
      refine ⟨_, pss_one (ps_ost (pv 0) (pv 1)), ?_⟩
      refine ⟨_, rfl, _, rfl, a, C, rfl, O, h0, .inl ⟨ha, fun dx hx ne => ?_⟩⟩
      exact go _ (fun b o e nb => by rw [upd_ne nb, upd_ne (ne_of_none e hx)]; exact e) ⟨dx, upd_same, by rw [upd_ne ne]; exact upd_same⟩
def mk10 : List V → List (Str × V) := fun us => [("index", us.getD 0 .non)]
theorem sc10 : FnScope ["self", "index"] ["self", "index"] (defScope (inner sBadlimit)) := ⟨rfl, rfl, rfl, by decide +kernel, rfl, by decide +kernel, by decide +kernel⟩
theorem ok10 (F : Fun K "__init__" "BadLimit.__init__" (inner sBadlimit) f fd) (O : OexC K C) (h0 : PySem.W.findIn K (.ref C) "index" = some none) : FnOk P w K mg base CX0 1 f fd ["self", "index"] (spE C 1 mk10) := by
  refine F.ok sc10 (fun vs H Q E h => ?_) (fun cdv A outer s H vs Q E hr h => ?_)
  · obtain ⟨a, us, rfl, l, _⟩ := h
    match us, l with
    | [_], _ => rfl
  · obtain ⟨a, us, rfl, l, ha, go⟩ := h
    match us, l, go with
    | [v], _, go =>
      refine ⟨_, pss_one (ps_ost (pv 0) (pv 1)), ?_⟩
      refine ⟨_, rfl, _, rfl, a, C, rfl, O, h0, .inl ⟨ha, fun dx hx ne => ?_⟩⟩
      exact go _ (fun b o e nb => by rw [upd_ne nb, upd_ne (ne_of_none e hx)]; exact e) ⟨dx, upd_same, by rw [upd_ne ne]; exact upd_same⟩
def mk11 : List V → List (Str × V) := fun us => [("line", us.getD 0 .non)]
theorem sc11 : FnScope ["self", "line"] ["self", "line"] (defScope (inner sBadtext)) := ⟨rfl, rfl, rfl, by decide +kernel, rfl, by decide +kernel, by decide +kernel⟩
theorem ok11 (F : Fun K "__init__" "BadText.__init__" (inner sBadtext) f fd) (O : OexC K C) (h0 : PySem.W.findIn K (.ref C) "line" = some none) : FnOk P w K mg base CX0 1 f fd ["self", "line"] (spE C 1 mk11) := by
  refine F.ok sc11 (fun vs H Q E h => ?_) (fun cdv A outer s H vs Q E hr h => ?_)
  · obtain ⟨a, us, rfl, l, _⟩ := h
    match us, l with
    | [_], _ => rfl
  · obtain ⟨a, us, rfl, l, ha, go⟩ := h
    match us, l, go with
    | [v], _, go =>
      refine ⟨_, pss_one (ps_ost (pv 0) (pv 1)), ?_⟩
      refine ⟨_, rfl, _, rfl, a, C, rfl, O, h0, .inl ⟨ha, fun dx hx ne => ?_⟩⟩
      exact go _ (fun b o e nb => by rw [upd_ne nb, upd_ne (ne_of_none e hx)]; exact e) ⟨dx, upd_same, by rw [upd_ne ne]; exact upd_same⟩
end
end Cf
namespace Cf
open PySem L2
section
variable {P : Program} {w : World} {K : PySem.W.Frag} {mg : Str → Option Value} {base : Heap}
/-! ### what stands written of the classes -/
/-- an error class at C, above it the classes at up -/
structure Kl (K : PySem.W.Frag) (up : List Value) (C : Addr) : Prop where
  there : ∃ nm q N bs sn sub ab col dd k0 k1 k2 k3 k5, K.lookup C = some (excClassObj nm q C N bs up true sn sub ab col dd k0 k1 k2 k3 k5 "ValueError.__new__")
  sa : PySem.W.findIn K (.ref C) "__setattr__" = some (some (.builtin "object.__setattr__"))
  ga : PySem.W.findIn K (.ref C) "__getattribute__" = some (some (.builtin "BaseException.__getattribute__"))
  gg : PySem.W.findIn K (.ref C) "__getattr__" = some none
  cl : PySem.W.findIn K (.ref C) "__class__" = some (some (.builtin "object.__class__"))
  kp : PySem.W.keepIn K (.ref C) = true
/-- what stands written of object's __class__ -/
structure Ko (K : PySem.W.Frag) : Prop where
  hn : PySem.W.specialIn K (.builtin "object.__class__") "__get__" = some (some (.builtin "getset_descriptor.__get__"))
  ht : PySem.W.takesIn K (.builtin "object.__class__") = some true
def veL : List Value := [.type "ValueError", .type "Exception", .type "BaseException", .type "object"]
section
variable {up : List Value} {C D : Addr}
theorem Kl.cls (k : Kl K up C) : ∃ cd, PySem.W.clsIn K C = some cd ∧ cd.mro = .ref C :: up ∧ cd.hasDict = true ∧ PySem.W.typeIn K (.ref C) = some (.type "type") := by
  obtain ⟨nm, q, N, bs, sn, sub, ab, col, dd, k0, k1, k2, k3, k5, h⟩ := k.there
  refine ⟨_, by unfold PySem.W.clsIn; rw [h], rfl, rfl, ?_⟩
  show (K.lookup C).map (·.cls) = _
  rw [h]
  rfl
theorem Kl.sub (k : Kl K up C) (v : Value) : PySem.W.subIn K (.ref C) v = some ((Value.ref C :: up).contains v) := by
  obtain ⟨cd, h1, h2, _⟩ := k.cls
  show (PySem.W.clsIn K C).bind _ = _
  rw [h1, Option.bind_some, h2]
  rfl
theorem Kl.hd (k : Kl K up C) : PySem.W.hasDictIn K C = true := by
  obtain ⟨cd, h1, _, h3, _⟩ := k.cls
  unfold PySem.W.hasDictIn
  rw [h1]
  exact h3
theorem Kl.mro (k : Kl K up C) (v : Value) : PySem.W.mroIn K C v = some ((Value.ref C :: up).contains v) := k.sub v
/-- the classes above end as ValueError's do -/
structure Up (up : List Value) : Prop where
  be : up.contains (.type "BaseException") = true
  ob : up.contains (.type "object") = true
  ve : up.contains (.type "ValueError") = true
  re : PySem.HandSPX.refsVE up = true
theorem Kl.oex (k : Kl K up C) (u : Up up) : OexC K C where
  cls := by
    obtain ⟨nm, q, N, bs, sn, sub, ab, col, dd, k0, k1, k2, k3, k5, h⟩ := k.there
    exact ⟨nm, q, N, bs, up, sn, sub, ab, col, dd, k0, k1, k2, k3, k5, h, u.re⟩
  sa := k.sa
  exC := by rw [k.sub, List.contains_cons, u.be, Bool.or_true]
  tyC := by obtain ⟨cd, _, _, _, h⟩ := k.cls; exact h
  kC := k.kp
theorem Kl.xf (k : Kl K up C) (u : Up up) : XfC K C := ⟨k.ga, k.gg, by rw [k.sub, List.contains_cons, u.be, Bool.or_true], k.hd⟩
theorem Kl.exc (k : Kl K up C) (u : Up up) (o : Ko K) : ExcC K C := ⟨k.ga, k.gg, by rw [k.sub, List.contains_cons, u.be, Bool.or_true], k.hd, k.cl, o.hn, o.ht, by rw [k.mro, List.contains_cons, u.ob, Bool.or_true]⟩
theorem kit_ref (kC : Kl K up C) {upD : List Value} (kD : Kl K upD D) : PySem.W.kitOne K (.ref D) (.ref C) = some ((Value.ref D :: upD).contains (.ref C)) := by
  obtain ⟨cd, h1, _, _, h4⟩ := kC.cls
  unfold PySem.W.kitOne
  by_cases e : Value.ref D = Value.ref C
  · rw [e, beq_self_eq_true, if_pos rfl, List.contains_cons, beq_self_eq_true, Bool.true_or]
  · rw [beq_eq_false_iff_ne.mpr e, if_neg Bool.false_ne_true]
    show (if ((PySem.W.clsIn K C).isSome && PySem.W.typeIn K (.ref C) == some (.type "type")) = true then PySem.W.subIn K (.ref D) (.ref C) else none) = _
    rw [h1, h4, kD.sub]
    rfl
theorem kit_ve {upD : List Value} (kD : Kl K upD D) (u : Up upD) : PySem.W.kitOne K (.ref D) (.type "ValueError") = some true := by
  unfold PySem.W.kitOne
  rw [show ((Value.ref D : Value) == .type "ValueError") = false from beq_eq_false_iff_ne.mpr (fun z => nomatch z), if_neg Bool.false_ne_true]
  show (if PySem.W.kitMeta "ValueError" = true then PySem.W.subIn K (.ref D) (.type "ValueError") else none) = _
  rw [if_pos (by decide +kernel), kD.sub, List.contains_cons, u.ve, Bool.or_true]
end
/-! ### isinstance of an error -/
/-- an error of the class at D stands at a -/
def ErrV (H : Hp) (a D : Addr) : Prop := (∃ fl, ExAt H a D fl) ∨ H a = some (ExO (.ref D) a)
def rIsX (K : PySem.W.Frag) : List V → Hp → VK → Prop := fun xs H Q => ∃ (a D : Addr) (c : V) (cv : Value) (b : Bool), xs = [.ref a, c] ∧ ClsV c cv ∧ ErrV H a D ∧ ExcC K D ∧ PySem.W.kitOne K (.ref D) cv = some b ∧ Q (.bl b) H
theorem call_isX {X : Cx} : CallR X (.builtin "isinstance") (rIsX X.K) := by
  intro pins s σ H xs us Q I r h
  obtain ⟨a, D, c, cv, b, rfl, k, er, E, e, q⟩ := h
  obtain ⟨u1, u2, rfl, r1, r2⟩ := vals2 r
  cases (show u1 = Value.ref a from r1)
  have e2 := k.eq r2
  subst e2
  have cl : (PySem.W.clsIn X.K D).isSome = true := by
    obtain ⟨cd, h1, _⟩ := PySem.W.any_some E.hd
    rw [h1]
    rfl
  have go : ∀ (oe : Obj) (od : Option Obj), PySem.W.InstAt s.heap a oe D od → PySem.wpAny (PySem.model X.prog X.w) X.A (PySem.call (.builtin "isinstance") [.ref a, u2]) (EP X pins σ Q) X.xe s := fun oe od J =>
    PySem.W.kia_one (PySem.W.kitx_exc cl E.hg E.hk E.hs E.ha E.hn E.ht E.hm) I.kIn J e (fun z => nomatch z) fun tk => ⟨.bl b, H, I.tok tk, rfl, q⟩
  rcases er with ⟨fl, dx, ea, ed⟩ | ea
  · obtain ⟨t1, ho⟩ := exo_at I.hok ea
    obtain ⟨mA, hns, hr⟩ := exd_at I.hok ed
    obtain ⟨od, hod, hl⟩ := lookIn_ns hns
    exact go _ (some od) ⟨ho, rfl, rfl, hod⟩
  · obtain ⟨⟨oe, vs, ho, hz, hd, _⟩, _, _⟩ := I.hok a _ ea
    obtain ⟨oc, od, dt, sl⟩ := oe
    obtain ⟨z1, z2⟩ := hz
    dsimp only at z1 z2 hd
    subst z1 z2 hd
    exact go _ none ⟨ho, rfl, rfl, trivial⟩
theorem ErrV.same {H H' : Hp} {a D : Addr} (e : ErrV H a D) (s : Same H H') : ErrV H' a D := by
  rcases e with ⟨fl, e⟩ | e
  · exact .inl ⟨fl, e.same s⟩
  · exact .inr (s _ _ e)
end
end Cf
namespace Cf
open PySem L2
section
variable {P : Program} {w : World} {K : PySem.W.Frag} {mg : Str → Option Value} {base : Heap}

/-- the twelve classes and the one above them -/
structure Cls (K : PySem.W.Frag) (mg : Str → Option Value) (cE c0 c1 c2 c3 c4 c5 c6 c7 c8 c9 c10 c11 : Addr) : Prop where
  kE : Kl K veL cE
  mE : mg "ClockError" = some (.ref cE)
  o : Ko K
  nd : [cE, c0, c1, c2, c3, c4, c5, c6, c7, c8, c9, c10, c11].Nodup
  k0 : Kl K (.ref cE :: veL) c0
  m0 : mg "BadNumber" = some (.ref c0)
  k1 : Kl K (.ref cE :: veL) c1
  m1 : mg "BadDate" = some (.ref c1)
  k2 : Kl K (.ref cE :: veL) c2
  m2 : mg "BadDays" = some (.ref c2)
  k3 : Kl K (.ref cE :: veL) c3
  m3 : mg "BadYearly" = some (.ref c3)
  k4 : Kl K (.ref cE :: veL) c4
  m4 : mg "BadRow" = some (.ref c4)
  k5 : Kl K (.ref cE :: veL) c5
  m5 : mg "BadOrder" = some (.ref c5)
  k6 : Kl K (.ref cE :: veL) c6
  m6 : mg "BadZone" = some (.ref c6)
  k7 : Kl K (.ref cE :: veL) c7
  m7 : mg "BadWord" = some (.ref c7)
  k8 : Kl K (.ref cE :: veL) c8
  m8 : mg "TooFew" = some (.ref c8)
  k9 : Kl K (.ref cE :: veL) c9
  m9 : mg "BadLog" = some (.ref c9)
  k10 : Kl K (.ref cE :: veL) c10
  m10 : mg "BadLimit" = some (.ref c10)
  k11 : Kl K (.ref cE :: veL) c11
  m11 : mg "BadText" = some (.ref c11)
theorem up1 : Up veL := ⟨by decide +kernel, by decide +kernel, by decide +kernel, by decide +kernel⟩
theorem veL_ref (a : Addr) : veL.contains (.ref a) = false := by
  unfold veL
  simp
theorem up2 (cE : Addr) : Up (.ref cE :: veL) := by
  refine ⟨?_, ?_, ?_, ?_⟩
  · rw [List.contains_cons, up1.be, Bool.or_true]
  · rw [List.contains_cons, up1.ob, Bool.or_true]
  · rw [List.contains_cons, up1.ve, Bool.or_true]
  · exact up1.re
/-- a class as the law meets it -/
structure Ed (K : PySem.W.Frag) (cE D : Addr) : Prop where
  ex : ∃ up, Kl K up D ∧ (up = veL ∧ D = cE ∨ up = .ref cE :: veL)
theorem beq_ref (a b : Addr) : ((Value.ref a : Value) == .ref b) = decide (a = b) := by
  by_cases h : a = b
  · subst h
    rw [decide_eq_true rfl, beq_self_eq_true]
  · rw [decide_eq_false h]
    exact beq_eq_false_iff_ne.mpr fun z => h (Value.ref.inj z)
section
variable {cE D C : Addr}
theorem Ed.up (d : Ed K cE D) : ∃ up, Kl K up D ∧ Up up := by
  obtain ⟨up, k, h⟩ := d.ex
  rcases h with ⟨rfl, _⟩ | rfl
  · exact ⟨_, k, up1⟩
  · exact ⟨_, k, up2 cE⟩
theorem Ed.exc (d : Ed K cE D) (o : Ko K) : ExcC K D := by
  obtain ⟨up, k, u⟩ := d.up
  exact k.exc u o
theorem Ed.ve (d : Ed K cE D) : PySem.W.kitOne K (.ref D) (.type "ValueError") = some true := by
  obtain ⟨up, k, u⟩ := d.up
  exact kit_ve k u
theorem Ed.ce (d : Ed K cE D) (kE : Kl K veL cE) : PySem.W.kitOne K (.ref D) (.ref cE) = some true := by
  obtain ⟨up, k, h⟩ := d.ex
  rw [kit_ref kE k]
  rcases h with ⟨rfl, rfl⟩ | rfl
  · rw [List.contains_cons, beq_self_eq_true, Bool.true_or]
  · rw [List.contains_cons, List.contains_cons, beq_self_eq_true, Bool.true_or, Bool.or_true]
theorem Ed.kit (d : Ed K cE D) (kC : Kl K (.ref cE :: veL) C) (ne : C ≠ cE) : PySem.W.kitOne K (.ref D) (.ref C) = some (decide (D = C)) := by
  obtain ⟨up, k, h⟩ := d.ex
  rw [kit_ref kC k]
  rcases h with ⟨rfl, rfl⟩ | rfl
  · rw [List.contains_cons, veL_ref, Bool.or_false, beq_ref, decide_eq_decide.mpr (Iff.intro (fun z => z.symm) fun z => z.symm)]
  · rw [List.contains_cons, List.contains_cons, veL_ref, Bool.or_false, beq_ref, beq_ref, decide_eq_false ne, Bool.or_false, decide_eq_decide.mpr (Iff.intro (fun z => z.symm) fun z => z.symm)]
end

section
variable {cE c0 c1 c2 c3 c4 c5 c6 c7 c8 c9 c10 c11 : Addr}
theorem Cls.ne (L : Cls K mg cE c0 c1 c2 c3 c4 c5 c6 c7 c8 c9 c10 c11) {c : Addr} (h : c ∈ [c0, c1, c2, c3, c4, c5, c6, c7, c8, c9, c10, c11]) : c ≠ cE := fun z => by
  have := List.nodup_cons.mp L.nd
  rw [z] at h
  exact this.1 h
end
end
end Cf
/-! try: .. except C as e: k = e — the error kept for what follows in the same block. -/
namespace Cf
open PySem PySem.Spec PyProof.Rows L2
section
variable {X : Cx} {pins : List (Addr × Obj)} {σ : L2.St} {H : Hp} {s : Shared} {a : Addr} {oe : Obj}
/-- the context in which the error at a is kept -/
abbrev keptX (X : Cx) (a : Addr) (oe : Obj) : Cx := X.tr ((a, oe) :: X.pn) X.xe
theorem kept_out (J : Inv (keptX X a oe) pins σ H s) (ok : X.Ok) : Inv X pins σ H s :=
  { ok := ok, os := J.os, bare := J.bare, base := J.base, loc := J.loc, cell := J.cell, free := J.free, freeC := J.freeC, pin := fun p hp => J.pin p (List.mem_cons_of_mem _ hp), hok := J.hok, len := J.len }
theorem kept_suite (J : Inv (X.suite a ((a, oe) :: (X.pn ++ pins))) [] σ H s) (ok : X.Ok) : Inv (keptX X a oe) pins σ H s :=
  { ok := ok.toTry _ _, os := J.os, bare := J.bare, base := J.base, loc := J.loc, cell := J.cell, free := J.free, freeC := J.freeC, hok := J.hok, len := J.len
    pin := fun p hp => J.pin p (by rw [List.append_nil]; exact hp) }
theorem kept_end {D : Ends} {f : Flow} (ok : X.Ok) (h : SP (keptX X a oe) pins D f s) : SP X pins D f s := by
  cases f with
  | next => obtain ⟨σ', H', J, q⟩ := h; exact ⟨σ', H', kept_out J ok, q⟩
  | brk => obtain ⟨σ', H', J, q⟩ := h; exact ⟨σ', H', kept_out J ok, q⟩
  | cont => obtain ⟨σ', H', J, q⟩ := h; exact ⟨σ', H', kept_out J ok, q⟩
  | ret u => obtain ⟨v, σ', H', J, r, q⟩ := h; exact ⟨v, σ', H', kept_out J ok, r, q⟩
end
section
variable {X : Cx} {x n k : Str} {c : Value} {i j : Nat} {body rest : List Stmt} {np pos pos' p1 p2 p3 : Pos} {tb : WX → TS} {u : TS} {Wout : WX}
/-- what such a clause wishes of an error of the body: slot i is e's, slot j is k's -/
def wKp (X : Cx) (rest : List Stmt) (c : Value) (i j : Nat) (Wout : WX) (D : Ends) : WX := fun cls d σ H =>
  ∃ b, PySem.W.exmOne X.K cls c = some b ∧ (b = true → ∀ (a : Addr) (oe : Obj), H a = none → Zc cls d oe → (∃ vs, oe.data = .fields vs) → ∃ t : TS, PSs (keptX X a oe) rest t ∧ t D (((σ.set i (some (.ref a))).set j (some (.ref a))).set i none) H) ∧ (b = false → Wout cls d σ H)
theorem pss_tryKeep (hs : X.stack = X.env :: X.outer) (hf : X.env.frame = some X.env.locals) (hN : X.N.Nodup) (hi : X.N[i]? = some n) (hln : X.env.kindOf n = some .local) (hj : X.N[j]? = some k) (hlk : X.env.scope.names.lookup k = some .local) (hc : Names X x c) (tk : Takes X Wout)
    (hb : ∀ (W : WX) (pn : List (Addr × Obj)) (xe : Value → Shared → Prop), Takes (X.tr pn xe) W → PassesOwn (model X.prog X.w) X.A X.env xe → PSs (X.tr pn xe) body (tb W))
    (hr : PSs X rest u)
    (hsw : swapsWith (.Name n p2) (some (.Name k p1)) p3.line X.env = pure false := by rfl)
    (hd1 : (n == ("__debug__" : Str)) = false := by decide) (hd2 : (n == ("__classdict__" : Str)) = false := by decide) :
    PSs X (.Try body [.ExceptHandler (some (.Name x np)) (some n) [.Assign [.Name k p1] (.Name n p2) p3] pos'] [] [] pos :: rest) (fun D σ H => tb (wKp X rest c i j Wout D) { D with nx := u D } σ H) := by
  refine ⟨fun pins s σ H D I h => ?_⟩
  have ok := I.ok
  have frm : X.A.frames = some (X.env :: X.outer) := by rw [ok.frames, hs]
  refine wpAny_execs_cons (wpAny_Try_except ?_)
  refine wpAny_mono ((hb (wKp X rest c i j Wout D) (X.pn ++ pins) _ (fun v s' flown => ?_) PassesOwn.looking).run [] s σ H { D with nx := u D } (I.toTry _) h) (fun f s1 ended => ?_) (fun _ _ z => z)
  · -- an error of the body
    obtain ⟨a, B, sI, pins', σ', H', cls, d, rfl, JT, nb, up, sky, na, os, ag, b, asks, keeps, leaves⟩ := flown
    have J : Inv X pins σ' H' sI := JT.ofTry ok
    rw [hs] at sky
    refine Sky.land Zc.steady frm hf sky fun h3 fl3 up3 => ?_
    have J3 : Inv X pins σ' H' { s' with heap := h3 } := J.landed nb fl3.1 (up.trans up3) os ag
    obtain ⟨oe3, vs3, at3, z3, dat3⟩ := fl3.there
    have off : a ∉ frs (X.env :: X.outer) := fun m => by
      obtain ⟨_, o', e', no⟩ := fl3.2.2.1.mem m
      rw [at3] at e'
      cases e'
      exact no _ dat3
    have nL : a ≠ X.env.locals := fun z => off (List.mem_filterMap.mpr ⟨X.env, List.mem_cons_self, by rw [hf, z]⟩)
    have nF : a ∉ X.fs := fun m => by
      obtain ⟨e, he, q⟩ := List.mem_filterMap.mp m
      exact off (List.mem_filterMap.mpr ⟨e, List.mem_cons_of_mem _ he, q⟩)
    have S3 := J3.suite at3 dat3 na nL nF
    refine wpAny_handleBy_cons (codeAny_handlers_test ?_) (by intro q; cases q)
    have LT : PySem.W.Looks (model X.prog X.w) h3 (typeOf (.ref a)) cls := fun A Q E s k q => wpAny_typeOf_ref (k _ _ at3) (by rw [z3.1]; exact q)
    have LM := PySem.W.exm_one (M := model X.prog X.w) J3.kIn LT asks
    have named : ∀ {Q : Value → Shared → Prop} {E : Value → Shared → Prop}, Q c { s' with heap := h3 } → wpAny (model X.prog X.w) (X.A.mark (some (.ref a))) (eval (.Name x np) X.env) Q E { s' with heap := h3 } := fun {Q E} q => by
      rcases hc with ⟨g1, g2, g3 | ⟨g3, g4, g5⟩⟩
      · exact ld_glob (X := X.suite a ((a, oe3) :: (X.pn ++ pins))) S3 g1 g3 q g2
      · exact ld_blt (X := X.suite a ((a, oe3) :: (X.pn ++ pins))) S3 g1 g3 g4 q g5 g2
    refine named (LM.here ?_)
    cases b with
    | true =>
      refine codeAny_handlers_suite_as ?_
      refine HandSPX.lands_againZ fl3 fun h4 fl4 up4 => ?_
      have J4 : Inv X pins σ' H' { s' with heap := h4 } := J.landed nb fl4.1 ((up.trans up3).trans up4) os ag
      obtain ⟨oe4, vs4, at4, z4, dat4⟩ := fl4.there
      have S4 := J4.suite at4 dat4 na nL nF
      have ilt : i < σ'.length := by
        rw [J4.len]
        exact (List.getElem?_eq_some_iff.mp hi).1
      refine store_ok (X := X.suite a ((a, oe4) :: (X.pn ++ pins))) (v := .ref a) S4 hN hi (.inl hln) rfl (fun s5 S5 => ?_) (.inr hln)
      have suite : PSs (X.suite a ((a, oe4) :: (X.pn ++ pins))) [.Assign [.Name k p1] (.Name n p2) p3] (tAsg (tVar i) (gName j)) := pss_one (ps_set hN hj (.inl hlk) (pe_var hi (.inl hln) hd1 hd2) hsw (.inr hlk))
      refine wpAny_mono (suite.run [] s5 _ H' { nx := fun σ6 H6 => σ6 = (σ'.set i (some (.ref a))).set j (some (.ref a)) ∧ H6 = H', rt := fun _ _ => False, bk := fun _ _ => False, ct := fun _ _ => False } S5 ⟨_, List.getElem?_set_self ilt, rfl, rfl⟩) (fun f s6 ended => ?_) (fun _ _ z => False.elim z)
      cases f with
      | next =>
        obtain ⟨σ6, H6, S6, rfl, rfl⟩ := ended
        refine gone_ok (X := keptX X a oe4) (kept_suite S6 ok) hN hi hln fun s7 J7 => ?_
        obtain ⟨t, walk, q⟩ := keeps rfl a oe4 na z4 ⟨_, dat4⟩
        exact wpAny_mono (walk.run pins s7 _ _ D J7 q) (fun f s8 z => kept_end ok z) (fun _ _ z => z)
      | brk => obtain ⟨_, _, _, z⟩ := ended; exact z.elim
      | cont => obtain ⟨_, _, _, z⟩ := ended; exact z.elim
      | ret v => obtain ⟨_, _, _, _, _, z⟩ := ended; exact z.elim
    | false =>
      refine wpAny_handleBy_nil ?_
      obtain ⟨_, _, _, oe, vs, T, _, _, at0, _, dat0, tb0, _⟩ := id fl3
      unfold PySem.passOn
      refine wpAny_bind (wpAny_field at0 dat0 tb0 ?_)
      rw [if_neg (show ¬ ((Value.ref T == Value.none) = true) from by simp)]
      have out : ∀ {Q : Flow → Shared → Prop}, wpAny (model X.prog X.w) X.A (setFlight (.ref a) X.env.frame) (fun _ s4 => wpAny (model X.prog X.w) X.A (throw (.ref a) : Sem Flow) Q X.xe s4) X.xe { s' with heap := h3 } := by
        intro Q
        rw [hf]
        refine HandSPX.setFlight_upZ fl3 fun h4 on4 up4 => wpAny_throw (tk _ _ ?_)
        exact ⟨a, B, sI, pins, σ', H', cls, d, rfl, J, nb, (up.trans up3).trans up4, .inr (.inr (by rw [hs]; exact on4)), na, os, ag, leaves rfl⟩
      first
        | exact wpAny_bind (wpAny_pure (wpAny_bind out))
        | exact wpAny_bind out
  · cases f with
    | next =>
      obtain ⟨σ', H', JT, q⟩ := ended
      exact wpAny_execs_nil (hr.run pins s1 σ' H' D (JT.ofTry ok) q)
    | brk => obtain ⟨σ', H', JT, q⟩ := ended; exact ⟨σ', H', JT.ofTry ok, q⟩
    | cont => obtain ⟨σ', H', JT, q⟩ := ended; exact ⟨σ', H', JT.ofTry ok, q⟩
    | ret v => obtain ⟨v', σ', H', JT, r, q⟩ := ended; exact ⟨v', σ', H', JT.ofTry ok, r, q⟩
end
section
variable {X : Cx} {rest : List Stmt} {e : Expr} {t : TE} {f : Str} {pos : Pos}
/-- e.f where it is never asked -/
theorem pe_never (he : PE X e t) : PE X (.Attribute e f pos) (fun _ _ _ => False) := ⟨fun _ _ _ _ _ _ h => h.elim⟩
/-- a block that is read by the class of the kept error -/
theorem keep_cls {cls : Value} {u : Addr → TS} (h : ∀ C, cls = .ref C → PSs X rest (u C)) : PSs X rest (fun D σ H => ∃ C, cls = .ref C ∧ u C D σ H) := ⟨fun pins s σ H D I ⟨C, e, q⟩ => (h C e).run pins s σ H D I q⟩
end
end Cf
namespace Cf
open PySem L2
section
variable {P : Program} {w : World} {K : PySem.W.Frag} {mg : Str → Option Value} {base : Heap}
/-! ### an error that is kept in the context -/
/-- isinstance(k, C): the error at a, its class at D, its dict (if any) at d -/
def rIsP (K : PySem.W.Frag) (a D : Addr) (d : Option Addr) : List V → Hp → VK → Prop := fun xs H Q => ∃ (c : V) (cv : Value) (b : Bool), xs = [.ref a, c] ∧ ClsV c cv ∧ ExcC K D ∧ PySem.W.kitOne K (.ref D) cv = some b ∧ (∀ dd, d = some dd → ∃ fs, H dd = some (.xd fs)) ∧ Q (.bl b) H
/-- isinstance(k, (C1, C2, ..)) -/
def rIsPT (K : PySem.W.Frag) (a D : Addr) (d : Option Addr) : List V → Hp → VK → Prop := fun xs H Q => ∃ (tp : Addr) (cs : List V) (us : List Value) (b : Bool), xs = [.ref a, .ref tp] ∧ H tp = some (.tup cs) ∧ Paired ClsV cs us ∧ ExcC K D ∧ PySem.W.kitAny K (.ref D) us = some b ∧
  (∀ dd, d = some dd → ∃ fs, H dd = some (.xd fs)) ∧ Q (.bl b) H
theorem xd_at {X : Cx} {pins : List (Addr × Obj)} {σ : L2.St} {H : Hp} {s : Shared} {dd : Addr} {fs : List (Str × V)} (I : Inv X pins σ H s) (e : H dd = some (.xd fs)) : ∃ mA, s.heap.Ns1 dd mA ∧ ∀ f, RelO (fs.lookup f) (mA f) := I.hok dd _ e
theorem inst_kept {X : Cx} {a D : Addr} {oe : Obj} {d : Option Addr} (hp : (a, oe) ∈ X.pn) (hz : Zc (.ref D) d oe) (hf : ∃ vs, oe.data = .fields vs) {pins : List (Addr × Obj)} {σ : L2.St} {H : Hp} {s : Shared} (I : Inv X pins σ H s) (dk : ∀ dd, d = some dd → ∃ fs, H dd = some (.xd fs)) :
    ∃ od, PySem.W.InstAt s.heap a oe D od := by
  obtain ⟨at_, _⟩ := I.pin (a, oe) (List.mem_append_left _ hp)
  obtain ⟨vs, hv⟩ := hf
  obtain ⟨oc, od, dt, sl⟩ := oe
  obtain ⟨z1, z2⟩ := hz
  dsimp only at z1 z2 hv
  subst z1 z2 hv
  cases od with
  | none => exact ⟨none, at_, rfl, rfl, trivial⟩
  | some dd =>
    obtain ⟨fs, e⟩ := dk dd rfl
    obtain ⟨mA, hns, _⟩ := xd_at I e
    obtain ⟨o2, h2, _⟩ := lookIn_ns hns
    exact ⟨some o2, at_, rfl, rfl, h2⟩
theorem cls_some {D : Addr} (E : ExcC K D) : (PySem.W.clsIn K D).isSome = true := by
  obtain ⟨cd, h1, _⟩ := PySem.W.any_some E.hd
  rw [h1]
  rfl
theorem call_isP {X : Cx} {a D : Addr} {oe : Obj} {d : Option Addr} (hp : (a, oe) ∈ X.pn) (hz : Zc (.ref D) d oe) (hf : ∃ vs, oe.data = .fields vs) : CallR X (.builtin "isinstance") (rIsP X.K a D d) := by
  intro pins s σ H xs us Q I r h
  obtain ⟨c, cv, b, rfl, k, E, e, dk, q⟩ := h
  obtain ⟨u1, u2, rfl, r1, r2⟩ := vals2 r
  cases (show u1 = Value.ref a from r1)
  have e2 := k.eq r2
  subst e2
  obtain ⟨od, J⟩ := inst_kept hp hz hf I dk
  exact PySem.W.kia_one (PySem.W.kitx_exc (cls_some E) E.hg E.hk E.hs E.ha E.hn E.ht E.hm) I.kIn J e (fun z => nomatch z) fun tk => ⟨.bl b, H, I.tok tk, rfl, q⟩
theorem call_isPT {X : Cx} {a D : Addr} {oe : Obj} {d : Option Addr} (hp : (a, oe) ∈ X.pn) (hz : Zc (.ref D) d oe) (hf : ∃ vs, oe.data = .fields vs) : CallR X (.builtin "isinstance") (rIsPT X.K a D d) := by
  intro pins s σ H xs us Q I r h
  obtain ⟨tp, cs, ws, b, rfl, hT, k, E, e, dk, q⟩ := h
  obtain ⟨u1, u2, rfl, r1, r2⟩ := vals2 r
  cases (show u1 = Value.ref a from r1)
  cases (show u2 = Value.ref tp from r2)
  obtain ⟨od, J⟩ := inst_kept hp hz hf I dk
  obtain ⟨_, its, rv, o, h1, h2, n, h3⟩ := (show ObjOk X.prog X.w H s.heap tp (.tup cs) from I.hok tp _ hT)
  have e3 := ClsV.all k rv
  subst e3
  obtain ⟨oc, o2, dt, sl⟩ := o
  simp only at h2 h3
  subst h2 h3
  exact PySem.W.kia_tup (PySem.W.kitx_exc (cls_some E) E.hg E.hk E.hs E.ha E.hn E.ht E.hm) I.kIn J h1 e (fun z => nomatch z) fun tk => ⟨.bl b, H, I.tok tk, rfl, q⟩
/-- k.f, k the kept error -/
theorem pe_xp {X : Cx} {a D : Addr} {oe : Obj} {d : Option Addr} {f : Str} {o : Expr} {to : TE} {pos : Pos} (hp : (a, oe) ∈ X.pn) (hz : Zc (.ref D) d oe) (hf : ∃ vs, oe.data = .fields vs) (he : PE X o to) (hb : attributeBase o f X.env (eval o X.env) = eval o X.env := by rfl) :
    PE X (.Attribute o f pos) (fun σ H Q => to σ H fun y H1 => ∃ (dd : Addr) (fl : List (Str × V)) (v : V), y = .ref a ∧ d = some dd ∧ H1 dd = some (.xd fl) ∧ XfC X.K D ∧ PySem.W.findIn X.K (.ref D) f = some none ∧ fl.lookup f = some v ∧ Q v H1) := by
  constructor
  intro pins s σ H Q I h
  refine attr_of hb (thn (he.run pins s σ H _ I h) fun u s1 hh => ?_)
  obtain ⟨y, H1, I1, ry, dd, fl, v, rfl, rfl, ed, T, no, l, q⟩ := hh
  cases (show u = Value.ref a from ry)
  obtain ⟨at_, _⟩ := I1.pin (a, oe) (List.mem_append_left _ hp)
  obtain ⟨vs, hv⟩ := hf
  obtain ⟨mA, hns, hr⟩ := xd_at I1 ed
  obtain ⟨od, hod, hl⟩ := lookIn_ns hns
  obtain ⟨u, hu, ru⟩ := RelO.some_of (v := v) (o := mA f) (by rw [← l]; exact hr f)
  have J : PySem.W.InstAt s1.heap a oe D (some od) := ⟨at_, hz.1, by unfold PySem.W.notCls; rw [hv] <;> rfl, by rw [hz.2]; exact hod⟩
  exact HandSPX.exc_get I1.kIn J T.ga T.gg T.exC (PySem.W.findObj_own T.hdC no rfl (by rw [hl, hu])) (handed_of ru) ⟨v, H1, I1.tok _, ru, q⟩
/-! ### repr of any item -/
/-- repr(v) of a value that a list may show -/
def rReprI (K : PySem.W.Frag) : List V → Hp → VK → Prop := fun xs H Q => ∃ (v : V) (d : PyData), xs = [v] ∧ Dz K H v d ∧ d.showable = true ∧ d.depth ≤ 60 ∧ d.shown.length ≤ sizeLine ∧ Q (.str d.shown) H
theorem call_reprI {X : Cx} (gd : X.A.guards = some []) (hu : X.A.units + 64 < cLine) : CallR X (.builtin "repr") (rReprI X.K) := by
  intro pins s σ H xs us Q I r h
  obtain ⟨v, d, rfl, hz, sh, dd, sz, q⟩ := h
  obtain ⟨u, rfl, ru⟩ : ∃ u, us = [u] ∧ RelV v u := by
    cases r with
    | cons z1 z2 => cases z2; exact ⟨_, rfl, z1⟩
  obtain ⟨as, rd, nm⟩ := hz.reads I ru
  cases rd with
  | none => exact PySem.P.repr_of_none ⟨.str _, H, I.tok _, ⟨_, rfl⟩, q⟩
  | bool b =>
    refine PySem.P.repr_of_bool ⟨.str _, H, I.tok _, ⟨_, rfl⟩, ?_⟩
    have e : (if b = true then ("True" : Str) else "False") = PyData.shown (.bool b) := by simp only [PyData.shown]
    first | exact q | (rw [← e] at q; exact q)
  | int i t => exact PySem.P.repr_of_int (by simpa [PyData.showable] using sh) ⟨.str _, H, I.tok _, ⟨_, rfl⟩, q⟩
  | str x t => exact PySem.P.repr_of_str ⟨.str _, H, I.tok _, ⟨_, rfl⟩, q⟩ sz
  | list g1 g2 g3 g4 => exact repr_of_reads' (.list g1 g2 g3 g4) sh nm gd (by omega) (fun _ _ e => e) (fun h' u tk k => ⟨.str _, H, I.kept k, ⟨_, rfl⟩, q⟩) sz
  | tuple g1 g2 g3 g4 => exact repr_of_reads' (.tuple g1 g2 g3 g4) sh nm gd (by omega) (fun _ _ e => e) (fun h' u tk k => ⟨.str _, H, I.kept k, ⟨_, rfl⟩, q⟩) sz
  | dict g1 g2 g3 g4 g5 => exact repr_of_reads' (.dict g1 g2 g3 g4 g5) sh nm gd (by omega) (fun _ _ e => e) (fun h' u tk k => ⟨.str _, H, I.kept k, ⟨_, rfl⟩, q⟩) sz
end
end Cf
/-! A lambda handed to a def that calls it in a try: what flies is told of the very slots. -/
namespace Cf
open PySem PySem.Spec PyProof.Rows L2 LamX
section
variable {X : Cx} {pins : List (Addr × Obj)} {σ : L2.St} {H : Hp} {s : Shared}
/-- the def's own context -/
abbrev inDef (X : Cx) (N : List Str) (x : Str) (sg : Scope) (g : Addr) (cdg : Value) (s : Shared) (H : Hp) : Cx := cxOf C8.CX0 X.prog X.w X.K X.mg X.base N x sg g cdg X.A X.stack s H C8.E0
/-- work(), in the def that got the lambda as work -/
theorem act_at {N : List Str} {x : Str} {sg : Scope} {g f c' : Addr} {cdg pm ctv : Value} {params : Arguments} {body : Expr} {scope : Scope} {k i : Nat} {nm : Str} {pn : List (Addr × Obj)} {xe : Value → Shared → Prop} {W : WX} {E : XK} {tb : TE} {p1 p2 : Pos}
    (I : Inv X pins σ H s) (L : LamS X.env.scope scope) (there : s.heap.get? f = some (PySem.W.kla_obj "<lambda>" (X.env.qual ++ "<lambda>") params body scope (cloFrom X.env.cells scope.names []) pm c' ctv)) (fn : H f = none) (fr' : f ∉ frs X.stack)
    (bind : bindArgs (PySem.W.kla_fn "<lambda>" (X.env.qual ++ "<lambda>") params body scope (cloFrom X.env.cells scope.names []) pm (.ref c') ctv) ⟨[], []⟩ = pure [])
    (tk : L2.Takes ((inDef X N x sg g cdg s H).tr pn xe) W) (room : Room (k + 1) (X.A.deeper (envOfC x sg s.heap.objs.size g cdg)))
    (walk : ∀ (A : Around) (outer : List Env) (s : Shared) (H : Hp), Room k (A.deeper (lamEnv X scope s.heap.objs.size f c')) → PE (lamCx X A outer s H E scope f c') body tb)
    (hN : N[i]? = some nm) (hv : Vis sg nm) (hd : (nm == ("__debug__" : Str)) = false := by decide) (hcd : (nm == ("__classdict__" : Str)) = false := by decide) :
    PE ((inDef X N x sg g cdg s H).tr pn xe) (.Call (.Name nm p1) [] [] p2)
      (fun σ1 H1 Q => σ1[i]? = some (some (.ref f)) ∧ H1 c' = some (CodeO c' (X.env.qual ++ "<lambda>")) ∧ (∀ cls d H', E cls d H' → W cls d σ1 H') ∧ tb σ H1 Q) := by
  constructor
  intro pins1 s1 σ1 H1 Q I1 h
  obtain ⟨slot, hc, low, go⟩ := h
  have nameAt : PE ((inDef X N x sg g cdg s H).tr pn xe) (.Name nm p1) (tVar i) := pe_var hN hv hd hcd
  refine wpAny_Call_Name_kw (thn (nameAt.run pins1 s1 σ1 H1 (fun v G => v = .ref f ∧ G = H1) I1 ⟨.ref f, slot, rfl, rfl⟩) fun u s2 hh => ?_)
  obtain ⟨v, G, I2, r2, rfl, rfl⟩ := hh
  obtain rfl : u = Value.ref f := r2
  have there2 : s2.heap.get? f = some (PySem.W.kla_obj "<lambda>" (X.env.qual ++ "<lambda>") params body scope (cloFrom X.env.cells scope.names []) pm c' ctv) := I2.base.keep f _ there fn fr' (fun z => nomatch (show f ∈ ([] : List Addr) from z))
  refine PySem.W.callWith_F0 ⟨_, _, _, _, there2⟩ ?_
  have un : Un (frs X.stack) [] H G s.heap s2.heap := I2.base
  obtain ⟨⟨oc, vs, t, hoc, hdc, hvc⟩, _, _⟩ := I2.hok c' _ hc
  have called : codeAny (model X.prog X.w) (X.A.deeper (envOfC x sg s.heap.objs.size g cdg)) (.call (.ref f) ⟨[], []⟩) (CR (L2.CX X.prog X.w) (envOfC x sg s.heap.objs.size g cdg :: X.stack) X.prog X.w G s2 Q E) s2 := by
    refine PySem.W.kla_callFunE room.depth there2 rfl L.co L.gen rfl ⟨c', oc, vs, t, rfl, hoc, hdc, hvc⟩ ?_
    rw [bind]
    refine wpAny_pure (wpAny_newFunctionEnv (fun y hy => (L.own y hy).2) (fun y hy => absurd hy (by simp)) (fun h₁ ns sb => ⟨I2.nolimit.fresh _ sb, ?_⟩) L.kind)
    show codeAny _ _ (.expr body (lamEnv X scope s2.heap.objs.size f c')) _ _
    have kp : ∀ b o, s2.heap.get? b = some o → h₁.get? b = some o := fun b o e => sb.extBut b o (Nat.ne_of_lt (Heap.lt_size e)) (Heap.get?_push_of_some _ e)
    have J := lam_start2 (E := E) (f := f) (c' := c') (tk := s2.toks + ([] : List (Str × Value)).length) I L I2.env0 room.hd un ns kp
    refine PySem.W.kla_codeExpr (wpAny_mono ((walk _ _ s2 G (room.deeper _)).run [] _ _ G Q J go) (fun v s' hq => ?_) fun e s' hq => hq)
    obtain ⟨w', H', J', rv, q⟩ := hq
    exact ⟨w', H', J'.os, J'.bare, J'.base, J'.hok, rv, q⟩
  refine wpAny_call (codeAny_mono called fun r s' got => ?_)
  match r, got with
  | .error e, got => exact tk _ _ (XE.of_call I2 low got)
  | .ok (.ret u), got => exact I2.after got
  | .ok .next, got => exact False.elim got
  | .ok .brk, got => exact False.elim got
  | .ok .cont, got => exact False.elim got
end
/-- a def that calls what it got (its first name nm); TT: what it makes of the lambda's reading -/
def Made (X : Cx) (N : List Str) (x : Str) (sg : Scope) (g : Addr) (cdg : Value) (bg : List Stmt) (nm q : Str) (TT : (XK → Hp → VK → Prop) → Hp → VK → Prop) : Prop :=
  ∀ (f c' : Addr) (s : Shared) (H : Hp) (Q : VK) (tl : XK → Hp → VK → Prop),
    (∀ (W : WX) (pn : List (Addr × Obj)) (xe : Value → Shared → Prop) (E : XK) (p1 p2 : Pos), L2.Takes ((inDef X N x sg g cdg s H).tr pn xe) W →
      PE ((inDef X N x sg g cdg s H).tr pn xe) (.Call (.Name nm p1) [] [] p2) (fun σ1 H1 Q => σ1[0]? = some (some (.ref f)) ∧ H1 c' = some (CodeO c' q) ∧ (∀ cls d H', E cls d H' → W cls d σ1 H') ∧ tl E H1 Q)) →
    H c' = some (CodeO c' q) → TT tl H Q → ∃ t, PSs (inDef X N x sg g cdg s H).nox bg t ∧ t { nx := fun _ H' => Q .non H', rt := Q } (L2.start N [.ref f]) H
section
variable {X : Cx}
/-- x(lambda: body) -/
theorem pe_lam2 {T : List (Addr × Str)} {TT : (XK → Hp → VK → Prop) → Hp → VK → Prop} {x nm : Str} {g c P : Addr} {k : Nat} {pg : Arguments} {bg : List Stmt} {sg : Scope} {dV kV doc pm cdv ct oc : Value} {an od : Option Addr} {osl : Array (Option Value)} {N : List Str}
    {params : Arguments} {body : Expr} {scope : Scope} {t : XK → TE} {p lpos pos : Pos} (hg : Gl X x) (hm : X.mg x = some (.ref g)) (hk : PySem.W.keepIn X.K (.ref g) = true)
    (there : X.K.lookup g = some ⟨oc, od, .func (PySem.W.fnOf x x pg bg sg dV kV doc pm an cdv ct), osl⟩) (code : PySem.W.codeIn X.K cdv x = true) (hb : L2.Binds X.K (PySem.W.fnOf x x pg bg sg dV kV doc pm an cdv ct) [nm] []) (sc : FnScope N [nm] sg) (hN0 : N[0]? = some nm) (hva : Vis sg nm)
    (made : Made X N x sg g cdv bg nm (X.env.qual ++ "<lambda>") TT)
    (TB : TabB X.base X.mg c P) (hcode : X.env.code = .ref c) (hmT : (P, X.env.qual ++ "<lambda>") ∈ T) (hu : ∀ p ∈ T, p.1 = P → p.2 = X.env.qual ++ "<lambda>") (room : Room (k + 2) X.A) (L : LamS X.env.scope scope) (hdef : defaultsOf params X.env = ([], []))
    (bind : ∀ (q : Str) (cl : List (Str × Addr)) (pm cv ctv : Value), bindArgs (PySem.W.kla_fn "<lambda>" q params body scope cl pm cv ctv) ⟨[], []⟩ = pure [])
    (walk : ∀ (A : Around) (outer : List Env) (s : Shared) (H : Hp) (E : XK) (f c' : Addr), Room k (A.deeper (lamEnv X scope s.heap.objs.size f c')) → PE (lamCx X A outer s H E scope f c') body (t E))
    (hdb : (x == ("__debug__" : Str)) = false := by decide) (hd : (nm == ("__debug__" : Str)) = false := by decide) (hcd : (nm == ("__classdict__" : Str)) = false := by decide) :
    PE X (.Call (.Name x p) [.Lambda params body scope lpos] [] pos) (tLam T TT t) := by
  constructor
  intro pins s σ H Q I h
  obtain ⟨hT, h⟩ := h
  apply wpAny_Call_Name_kw (ld_glob I hg hm ?_ hdb)
  apply PySem.W.callWith_K (h₀ := X.base) I.ok.mod.kin hk ?_ (by rfl) (by rfl)
  show wpAny _ _ (spliced ((false, eval (.Lambda params body scope lpos) X.env) :: backTo pos (starEach [] X.env))) _ _ s
  refine Calls.spliced_cons (lam_make2 I TB hcode hmT hu hT hdef (L.has I.ok) fun f c' pm' ctv H1 s' I1 eN T1 at_ fn fr' hco => ?_)
  refine Calls.spliced_nil ⟨I1.kIn, ?_⟩
  have called : codeAny (model X.prog X.w) X.A (.call (.ref g) ⟨[.ref f], []⟩) (CR C8.CX0 X.stack X.prog X.w H1 s' Q C8.E0) s' := by
    refine run_ofS (N := N) (ps := [nm]) (us := [.ref f]) (vs := [.ref f]) there code sc room I1.env0 (hb s' [.ref f] I1.kIn rfl) (.cons rfl .nil) rfl fun room' => ?_
    obtain ⟨t', ht', hq'⟩ := made f c' s' H1 Q (fun E H' Q' => t E σ H' Q') (fun W pn xe E p1 p2 tk => act_at (i := 0) I1 L at_ fn fr' (bind _ _ _ _ _) tk room' (fun A outer s H r2 => walk A outer s H E f c' r2) hN0 hva hd hcd) hco (h H1 eN T1)
    exact ⟨t', ht'.nox, hq'⟩
  refine wpAny_call (codeAny_mono called fun r s2 got => ?_)
  match r, got with
  | .error e, got => exact (show False from got).elim
  | .ok (.ret u), got => exact I1.after got
  | .ok .next, got => exact False.elim got
  | .ok .brk, got => exact False.elim got
  | .ok .cont, got => exact False.elim got
end
end Cf
namespace Cf
open PySem L2
section
open LamX
variable {cE c0 c1 c2 c3 c4 c5 c6 c7 c8 c9 c10 c11 : Addr}
/-! ### _law_raised: what a call raises, told as words -/
theorem kit_non {K : PySem.W.Frag} {up : List Value} {C : Addr} (k : Kl K up C) : PySem.W.kitOne K (.type "NoneType") (.ref C) = some false := by
  obtain ⟨cd, h1, _, _, h4⟩ := k.cls
  unfold PySem.W.kitOne
  rw [show ((Value.type "NoneType" : Value) == .ref C) = false from beq_eq_false_iff_ne.mpr (fun z => nomatch z), if_neg Bool.false_ne_true]
  show (if ((PySem.W.clsIn K C).isSome && PySem.W.typeIn K (.ref C) == some (.type "type")) = true then PySem.W.subIn K (.type "NoneType") (.ref C) else none) = _
  rw [h1, h4]
  have e : PySem.W.subIn K (.type "NoneType") (.ref C) = some ([Value.type "NoneType", .type "object"].contains (.ref C)) := by
    show (fastBuiltinMro "NoneType").map _ = _
    rw [show fastBuiltinMro "NoneType" = some [Value.type "NoneType", .type "object"] from by decide +kernel]
    rfl
  rw [if_pos (by rfl), e]
  simp
theorem at_put {A : Hp} {tp : HO} {t D : Addr} (_ : Same A (upd A t tp)) : upd (upd A t tp) D (.lst [.ref t]) D = some (.lst [.ref t]) := upd_same
theorem at_put2 {A : Hp} {tp : HO} {t D : Addr} (_ : Same A (upd A t tp)) (ne : t ≠ D) : upd (upd A t tp) D (.lst [.ref t]) t = some tp := (upd_ne ne).trans upd_same
theorem any_no {K : PySem.W.Frag} {t c : Value} {r : List Value} {b : Bool} (h : PySem.W.kitOne K t c = some false) (g : PySem.W.kitAny K t r = some b) : PySem.W.kitAny K t (c :: r) = some b := by
  unfold PySem.W.kitAny
  rw [h]
  exact g
theorem any_yes {K : PySem.W.Frag} {t c : Value} {r : List Value} (h : PySem.W.kitOne K t c = some true) : PySem.W.kitAny K t (c :: r) = some true := by
  unfold PySem.W.kitAny
  rw [h]
theorem kit_yes {K : PySem.W.Frag} {C : Addr} : PySem.W.kitOne K (.ref C) (.ref C) = some true := by
  unfold PySem.W.kitOne
  rw [beq_self_eq_true, if_pos rfl]
theorem kit_no {K : PySem.W.Frag} {D C : Addr} (d : Ed K cE D) (kC : Kl K (.ref cE :: veL) C) (ne : C ≠ cE) (h : D ≠ C) : PySem.W.kitOne K (.ref D) (.ref C) = some false := by
  rw [d.kit kC ne, decide_eq_false h]
/-- the error that a call let out: its class, its dict, what is told of it -/
def Out (K : PySem.W.Frag) (c0 c1 c2 c3 c4 c5 c6 c7 c8 c9 c10 c11 D : Addr) (Q : VK) : XK := fun cls d H => ∃ (C dd : Addr) (v : V) (pd : PyData) (f word : Str), cls = .ref C ∧ d = some dd ∧ H D = some (.lst []) ∧ H dd = some (.xd [(f, v)]) ∧ Dz K H v pd ∧ pd.showable = true ∧ pd.depth ≤ 60 ∧ pd.shown.length ≤ sizeLine ∧
  (C = c0 ∧ f = "value" ∧ word = "number" ∨ C = c1 ∧ f = "value" ∧ word = "date" ∨ C = c2 ∧ f = "value" ∧ word = "days" ∨ C = c3 ∧ f = "value" ∧ word = "yearly" ∨ C = c7 ∧ f = "value" ∧ word = "word" ∨ C = c4 ∧ f = "index" ∧ word = "index" ∨ C = c6 ∧ f = "index" ∧ word = "index" ∨ C = c9 ∧ f = "index" ∧ word = "index" ∨ C = c10 ∧ f = "index" ∧ word = "index" ∨ C = c8 ∧ f = "number" ∧ word = "few" ∨ C = c11 ∧ f = "line" ∧ word = "text") ∧
  ∀ (t : Addr) (H2 : Hp), (∀ b o, H b = some o → b ≠ D → H2 b = some o) → H2 t = some (.tup [.str word, .str pd.shown]) → Q (.ref t) H2
def TRais (K : PySem.W.Frag) (c0 c1 c2 c3 c4 c5 c6 c7 c8 c9 c10 c11 : Addr) : (XK → Hp → VK → Prop) → Hp → VK → Prop := fun tl H Q => ∀ D, H D = none → tl (Out K c0 c1 c2 c3 c4 c5 c6 c7 c8 c9 c10 c11 D Q) (upd H D (.lst [])) fun _ H' => ∀ H2, Same H' H2 → Q .non H2

theorem scLawRaised : FnScope ["work", "caught", "found", "e"] ["work"] (defScope sLawRaised) := ⟨rfl, rfl, rfl, by decide +kernel, rfl, by decide +kernel, by decide +kernel⟩
set_option maxHeartbeats 4000000 in
theorem raised_gives {X : Cx} {mg : Str → Option Value} {q : Str} {g : Addr} {cdg : Value} (hm : X.mg = mg) (T : Nm mg) (tv : mg "ValueError" = none) (L : Cls X.K mg cE c0 c1 c2 c3 c4 c5 c6 c7 c8 c9 c10 c11) (gd : X.A.guards = some []) (hu : X.A.units + 80 < cLine)
    (g0_value : PySem.W.findIn X.K (.ref c0) "value" = some none)
    (g1_value : PySem.W.findIn X.K (.ref c1) "value" = some none)
    (g2_value : PySem.W.findIn X.K (.ref c2) "value" = some none)
    (g3_value : PySem.W.findIn X.K (.ref c3) "value" = some none)
    (g7_value : PySem.W.findIn X.K (.ref c7) "value" = some none)
    (g4_index : PySem.W.findIn X.K (.ref c4) "index" = some none)
    (g6_index : PySem.W.findIn X.K (.ref c6) "index" = some none)
    (g9_index : PySem.W.findIn X.K (.ref c9) "index" = some none)
    (g10_index : PySem.W.findIn X.K (.ref c10) "index" = some none)
    (g8_number : PySem.W.findIn X.K (.ref c8) "number" = some none)
    (g5_year : PySem.W.findIn X.K (.ref c5) "year" = some none)
    (g5_index : PySem.W.findIn X.K (.ref c5) "index" = some none)
    (g11_line : PySem.W.findIn X.K (.ref c11) "line" = some none) :
    Made X ["work", "caught", "found", "e"] "_law_raised" (defScope sLawRaised) g cdg (defBody sLawRaised) "work" q (TRais X.K c0 c1 c2 c3 c4 c5 c6 c7 c8 c9 c10 c11) := by
  subst hm
  intro fw c' s H Q tl act hc h
  have nd := scLawRaised.nd
  have hu64 : X.A.units + 3 + 64 < cLine := by omega
  have R1 : CallR ((inDef X ["work", "caught", "found", "e"] "_law_raised" (defScope sLawRaised) g cdg s H).nox) (.builtin "repr") (rReprI X.K) := call_reprI (X := ((inDef X ["work", "caught", "found", "e"] "_law_raised" (defScope sLawRaised) g cdg s H).nox)) gd hu64
  have R2 : ∀ (a : Addr) (oe : Obj), CallR (keptX ((inDef X ["work", "caught", "found", "e"] "_law_raised" (defScope sLawRaised) g cdg s H).nox) a oe) (.builtin "repr") (rReprI X.K) := fun a oe => call_reprI (X := keptX ((inDef X ["work", "caught", "found", "e"] "_law_raised" (defScope sLawRaised) g cdg s H).nox) a oe) gd hu64
  have pT : bootBuiltins "repr" = some (.builtin "repr") := by decide +kernel
  have pI : bootBuiltins "isinstance" = some (.builtin "isinstance") := by decide +kernel
  have n0 := kit_non L.k0
  have n1 := kit_non L.k1
  have n2 := kit_non L.k2
  have n3 := kit_non L.k3
  have n4 := kit_non L.k4
  have n5 := kit_non L.k5
  have n6 := kit_non L.k6
  have n7 := kit_non L.k7
  have n8 := kit_non L.k8
  have n9 := kit_non L.k9
  have n10 := kit_non L.k10
  have n11 := kit_non L.k11
  refine ⟨_, pss_cons (ps_par (i := 1) (j := 2) (by rfl) nd rfl rfl (by decide) rfl rfl (pa_cons pe_non (pa_cons (pe_lst pa_nil) pa_nil)) (by rfl))
      (pss_tryKeep (X := (inDef X ["work", "caught", "found", "e"] "_law_raised" (defScope sLawRaised) g cdg s H).nox) (i := 3) (j := 1) (c := .ref cE) (tb := fun W D σ H => ∃ (E : XK) (Q0 : VK), (∀ cls d H', E cls d H' → W cls d σ H') ∧ σ[0]? = some (some (.ref fw)) ∧ H c' = some (CodeO c' q) ∧ tl E H Q0 ∧ ∀ v H', Q0 v H' → D.nx σ H')
        rfl rfl nd rfl rfl rfl rfl ⟨rfl, by decide, .inl L.mE⟩ L2.takes0 (fun W pn xe tk _ => ?_)
        (pss_cons (ps_if (pt_val (pe_callB call_isi (by rfl) T.isinstance pI (pa_cons (pv 1) (pa_cons (pe_glob (v := .ref c0) rfl L.m0 rfl) pa_nil)))) (pss_one (ps_expr (pe_bm PySem.F.plainAttrs_list PySem.F.slot_list_append PySem.F.type_list_append mt_append (pv 2) (pa_cons (pe_tup (pa_cons pe_str (pa_cons (pe_callB R1 (by rfl) T.repr pT (pa_cons (pe_never (pv 1)) pa_nil)) pa_nil))) pa_nil)))) pss_nil)
      (pss_cons (ps_if (pt_val (pe_callB call_isi (by rfl) T.isinstance pI (pa_cons (pv 1) (pa_cons (pe_glob (v := .ref c1) rfl L.m1 rfl) pa_nil)))) (pss_one (ps_expr (pe_bm PySem.F.plainAttrs_list PySem.F.slot_list_append PySem.F.type_list_append mt_append (pv 2) (pa_cons (pe_tup (pa_cons pe_str (pa_cons (pe_callB R1 (by rfl) T.repr pT (pa_cons (pe_never (pv 1)) pa_nil)) pa_nil))) pa_nil)))) pss_nil)
      (pss_cons (ps_if (pt_val (pe_callB call_isi (by rfl) T.isinstance pI (pa_cons (pv 1) (pa_cons (pe_glob (v := .ref c2) rfl L.m2 rfl) pa_nil)))) (pss_one (ps_expr (pe_bm PySem.F.plainAttrs_list PySem.F.slot_list_append PySem.F.type_list_append mt_append (pv 2) (pa_cons (pe_tup (pa_cons pe_str (pa_cons (pe_callB R1 (by rfl) T.repr pT (pa_cons (pe_never (pv 1)) pa_nil)) pa_nil))) pa_nil)))) pss_nil)
      (pss_cons (ps_if (pt_val (pe_callB call_isi (by rfl) T.isinstance pI (pa_cons (pv 1) (pa_cons (pe_glob (v := .ref c3) rfl L.m3 rfl) pa_nil)))) (pss_one (ps_expr (pe_bm PySem.F.plainAttrs_list PySem.F.slot_list_append PySem.F.type_list_append mt_append (pv 2) (pa_cons (pe_tup (pa_cons pe_str (pa_cons (pe_callB R1 (by rfl) T.repr pT (pa_cons (pe_never (pv 1)) pa_nil)) pa_nil))) pa_nil)))) pss_nil)
      (pss_cons (ps_if (pt_val (pe_callB call_isi (by rfl) T.isinstance pI (pa_cons (pv 1) (pa_cons (pe_glob (v := .ref c7) rfl L.m7 rfl) pa_nil)))) (pss_one (ps_expr (pe_bm PySem.F.plainAttrs_list PySem.F.slot_list_append PySem.F.type_list_append mt_append (pv 2) (pa_cons (pe_tup (pa_cons pe_str (pa_cons (pe_callB R1 (by rfl) T.repr pT (pa_cons (pe_never (pv 1)) pa_nil)) pa_nil))) pa_nil)))) pss_nil)
      (pss_cons (ps_if (pt_val (pe_callB call_isiT (by rfl) T.isinstance pI (pa_cons (pv 1) (pa_cons (pe_tup (pa_cons (pe_glob (v := .ref c4) rfl L.m4 rfl) (pa_cons (pe_glob (v := .ref c6) rfl L.m6 rfl) (pa_cons (pe_glob (v := .ref c9) rfl L.m9 rfl) (pa_cons (pe_glob (v := .ref c10) rfl L.m10 rfl) pa_nil))))) pa_nil)))) (pss_one (ps_expr (pe_bm PySem.F.plainAttrs_list PySem.F.slot_list_append PySem.F.type_list_append mt_append (pv 2) (pa_cons (pe_tup (pa_cons pe_str (pa_cons (pe_callB R1 (by rfl) T.repr pT (pa_cons (pe_never (pv 1)) pa_nil)) pa_nil))) pa_nil)))) pss_nil)
      (pss_cons (ps_if (pt_val (pe_callB call_isi (by rfl) T.isinstance pI (pa_cons (pv 1) (pa_cons (pe_glob (v := .ref c8) rfl L.m8 rfl) pa_nil)))) (pss_one (ps_expr (pe_bm PySem.F.plainAttrs_list PySem.F.slot_list_append PySem.F.type_list_append mt_append (pv 2) (pa_cons (pe_tup (pa_cons pe_str (pa_cons (pe_callB R1 (by rfl) T.repr pT (pa_cons (pe_never (pv 1)) pa_nil)) pa_nil))) pa_nil)))) pss_nil)
      (pss_cons (ps_if (pt_val (pe_callB call_isi (by rfl) T.isinstance pI (pa_cons (pv 1) (pa_cons (pe_glob (v := .ref c5) rfl L.m5 rfl) pa_nil)))) (pss_one (ps_expr (pe_bm PySem.F.plainAttrs_list PySem.F.slot_list_append PySem.F.type_list_append mt_append (pv 2) (pa_cons (pe_tup (pa_cons pe_str (pa_cons (pe_callB R1 (by rfl) T.repr pT (pa_cons (pe_tup (pa_cons (pe_never (pv 1)) (pa_cons (pe_never (pv 1)) pa_nil))) pa_nil)) pa_nil))) pa_nil)))) pss_nil)
      (pss_cons (ps_if (pt_val (pe_callB call_isi (by rfl) T.isinstance pI (pa_cons (pv 1) (pa_cons (pe_glob (v := .ref c11) rfl L.m11 rfl) pa_nil)))) (pss_one (ps_expr (pe_bm PySem.F.plainAttrs_list PySem.F.slot_list_append PySem.F.type_list_append mt_append (pv 2) (pa_cons (pe_tup (pa_cons pe_str (pa_cons (pe_callB R1 (by rfl) T.repr pT (pa_cons (pe_never (pv 1)) pa_nil)) pa_nil))) pa_nil)))) pss_nil)
      (pss_cons (ps_if (pt_cmpR op_isN (pv 1) pe_non (nomark _)) (pss_one (ps_ret pe_non)) pss_nil)
      (pss_one (ps_ret (pe_ifExp (PW.pt (pw_and (pt_cmpR op_eq (pe_callB call_len_seq (by rfl) T.len PySem.boot_len (pa_cons (pv 2) pa_nil)) pe_int (nomark _)) (pw_and1 (pt_val (pe_callB call_isi (by rfl) T.isinstance pI (pa_cons (pv 1) (pa_cons (pe_bltn (v := .ty "ValueError") (u := .type "ValueError") rfl tv (by decide +kernel) rfl) pa_nil))))))) (pe_ix ix_list (pv 2) pe_int (fun _ _ => rfl)) (pe_tup (pa_cons pe_str (pa_cons pe_str pa_nil))))))))))))))))), ?_⟩
  · refine ⟨fun pins s1 σ1 H1 D I h1 => ?_⟩
    obtain ⟨E, Q0, low, slot, code, go, done⟩ := h1
    have hp : ∀ p1 p2 : Pos, PE ((inDef X ["work", "caught", "found", "e"] "_law_raised" (defScope sLawRaised) g cdg s H).tr pn xe) (.Call (.Name "work" p1) [] [] p2) (fun σ1 H1 Q1 => ∃ Q0 : VK, (σ1[0]? = some (some (.ref fw)) ∧ H1 c' = some (CodeO c' q) ∧ (∀ cls d H', E cls d H' → W cls d σ1 H') ∧ tl E H1 Q0) ∧ ∀ v H', Q0 v H' → Q1 v H') :=
      fun p1 p2 => ⟨fun pins s σ H Q1 I ⟨Q0, z1, z2⟩ => PySem.wpAny_mono ((act W pn xe E p1 p2 tk).run pins s σ H Q0 I z1) (fun u s' ⟨v, H', I', r, z3⟩ => ⟨v, H', I', r, z2 v H' z3⟩) fun _ _ z => z⟩
    exact (pss_one (ps_expr (hp _ _))).run pins s1 σ1 H1 D I ⟨Q0, ⟨slot, code, low, go⟩, fun v H' z => done v H' z⟩
  · refine ⟨by show 0 ≤ sizeLine; decide, fun D hD => ⟨_, _, rfl, ?_⟩⟩
    refine ⟨Out X.K c0 c1 c2 c3 c4 c5 c6 c7 c8 c9 c10 c11 D Q, _, fun cls d H' out => ?_, rfl, Same.new hD _ _ hc, h D hD, fun v H' end_ => ?_⟩
    · obtain ⟨C, dd, v, pd, f, word, rfl, rfl, hD0, hdd, dz, sh, dp, sz, which, tell⟩ := out
      have nd2 := (List.nodup_cons.mp L.nd).2
      simp only [List.nodup_cons, List.mem_cons, List.not_mem_nil, not_or, List.nodup_nil, or_false, not_false_eq_true, and_true] at nd2
      obtain ⟨⟨n0_1, n0_2, n0_3, n0_4, n0_5, n0_6, n0_7, n0_8, n0_9, n0_10, n0_11⟩, ⟨n1_2, n1_3, n1_4, n1_5, n1_6, n1_7, n1_8, n1_9, n1_10, n1_11⟩, ⟨n2_3, n2_4, n2_5, n2_6, n2_7, n2_8, n2_9, n2_10, n2_11⟩, ⟨n3_4, n3_5, n3_6, n3_7, n3_8, n3_9, n3_10, n3_11⟩, ⟨n4_5, n4_6, n4_7, n4_8, n4_9, n4_10, n4_11⟩, ⟨n5_6, n5_7, n5_8, n5_9, n5_10, n5_11⟩, ⟨n6_7, n6_8, n6_9, n6_10, n6_11⟩, ⟨n7_8, n7_9, n7_10, n7_11⟩, ⟨n8_9, n8_10, n8_11⟩, ⟨n9_10, n9_11⟩, n10_11⟩ := nd2
      rcases which with ⟨eC, rfl, rfl⟩ | ⟨eC, rfl, rfl⟩ | ⟨eC, rfl, rfl⟩ | ⟨eC, rfl, rfl⟩ | ⟨eC, rfl, rfl⟩ | ⟨eC, rfl, rfl⟩ | ⟨eC, rfl, rfl⟩ | ⟨eC, rfl, rfl⟩ | ⟨eC, rfl, rfl⟩ | ⟨eC, rfl, rfl⟩ | ⟨eC, rfl, rfl⟩
      · have eC2 := eC.symm
        subst eC2
        have d0 : Ed X.K cE c0 := ⟨_, L.k0, .inr rfl⟩
        have ee := d0.exc L.o
        have xf := L.k0.xf (up2 cE)
        have q0 := kit_yes (K := X.K) (C := c0)
        have q1 := kit_no d0 L.k1 (L.ne (by simp)) n0_1
        have q2 := kit_no d0 L.k2 (L.ne (by simp)) n0_2
        have q3 := kit_no d0 L.k3 (L.ne (by simp)) n0_3
        have q4 := kit_no d0 L.k4 (L.ne (by simp)) n0_4
        have q5 := kit_no d0 L.k5 (L.ne (by simp)) n0_5
        have q6 := kit_no d0 L.k6 (L.ne (by simp)) n0_6
        have q7 := kit_no d0 L.k7 (L.ne (by simp)) n0_7
        have q8 := kit_no d0 L.k8 (L.ne (by simp)) n0_8
        have q9 := kit_no d0 L.k9 (L.ne (by simp)) n0_9
        have q10 := kit_no d0 L.k10 (L.ne (by simp)) n0_10
        have q11 := kit_no d0 L.k11 (L.ne (by simp)) n0_11
        have exm : PySem.W.exmOne X.K (.ref c0) (.ref cE) = some true := PySem.W.exm_ref (by rw [L.kE.sub, List.contains_cons, up1.be, Bool.or_true]) L.kE.hd (by obtain ⟨_, _, _, _, z⟩ := L.kE.cls; exact z) (by rw [L.k0.sub, List.contains_cons, List.contains_cons, beq_self_eq_true, Bool.true_or, Bool.or_true])
        refine ⟨true, exm, fun _ a oe na hz hf => ?_, fun z => nomatch z⟩
        refine ⟨_, (pss_cons (ps_if (pt_val (pe_callB (call_isP (List.mem_cons_self ..) hz hf) (by rfl) T.isinstance pI (pa_cons (pv 1) (pa_cons (pe_glob (v := .ref c0) rfl L.m0 rfl) pa_nil)))) (pss_one (ps_expr (pe_bm PySem.F.plainAttrs_list PySem.F.slot_list_append PySem.F.type_list_append mt_append (pv 2) (pa_cons (pe_tup (pa_cons pe_str (pa_cons (pe_callB (R2 a oe) (by rfl) T.repr pT (pa_cons (pe_xp (List.mem_cons_self ..) hz hf (pv 1)) pa_nil)) pa_nil))) pa_nil)))) pss_nil)
      (pss_cons (ps_if (pt_val (pe_callB (call_isP (List.mem_cons_self ..) hz hf) (by rfl) T.isinstance pI (pa_cons (pv 1) (pa_cons (pe_glob (v := .ref c1) rfl L.m1 rfl) pa_nil)))) (pss_one (ps_expr (pe_bm PySem.F.plainAttrs_list PySem.F.slot_list_append PySem.F.type_list_append mt_append (pv 2) (pa_cons (pe_tup (pa_cons pe_str (pa_cons (pe_callB (R2 a oe) (by rfl) T.repr pT (pa_cons (pe_xp (List.mem_cons_self ..) hz hf (pv 1)) pa_nil)) pa_nil))) pa_nil)))) pss_nil)
      (pss_cons (ps_if (pt_val (pe_callB (call_isP (List.mem_cons_self ..) hz hf) (by rfl) T.isinstance pI (pa_cons (pv 1) (pa_cons (pe_glob (v := .ref c2) rfl L.m2 rfl) pa_nil)))) (pss_one (ps_expr (pe_bm PySem.F.plainAttrs_list PySem.F.slot_list_append PySem.F.type_list_append mt_append (pv 2) (pa_cons (pe_tup (pa_cons pe_str (pa_cons (pe_callB (R2 a oe) (by rfl) T.repr pT (pa_cons (pe_xp (List.mem_cons_self ..) hz hf (pv 1)) pa_nil)) pa_nil))) pa_nil)))) pss_nil)
      (pss_cons (ps_if (pt_val (pe_callB (call_isP (List.mem_cons_self ..) hz hf) (by rfl) T.isinstance pI (pa_cons (pv 1) (pa_cons (pe_glob (v := .ref c3) rfl L.m3 rfl) pa_nil)))) (pss_one (ps_expr (pe_bm PySem.F.plainAttrs_list PySem.F.slot_list_append PySem.F.type_list_append mt_append (pv 2) (pa_cons (pe_tup (pa_cons pe_str (pa_cons (pe_callB (R2 a oe) (by rfl) T.repr pT (pa_cons (pe_xp (List.mem_cons_self ..) hz hf (pv 1)) pa_nil)) pa_nil))) pa_nil)))) pss_nil)
      (pss_cons (ps_if (pt_val (pe_callB (call_isP (List.mem_cons_self ..) hz hf) (by rfl) T.isinstance pI (pa_cons (pv 1) (pa_cons (pe_glob (v := .ref c7) rfl L.m7 rfl) pa_nil)))) (pss_one (ps_expr (pe_bm PySem.F.plainAttrs_list PySem.F.slot_list_append PySem.F.type_list_append mt_append (pv 2) (pa_cons (pe_tup (pa_cons pe_str (pa_cons (pe_callB (R2 a oe) (by rfl) T.repr pT (pa_cons (pe_xp (List.mem_cons_self ..) hz hf (pv 1)) pa_nil)) pa_nil))) pa_nil)))) pss_nil)
      (pss_cons (ps_if (pt_val (pe_callB (call_isPT (List.mem_cons_self ..) hz hf) (by rfl) T.isinstance pI (pa_cons (pv 1) (pa_cons (pe_tup (pa_cons (pe_glob (v := .ref c4) rfl L.m4 rfl) (pa_cons (pe_glob (v := .ref c6) rfl L.m6 rfl) (pa_cons (pe_glob (v := .ref c9) rfl L.m9 rfl) (pa_cons (pe_glob (v := .ref c10) rfl L.m10 rfl) pa_nil))))) pa_nil)))) (pss_one (ps_expr (pe_bm PySem.F.plainAttrs_list PySem.F.slot_list_append PySem.F.type_list_append mt_append (pv 2) (pa_cons (pe_tup (pa_cons pe_str (pa_cons (pe_callB (R2 a oe) (by rfl) T.repr pT (pa_cons (pe_xp (List.mem_cons_self ..) hz hf (pv 1)) pa_nil)) pa_nil))) pa_nil)))) pss_nil)
      (pss_cons (ps_if (pt_val (pe_callB (call_isP (List.mem_cons_self ..) hz hf) (by rfl) T.isinstance pI (pa_cons (pv 1) (pa_cons (pe_glob (v := .ref c8) rfl L.m8 rfl) pa_nil)))) (pss_one (ps_expr (pe_bm PySem.F.plainAttrs_list PySem.F.slot_list_append PySem.F.type_list_append mt_append (pv 2) (pa_cons (pe_tup (pa_cons pe_str (pa_cons (pe_callB (R2 a oe) (by rfl) T.repr pT (pa_cons (pe_xp (List.mem_cons_self ..) hz hf (pv 1)) pa_nil)) pa_nil))) pa_nil)))) pss_nil)
      (pss_cons (ps_if (pt_val (pe_callB (call_isP (List.mem_cons_self ..) hz hf) (by rfl) T.isinstance pI (pa_cons (pv 1) (pa_cons (pe_glob (v := .ref c5) rfl L.m5 rfl) pa_nil)))) (pss_one (ps_expr (pe_bm PySem.F.plainAttrs_list PySem.F.slot_list_append PySem.F.type_list_append mt_append (pv 2) (pa_cons (pe_tup (pa_cons pe_str (pa_cons (pe_callB (R2 a oe) (by rfl) T.repr pT (pa_cons (pe_tup (pa_cons (pe_xp (List.mem_cons_self ..) hz hf (pv 1)) (pa_cons (pe_xp (List.mem_cons_self ..) hz hf (pv 1)) pa_nil))) pa_nil)) pa_nil))) pa_nil)))) pss_nil)
      (pss_cons (ps_if (pt_val (pe_callB (call_isP (List.mem_cons_self ..) hz hf) (by rfl) T.isinstance pI (pa_cons (pv 1) (pa_cons (pe_glob (v := .ref c11) rfl L.m11 rfl) pa_nil)))) (pss_one (ps_expr (pe_bm PySem.F.plainAttrs_list PySem.F.slot_list_append PySem.F.type_list_append mt_append (pv 2) (pa_cons (pe_tup (pa_cons pe_str (pa_cons (pe_callB (R2 a oe) (by rfl) T.repr pT (pa_cons (pe_xp (List.mem_cons_self ..) hz hf (pv 1)) pa_nil)) pa_nil))) pa_nil)))) pss_nil)
      (pss_cons (ps_if (pt_cmpR op_isN (pv 1) pe_non (nomark _)) (pss_one (ps_ret pe_non)) pss_nil)
      (pss_one (ps_ret (pe_ifExp (PW.pt (pw_and (pt_cmpR op_eq (pe_callB call_len_seq (by rfl) T.len PySem.boot_len (pa_cons (pv 2) pa_nil)) pe_int (nomark _)) (pw_and1 (pt_val (pe_callB (call_isP (List.mem_cons_self ..) hz hf) (by rfl) T.isinstance pI (pa_cons (pv 1) (pa_cons (pe_bltn (v := .ty "ValueError") (u := .type "ValueError") rfl tv (by decide +kernel) rfl) pa_nil))))))) (pe_ix ix_list (pv 2) pe_int (fun _ _ => rfl)) (pe_tup (pa_cons pe_str (pa_cons pe_str pa_nil)))))))))))))))), ?_⟩
        have s0 : Same H' H' := Same.refl H'
        refine ⟨_, rfl, .ref c0, _, true, rfl, .own c0, ee, q0, (fun _ z => by cases z; exact ⟨_, s0 _ _ hdd⟩), true, rfl, iteT ?_⟩
        have ndD : dd ≠ D := ne_of hdd hD0 (by intro z; cases z)
        refine ⟨_, rfl, .inl ⟨rfl, _, SqL.of (s0 _ _ hD0)⟩, _, rfl, dd, _, v, rfl, rfl, s0 _ _ hdd, xf, g0_value, rfl, v, pd, rfl, dz.keep s0, sh, dp, sz, (by show 2 ≤ sizeLine; decide), fun t nt => ?_⟩
        have w1 := Same.new (o := .tup [.str "number", .str pd.shown]) nt
        refine ⟨D, [], .ref t, rfl, rfl, w1 _ _ (s0 _ _ hD0), by decide, ?_⟩
        have ntD : t ≠ D := (ne_of_none (s0 _ _ hD0) nt).symm
        have B0 : ∀ b o, H' b = some o → b ≠ D → _ := fun b o z1 z2 => (upd_ne (o := .lst [.ref t]) z2).trans (w1 _ _ (s0 _ _ z1))
        have D0 := at_put (D := D) w1
        have t0_ := at_put2 w1 ntD
        refine ⟨_, rfl, .ref c1, _, false, rfl, .own c1, ee, q1, (fun _ z => by cases z; exact ⟨_, B0 _ _ hdd ndD⟩), false, rfl, iteF ?_⟩
        refine ⟨_, rfl, .ref c2, _, false, rfl, .own c2, ee, q2, (fun _ z => by cases z; exact ⟨_, B0 _ _ hdd ndD⟩), false, rfl, iteF ?_⟩
        refine ⟨_, rfl, .ref c3, _, false, rfl, .own c3, ee, q3, (fun _ z => by cases z; exact ⟨_, B0 _ _ hdd ndD⟩), false, rfl, iteF ?_⟩
        refine ⟨_, rfl, .ref c7, _, false, rfl, .own c7, ee, q7, (fun _ z => by cases z; exact ⟨_, B0 _ _ hdd ndD⟩), false, rfl, iteF ?_⟩
        refine ⟨_, rfl, (by show 4 ≤ sizeLine; decide), fun t1 m1 => ?_⟩
        have B1 : ∀ b o, H' b = some o → b ≠ D → _ := fun b o z1 z2 => Same.new (o := .tup [.ref c4, .ref c6, .ref c9, .ref c10]) m1 _ _ (B0 b o z1 z2)
        have D1 := Same.new (o := .tup [.ref c4, .ref c6, .ref c9, .ref c10]) m1 _ _ D0
        have t1_ := Same.new (o := .tup [.ref c4, .ref c6, .ref c9, .ref c10]) m1 _ _ t0_
        refine ⟨t1, _, _, false, rfl, upd_same, .cons (.own _) (.cons (.own _) (.cons (.own _) (.cons (.own _) .nil))), ee, (any_no q4 (any_no q6 (any_no q9 (any_no q10 rfl)))), (fun _ z => by cases z; exact ⟨_, B1 _ _ hdd ndD⟩), false, rfl, iteF ?_⟩
        refine ⟨_, rfl, .ref c8, _, false, rfl, .own c8, ee, q8, (fun _ z => by cases z; exact ⟨_, B1 _ _ hdd ndD⟩), false, rfl, iteF ?_⟩
        refine ⟨_, rfl, .ref c5, _, false, rfl, .own c5, ee, q5, (fun _ z => by cases z; exact ⟨_, B1 _ _ hdd ndD⟩), false, rfl, iteF ?_⟩
        refine ⟨_, rfl, .ref c11, _, false, rfl, .own c11, ee, q11, (fun _ z => by cases z; exact ⟨_, B1 _ _ hdd ndD⟩), false, rfl, iteF ?_⟩
        refine ⟨_, rfl, rfl, false, congrArg V.bl (decide_eq_false (fun z => nomatch z)), iteF ?_⟩
        refine ⟨_, rfl, D, _, rfl, .inl (SqL.of D1), rfl, true, congrArg V.bl (decide_eq_true rfl), iteT ?_⟩
        refine ⟨_, rfl, .ty "ValueError", _, true, rfl, .ty "ValueError", ee, d0.ve, (fun _ z => by cases z; exact ⟨_, B1 _ _ hdd ndD⟩), true, rfl, iteT ?_⟩
        exact ⟨_, rfl, D, _, 0, _, rfl, rfl, SqL.of D1, rfl, tell t _ B1 t1_⟩
      · have eC2 := eC.symm
        subst eC2
        have d1 : Ed X.K cE c1 := ⟨_, L.k1, .inr rfl⟩
        have ee := d1.exc L.o
        have xf := L.k1.xf (up2 cE)
        have q0 := kit_no d1 L.k0 (L.ne (by simp)) (Ne.symm n0_1)
        have q1 := kit_yes (K := X.K) (C := c1)
        have q2 := kit_no d1 L.k2 (L.ne (by simp)) n1_2
        have q3 := kit_no d1 L.k3 (L.ne (by simp)) n1_3
        have q4 := kit_no d1 L.k4 (L.ne (by simp)) n1_4
        have q5 := kit_no d1 L.k5 (L.ne (by simp)) n1_5
        have q6 := kit_no d1 L.k6 (L.ne (by simp)) n1_6
        have q7 := kit_no d1 L.k7 (L.ne (by simp)) n1_7
        have q8 := kit_no d1 L.k8 (L.ne (by simp)) n1_8
        have q9 := kit_no d1 L.k9 (L.ne (by simp)) n1_9
        have q10 := kit_no d1 L.k10 (L.ne (by simp)) n1_10
        have q11 := kit_no d1 L.k11 (L.ne (by simp)) n1_11
        have exm : PySem.W.exmOne X.K (.ref c1) (.ref cE) = some true := PySem.W.exm_ref (by rw [L.kE.sub, List.contains_cons, up1.be, Bool.or_true]) L.kE.hd (by obtain ⟨_, _, _, _, z⟩ := L.kE.cls; exact z) (by rw [L.k1.sub, List.contains_cons, List.contains_cons, beq_self_eq_true, Bool.true_or, Bool.or_true])
        refine ⟨true, exm, fun _ a oe na hz hf => ?_, fun z => nomatch z⟩
        refine ⟨_, (pss_cons (ps_if (pt_val (pe_callB (call_isP (List.mem_cons_self ..) hz hf) (by rfl) T.isinstance pI (pa_cons (pv 1) (pa_cons (pe_glob (v := .ref c0) rfl L.m0 rfl) pa_nil)))) (pss_one (ps_expr (pe_bm PySem.F.plainAttrs_list PySem.F.slot_list_append PySem.F.type_list_append mt_append (pv 2) (pa_cons (pe_tup (pa_cons pe_str (pa_cons (pe_callB (R2 a oe) (by rfl) T.repr pT (pa_cons (pe_xp (List.mem_cons_self ..) hz hf (pv 1)) pa_nil)) pa_nil))) pa_nil)))) pss_nil)
      (pss_cons (ps_if (pt_val (pe_callB (call_isP (List.mem_cons_self ..) hz hf) (by rfl) T.isinstance pI (pa_cons (pv 1) (pa_cons (pe_glob (v := .ref c1) rfl L.m1 rfl) pa_nil)))) (pss_one (ps_expr (pe_bm PySem.F.plainAttrs_list PySem.F.slot_list_append PySem.F.type_list_append mt_append (pv 2) (pa_cons (pe_tup (pa_cons pe_str (pa_cons (pe_callB (R2 a oe) (by rfl) T.repr pT (pa_cons (pe_xp (List.mem_cons_self ..) hz hf (pv 1)) pa_nil)) pa_nil))) pa_nil)))) pss_nil)
      (pss_cons (ps_if (pt_val (pe_callB (call_isP (List.mem_cons_self ..) hz hf) (by rfl) T.isinstance pI (pa_cons (pv 1) (pa_cons (pe_glob (v := .ref c2) rfl L.m2 rfl) pa_nil)))) (pss_one (ps_expr (pe_bm PySem.F.plainAttrs_list PySem.F.slot_list_append PySem.F.type_list_append mt_append (pv 2) (pa_cons (pe_tup (pa_cons pe_str (pa_cons (pe_callB (R2 a oe) (by rfl) T.repr pT (pa_cons (pe_xp (List.mem_cons_self ..) hz hf (pv 1)) pa_nil)) pa_nil))) pa_nil)))) pss_nil)
      (pss_cons (ps_if (pt_val (pe_callB (call_isP (List.mem_cons_self ..) hz hf) (by rfl) T.isinstance pI (pa_cons (pv 1) (pa_cons (pe_glob (v := .ref c3) rfl L.m3 rfl) pa_nil)))) (pss_one (ps_expr (pe_bm PySem.F.plainAttrs_list PySem.F.slot_list_append PySem.F.type_list_append mt_append (pv 2) (pa_cons (pe_tup (pa_cons pe_str (pa_cons (pe_callB (R2 a oe) (by rfl) T.repr pT (pa_cons (pe_xp (List.mem_cons_self ..) hz hf (pv 1)) pa_nil)) pa_nil))) pa_nil)))) pss_nil)
      (pss_cons (ps_if (pt_val (pe_callB (call_isP (List.mem_cons_self ..) hz hf) (by rfl) T.isinstance pI (pa_cons (pv 1) (pa_cons (pe_glob (v := .ref c7) rfl L.m7 rfl) pa_nil)))) (pss_one (ps_expr (pe_bm PySem.F.plainAttrs_list PySem.F.slot_list_append PySem.F.type_list_append mt_append (pv 2) (pa_cons (pe_tup (pa_cons pe_str (pa_cons (pe_callB (R2 a oe) (by rfl) T.repr pT (pa_cons (pe_xp (List.mem_cons_self ..) hz hf (pv 1)) pa_nil)) pa_nil))) pa_nil)))) pss_nil)
      (pss_cons (ps_if (pt_val (pe_callB (call_isPT (List.mem_cons_self ..) hz hf) (by rfl) T.isinstance pI (pa_cons (pv 1) (pa_cons (pe_tup (pa_cons (pe_glob (v := .ref c4) rfl L.m4 rfl) (pa_cons (pe_glob (v := .ref c6) rfl L.m6 rfl) (pa_cons (pe_glob (v := .ref c9) rfl L.m9 rfl) (pa_cons (pe_glob (v := .ref c10) rfl L.m10 rfl) pa_nil))))) pa_nil)))) (pss_one (ps_expr (pe_bm PySem.F.plainAttrs_list PySem.F.slot_list_append PySem.F.type_list_append mt_append (pv 2) (pa_cons (pe_tup (pa_cons pe_str (pa_cons (pe_callB (R2 a oe) (by rfl) T.repr pT (pa_cons (pe_xp (List.mem_cons_self ..) hz hf (pv 1)) pa_nil)) pa_nil))) pa_nil)))) pss_nil)
      (pss_cons (ps_if (pt_val (pe_callB (call_isP (List.mem_cons_self ..) hz hf) (by rfl) T.isinstance pI (pa_cons (pv 1) (pa_cons (pe_glob (v := .ref c8) rfl L.m8 rfl) pa_nil)))) (pss_one (ps_expr (pe_bm PySem.F.plainAttrs_list PySem.F.slot_list_append PySem.F.type_list_append mt_append (pv 2) (pa_cons (pe_tup (pa_cons pe_str (pa_cons (pe_callB (R2 a oe) (by rfl) T.repr pT (pa_cons (pe_xp (List.mem_cons_self ..) hz hf (pv 1)) pa_nil)) pa_nil))) pa_nil)))) pss_nil)
      (pss_cons (ps_if (pt_val (pe_callB (call_isP (List.mem_cons_self ..) hz hf) (by rfl) T.isinstance pI (pa_cons (pv 1) (pa_cons (pe_glob (v := .ref c5) rfl L.m5 rfl) pa_nil)))) (pss_one (ps_expr (pe_bm PySem.F.plainAttrs_list PySem.F.slot_list_append PySem.F.type_list_append mt_append (pv 2) (pa_cons (pe_tup (pa_cons pe_str (pa_cons (pe_callB (R2 a oe) (by rfl) T.repr pT (pa_cons (pe_tup (pa_cons (pe_xp (List.mem_cons_self ..) hz hf (pv 1)) (pa_cons (pe_xp (List.mem_cons_self ..) hz hf (pv 1)) pa_nil))) pa_nil)) pa_nil))) pa_nil)))) pss_nil)
      (pss_cons (ps_if (pt_val (pe_callB (call_isP (List.mem_cons_self ..) hz hf) (by rfl) T.isinstance pI (pa_cons (pv 1) (pa_cons (pe_glob (v := .ref c11) rfl L.m11 rfl) pa_nil)))) (pss_one (ps_expr (pe_bm PySem.F.plainAttrs_list PySem.F.slot_list_append PySem.F.type_list_append mt_append (pv 2) (pa_cons (pe_tup (pa_cons pe_str (pa_cons (pe_callB (R2 a oe) (by rfl) T.repr pT (pa_cons (pe_xp (List.mem_cons_self ..) hz hf (pv 1)) pa_nil)) pa_nil))) pa_nil)))) pss_nil)
      (pss_cons (ps_if (pt_cmpR op_isN (pv 1) pe_non (nomark _)) (pss_one (ps_ret pe_non)) pss_nil)
      (pss_one (ps_ret (pe_ifExp (PW.pt (pw_and (pt_cmpR op_eq (pe_callB call_len_seq (by rfl) T.len PySem.boot_len (pa_cons (pv 2) pa_nil)) pe_int (nomark _)) (pw_and1 (pt_val (pe_callB (call_isP (List.mem_cons_self ..) hz hf) (by rfl) T.isinstance pI (pa_cons (pv 1) (pa_cons (pe_bltn (v := .ty "ValueError") (u := .type "ValueError") rfl tv (by decide +kernel) rfl) pa_nil))))))) (pe_ix ix_list (pv 2) pe_int (fun _ _ => rfl)) (pe_tup (pa_cons pe_str (pa_cons pe_str pa_nil)))))))))))))))), ?_⟩
        have s0 : Same H' H' := Same.refl H'
        refine ⟨_, rfl, .ref c0, _, false, rfl, .own c0, ee, q0, (fun _ z => by cases z; exact ⟨_, s0 _ _ hdd⟩), false, rfl, iteF ?_⟩
        refine ⟨_, rfl, .ref c1, _, true, rfl, .own c1, ee, q1, (fun _ z => by cases z; exact ⟨_, s0 _ _ hdd⟩), true, rfl, iteT ?_⟩
        have ndD : dd ≠ D := ne_of hdd hD0 (by intro z; cases z)
        refine ⟨_, rfl, .inl ⟨rfl, _, SqL.of (s0 _ _ hD0)⟩, _, rfl, dd, _, v, rfl, rfl, s0 _ _ hdd, xf, g1_value, rfl, v, pd, rfl, dz.keep s0, sh, dp, sz, (by show 2 ≤ sizeLine; decide), fun t nt => ?_⟩
        have w1 := Same.new (o := .tup [.str "date", .str pd.shown]) nt
        refine ⟨D, [], .ref t, rfl, rfl, w1 _ _ (s0 _ _ hD0), by decide, ?_⟩
        have ntD : t ≠ D := (ne_of_none (s0 _ _ hD0) nt).symm
        have B0 : ∀ b o, H' b = some o → b ≠ D → _ := fun b o z1 z2 => (upd_ne (o := .lst [.ref t]) z2).trans (w1 _ _ (s0 _ _ z1))
        have D0 := at_put (D := D) w1
        have t0_ := at_put2 w1 ntD
        refine ⟨_, rfl, .ref c2, _, false, rfl, .own c2, ee, q2, (fun _ z => by cases z; exact ⟨_, B0 _ _ hdd ndD⟩), false, rfl, iteF ?_⟩
        refine ⟨_, rfl, .ref c3, _, false, rfl, .own c3, ee, q3, (fun _ z => by cases z; exact ⟨_, B0 _ _ hdd ndD⟩), false, rfl, iteF ?_⟩
        refine ⟨_, rfl, .ref c7, _, false, rfl, .own c7, ee, q7, (fun _ z => by cases z; exact ⟨_, B0 _ _ hdd ndD⟩), false, rfl, iteF ?_⟩
        refine ⟨_, rfl, (by show 4 ≤ sizeLine; decide), fun t1 m1 => ?_⟩
        have B1 : ∀ b o, H' b = some o → b ≠ D → _ := fun b o z1 z2 => Same.new (o := .tup [.ref c4, .ref c6, .ref c9, .ref c10]) m1 _ _ (B0 b o z1 z2)
        have D1 := Same.new (o := .tup [.ref c4, .ref c6, .ref c9, .ref c10]) m1 _ _ D0
        have t1_ := Same.new (o := .tup [.ref c4, .ref c6, .ref c9, .ref c10]) m1 _ _ t0_
        refine ⟨t1, _, _, false, rfl, upd_same, .cons (.own _) (.cons (.own _) (.cons (.own _) (.cons (.own _) .nil))), ee, (any_no q4 (any_no q6 (any_no q9 (any_no q10 rfl)))), (fun _ z => by cases z; exact ⟨_, B1 _ _ hdd ndD⟩), false, rfl, iteF ?_⟩
        refine ⟨_, rfl, .ref c8, _, false, rfl, .own c8, ee, q8, (fun _ z => by cases z; exact ⟨_, B1 _ _ hdd ndD⟩), false, rfl, iteF ?_⟩
        refine ⟨_, rfl, .ref c5, _, false, rfl, .own c5, ee, q5, (fun _ z => by cases z; exact ⟨_, B1 _ _ hdd ndD⟩), false, rfl, iteF ?_⟩
        refine ⟨_, rfl, .ref c11, _, false, rfl, .own c11, ee, q11, (fun _ z => by cases z; exact ⟨_, B1 _ _ hdd ndD⟩), false, rfl, iteF ?_⟩
        refine ⟨_, rfl, rfl, false, congrArg V.bl (decide_eq_false (fun z => nomatch z)), iteF ?_⟩
        refine ⟨_, rfl, D, _, rfl, .inl (SqL.of D1), rfl, true, congrArg V.bl (decide_eq_true rfl), iteT ?_⟩
        refine ⟨_, rfl, .ty "ValueError", _, true, rfl, .ty "ValueError", ee, d1.ve, (fun _ z => by cases z; exact ⟨_, B1 _ _ hdd ndD⟩), true, rfl, iteT ?_⟩
        exact ⟨_, rfl, D, _, 0, _, rfl, rfl, SqL.of D1, rfl, tell t _ B1 t1_⟩
      · have eC2 := eC.symm
        subst eC2
        have d2 : Ed X.K cE c2 := ⟨_, L.k2, .inr rfl⟩
        have ee := d2.exc L.o
        have xf := L.k2.xf (up2 cE)
        have q0 := kit_no d2 L.k0 (L.ne (by simp)) (Ne.symm n0_2)
        have q1 := kit_no d2 L.k1 (L.ne (by simp)) (Ne.symm n1_2)
        have q2 := kit_yes (K := X.K) (C := c2)
        have q3 := kit_no d2 L.k3 (L.ne (by simp)) n2_3
        have q4 := kit_no d2 L.k4 (L.ne (by simp)) n2_4
        have q5 := kit_no d2 L.k5 (L.ne (by simp)) n2_5
        have q6 := kit_no d2 L.k6 (L.ne (by simp)) n2_6
        have q7 := kit_no d2 L.k7 (L.ne (by simp)) n2_7
        have q8 := kit_no d2 L.k8 (L.ne (by simp)) n2_8
        have q9 := kit_no d2 L.k9 (L.ne (by simp)) n2_9
        have q10 := kit_no d2 L.k10 (L.ne (by simp)) n2_10
        have q11 := kit_no d2 L.k11 (L.ne (by simp)) n2_11
        have exm : PySem.W.exmOne X.K (.ref c2) (.ref cE) = some true := PySem.W.exm_ref (by rw [L.kE.sub, List.contains_cons, up1.be, Bool.or_true]) L.kE.hd (by obtain ⟨_, _, _, _, z⟩ := L.kE.cls; exact z) (by rw [L.k2.sub, List.contains_cons, List.contains_cons, beq_self_eq_true, Bool.true_or, Bool.or_true])
        refine ⟨true, exm, fun _ a oe na hz hf => ?_, fun z => nomatch z⟩
        refine ⟨_, (pss_cons (ps_if (pt_val (pe_callB (call_isP (List.mem_cons_self ..) hz hf) (by rfl) T.isinstance pI (pa_cons (pv 1) (pa_cons (pe_glob (v := .ref c0) rfl L.m0 rfl) pa_nil)))) (pss_one (ps_expr (pe_bm PySem.F.plainAttrs_list PySem.F.slot_list_append PySem.F.type_list_append mt_append (pv 2) (pa_cons (pe_tup (pa_cons pe_str (pa_cons (pe_callB (R2 a oe) (by rfl) T.repr pT (pa_cons (pe_xp (List.mem_cons_self ..) hz hf (pv 1)) pa_nil)) pa_nil))) pa_nil)))) pss_nil)
      (pss_cons (ps_if (pt_val (pe_callB (call_isP (List.mem_cons_self ..) hz hf) (by rfl) T.isinstance pI (pa_cons (pv 1) (pa_cons (pe_glob (v := .ref c1) rfl L.m1 rfl) pa_nil)))) (pss_one (ps_expr (pe_bm PySem.F.plainAttrs_list PySem.F.slot_list_append PySem.F.type_list_append mt_append (pv 2) (pa_cons (pe_tup (pa_cons pe_str (pa_cons (pe_callB (R2 a oe) (by rfl) T.repr pT (pa_cons (pe_xp (List.mem_cons_self ..) hz hf (pv 1)) pa_nil)) pa_nil))) pa_nil)))) pss_nil)
      (pss_cons (ps_if (pt_val (pe_callB (call_isP (List.mem_cons_self ..) hz hf) (by rfl) T.isinstance pI (pa_cons (pv 1) (pa_cons (pe_glob (v := .ref c2) rfl L.m2 rfl) pa_nil)))) (pss_one (ps_expr (pe_bm PySem.F.plainAttrs_list PySem.F.slot_list_append PySem.F.type_list_append mt_append (pv 2) (pa_cons (pe_tup (pa_cons pe_str (pa_cons (pe_callB (R2 a oe) (by rfl) T.repr pT (pa_cons (pe_xp (List.mem_cons_self ..) hz hf (pv 1)) pa_nil)) pa_nil))) pa_nil)))) pss_nil)
      (pss_cons (ps_if (pt_val (pe_callB (call_isP (List.mem_cons_self ..) hz hf) (by rfl) T.isinstance pI (pa_cons (pv 1) (pa_cons (pe_glob (v := .ref c3) rfl L.m3 rfl) pa_nil)))) (pss_one (ps_expr (pe_bm PySem.F.plainAttrs_list PySem.F.slot_list_append PySem.F.type_list_append mt_append (pv 2) (pa_cons (pe_tup (pa_cons pe_str (pa_cons (pe_callB (R2 a oe) (by rfl) T.repr pT (pa_cons (pe_xp (List.mem_cons_self ..) hz hf (pv 1)) pa_nil)) pa_nil))) pa_nil)))) pss_nil)
      (pss_cons (ps_if (pt_val (pe_callB (call_isP (List.mem_cons_self ..) hz hf) (by rfl) T.isinstance pI (pa_cons (pv 1) (pa_cons (pe_glob (v := .ref c7) rfl L.m7 rfl) pa_nil)))) (pss_one (ps_expr (pe_bm PySem.F.plainAttrs_list PySem.F.slot_list_append PySem.F.type_list_append mt_append (pv 2) (pa_cons (pe_tup (pa_cons pe_str (pa_cons (pe_callB (R2 a oe) (by rfl) T.repr pT (pa_cons (pe_xp (List.mem_cons_self ..) hz hf (pv 1)) pa_nil)) pa_nil))) pa_nil)))) pss_nil)
      (pss_cons (ps_if (pt_val (pe_callB (call_isPT (List.mem_cons_self ..) hz hf) (by rfl) T.isinstance pI (pa_cons (pv 1) (pa_cons (pe_tup (pa_cons (pe_glob (v := .ref c4) rfl L.m4 rfl) (pa_cons (pe_glob (v := .ref c6) rfl L.m6 rfl) (pa_cons (pe_glob (v := .ref c9) rfl L.m9 rfl) (pa_cons (pe_glob (v := .ref c10) rfl L.m10 rfl) pa_nil))))) pa_nil)))) (pss_one (ps_expr (pe_bm PySem.F.plainAttrs_list PySem.F.slot_list_append PySem.F.type_list_append mt_append (pv 2) (pa_cons (pe_tup (pa_cons pe_str (pa_cons (pe_callB (R2 a oe) (by rfl) T.repr pT (pa_cons (pe_xp (List.mem_cons_self ..) hz hf (pv 1)) pa_nil)) pa_nil))) pa_nil)))) pss_nil)
      (pss_cons (ps_if (pt_val (pe_callB (call_isP (List.mem_cons_self ..) hz hf) (by rfl) T.isinstance pI (pa_cons (pv 1) (pa_cons (pe_glob (v := .ref c8) rfl L.m8 rfl) pa_nil)))) (pss_one (ps_expr (pe_bm PySem.F.plainAttrs_list PySem.F.slot_list_append PySem.F.type_list_append mt_append (pv 2) (pa_cons (pe_tup (pa_cons pe_str (pa_cons (pe_callB (R2 a oe) (by rfl) T.repr pT (pa_cons (pe_xp (List.mem_cons_self ..) hz hf (pv 1)) pa_nil)) pa_nil))) pa_nil)))) pss_nil)
      (pss_cons (ps_if (pt_val (pe_callB (call_isP (List.mem_cons_self ..) hz hf) (by rfl) T.isinstance pI (pa_cons (pv 1) (pa_cons (pe_glob (v := .ref c5) rfl L.m5 rfl) pa_nil)))) (pss_one (ps_expr (pe_bm PySem.F.plainAttrs_list PySem.F.slot_list_append PySem.F.type_list_append mt_append (pv 2) (pa_cons (pe_tup (pa_cons pe_str (pa_cons (pe_callB (R2 a oe) (by rfl) T.repr pT (pa_cons (pe_tup (pa_cons (pe_xp (List.mem_cons_self ..) hz hf (pv 1)) (pa_cons (pe_xp (List.mem_cons_self ..) hz hf (pv 1)) pa_nil))) pa_nil)) pa_nil))) pa_nil)))) pss_nil)
      (pss_cons (ps_if (pt_val (pe_callB (call_isP (List.mem_cons_self ..) hz hf) (by rfl) T.isinstance pI (pa_cons (pv 1) (pa_cons (pe_glob (v := .ref c11) rfl L.m11 rfl) pa_nil)))) (pss_one (ps_expr (pe_bm PySem.F.plainAttrs_list PySem.F.slot_list_append PySem.F.type_list_append mt_append (pv 2) (pa_cons (pe_tup (pa_cons pe_str (pa_cons (pe_callB (R2 a oe) (by rfl) T.repr pT (pa_cons (pe_xp (List.mem_cons_self ..) hz hf (pv 1)) pa_nil)) pa_nil))) pa_nil)))) pss_nil)
      (pss_cons (ps_if (pt_cmpR op_isN (pv 1) pe_non (nomark _)) (pss_one (ps_ret pe_non)) pss_nil)
      (pss_one (ps_ret (pe_ifExp (PW.pt (pw_and (pt_cmpR op_eq (pe_callB call_len_seq (by rfl) T.len PySem.boot_len (pa_cons (pv 2) pa_nil)) pe_int (nomark _)) (pw_and1 (pt_val (pe_callB (call_isP (List.mem_cons_self ..) hz hf) (by rfl) T.isinstance pI (pa_cons (pv 1) (pa_cons (pe_bltn (v := .ty "ValueError") (u := .type "ValueError") rfl tv (by decide +kernel) rfl) pa_nil))))))) (pe_ix ix_list (pv 2) pe_int (fun _ _ => rfl)) (pe_tup (pa_cons pe_str (pa_cons pe_str pa_nil)))))))))))))))), ?_⟩
        have s0 : Same H' H' := Same.refl H'
        refine ⟨_, rfl, .ref c0, _, false, rfl, .own c0, ee, q0, (fun _ z => by cases z; exact ⟨_, s0 _ _ hdd⟩), false, rfl, iteF ?_⟩
        refine ⟨_, rfl, .ref c1, _, false, rfl, .own c1, ee, q1, (fun _ z => by cases z; exact ⟨_, s0 _ _ hdd⟩), false, rfl, iteF ?_⟩
        refine ⟨_, rfl, .ref c2, _, true, rfl, .own c2, ee, q2, (fun _ z => by cases z; exact ⟨_, s0 _ _ hdd⟩), true, rfl, iteT ?_⟩
        have ndD : dd ≠ D := ne_of hdd hD0 (by intro z; cases z)
        refine ⟨_, rfl, .inl ⟨rfl, _, SqL.of (s0 _ _ hD0)⟩, _, rfl, dd, _, v, rfl, rfl, s0 _ _ hdd, xf, g2_value, rfl, v, pd, rfl, dz.keep s0, sh, dp, sz, (by show 2 ≤ sizeLine; decide), fun t nt => ?_⟩
        have w1 := Same.new (o := .tup [.str "days", .str pd.shown]) nt
        refine ⟨D, [], .ref t, rfl, rfl, w1 _ _ (s0 _ _ hD0), by decide, ?_⟩
        have ntD : t ≠ D := (ne_of_none (s0 _ _ hD0) nt).symm
        have B0 : ∀ b o, H' b = some o → b ≠ D → _ := fun b o z1 z2 => (upd_ne (o := .lst [.ref t]) z2).trans (w1 _ _ (s0 _ _ z1))
        have D0 := at_put (D := D) w1
        have t0_ := at_put2 w1 ntD
        refine ⟨_, rfl, .ref c3, _, false, rfl, .own c3, ee, q3, (fun _ z => by cases z; exact ⟨_, B0 _ _ hdd ndD⟩), false, rfl, iteF ?_⟩
        refine ⟨_, rfl, .ref c7, _, false, rfl, .own c7, ee, q7, (fun _ z => by cases z; exact ⟨_, B0 _ _ hdd ndD⟩), false, rfl, iteF ?_⟩
        refine ⟨_, rfl, (by show 4 ≤ sizeLine; decide), fun t1 m1 => ?_⟩
        have B1 : ∀ b o, H' b = some o → b ≠ D → _ := fun b o z1 z2 => Same.new (o := .tup [.ref c4, .ref c6, .ref c9, .ref c10]) m1 _ _ (B0 b o z1 z2)
        have D1 := Same.new (o := .tup [.ref c4, .ref c6, .ref c9, .ref c10]) m1 _ _ D0
        have t1_ := Same.new (o := .tup [.ref c4, .ref c6, .ref c9, .ref c10]) m1 _ _ t0_
        refine ⟨t1, _, _, false, rfl, upd_same, .cons (.own _) (.cons (.own _) (.cons (.own _) (.cons (.own _) .nil))), ee, (any_no q4 (any_no q6 (any_no q9 (any_no q10 rfl)))), (fun _ z => by cases z; exact ⟨_, B1 _ _ hdd ndD⟩), false, rfl, iteF ?_⟩
        refine ⟨_, rfl, .ref c8, _, false, rfl, .own c8, ee, q8, (fun _ z => by cases z; exact ⟨_, B1 _ _ hdd ndD⟩), false, rfl, iteF ?_⟩
        refine ⟨_, rfl, .ref c5, _, false, rfl, .own c5, ee, q5, (fun _ z => by cases z; exact ⟨_, B1 _ _ hdd ndD⟩), false, rfl, iteF ?_⟩
        refine ⟨_, rfl, .ref c11, _, false, rfl, .own c11, ee, q11, (fun _ z => by cases z; exact ⟨_, B1 _ _ hdd ndD⟩), false, rfl, iteF ?_⟩
        refine ⟨_, rfl, rfl, false, congrArg V.bl (decide_eq_false (fun z => nomatch z)), iteF ?_⟩
        refine ⟨_, rfl, D, _, rfl, .inl (SqL.of D1), rfl, true, congrArg V.bl (decide_eq_true rfl), iteT ?_⟩
        refine ⟨_, rfl, .ty "ValueError", _, true, rfl, .ty "ValueError", ee, d2.ve, (fun _ z => by cases z; exact ⟨_, B1 _ _ hdd ndD⟩), true, rfl, iteT ?_⟩
        exact ⟨_, rfl, D, _, 0, _, rfl, rfl, SqL.of D1, rfl, tell t _ B1 t1_⟩
      · have eC2 := eC.symm
        subst eC2
        have d3 : Ed X.K cE c3 := ⟨_, L.k3, .inr rfl⟩
        have ee := d3.exc L.o
        have xf := L.k3.xf (up2 cE)
        have q0 := kit_no d3 L.k0 (L.ne (by simp)) (Ne.symm n0_3)
        have q1 := kit_no d3 L.k1 (L.ne (by simp)) (Ne.symm n1_3)
        have q2 := kit_no d3 L.k2 (L.ne (by simp)) (Ne.symm n2_3)
        have q3 := kit_yes (K := X.K) (C := c3)
        have q4 := kit_no d3 L.k4 (L.ne (by simp)) n3_4
        have q5 := kit_no d3 L.k5 (L.ne (by simp)) n3_5
        have q6 := kit_no d3 L.k6 (L.ne (by simp)) n3_6
        have q7 := kit_no d3 L.k7 (L.ne (by simp)) n3_7
        have q8 := kit_no d3 L.k8 (L.ne (by simp)) n3_8
        have q9 := kit_no d3 L.k9 (L.ne (by simp)) n3_9
        have q10 := kit_no d3 L.k10 (L.ne (by simp)) n3_10
        have q11 := kit_no d3 L.k11 (L.ne (by simp)) n3_11
        have exm : PySem.W.exmOne X.K (.ref c3) (.ref cE) = some true := PySem.W.exm_ref (by rw [L.kE.sub, List.contains_cons, up1.be, Bool.or_true]) L.kE.hd (by obtain ⟨_, _, _, _, z⟩ := L.kE.cls; exact z) (by rw [L.k3.sub, List.contains_cons, List.contains_cons, beq_self_eq_true, Bool.true_or, Bool.or_true])
        refine ⟨true, exm, fun _ a oe na hz hf => ?_, fun z => nomatch z⟩
        refine ⟨_, (pss_cons (ps_if (pt_val (pe_callB (call_isP (List.mem_cons_self ..) hz hf) (by rfl) T.isinstance pI (pa_cons (pv 1) (pa_cons (pe_glob (v := .ref c0) rfl L.m0 rfl) pa_nil)))) (pss_one (ps_expr (pe_bm PySem.F.plainAttrs_list PySem.F.slot_list_append PySem.F.type_list_append mt_append (pv 2) (pa_cons (pe_tup (pa_cons pe_str (pa_cons (pe_callB (R2 a oe) (by rfl) T.repr pT (pa_cons (pe_xp (List.mem_cons_self ..) hz hf (pv 1)) pa_nil)) pa_nil))) pa_nil)))) pss_nil)
      (pss_cons (ps_if (pt_val (pe_callB (call_isP (List.mem_cons_self ..) hz hf) (by rfl) T.isinstance pI (pa_cons (pv 1) (pa_cons (pe_glob (v := .ref c1) rfl L.m1 rfl) pa_nil)))) (pss_one (ps_expr (pe_bm PySem.F.plainAttrs_list PySem.F.slot_list_append PySem.F.type_list_append mt_append (pv 2) (pa_cons (pe_tup (pa_cons pe_str (pa_cons (pe_callB (R2 a oe) (by rfl) T.repr pT (pa_cons (pe_xp (List.mem_cons_self ..) hz hf (pv 1)) pa_nil)) pa_nil))) pa_nil)))) pss_nil)
      (pss_cons (ps_if (pt_val (pe_callB (call_isP (List.mem_cons_self ..) hz hf) (by rfl) T.isinstance pI (pa_cons (pv 1) (pa_cons (pe_glob (v := .ref c2) rfl L.m2 rfl) pa_nil)))) (pss_one (ps_expr (pe_bm PySem.F.plainAttrs_list PySem.F.slot_list_append PySem.F.type_list_append mt_append (pv 2) (pa_cons (pe_tup (pa_cons pe_str (pa_cons (pe_callB (R2 a oe) (by rfl) T.repr pT (pa_cons (pe_xp (List.mem_cons_self ..) hz hf (pv 1)) pa_nil)) pa_nil))) pa_nil)))) pss_nil)
      (pss_cons (ps_if (pt_val (pe_callB (call_isP (List.mem_cons_self ..) hz hf) (by rfl) T.isinstance pI (pa_cons (pv 1) (pa_cons (pe_glob (v := .ref c3) rfl L.m3 rfl) pa_nil)))) (pss_one (ps_expr (pe_bm PySem.F.plainAttrs_list PySem.F.slot_list_append PySem.F.type_list_append mt_append (pv 2) (pa_cons (pe_tup (pa_cons pe_str (pa_cons (pe_callB (R2 a oe) (by rfl) T.repr pT (pa_cons (pe_xp (List.mem_cons_self ..) hz hf (pv 1)) pa_nil)) pa_nil))) pa_nil)))) pss_nil)
      (pss_cons (ps_if (pt_val (pe_callB (call_isP (List.mem_cons_self ..) hz hf) (by rfl) T.isinstance pI (pa_cons (pv 1) (pa_cons (pe_glob (v := .ref c7) rfl L.m7 rfl) pa_nil)))) (pss_one (ps_expr (pe_bm PySem.F.plainAttrs_list PySem.F.slot_list_append PySem.F.type_list_append mt_append (pv 2) (pa_cons (pe_tup (pa_cons pe_str (pa_cons (pe_callB (R2 a oe) (by rfl) T.repr pT (pa_cons (pe_xp (List.mem_cons_self ..) hz hf (pv 1)) pa_nil)) pa_nil))) pa_nil)))) pss_nil)
      (pss_cons (ps_if (pt_val (pe_callB (call_isPT (List.mem_cons_self ..) hz hf) (by rfl) T.isinstance pI (pa_cons (pv 1) (pa_cons (pe_tup (pa_cons (pe_glob (v := .ref c4) rfl L.m4 rfl) (pa_cons (pe_glob (v := .ref c6) rfl L.m6 rfl) (pa_cons (pe_glob (v := .ref c9) rfl L.m9 rfl) (pa_cons (pe_glob (v := .ref c10) rfl L.m10 rfl) pa_nil))))) pa_nil)))) (pss_one (ps_expr (pe_bm PySem.F.plainAttrs_list PySem.F.slot_list_append PySem.F.type_list_append mt_append (pv 2) (pa_cons (pe_tup (pa_cons pe_str (pa_cons (pe_callB (R2 a oe) (by rfl) T.repr pT (pa_cons (pe_xp (List.mem_cons_self ..) hz hf (pv 1)) pa_nil)) pa_nil))) pa_nil)))) pss_nil)
      (pss_cons (ps_if (pt_val (pe_callB (call_isP (List.mem_cons_self ..) hz hf) (by rfl) T.isinstance pI (pa_cons (pv 1) (pa_cons (pe_glob (v := .ref c8) rfl L.m8 rfl) pa_nil)))) (pss_one (ps_expr (pe_bm PySem.F.plainAttrs_list PySem.F.slot_list_append PySem.F.type_list_append mt_append (pv 2) (pa_cons (pe_tup (pa_cons pe_str (pa_cons (pe_callB (R2 a oe) (by rfl) T.repr pT (pa_cons (pe_xp (List.mem_cons_self ..) hz hf (pv 1)) pa_nil)) pa_nil))) pa_nil)))) pss_nil)
      (pss_cons (ps_if (pt_val (pe_callB (call_isP (List.mem_cons_self ..) hz hf) (by rfl) T.isinstance pI (pa_cons (pv 1) (pa_cons (pe_glob (v := .ref c5) rfl L.m5 rfl) pa_nil)))) (pss_one (ps_expr (pe_bm PySem.F.plainAttrs_list PySem.F.slot_list_append PySem.F.type_list_append mt_append (pv 2) (pa_cons (pe_tup (pa_cons pe_str (pa_cons (pe_callB (R2 a oe) (by rfl) T.repr pT (pa_cons (pe_tup (pa_cons (pe_xp (List.mem_cons_self ..) hz hf (pv 1)) (pa_cons (pe_xp (List.mem_cons_self ..) hz hf (pv 1)) pa_nil))) pa_nil)) pa_nil))) pa_nil)))) pss_nil)
      (pss_cons (ps_if (pt_val (pe_callB (call_isP (List.mem_cons_self ..) hz hf) (by rfl) T.isinstance pI (pa_cons (pv 1) (pa_cons (pe_glob (v := .ref c11) rfl L.m11 rfl) pa_nil)))) (pss_one (ps_expr (pe_bm PySem.F.plainAttrs_list PySem.F.slot_list_append PySem.F.type_list_append mt_append (pv 2) (pa_cons (pe_tup (pa_cons pe_str (pa_cons (pe_callB (R2 a oe) (by rfl) T.repr pT (pa_cons (pe_xp (List.mem_cons_self ..) hz hf (pv 1)) pa_nil)) pa_nil))) pa_nil)))) pss_nil)
      (pss_cons (ps_if (pt_cmpR op_isN (pv 1) pe_non (nomark _)) (pss_one (ps_ret pe_non)) pss_nil)
      (pss_one (ps_ret (pe_ifExp (PW.pt (pw_and (pt_cmpR op_eq (pe_callB call_len_seq (by rfl) T.len PySem.boot_len (pa_cons (pv 2) pa_nil)) pe_int (nomark _)) (pw_and1 (pt_val (pe_callB (call_isP (List.mem_cons_self ..) hz hf) (by rfl) T.isinstance pI (pa_cons (pv 1) (pa_cons (pe_bltn (v := .ty "ValueError") (u := .type "ValueError") rfl tv (by decide +kernel) rfl) pa_nil))))))) (pe_ix ix_list (pv 2) pe_int (fun _ _ => rfl)) (pe_tup (pa_cons pe_str (pa_cons pe_str pa_nil)))))))))))))))), ?_⟩
        have s0 : Same H' H' := Same.refl H'
        refine ⟨_, rfl, .ref c0, _, false, rfl, .own c0, ee, q0, (fun _ z => by cases z; exact ⟨_, s0 _ _ hdd⟩), false, rfl, iteF ?_⟩
        refine ⟨_, rfl, .ref c1, _, false, rfl, .own c1, ee, q1, (fun _ z => by cases z; exact ⟨_, s0 _ _ hdd⟩), false, rfl, iteF ?_⟩
        refine ⟨_, rfl, .ref c2, _, false, rfl, .own c2, ee, q2, (fun _ z => by cases z; exact ⟨_, s0 _ _ hdd⟩), false, rfl, iteF ?_⟩
        refine ⟨_, rfl, .ref c3, _, true, rfl, .own c3, ee, q3, (fun _ z => by cases z; exact ⟨_, s0 _ _ hdd⟩), true, rfl, iteT ?_⟩
        have ndD : dd ≠ D := ne_of hdd hD0 (by intro z; cases z)
        refine ⟨_, rfl, .inl ⟨rfl, _, SqL.of (s0 _ _ hD0)⟩, _, rfl, dd, _, v, rfl, rfl, s0 _ _ hdd, xf, g3_value, rfl, v, pd, rfl, dz.keep s0, sh, dp, sz, (by show 2 ≤ sizeLine; decide), fun t nt => ?_⟩
        have w1 := Same.new (o := .tup [.str "yearly", .str pd.shown]) nt
        refine ⟨D, [], .ref t, rfl, rfl, w1 _ _ (s0 _ _ hD0), by decide, ?_⟩
        have ntD : t ≠ D := (ne_of_none (s0 _ _ hD0) nt).symm
        have B0 : ∀ b o, H' b = some o → b ≠ D → _ := fun b o z1 z2 => (upd_ne (o := .lst [.ref t]) z2).trans (w1 _ _ (s0 _ _ z1))
        have D0 := at_put (D := D) w1
        have t0_ := at_put2 w1 ntD
        refine ⟨_, rfl, .ref c7, _, false, rfl, .own c7, ee, q7, (fun _ z => by cases z; exact ⟨_, B0 _ _ hdd ndD⟩), false, rfl, iteF ?_⟩
        refine ⟨_, rfl, (by show 4 ≤ sizeLine; decide), fun t1 m1 => ?_⟩
        have B1 : ∀ b o, H' b = some o → b ≠ D → _ := fun b o z1 z2 => Same.new (o := .tup [.ref c4, .ref c6, .ref c9, .ref c10]) m1 _ _ (B0 b o z1 z2)
        have D1 := Same.new (o := .tup [.ref c4, .ref c6, .ref c9, .ref c10]) m1 _ _ D0
        have t1_ := Same.new (o := .tup [.ref c4, .ref c6, .ref c9, .ref c10]) m1 _ _ t0_
        refine ⟨t1, _, _, false, rfl, upd_same, .cons (.own _) (.cons (.own _) (.cons (.own _) (.cons (.own _) .nil))), ee, (any_no q4 (any_no q6 (any_no q9 (any_no q10 rfl)))), (fun _ z => by cases z; exact ⟨_, B1 _ _ hdd ndD⟩), false, rfl, iteF ?_⟩
        refine ⟨_, rfl, .ref c8, _, false, rfl, .own c8, ee, q8, (fun _ z => by cases z; exact ⟨_, B1 _ _ hdd ndD⟩), false, rfl, iteF ?_⟩
        refine ⟨_, rfl, .ref c5, _, false, rfl, .own c5, ee, q5, (fun _ z => by cases z; exact ⟨_, B1 _ _ hdd ndD⟩), false, rfl, iteF ?_⟩
        refine ⟨_, rfl, .ref c11, _, false, rfl, .own c11, ee, q11, (fun _ z => by cases z; exact ⟨_, B1 _ _ hdd ndD⟩), false, rfl, iteF ?_⟩
        refine ⟨_, rfl, rfl, false, congrArg V.bl (decide_eq_false (fun z => nomatch z)), iteF ?_⟩
        refine ⟨_, rfl, D, _, rfl, .inl (SqL.of D1), rfl, true, congrArg V.bl (decide_eq_true rfl), iteT ?_⟩
        refine ⟨_, rfl, .ty "ValueError", _, true, rfl, .ty "ValueError", ee, d3.ve, (fun _ z => by cases z; exact ⟨_, B1 _ _ hdd ndD⟩), true, rfl, iteT ?_⟩
        exact ⟨_, rfl, D, _, 0, _, rfl, rfl, SqL.of D1, rfl, tell t _ B1 t1_⟩
      · have eC2 := eC.symm
        subst eC2
        have d7 : Ed X.K cE c7 := ⟨_, L.k7, .inr rfl⟩
        have ee := d7.exc L.o
        have xf := L.k7.xf (up2 cE)
        have q0 := kit_no d7 L.k0 (L.ne (by simp)) (Ne.symm n0_7)
        have q1 := kit_no d7 L.k1 (L.ne (by simp)) (Ne.symm n1_7)
        have q2 := kit_no d7 L.k2 (L.ne (by simp)) (Ne.symm n2_7)
        have q3 := kit_no d7 L.k3 (L.ne (by simp)) (Ne.symm n3_7)
        have q4 := kit_no d7 L.k4 (L.ne (by simp)) (Ne.symm n4_7)
        have q5 := kit_no d7 L.k5 (L.ne (by simp)) (Ne.symm n5_7)
        have q6 := kit_no d7 L.k6 (L.ne (by simp)) (Ne.symm n6_7)
        have q7 := kit_yes (K := X.K) (C := c7)
        have q8 := kit_no d7 L.k8 (L.ne (by simp)) n7_8
        have q9 := kit_no d7 L.k9 (L.ne (by simp)) n7_9
        have q10 := kit_no d7 L.k10 (L.ne (by simp)) n7_10
        have q11 := kit_no d7 L.k11 (L.ne (by simp)) n7_11
        have exm : PySem.W.exmOne X.K (.ref c7) (.ref cE) = some true := PySem.W.exm_ref (by rw [L.kE.sub, List.contains_cons, up1.be, Bool.or_true]) L.kE.hd (by obtain ⟨_, _, _, _, z⟩ := L.kE.cls; exact z) (by rw [L.k7.sub, List.contains_cons, List.contains_cons, beq_self_eq_true, Bool.true_or, Bool.or_true])
        refine ⟨true, exm, fun _ a oe na hz hf => ?_, fun z => nomatch z⟩
        refine ⟨_, (pss_cons (ps_if (pt_val (pe_callB (call_isP (List.mem_cons_self ..) hz hf) (by rfl) T.isinstance pI (pa_cons (pv 1) (pa_cons (pe_glob (v := .ref c0) rfl L.m0 rfl) pa_nil)))) (pss_one (ps_expr (pe_bm PySem.F.plainAttrs_list PySem.F.slot_list_append PySem.F.type_list_append mt_append (pv 2) (pa_cons (pe_tup (pa_cons pe_str (pa_cons (pe_callB (R2 a oe) (by rfl) T.repr pT (pa_cons (pe_xp (List.mem_cons_self ..) hz hf (pv 1)) pa_nil)) pa_nil))) pa_nil)))) pss_nil)
      (pss_cons (ps_if (pt_val (pe_callB (call_isP (List.mem_cons_self ..) hz hf) (by rfl) T.isinstance pI (pa_cons (pv 1) (pa_cons (pe_glob (v := .ref c1) rfl L.m1 rfl) pa_nil)))) (pss_one (ps_expr (pe_bm PySem.F.plainAttrs_list PySem.F.slot_list_append PySem.F.type_list_append mt_append (pv 2) (pa_cons (pe_tup (pa_cons pe_str (pa_cons (pe_callB (R2 a oe) (by rfl) T.repr pT (pa_cons (pe_xp (List.mem_cons_self ..) hz hf (pv 1)) pa_nil)) pa_nil))) pa_nil)))) pss_nil)
      (pss_cons (ps_if (pt_val (pe_callB (call_isP (List.mem_cons_self ..) hz hf) (by rfl) T.isinstance pI (pa_cons (pv 1) (pa_cons (pe_glob (v := .ref c2) rfl L.m2 rfl) pa_nil)))) (pss_one (ps_expr (pe_bm PySem.F.plainAttrs_list PySem.F.slot_list_append PySem.F.type_list_append mt_append (pv 2) (pa_cons (pe_tup (pa_cons pe_str (pa_cons (pe_callB (R2 a oe) (by rfl) T.repr pT (pa_cons (pe_xp (List.mem_cons_self ..) hz hf (pv 1)) pa_nil)) pa_nil))) pa_nil)))) pss_nil)
      (pss_cons (ps_if (pt_val (pe_callB (call_isP (List.mem_cons_self ..) hz hf) (by rfl) T.isinstance pI (pa_cons (pv 1) (pa_cons (pe_glob (v := .ref c3) rfl L.m3 rfl) pa_nil)))) (pss_one (ps_expr (pe_bm PySem.F.plainAttrs_list PySem.F.slot_list_append PySem.F.type_list_append mt_append (pv 2) (pa_cons (pe_tup (pa_cons pe_str (pa_cons (pe_callB (R2 a oe) (by rfl) T.repr pT (pa_cons (pe_xp (List.mem_cons_self ..) hz hf (pv 1)) pa_nil)) pa_nil))) pa_nil)))) pss_nil)
      (pss_cons (ps_if (pt_val (pe_callB (call_isP (List.mem_cons_self ..) hz hf) (by rfl) T.isinstance pI (pa_cons (pv 1) (pa_cons (pe_glob (v := .ref c7) rfl L.m7 rfl) pa_nil)))) (pss_one (ps_expr (pe_bm PySem.F.plainAttrs_list PySem.F.slot_list_append PySem.F.type_list_append mt_append (pv 2) (pa_cons (pe_tup (pa_cons pe_str (pa_cons (pe_callB (R2 a oe) (by rfl) T.repr pT (pa_cons (pe_xp (List.mem_cons_self ..) hz hf (pv 1)) pa_nil)) pa_nil))) pa_nil)))) pss_nil)
      (pss_cons (ps_if (pt_val (pe_callB (call_isPT (List.mem_cons_self ..) hz hf) (by rfl) T.isinstance pI (pa_cons (pv 1) (pa_cons (pe_tup (pa_cons (pe_glob (v := .ref c4) rfl L.m4 rfl) (pa_cons (pe_glob (v := .ref c6) rfl L.m6 rfl) (pa_cons (pe_glob (v := .ref c9) rfl L.m9 rfl) (pa_cons (pe_glob (v := .ref c10) rfl L.m10 rfl) pa_nil))))) pa_nil)))) (pss_one (ps_expr (pe_bm PySem.F.plainAttrs_list PySem.F.slot_list_append PySem.F.type_list_append mt_append (pv 2) (pa_cons (pe_tup (pa_cons pe_str (pa_cons (pe_callB (R2 a oe) (by rfl) T.repr pT (pa_cons (pe_xp (List.mem_cons_self ..) hz hf (pv 1)) pa_nil)) pa_nil))) pa_nil)))) pss_nil)
      (pss_cons (ps_if (pt_val (pe_callB (call_isP (List.mem_cons_self ..) hz hf) (by rfl) T.isinstance pI (pa_cons (pv 1) (pa_cons (pe_glob (v := .ref c8) rfl L.m8 rfl) pa_nil)))) (pss_one (ps_expr (pe_bm PySem.F.plainAttrs_list PySem.F.slot_list_append PySem.F.type_list_append mt_append (pv 2) (pa_cons (pe_tup (pa_cons pe_str (pa_cons (pe_callB (R2 a oe) (by rfl) T.repr pT (pa_cons (pe_xp (List.mem_cons_self ..) hz hf (pv 1)) pa_nil)) pa_nil))) pa_nil)))) pss_nil)
      (pss_cons (ps_if (pt_val (pe_callB (call_isP (List.mem_cons_self ..) hz hf) (by rfl) T.isinstance pI (pa_cons (pv 1) (pa_cons (pe_glob (v := .ref c5) rfl L.m5 rfl) pa_nil)))) (pss_one (ps_expr (pe_bm PySem.F.plainAttrs_list PySem.F.slot_list_append PySem.F.type_list_append mt_append (pv 2) (pa_cons (pe_tup (pa_cons pe_str (pa_cons (pe_callB (R2 a oe) (by rfl) T.repr pT (pa_cons (pe_tup (pa_cons (pe_xp (List.mem_cons_self ..) hz hf (pv 1)) (pa_cons (pe_xp (List.mem_cons_self ..) hz hf (pv 1)) pa_nil))) pa_nil)) pa_nil))) pa_nil)))) pss_nil)
      (pss_cons (ps_if (pt_val (pe_callB (call_isP (List.mem_cons_self ..) hz hf) (by rfl) T.isinstance pI (pa_cons (pv 1) (pa_cons (pe_glob (v := .ref c11) rfl L.m11 rfl) pa_nil)))) (pss_one (ps_expr (pe_bm PySem.F.plainAttrs_list PySem.F.slot_list_append PySem.F.type_list_append mt_append (pv 2) (pa_cons (pe_tup (pa_cons pe_str (pa_cons (pe_callB (R2 a oe) (by rfl) T.repr pT (pa_cons (pe_xp (List.mem_cons_self ..) hz hf (pv 1)) pa_nil)) pa_nil))) pa_nil)))) pss_nil)
      (pss_cons (ps_if (pt_cmpR op_isN (pv 1) pe_non (nomark _)) (pss_one (ps_ret pe_non)) pss_nil)
      (pss_one (ps_ret (pe_ifExp (PW.pt (pw_and (pt_cmpR op_eq (pe_callB call_len_seq (by rfl) T.len PySem.boot_len (pa_cons (pv 2) pa_nil)) pe_int (nomark _)) (pw_and1 (pt_val (pe_callB (call_isP (List.mem_cons_self ..) hz hf) (by rfl) T.isinstance pI (pa_cons (pv 1) (pa_cons (pe_bltn (v := .ty "ValueError") (u := .type "ValueError") rfl tv (by decide +kernel) rfl) pa_nil))))))) (pe_ix ix_list (pv 2) pe_int (fun _ _ => rfl)) (pe_tup (pa_cons pe_str (pa_cons pe_str pa_nil)))))))))))))))), ?_⟩
        have s0 : Same H' H' := Same.refl H'
        refine ⟨_, rfl, .ref c0, _, false, rfl, .own c0, ee, q0, (fun _ z => by cases z; exact ⟨_, s0 _ _ hdd⟩), false, rfl, iteF ?_⟩
        refine ⟨_, rfl, .ref c1, _, false, rfl, .own c1, ee, q1, (fun _ z => by cases z; exact ⟨_, s0 _ _ hdd⟩), false, rfl, iteF ?_⟩
        refine ⟨_, rfl, .ref c2, _, false, rfl, .own c2, ee, q2, (fun _ z => by cases z; exact ⟨_, s0 _ _ hdd⟩), false, rfl, iteF ?_⟩
        refine ⟨_, rfl, .ref c3, _, false, rfl, .own c3, ee, q3, (fun _ z => by cases z; exact ⟨_, s0 _ _ hdd⟩), false, rfl, iteF ?_⟩
        refine ⟨_, rfl, .ref c7, _, true, rfl, .own c7, ee, q7, (fun _ z => by cases z; exact ⟨_, s0 _ _ hdd⟩), true, rfl, iteT ?_⟩
        have ndD : dd ≠ D := ne_of hdd hD0 (by intro z; cases z)
        refine ⟨_, rfl, .inl ⟨rfl, _, SqL.of (s0 _ _ hD0)⟩, _, rfl, dd, _, v, rfl, rfl, s0 _ _ hdd, xf, g7_value, rfl, v, pd, rfl, dz.keep s0, sh, dp, sz, (by show 2 ≤ sizeLine; decide), fun t nt => ?_⟩
        have w1 := Same.new (o := .tup [.str "word", .str pd.shown]) nt
        refine ⟨D, [], .ref t, rfl, rfl, w1 _ _ (s0 _ _ hD0), by decide, ?_⟩
        have ntD : t ≠ D := (ne_of_none (s0 _ _ hD0) nt).symm
        have B0 : ∀ b o, H' b = some o → b ≠ D → _ := fun b o z1 z2 => (upd_ne (o := .lst [.ref t]) z2).trans (w1 _ _ (s0 _ _ z1))
        have D0 := at_put (D := D) w1
        have t0_ := at_put2 w1 ntD
        refine ⟨_, rfl, (by show 4 ≤ sizeLine; decide), fun t1 m1 => ?_⟩
        have B1 : ∀ b o, H' b = some o → b ≠ D → _ := fun b o z1 z2 => Same.new (o := .tup [.ref c4, .ref c6, .ref c9, .ref c10]) m1 _ _ (B0 b o z1 z2)
        have D1 := Same.new (o := .tup [.ref c4, .ref c6, .ref c9, .ref c10]) m1 _ _ D0
        have t1_ := Same.new (o := .tup [.ref c4, .ref c6, .ref c9, .ref c10]) m1 _ _ t0_
        refine ⟨t1, _, _, false, rfl, upd_same, .cons (.own _) (.cons (.own _) (.cons (.own _) (.cons (.own _) .nil))), ee, (any_no q4 (any_no q6 (any_no q9 (any_no q10 rfl)))), (fun _ z => by cases z; exact ⟨_, B1 _ _ hdd ndD⟩), false, rfl, iteF ?_⟩
        refine ⟨_, rfl, .ref c8, _, false, rfl, .own c8, ee, q8, (fun _ z => by cases z; exact ⟨_, B1 _ _ hdd ndD⟩), false, rfl, iteF ?_⟩
        refine ⟨_, rfl, .ref c5, _, false, rfl, .own c5, ee, q5, (fun _ z => by cases z; exact ⟨_, B1 _ _ hdd ndD⟩), false, rfl, iteF ?_⟩
        refine ⟨_, rfl, .ref c11, _, false, rfl, .own c11, ee, q11, (fun _ z => by cases z; exact ⟨_, B1 _ _ hdd ndD⟩), false, rfl, iteF ?_⟩
        refine ⟨_, rfl, rfl, false, congrArg V.bl (decide_eq_false (fun z => nomatch z)), iteF ?_⟩
        refine ⟨_, rfl, D, _, rfl, .inl (SqL.of D1), rfl, true, congrArg V.bl (decide_eq_true rfl), iteT ?_⟩
        refine ⟨_, rfl, .ty "ValueError", _, true, rfl, .ty "ValueError", ee, d7.ve, (fun _ z => by cases z; exact ⟨_, B1 _ _ hdd ndD⟩), true, rfl, iteT ?_⟩
        exact ⟨_, rfl, D, _, 0, _, rfl, rfl, SqL.of D1, rfl, tell t _ B1 t1_⟩
      · have eC2 := eC.symm
        subst eC2
        have d4 : Ed X.K cE c4 := ⟨_, L.k4, .inr rfl⟩
        have ee := d4.exc L.o
        have xf := L.k4.xf (up2 cE)
        have q0 := kit_no d4 L.k0 (L.ne (by simp)) (Ne.symm n0_4)
        have q1 := kit_no d4 L.k1 (L.ne (by simp)) (Ne.symm n1_4)
        have q2 := kit_no d4 L.k2 (L.ne (by simp)) (Ne.symm n2_4)
        have q3 := kit_no d4 L.k3 (L.ne (by simp)) (Ne.symm n3_4)
        have q4 := kit_yes (K := X.K) (C := c4)
        have q5 := kit_no d4 L.k5 (L.ne (by simp)) n4_5
        have q6 := kit_no d4 L.k6 (L.ne (by simp)) n4_6
        have q7 := kit_no d4 L.k7 (L.ne (by simp)) n4_7
        have q8 := kit_no d4 L.k8 (L.ne (by simp)) n4_8
        have q9 := kit_no d4 L.k9 (L.ne (by simp)) n4_9
        have q10 := kit_no d4 L.k10 (L.ne (by simp)) n4_10
        have q11 := kit_no d4 L.k11 (L.ne (by simp)) n4_11
        have exm : PySem.W.exmOne X.K (.ref c4) (.ref cE) = some true := PySem.W.exm_ref (by rw [L.kE.sub, List.contains_cons, up1.be, Bool.or_true]) L.kE.hd (by obtain ⟨_, _, _, _, z⟩ := L.kE.cls; exact z) (by rw [L.k4.sub, List.contains_cons, List.contains_cons, beq_self_eq_true, Bool.true_or, Bool.or_true])
        refine ⟨true, exm, fun _ a oe na hz hf => ?_, fun z => nomatch z⟩
        refine ⟨_, (pss_cons (ps_if (pt_val (pe_callB (call_isP (List.mem_cons_self ..) hz hf) (by rfl) T.isinstance pI (pa_cons (pv 1) (pa_cons (pe_glob (v := .ref c0) rfl L.m0 rfl) pa_nil)))) (pss_one (ps_expr (pe_bm PySem.F.plainAttrs_list PySem.F.slot_list_append PySem.F.type_list_append mt_append (pv 2) (pa_cons (pe_tup (pa_cons pe_str (pa_cons (pe_callB (R2 a oe) (by rfl) T.repr pT (pa_cons (pe_xp (List.mem_cons_self ..) hz hf (pv 1)) pa_nil)) pa_nil))) pa_nil)))) pss_nil)
      (pss_cons (ps_if (pt_val (pe_callB (call_isP (List.mem_cons_self ..) hz hf) (by rfl) T.isinstance pI (pa_cons (pv 1) (pa_cons (pe_glob (v := .ref c1) rfl L.m1 rfl) pa_nil)))) (pss_one (ps_expr (pe_bm PySem.F.plainAttrs_list PySem.F.slot_list_append PySem.F.type_list_append mt_append (pv 2) (pa_cons (pe_tup (pa_cons pe_str (pa_cons (pe_callB (R2 a oe) (by rfl) T.repr pT (pa_cons (pe_xp (List.mem_cons_self ..) hz hf (pv 1)) pa_nil)) pa_nil))) pa_nil)))) pss_nil)
      (pss_cons (ps_if (pt_val (pe_callB (call_isP (List.mem_cons_self ..) hz hf) (by rfl) T.isinstance pI (pa_cons (pv 1) (pa_cons (pe_glob (v := .ref c2) rfl L.m2 rfl) pa_nil)))) (pss_one (ps_expr (pe_bm PySem.F.plainAttrs_list PySem.F.slot_list_append PySem.F.type_list_append mt_append (pv 2) (pa_cons (pe_tup (pa_cons pe_str (pa_cons (pe_callB (R2 a oe) (by rfl) T.repr pT (pa_cons (pe_xp (List.mem_cons_self ..) hz hf (pv 1)) pa_nil)) pa_nil))) pa_nil)))) pss_nil)
      (pss_cons (ps_if (pt_val (pe_callB (call_isP (List.mem_cons_self ..) hz hf) (by rfl) T.isinstance pI (pa_cons (pv 1) (pa_cons (pe_glob (v := .ref c3) rfl L.m3 rfl) pa_nil)))) (pss_one (ps_expr (pe_bm PySem.F.plainAttrs_list PySem.F.slot_list_append PySem.F.type_list_append mt_append (pv 2) (pa_cons (pe_tup (pa_cons pe_str (pa_cons (pe_callB (R2 a oe) (by rfl) T.repr pT (pa_cons (pe_xp (List.mem_cons_self ..) hz hf (pv 1)) pa_nil)) pa_nil))) pa_nil)))) pss_nil)
      (pss_cons (ps_if (pt_val (pe_callB (call_isP (List.mem_cons_self ..) hz hf) (by rfl) T.isinstance pI (pa_cons (pv 1) (pa_cons (pe_glob (v := .ref c7) rfl L.m7 rfl) pa_nil)))) (pss_one (ps_expr (pe_bm PySem.F.plainAttrs_list PySem.F.slot_list_append PySem.F.type_list_append mt_append (pv 2) (pa_cons (pe_tup (pa_cons pe_str (pa_cons (pe_callB (R2 a oe) (by rfl) T.repr pT (pa_cons (pe_xp (List.mem_cons_self ..) hz hf (pv 1)) pa_nil)) pa_nil))) pa_nil)))) pss_nil)
      (pss_cons (ps_if (pt_val (pe_callB (call_isPT (List.mem_cons_self ..) hz hf) (by rfl) T.isinstance pI (pa_cons (pv 1) (pa_cons (pe_tup (pa_cons (pe_glob (v := .ref c4) rfl L.m4 rfl) (pa_cons (pe_glob (v := .ref c6) rfl L.m6 rfl) (pa_cons (pe_glob (v := .ref c9) rfl L.m9 rfl) (pa_cons (pe_glob (v := .ref c10) rfl L.m10 rfl) pa_nil))))) pa_nil)))) (pss_one (ps_expr (pe_bm PySem.F.plainAttrs_list PySem.F.slot_list_append PySem.F.type_list_append mt_append (pv 2) (pa_cons (pe_tup (pa_cons pe_str (pa_cons (pe_callB (R2 a oe) (by rfl) T.repr pT (pa_cons (pe_xp (List.mem_cons_self ..) hz hf (pv 1)) pa_nil)) pa_nil))) pa_nil)))) pss_nil)
      (pss_cons (ps_if (pt_val (pe_callB (call_isP (List.mem_cons_self ..) hz hf) (by rfl) T.isinstance pI (pa_cons (pv 1) (pa_cons (pe_glob (v := .ref c8) rfl L.m8 rfl) pa_nil)))) (pss_one (ps_expr (pe_bm PySem.F.plainAttrs_list PySem.F.slot_list_append PySem.F.type_list_append mt_append (pv 2) (pa_cons (pe_tup (pa_cons pe_str (pa_cons (pe_callB (R2 a oe) (by rfl) T.repr pT (pa_cons (pe_xp (List.mem_cons_self ..) hz hf (pv 1)) pa_nil)) pa_nil))) pa_nil)))) pss_nil)
      (pss_cons (ps_if (pt_val (pe_callB (call_isP (List.mem_cons_self ..) hz hf) (by rfl) T.isinstance pI (pa_cons (pv 1) (pa_cons (pe_glob (v := .ref c5) rfl L.m5 rfl) pa_nil)))) (pss_one (ps_expr (pe_bm PySem.F.plainAttrs_list PySem.F.slot_list_append PySem.F.type_list_append mt_append (pv 2) (pa_cons (pe_tup (pa_cons pe_str (pa_cons (pe_callB (R2 a oe) (by rfl) T.repr pT (pa_cons (pe_tup (pa_cons (pe_xp (List.mem_cons_self ..) hz hf (pv 1)) (pa_cons (pe_xp (List.mem_cons_self ..) hz hf (pv 1)) pa_nil))) pa_nil)) pa_nil))) pa_nil)))) pss_nil)
      (pss_cons (ps_if (pt_val (pe_callB (call_isP (List.mem_cons_self ..) hz hf) (by rfl) T.isinstance pI (pa_cons (pv 1) (pa_cons (pe_glob (v := .ref c11) rfl L.m11 rfl) pa_nil)))) (pss_one (ps_expr (pe_bm PySem.F.plainAttrs_list PySem.F.slot_list_append PySem.F.type_list_append mt_append (pv 2) (pa_cons (pe_tup (pa_cons pe_str (pa_cons (pe_callB (R2 a oe) (by rfl) T.repr pT (pa_cons (pe_xp (List.mem_cons_self ..) hz hf (pv 1)) pa_nil)) pa_nil))) pa_nil)))) pss_nil)
      (pss_cons (ps_if (pt_cmpR op_isN (pv 1) pe_non (nomark _)) (pss_one (ps_ret pe_non)) pss_nil)
      (pss_one (ps_ret (pe_ifExp (PW.pt (pw_and (pt_cmpR op_eq (pe_callB call_len_seq (by rfl) T.len PySem.boot_len (pa_cons (pv 2) pa_nil)) pe_int (nomark _)) (pw_and1 (pt_val (pe_callB (call_isP (List.mem_cons_self ..) hz hf) (by rfl) T.isinstance pI (pa_cons (pv 1) (pa_cons (pe_bltn (v := .ty "ValueError") (u := .type "ValueError") rfl tv (by decide +kernel) rfl) pa_nil))))))) (pe_ix ix_list (pv 2) pe_int (fun _ _ => rfl)) (pe_tup (pa_cons pe_str (pa_cons pe_str pa_nil)))))))))))))))), ?_⟩
        have s0 : Same H' H' := Same.refl H'
        refine ⟨_, rfl, .ref c0, _, false, rfl, .own c0, ee, q0, (fun _ z => by cases z; exact ⟨_, s0 _ _ hdd⟩), false, rfl, iteF ?_⟩
        refine ⟨_, rfl, .ref c1, _, false, rfl, .own c1, ee, q1, (fun _ z => by cases z; exact ⟨_, s0 _ _ hdd⟩), false, rfl, iteF ?_⟩
        refine ⟨_, rfl, .ref c2, _, false, rfl, .own c2, ee, q2, (fun _ z => by cases z; exact ⟨_, s0 _ _ hdd⟩), false, rfl, iteF ?_⟩
        refine ⟨_, rfl, .ref c3, _, false, rfl, .own c3, ee, q3, (fun _ z => by cases z; exact ⟨_, s0 _ _ hdd⟩), false, rfl, iteF ?_⟩
        refine ⟨_, rfl, .ref c7, _, false, rfl, .own c7, ee, q7, (fun _ z => by cases z; exact ⟨_, s0 _ _ hdd⟩), false, rfl, iteF ?_⟩
        refine ⟨_, rfl, (by show 4 ≤ sizeLine; decide), fun t1 m1 => ?_⟩
        have s1 := s0.step (o := .tup [.ref c4, .ref c6, .ref c9, .ref c10]) m1
        refine ⟨t1, _, _, true, rfl, upd_same, .cons (.own _) (.cons (.own _) (.cons (.own _) (.cons (.own _) .nil))), ee, (any_yes q4), (fun _ z => by cases z; exact ⟨_, s1 _ _ hdd⟩), true, rfl, iteT ?_⟩
        have ndD : dd ≠ D := ne_of hdd hD0 (by intro z; cases z)
        refine ⟨_, rfl, .inl ⟨rfl, _, SqL.of (s1 _ _ hD0)⟩, _, rfl, dd, _, v, rfl, rfl, s1 _ _ hdd, xf, g4_index, rfl, v, pd, rfl, dz.keep s1, sh, dp, sz, (by show 2 ≤ sizeLine; decide), fun t nt => ?_⟩
        have w1 := Same.new (o := .tup [.str "index", .str pd.shown]) nt
        refine ⟨D, [], .ref t, rfl, rfl, w1 _ _ (s1 _ _ hD0), by decide, ?_⟩
        have ntD : t ≠ D := (ne_of_none (s1 _ _ hD0) nt).symm
        have B0 : ∀ b o, H' b = some o → b ≠ D → _ := fun b o z1 z2 => (upd_ne (o := .lst [.ref t]) z2).trans (w1 _ _ (s1 _ _ z1))
        have D0 := at_put (D := D) w1
        have t0_ := at_put2 w1 ntD
        refine ⟨_, rfl, .ref c8, _, false, rfl, .own c8, ee, q8, (fun _ z => by cases z; exact ⟨_, B0 _ _ hdd ndD⟩), false, rfl, iteF ?_⟩
        refine ⟨_, rfl, .ref c5, _, false, rfl, .own c5, ee, q5, (fun _ z => by cases z; exact ⟨_, B0 _ _ hdd ndD⟩), false, rfl, iteF ?_⟩
        refine ⟨_, rfl, .ref c11, _, false, rfl, .own c11, ee, q11, (fun _ z => by cases z; exact ⟨_, B0 _ _ hdd ndD⟩), false, rfl, iteF ?_⟩
        refine ⟨_, rfl, rfl, false, congrArg V.bl (decide_eq_false (fun z => nomatch z)), iteF ?_⟩
        refine ⟨_, rfl, D, _, rfl, .inl (SqL.of D0), rfl, true, congrArg V.bl (decide_eq_true rfl), iteT ?_⟩
        refine ⟨_, rfl, .ty "ValueError", _, true, rfl, .ty "ValueError", ee, d4.ve, (fun _ z => by cases z; exact ⟨_, B0 _ _ hdd ndD⟩), true, rfl, iteT ?_⟩
        exact ⟨_, rfl, D, _, 0, _, rfl, rfl, SqL.of D0, rfl, tell t _ B0 t0_⟩
      · have eC2 := eC.symm
        subst eC2
        have d6 : Ed X.K cE c6 := ⟨_, L.k6, .inr rfl⟩
        have ee := d6.exc L.o
        have xf := L.k6.xf (up2 cE)
        have q0 := kit_no d6 L.k0 (L.ne (by simp)) (Ne.symm n0_6)
        have q1 := kit_no d6 L.k1 (L.ne (by simp)) (Ne.symm n1_6)
        have q2 := kit_no d6 L.k2 (L.ne (by simp)) (Ne.symm n2_6)
        have q3 := kit_no d6 L.k3 (L.ne (by simp)) (Ne.symm n3_6)
        have q4 := kit_no d6 L.k4 (L.ne (by simp)) (Ne.symm n4_6)
        have q5 := kit_no d6 L.k5 (L.ne (by simp)) (Ne.symm n5_6)
        have q6 := kit_yes (K := X.K) (C := c6)
        have q7 := kit_no d6 L.k7 (L.ne (by simp)) n6_7
        have q8 := kit_no d6 L.k8 (L.ne (by simp)) n6_8
        have q9 := kit_no d6 L.k9 (L.ne (by simp)) n6_9
        have q10 := kit_no d6 L.k10 (L.ne (by simp)) n6_10
        have q11 := kit_no d6 L.k11 (L.ne (by simp)) n6_11
        have exm : PySem.W.exmOne X.K (.ref c6) (.ref cE) = some true := PySem.W.exm_ref (by rw [L.kE.sub, List.contains_cons, up1.be, Bool.or_true]) L.kE.hd (by obtain ⟨_, _, _, _, z⟩ := L.kE.cls; exact z) (by rw [L.k6.sub, List.contains_cons, List.contains_cons, beq_self_eq_true, Bool.true_or, Bool.or_true])
        refine ⟨true, exm, fun _ a oe na hz hf => ?_, fun z => nomatch z⟩
        refine ⟨_, (pss_cons (ps_if (pt_val (pe_callB (call_isP (List.mem_cons_self ..) hz hf) (by rfl) T.isinstance pI (pa_cons (pv 1) (pa_cons (pe_glob (v := .ref c0) rfl L.m0 rfl) pa_nil)))) (pss_one (ps_expr (pe_bm PySem.F.plainAttrs_list PySem.F.slot_list_append PySem.F.type_list_append mt_append (pv 2) (pa_cons (pe_tup (pa_cons pe_str (pa_cons (pe_callB (R2 a oe) (by rfl) T.repr pT (pa_cons (pe_xp (List.mem_cons_self ..) hz hf (pv 1)) pa_nil)) pa_nil))) pa_nil)))) pss_nil)
      (pss_cons (ps_if (pt_val (pe_callB (call_isP (List.mem_cons_self ..) hz hf) (by rfl) T.isinstance pI (pa_cons (pv 1) (pa_cons (pe_glob (v := .ref c1) rfl L.m1 rfl) pa_nil)))) (pss_one (ps_expr (pe_bm PySem.F.plainAttrs_list PySem.F.slot_list_append PySem.F.type_list_append mt_append (pv 2) (pa_cons (pe_tup (pa_cons pe_str (pa_cons (pe_callB (R2 a oe) (by rfl) T.repr pT (pa_cons (pe_xp (List.mem_cons_self ..) hz hf (pv 1)) pa_nil)) pa_nil))) pa_nil)))) pss_nil)
      (pss_cons (ps_if (pt_val (pe_callB (call_isP (List.mem_cons_self ..) hz hf) (by rfl) T.isinstance pI (pa_cons (pv 1) (pa_cons (pe_glob (v := .ref c2) rfl L.m2 rfl) pa_nil)))) (pss_one (ps_expr (pe_bm PySem.F.plainAttrs_list PySem.F.slot_list_append PySem.F.type_list_append mt_append (pv 2) (pa_cons (pe_tup (pa_cons pe_str (pa_cons (pe_callB (R2 a oe) (by rfl) T.repr pT (pa_cons (pe_xp (List.mem_cons_self ..) hz hf (pv 1)) pa_nil)) pa_nil))) pa_nil)))) pss_nil)
      (pss_cons (ps_if (pt_val (pe_callB (call_isP (List.mem_cons_self ..) hz hf) (by rfl) T.isinstance pI (pa_cons (pv 1) (pa_cons (pe_glob (v := .ref c3) rfl L.m3 rfl) pa_nil)))) (pss_one (ps_expr (pe_bm PySem.F.plainAttrs_list PySem.F.slot_list_append PySem.F.type_list_append mt_append (pv 2) (pa_cons (pe_tup (pa_cons pe_str (pa_cons (pe_callB (R2 a oe) (by rfl) T.repr pT (pa_cons (pe_xp (List.mem_cons_self ..) hz hf (pv 1)) pa_nil)) pa_nil))) pa_nil)))) pss_nil)
      (pss_cons (ps_if (pt_val (pe_callB (call_isP (List.mem_cons_self ..) hz hf) (by rfl) T.isinstance pI (pa_cons (pv 1) (pa_cons (pe_glob (v := .ref c7) rfl L.m7 rfl) pa_nil)))) (pss_one (ps_expr (pe_bm PySem.F.plainAttrs_list PySem.F.slot_list_append PySem.F.type_list_append mt_append (pv 2) (pa_cons (pe_tup (pa_cons pe_str (pa_cons (pe_callB (R2 a oe) (by rfl) T.repr pT (pa_cons (pe_xp (List.mem_cons_self ..) hz hf (pv 1)) pa_nil)) pa_nil))) pa_nil)))) pss_nil)
      (pss_cons (ps_if (pt_val (pe_callB (call_isPT (List.mem_cons_self ..) hz hf) (by rfl) T.isinstance pI (pa_cons (pv 1) (pa_cons (pe_tup (pa_cons (pe_glob (v := .ref c4) rfl L.m4 rfl) (pa_cons (pe_glob (v := .ref c6) rfl L.m6 rfl) (pa_cons (pe_glob (v := .ref c9) rfl L.m9 rfl) (pa_cons (pe_glob (v := .ref c10) rfl L.m10 rfl) pa_nil))))) pa_nil)))) (pss_one (ps_expr (pe_bm PySem.F.plainAttrs_list PySem.F.slot_list_append PySem.F.type_list_append mt_append (pv 2) (pa_cons (pe_tup (pa_cons pe_str (pa_cons (pe_callB (R2 a oe) (by rfl) T.repr pT (pa_cons (pe_xp (List.mem_cons_self ..) hz hf (pv 1)) pa_nil)) pa_nil))) pa_nil)))) pss_nil)
      (pss_cons (ps_if (pt_val (pe_callB (call_isP (List.mem_cons_self ..) hz hf) (by rfl) T.isinstance pI (pa_cons (pv 1) (pa_cons (pe_glob (v := .ref c8) rfl L.m8 rfl) pa_nil)))) (pss_one (ps_expr (pe_bm PySem.F.plainAttrs_list PySem.F.slot_list_append PySem.F.type_list_append mt_append (pv 2) (pa_cons (pe_tup (pa_cons pe_str (pa_cons (pe_callB (R2 a oe) (by rfl) T.repr pT (pa_cons (pe_xp (List.mem_cons_self ..) hz hf (pv 1)) pa_nil)) pa_nil))) pa_nil)))) pss_nil)
      (pss_cons (ps_if (pt_val (pe_callB (call_isP (List.mem_cons_self ..) hz hf) (by rfl) T.isinstance pI (pa_cons (pv 1) (pa_cons (pe_glob (v := .ref c5) rfl L.m5 rfl) pa_nil)))) (pss_one (ps_expr (pe_bm PySem.F.plainAttrs_list PySem.F.slot_list_append PySem.F.type_list_append mt_append (pv 2) (pa_cons (pe_tup (pa_cons pe_str (pa_cons (pe_callB (R2 a oe) (by rfl) T.repr pT (pa_cons (pe_tup (pa_cons (pe_xp (List.mem_cons_self ..) hz hf (pv 1)) (pa_cons (pe_xp (List.mem_cons_self ..) hz hf (pv 1)) pa_nil))) pa_nil)) pa_nil))) pa_nil)))) pss_nil)
      (pss_cons (ps_if (pt_val (pe_callB (call_isP (List.mem_cons_self ..) hz hf) (by rfl) T.isinstance pI (pa_cons (pv 1) (pa_cons (pe_glob (v := .ref c11) rfl L.m11 rfl) pa_nil)))) (pss_one (ps_expr (pe_bm PySem.F.plainAttrs_list PySem.F.slot_list_append PySem.F.type_list_append mt_append (pv 2) (pa_cons (pe_tup (pa_cons pe_str (pa_cons (pe_callB (R2 a oe) (by rfl) T.repr pT (pa_cons (pe_xp (List.mem_cons_self ..) hz hf (pv 1)) pa_nil)) pa_nil))) pa_nil)))) pss_nil)
      (pss_cons (ps_if (pt_cmpR op_isN (pv 1) pe_non (nomark _)) (pss_one (ps_ret pe_non)) pss_nil)
      (pss_one (ps_ret (pe_ifExp (PW.pt (pw_and (pt_cmpR op_eq (pe_callB call_len_seq (by rfl) T.len PySem.boot_len (pa_cons (pv 2) pa_nil)) pe_int (nomark _)) (pw_and1 (pt_val (pe_callB (call_isP (List.mem_cons_self ..) hz hf) (by rfl) T.isinstance pI (pa_cons (pv 1) (pa_cons (pe_bltn (v := .ty "ValueError") (u := .type "ValueError") rfl tv (by decide +kernel) rfl) pa_nil))))))) (pe_ix ix_list (pv 2) pe_int (fun _ _ => rfl)) (pe_tup (pa_cons pe_str (pa_cons pe_str pa_nil)))))))))))))))), ?_⟩
        have s0 : Same H' H' := Same.refl H'
        refine ⟨_, rfl, .ref c0, _, false, rfl, .own c0, ee, q0, (fun _ z => by cases z; exact ⟨_, s0 _ _ hdd⟩), false, rfl, iteF ?_⟩
        refine ⟨_, rfl, .ref c1, _, false, rfl, .own c1, ee, q1, (fun _ z => by cases z; exact ⟨_, s0 _ _ hdd⟩), false, rfl, iteF ?_⟩
        refine ⟨_, rfl, .ref c2, _, false, rfl, .own c2, ee, q2, (fun _ z => by cases z; exact ⟨_, s0 _ _ hdd⟩), false, rfl, iteF ?_⟩
        refine ⟨_, rfl, .ref c3, _, false, rfl, .own c3, ee, q3, (fun _ z => by cases z; exact ⟨_, s0 _ _ hdd⟩), false, rfl, iteF ?_⟩
        refine ⟨_, rfl, .ref c7, _, false, rfl, .own c7, ee, q7, (fun _ z => by cases z; exact ⟨_, s0 _ _ hdd⟩), false, rfl, iteF ?_⟩
        refine ⟨_, rfl, (by show 4 ≤ sizeLine; decide), fun t1 m1 => ?_⟩
        have s1 := s0.step (o := .tup [.ref c4, .ref c6, .ref c9, .ref c10]) m1
        refine ⟨t1, _, _, true, rfl, upd_same, .cons (.own _) (.cons (.own _) (.cons (.own _) (.cons (.own _) .nil))), ee, (any_no q4 (any_yes q6)), (fun _ z => by cases z; exact ⟨_, s1 _ _ hdd⟩), true, rfl, iteT ?_⟩
        have ndD : dd ≠ D := ne_of hdd hD0 (by intro z; cases z)
        refine ⟨_, rfl, .inl ⟨rfl, _, SqL.of (s1 _ _ hD0)⟩, _, rfl, dd, _, v, rfl, rfl, s1 _ _ hdd, xf, g6_index, rfl, v, pd, rfl, dz.keep s1, sh, dp, sz, (by show 2 ≤ sizeLine; decide), fun t nt => ?_⟩
        have w1 := Same.new (o := .tup [.str "index", .str pd.shown]) nt
        refine ⟨D, [], .ref t, rfl, rfl, w1 _ _ (s1 _ _ hD0), by decide, ?_⟩
        have ntD : t ≠ D := (ne_of_none (s1 _ _ hD0) nt).symm
        have B0 : ∀ b o, H' b = some o → b ≠ D → _ := fun b o z1 z2 => (upd_ne (o := .lst [.ref t]) z2).trans (w1 _ _ (s1 _ _ z1))
        have D0 := at_put (D := D) w1
        have t0_ := at_put2 w1 ntD
        refine ⟨_, rfl, .ref c8, _, false, rfl, .own c8, ee, q8, (fun _ z => by cases z; exact ⟨_, B0 _ _ hdd ndD⟩), false, rfl, iteF ?_⟩
        refine ⟨_, rfl, .ref c5, _, false, rfl, .own c5, ee, q5, (fun _ z => by cases z; exact ⟨_, B0 _ _ hdd ndD⟩), false, rfl, iteF ?_⟩
        refine ⟨_, rfl, .ref c11, _, false, rfl, .own c11, ee, q11, (fun _ z => by cases z; exact ⟨_, B0 _ _ hdd ndD⟩), false, rfl, iteF ?_⟩
        refine ⟨_, rfl, rfl, false, congrArg V.bl (decide_eq_false (fun z => nomatch z)), iteF ?_⟩
        refine ⟨_, rfl, D, _, rfl, .inl (SqL.of D0), rfl, true, congrArg V.bl (decide_eq_true rfl), iteT ?_⟩
        refine ⟨_, rfl, .ty "ValueError", _, true, rfl, .ty "ValueError", ee, d6.ve, (fun _ z => by cases z; exact ⟨_, B0 _ _ hdd ndD⟩), true, rfl, iteT ?_⟩
        exact ⟨_, rfl, D, _, 0, _, rfl, rfl, SqL.of D0, rfl, tell t _ B0 t0_⟩
      · have eC2 := eC.symm
        subst eC2
        have d9 : Ed X.K cE c9 := ⟨_, L.k9, .inr rfl⟩
        have ee := d9.exc L.o
        have xf := L.k9.xf (up2 cE)
        have q0 := kit_no d9 L.k0 (L.ne (by simp)) (Ne.symm n0_9)
        have q1 := kit_no d9 L.k1 (L.ne (by simp)) (Ne.symm n1_9)
        have q2 := kit_no d9 L.k2 (L.ne (by simp)) (Ne.symm n2_9)
        have q3 := kit_no d9 L.k3 (L.ne (by simp)) (Ne.symm n3_9)
        have q4 := kit_no d9 L.k4 (L.ne (by simp)) (Ne.symm n4_9)
        have q5 := kit_no d9 L.k5 (L.ne (by simp)) (Ne.symm n5_9)
        have q6 := kit_no d9 L.k6 (L.ne (by simp)) (Ne.symm n6_9)
        have q7 := kit_no d9 L.k7 (L.ne (by simp)) (Ne.symm n7_9)
        have q8 := kit_no d9 L.k8 (L.ne (by simp)) (Ne.symm n8_9)
        have q9 := kit_yes (K := X.K) (C := c9)
        have q10 := kit_no d9 L.k10 (L.ne (by simp)) n9_10
        have q11 := kit_no d9 L.k11 (L.ne (by simp)) n9_11
        have exm : PySem.W.exmOne X.K (.ref c9) (.ref cE) = some true := PySem.W.exm_ref (by rw [L.kE.sub, List.contains_cons, up1.be, Bool.or_true]) L.kE.hd (by obtain ⟨_, _, _, _, z⟩ := L.kE.cls; exact z) (by rw [L.k9.sub, List.contains_cons, List.contains_cons, beq_self_eq_true, Bool.true_or, Bool.or_true])
        refine ⟨true, exm, fun _ a oe na hz hf => ?_, fun z => nomatch z⟩
        refine ⟨_, (pss_cons (ps_if (pt_val (pe_callB (call_isP (List.mem_cons_self ..) hz hf) (by rfl) T.isinstance pI (pa_cons (pv 1) (pa_cons (pe_glob (v := .ref c0) rfl L.m0 rfl) pa_nil)))) (pss_one (ps_expr (pe_bm PySem.F.plainAttrs_list PySem.F.slot_list_append PySem.F.type_list_append mt_append (pv 2) (pa_cons (pe_tup (pa_cons pe_str (pa_cons (pe_callB (R2 a oe) (by rfl) T.repr pT (pa_cons (pe_xp (List.mem_cons_self ..) hz hf (pv 1)) pa_nil)) pa_nil))) pa_nil)))) pss_nil)
      (pss_cons (ps_if (pt_val (pe_callB (call_isP (List.mem_cons_self ..) hz hf) (by rfl) T.isinstance pI (pa_cons (pv 1) (pa_cons (pe_glob (v := .ref c1) rfl L.m1 rfl) pa_nil)))) (pss_one (ps_expr (pe_bm PySem.F.plainAttrs_list PySem.F.slot_list_append PySem.F.type_list_append mt_append (pv 2) (pa_cons (pe_tup (pa_cons pe_str (pa_cons (pe_callB (R2 a oe) (by rfl) T.repr pT (pa_cons (pe_xp (List.mem_cons_self ..) hz hf (pv 1)) pa_nil)) pa_nil))) pa_nil)))) pss_nil)
      (pss_cons (ps_if (pt_val (pe_callB (call_isP (List.mem_cons_self ..) hz hf) (by rfl) T.isinstance pI (pa_cons (pv 1) (pa_cons (pe_glob (v := .ref c2) rfl L.m2 rfl) pa_nil)))) (pss_one (ps_expr (pe_bm PySem.F.plainAttrs_list PySem.F.slot_list_append PySem.F.type_list_append mt_append (pv 2) (pa_cons (pe_tup (pa_cons pe_str (pa_cons (pe_callB (R2 a oe) (by rfl) T.repr pT (pa_cons (pe_xp (List.mem_cons_self ..) hz hf (pv 1)) pa_nil)) pa_nil))) pa_nil)))) pss_nil)
      (pss_cons (ps_if (pt_val (pe_callB (call_isP (List.mem_cons_self ..) hz hf) (by rfl) T.isinstance pI (pa_cons (pv 1) (pa_cons (pe_glob (v := .ref c3) rfl L.m3 rfl) pa_nil)))) (pss_one (ps_expr (pe_bm PySem.F.plainAttrs_list PySem.F.slot_list_append PySem.F.type_list_append mt_append (pv 2) (pa_cons (pe_tup (pa_cons pe_str (pa_cons (pe_callB (R2 a oe) (by rfl) T.repr pT (pa_cons (pe_xp (List.mem_cons_self ..) hz hf (pv 1)) pa_nil)) pa_nil))) pa_nil)))) pss_nil)
      (pss_cons (ps_if (pt_val (pe_callB (call_isP (List.mem_cons_self ..) hz hf) (by rfl) T.isinstance pI (pa_cons (pv 1) (pa_cons (pe_glob (v := .ref c7) rfl L.m7 rfl) pa_nil)))) (pss_one (ps_expr (pe_bm PySem.F.plainAttrs_list PySem.F.slot_list_append PySem.F.type_list_append mt_append (pv 2) (pa_cons (pe_tup (pa_cons pe_str (pa_cons (pe_callB (R2 a oe) (by rfl) T.repr pT (pa_cons (pe_xp (List.mem_cons_self ..) hz hf (pv 1)) pa_nil)) pa_nil))) pa_nil)))) pss_nil)
      (pss_cons (ps_if (pt_val (pe_callB (call_isPT (List.mem_cons_self ..) hz hf) (by rfl) T.isinstance pI (pa_cons (pv 1) (pa_cons (pe_tup (pa_cons (pe_glob (v := .ref c4) rfl L.m4 rfl) (pa_cons (pe_glob (v := .ref c6) rfl L.m6 rfl) (pa_cons (pe_glob (v := .ref c9) rfl L.m9 rfl) (pa_cons (pe_glob (v := .ref c10) rfl L.m10 rfl) pa_nil))))) pa_nil)))) (pss_one (ps_expr (pe_bm PySem.F.plainAttrs_list PySem.F.slot_list_append PySem.F.type_list_append mt_append (pv 2) (pa_cons (pe_tup (pa_cons pe_str (pa_cons (pe_callB (R2 a oe) (by rfl) T.repr pT (pa_cons (pe_xp (List.mem_cons_self ..) hz hf (pv 1)) pa_nil)) pa_nil))) pa_nil)))) pss_nil)
      (pss_cons (ps_if (pt_val (pe_callB (call_isP (List.mem_cons_self ..) hz hf) (by rfl) T.isinstance pI (pa_cons (pv 1) (pa_cons (pe_glob (v := .ref c8) rfl L.m8 rfl) pa_nil)))) (pss_one (ps_expr (pe_bm PySem.F.plainAttrs_list PySem.F.slot_list_append PySem.F.type_list_append mt_append (pv 2) (pa_cons (pe_tup (pa_cons pe_str (pa_cons (pe_callB (R2 a oe) (by rfl) T.repr pT (pa_cons (pe_xp (List.mem_cons_self ..) hz hf (pv 1)) pa_nil)) pa_nil))) pa_nil)))) pss_nil)
      (pss_cons (ps_if (pt_val (pe_callB (call_isP (List.mem_cons_self ..) hz hf) (by rfl) T.isinstance pI (pa_cons (pv 1) (pa_cons (pe_glob (v := .ref c5) rfl L.m5 rfl) pa_nil)))) (pss_one (ps_expr (pe_bm PySem.F.plainAttrs_list PySem.F.slot_list_append PySem.F.type_list_append mt_append (pv 2) (pa_cons (pe_tup (pa_cons pe_str (pa_cons (pe_callB (R2 a oe) (by rfl) T.repr pT (pa_cons (pe_tup (pa_cons (pe_xp (List.mem_cons_self ..) hz hf (pv 1)) (pa_cons (pe_xp (List.mem_cons_self ..) hz hf (pv 1)) pa_nil))) pa_nil)) pa_nil))) pa_nil)))) pss_nil)
      (pss_cons (ps_if (pt_val (pe_callB (call_isP (List.mem_cons_self ..) hz hf) (by rfl) T.isinstance pI (pa_cons (pv 1) (pa_cons (pe_glob (v := .ref c11) rfl L.m11 rfl) pa_nil)))) (pss_one (ps_expr (pe_bm PySem.F.plainAttrs_list PySem.F.slot_list_append PySem.F.type_list_append mt_append (pv 2) (pa_cons (pe_tup (pa_cons pe_str (pa_cons (pe_callB (R2 a oe) (by rfl) T.repr pT (pa_cons (pe_xp (List.mem_cons_self ..) hz hf (pv 1)) pa_nil)) pa_nil))) pa_nil)))) pss_nil)
      (pss_cons (ps_if (pt_cmpR op_isN (pv 1) pe_non (nomark _)) (pss_one (ps_ret pe_non)) pss_nil)
      (pss_one (ps_ret (pe_ifExp (PW.pt (pw_and (pt_cmpR op_eq (pe_callB call_len_seq (by rfl) T.len PySem.boot_len (pa_cons (pv 2) pa_nil)) pe_int (nomark _)) (pw_and1 (pt_val (pe_callB (call_isP (List.mem_cons_self ..) hz hf) (by rfl) T.isinstance pI (pa_cons (pv 1) (pa_cons (pe_bltn (v := .ty "ValueError") (u := .type "ValueError") rfl tv (by decide +kernel) rfl) pa_nil))))))) (pe_ix ix_list (pv 2) pe_int (fun _ _ => rfl)) (pe_tup (pa_cons pe_str (pa_cons pe_str pa_nil)))))))))))))))), ?_⟩
        have s0 : Same H' H' := Same.refl H'
        refine ⟨_, rfl, .ref c0, _, false, rfl, .own c0, ee, q0, (fun _ z => by cases z; exact ⟨_, s0 _ _ hdd⟩), false, rfl, iteF ?_⟩
        refine ⟨_, rfl, .ref c1, _, false, rfl, .own c1, ee, q1, (fun _ z => by cases z; exact ⟨_, s0 _ _ hdd⟩), false, rfl, iteF ?_⟩
        refine ⟨_, rfl, .ref c2, _, false, rfl, .own c2, ee, q2, (fun _ z => by cases z; exact ⟨_, s0 _ _ hdd⟩), false, rfl, iteF ?_⟩
        refine ⟨_, rfl, .ref c3, _, false, rfl, .own c3, ee, q3, (fun _ z => by cases z; exact ⟨_, s0 _ _ hdd⟩), false, rfl, iteF ?_⟩
        refine ⟨_, rfl, .ref c7, _, false, rfl, .own c7, ee, q7, (fun _ z => by cases z; exact ⟨_, s0 _ _ hdd⟩), false, rfl, iteF ?_⟩
        refine ⟨_, rfl, (by show 4 ≤ sizeLine; decide), fun t1 m1 => ?_⟩
        have s1 := s0.step (o := .tup [.ref c4, .ref c6, .ref c9, .ref c10]) m1
        refine ⟨t1, _, _, true, rfl, upd_same, .cons (.own _) (.cons (.own _) (.cons (.own _) (.cons (.own _) .nil))), ee, (any_no q4 (any_no q6 (any_yes q9))), (fun _ z => by cases z; exact ⟨_, s1 _ _ hdd⟩), true, rfl, iteT ?_⟩
        have ndD : dd ≠ D := ne_of hdd hD0 (by intro z; cases z)
        refine ⟨_, rfl, .inl ⟨rfl, _, SqL.of (s1 _ _ hD0)⟩, _, rfl, dd, _, v, rfl, rfl, s1 _ _ hdd, xf, g9_index, rfl, v, pd, rfl, dz.keep s1, sh, dp, sz, (by show 2 ≤ sizeLine; decide), fun t nt => ?_⟩
        have w1 := Same.new (o := .tup [.str "index", .str pd.shown]) nt
        refine ⟨D, [], .ref t, rfl, rfl, w1 _ _ (s1 _ _ hD0), by decide, ?_⟩
        have ntD : t ≠ D := (ne_of_none (s1 _ _ hD0) nt).symm
        have B0 : ∀ b o, H' b = some o → b ≠ D → _ := fun b o z1 z2 => (upd_ne (o := .lst [.ref t]) z2).trans (w1 _ _ (s1 _ _ z1))
        have D0 := at_put (D := D) w1
        have t0_ := at_put2 w1 ntD
        refine ⟨_, rfl, .ref c8, _, false, rfl, .own c8, ee, q8, (fun _ z => by cases z; exact ⟨_, B0 _ _ hdd ndD⟩), false, rfl, iteF ?_⟩
        refine ⟨_, rfl, .ref c5, _, false, rfl, .own c5, ee, q5, (fun _ z => by cases z; exact ⟨_, B0 _ _ hdd ndD⟩), false, rfl, iteF ?_⟩
        refine ⟨_, rfl, .ref c11, _, false, rfl, .own c11, ee, q11, (fun _ z => by cases z; exact ⟨_, B0 _ _ hdd ndD⟩), false, rfl, iteF ?_⟩
        refine ⟨_, rfl, rfl, false, congrArg V.bl (decide_eq_false (fun z => nomatch z)), iteF ?_⟩
        refine ⟨_, rfl, D, _, rfl, .inl (SqL.of D0), rfl, true, congrArg V.bl (decide_eq_true rfl), iteT ?_⟩
        refine ⟨_, rfl, .ty "ValueError", _, true, rfl, .ty "ValueError", ee, d9.ve, (fun _ z => by cases z; exact ⟨_, B0 _ _ hdd ndD⟩), true, rfl, iteT ?_⟩
        exact ⟨_, rfl, D, _, 0, _, rfl, rfl, SqL.of D0, rfl, tell t _ B0 t0_⟩
      · have eC2 := eC.symm
        subst eC2
        have d10 : Ed X.K cE c10 := ⟨_, L.k10, .inr rfl⟩
        have ee := d10.exc L.o
        have xf := L.k10.xf (up2 cE)
        have q0 := kit_no d10 L.k0 (L.ne (by simp)) (Ne.symm n0_10)
        have q1 := kit_no d10 L.k1 (L.ne (by simp)) (Ne.symm n1_10)
        have q2 := kit_no d10 L.k2 (L.ne (by simp)) (Ne.symm n2_10)
        have q3 := kit_no d10 L.k3 (L.ne (by simp)) (Ne.symm n3_10)
        have q4 := kit_no d10 L.k4 (L.ne (by simp)) (Ne.symm n4_10)
        have q5 := kit_no d10 L.k5 (L.ne (by simp)) (Ne.symm n5_10)
        have q6 := kit_no d10 L.k6 (L.ne (by simp)) (Ne.symm n6_10)
        have q7 := kit_no d10 L.k7 (L.ne (by simp)) (Ne.symm n7_10)
        have q8 := kit_no d10 L.k8 (L.ne (by simp)) (Ne.symm n8_10)
        have q9 := kit_no d10 L.k9 (L.ne (by simp)) (Ne.symm n9_10)
        have q10 := kit_yes (K := X.K) (C := c10)
        have q11 := kit_no d10 L.k11 (L.ne (by simp)) n10_11
        have exm : PySem.W.exmOne X.K (.ref c10) (.ref cE) = some true := PySem.W.exm_ref (by rw [L.kE.sub, List.contains_cons, up1.be, Bool.or_true]) L.kE.hd (by obtain ⟨_, _, _, _, z⟩ := L.kE.cls; exact z) (by rw [L.k10.sub, List.contains_cons, List.contains_cons, beq_self_eq_true, Bool.true_or, Bool.or_true])
        refine ⟨true, exm, fun _ a oe na hz hf => ?_, fun z => nomatch z⟩
        refine ⟨_, (pss_cons (ps_if (pt_val (pe_callB (call_isP (List.mem_cons_self ..) hz hf) (by rfl) T.isinstance pI (pa_cons (pv 1) (pa_cons (pe_glob (v := .ref c0) rfl L.m0 rfl) pa_nil)))) (pss_one (ps_expr (pe_bm PySem.F.plainAttrs_list PySem.F.slot_list_append PySem.F.type_list_append mt_append (pv 2) (pa_cons (pe_tup (pa_cons pe_str (pa_cons (pe_callB (R2 a oe) (by rfl) T.repr pT (pa_cons (pe_xp (List.mem_cons_self ..) hz hf (pv 1)) pa_nil)) pa_nil))) pa_nil)))) pss_nil)
      (pss_cons (ps_if (pt_val (pe_callB (call_isP (List.mem_cons_self ..) hz hf) (by rfl) T.isinstance pI (pa_cons (pv 1) (pa_cons (pe_glob (v := .ref c1) rfl L.m1 rfl) pa_nil)))) (pss_one (ps_expr (pe_bm PySem.F.plainAttrs_list PySem.F.slot_list_append PySem.F.type_list_append mt_append (pv 2) (pa_cons (pe_tup (pa_cons pe_str (pa_cons (pe_callB (R2 a oe) (by rfl) T.repr pT (pa_cons (pe_xp (List.mem_cons_self ..) hz hf (pv 1)) pa_nil)) pa_nil))) pa_nil)))) pss_nil)
      (pss_cons (ps_if (pt_val (pe_callB (call_isP (List.mem_cons_self ..) hz hf) (by rfl) T.isinstance pI (pa_cons (pv 1) (pa_cons (pe_glob (v := .ref c2) rfl L.m2 rfl) pa_nil)))) (pss_one (ps_expr (pe_bm PySem.F.plainAttrs_list PySem.F.slot_list_append PySem.F.type_list_append mt_append (pv 2) (pa_cons (pe_tup (pa_cons pe_str (pa_cons (pe_callB (R2 a oe) (by rfl) T.repr pT (pa_cons (pe_xp (List.mem_cons_self ..) hz hf (pv 1)) pa_nil)) pa_nil))) pa_nil)))) pss_nil)
      (pss_cons (ps_if (pt_val (pe_callB (call_isP (List.mem_cons_self ..) hz hf) (by rfl) T.isinstance pI (pa_cons (pv 1) (pa_cons (pe_glob (v := .ref c3) rfl L.m3 rfl) pa_nil)))) (pss_one (ps_expr (pe_bm PySem.F.plainAttrs_list PySem.F.slot_list_append PySem.F.type_list_append mt_append (pv 2) (pa_cons (pe_tup (pa_cons pe_str (pa_cons (pe_callB (R2 a oe) (by rfl) T.repr pT (pa_cons (pe_xp (List.mem_cons_self ..) hz hf (pv 1)) pa_nil)) pa_nil))) pa_nil)))) pss_nil)
      (pss_cons (ps_if (pt_val (pe_callB (call_isP (List.mem_cons_self ..) hz hf) (by rfl) T.isinstance pI (pa_cons (pv 1) (pa_cons (pe_glob (v := .ref c7) rfl L.m7 rfl) pa_nil)))) (pss_one (ps_expr (pe_bm PySem.F.plainAttrs_list PySem.F.slot_list_append PySem.F.type_list_append mt_append (pv 2) (pa_cons (pe_tup (pa_cons pe_str (pa_cons (pe_callB (R2 a oe) (by rfl) T.repr pT (pa_cons (pe_xp (List.mem_cons_self ..) hz hf (pv 1)) pa_nil)) pa_nil))) pa_nil)))) pss_nil)
      (pss_cons (ps_if (pt_val (pe_callB (call_isPT (List.mem_cons_self ..) hz hf) (by rfl) T.isinstance pI (pa_cons (pv 1) (pa_cons (pe_tup (pa_cons (pe_glob (v := .ref c4) rfl L.m4 rfl) (pa_cons (pe_glob (v := .ref c6) rfl L.m6 rfl) (pa_cons (pe_glob (v := .ref c9) rfl L.m9 rfl) (pa_cons (pe_glob (v := .ref c10) rfl L.m10 rfl) pa_nil))))) pa_nil)))) (pss_one (ps_expr (pe_bm PySem.F.plainAttrs_list PySem.F.slot_list_append PySem.F.type_list_append mt_append (pv 2) (pa_cons (pe_tup (pa_cons pe_str (pa_cons (pe_callB (R2 a oe) (by rfl) T.repr pT (pa_cons (pe_xp (List.mem_cons_self ..) hz hf (pv 1)) pa_nil)) pa_nil))) pa_nil)))) pss_nil)
      (pss_cons (ps_if (pt_val (pe_callB (call_isP (List.mem_cons_self ..) hz hf) (by rfl) T.isinstance pI (pa_cons (pv 1) (pa_cons (pe_glob (v := .ref c8) rfl L.m8 rfl) pa_nil)))) (pss_one (ps_expr (pe_bm PySem.F.plainAttrs_list PySem.F.slot_list_append PySem.F.type_list_append mt_append (pv 2) (pa_cons (pe_tup (pa_cons pe_str (pa_cons (pe_callB (R2 a oe) (by rfl) T.repr pT (pa_cons (pe_xp (List.mem_cons_self ..) hz hf (pv 1)) pa_nil)) pa_nil))) pa_nil)))) pss_nil)
      (pss_cons (ps_if (pt_val (pe_callB (call_isP (List.mem_cons_self ..) hz hf) (by rfl) T.isinstance pI (pa_cons (pv 1) (pa_cons (pe_glob (v := .ref c5) rfl L.m5 rfl) pa_nil)))) (pss_one (ps_expr (pe_bm PySem.F.plainAttrs_list PySem.F.slot_list_append PySem.F.type_list_append mt_append (pv 2) (pa_cons (pe_tup (pa_cons pe_str (pa_cons (pe_callB (R2 a oe) (by rfl) T.repr pT (pa_cons (pe_tup (pa_cons (pe_xp (List.mem_cons_self ..) hz hf (pv 1)) (pa_cons (pe_xp (List.mem_cons_self ..) hz hf (pv 1)) pa_nil))) pa_nil)) pa_nil))) pa_nil)))) pss_nil)
      (pss_cons (ps_if (pt_val (pe_callB (call_isP (List.mem_cons_self ..) hz hf) (by rfl) T.isinstance pI (pa_cons (pv 1) (pa_cons (pe_glob (v := .ref c11) rfl L.m11 rfl) pa_nil)))) (pss_one (ps_expr (pe_bm PySem.F.plainAttrs_list PySem.F.slot_list_append PySem.F.type_list_append mt_append (pv 2) (pa_cons (pe_tup (pa_cons pe_str (pa_cons (pe_callB (R2 a oe) (by rfl) T.repr pT (pa_cons (pe_xp (List.mem_cons_self ..) hz hf (pv 1)) pa_nil)) pa_nil))) pa_nil)))) pss_nil)
      (pss_cons (ps_if (pt_cmpR op_isN (pv 1) pe_non (nomark _)) (pss_one (ps_ret pe_non)) pss_nil)
      (pss_one (ps_ret (pe_ifExp (PW.pt (pw_and (pt_cmpR op_eq (pe_callB call_len_seq (by rfl) T.len PySem.boot_len (pa_cons (pv 2) pa_nil)) pe_int (nomark _)) (pw_and1 (pt_val (pe_callB (call_isP (List.mem_cons_self ..) hz hf) (by rfl) T.isinstance pI (pa_cons (pv 1) (pa_cons (pe_bltn (v := .ty "ValueError") (u := .type "ValueError") rfl tv (by decide +kernel) rfl) pa_nil))))))) (pe_ix ix_list (pv 2) pe_int (fun _ _ => rfl)) (pe_tup (pa_cons pe_str (pa_cons pe_str pa_nil)))))))))))))))), ?_⟩
        have s0 : Same H' H' := Same.refl H'
        refine ⟨_, rfl, .ref c0, _, false, rfl, .own c0, ee, q0, (fun _ z => by cases z; exact ⟨_, s0 _ _ hdd⟩), false, rfl, iteF ?_⟩
        refine ⟨_, rfl, .ref c1, _, false, rfl, .own c1, ee, q1, (fun _ z => by cases z; exact ⟨_, s0 _ _ hdd⟩), false, rfl, iteF ?_⟩
        refine ⟨_, rfl, .ref c2, _, false, rfl, .own c2, ee, q2, (fun _ z => by cases z; exact ⟨_, s0 _ _ hdd⟩), false, rfl, iteF ?_⟩
        refine ⟨_, rfl, .ref c3, _, false, rfl, .own c3, ee, q3, (fun _ z => by cases z; exact ⟨_, s0 _ _ hdd⟩), false, rfl, iteF ?_⟩
        refine ⟨_, rfl, .ref c7, _, false, rfl, .own c7, ee, q7, (fun _ z => by cases z; exact ⟨_, s0 _ _ hdd⟩), false, rfl, iteF ?_⟩
        refine ⟨_, rfl, (by show 4 ≤ sizeLine; decide), fun t1 m1 => ?_⟩
        have s1 := s0.step (o := .tup [.ref c4, .ref c6, .ref c9, .ref c10]) m1
        refine ⟨t1, _, _, true, rfl, upd_same, .cons (.own _) (.cons (.own _) (.cons (.own _) (.cons (.own _) .nil))), ee, (any_no q4 (any_no q6 (any_no q9 (any_yes q10)))), (fun _ z => by cases z; exact ⟨_, s1 _ _ hdd⟩), true, rfl, iteT ?_⟩
        have ndD : dd ≠ D := ne_of hdd hD0 (by intro z; cases z)
        refine ⟨_, rfl, .inl ⟨rfl, _, SqL.of (s1 _ _ hD0)⟩, _, rfl, dd, _, v, rfl, rfl, s1 _ _ hdd, xf, g10_index, rfl, v, pd, rfl, dz.keep s1, sh, dp, sz, (by show 2 ≤ sizeLine; decide), fun t nt => ?_⟩
        have w1 := Same.new (o := .tup [.str "index", .str pd.shown]) nt
        refine ⟨D, [], .ref t, rfl, rfl, w1 _ _ (s1 _ _ hD0), by decide, ?_⟩
        have ntD : t ≠ D := (ne_of_none (s1 _ _ hD0) nt).symm
        have B0 : ∀ b o, H' b = some o → b ≠ D → _ := fun b o z1 z2 => (upd_ne (o := .lst [.ref t]) z2).trans (w1 _ _ (s1 _ _ z1))
        have D0 := at_put (D := D) w1
        have t0_ := at_put2 w1 ntD
        refine ⟨_, rfl, .ref c8, _, false, rfl, .own c8, ee, q8, (fun _ z => by cases z; exact ⟨_, B0 _ _ hdd ndD⟩), false, rfl, iteF ?_⟩
        refine ⟨_, rfl, .ref c5, _, false, rfl, .own c5, ee, q5, (fun _ z => by cases z; exact ⟨_, B0 _ _ hdd ndD⟩), false, rfl, iteF ?_⟩
        refine ⟨_, rfl, .ref c11, _, false, rfl, .own c11, ee, q11, (fun _ z => by cases z; exact ⟨_, B0 _ _ hdd ndD⟩), false, rfl, iteF ?_⟩
        refine ⟨_, rfl, rfl, false, congrArg V.bl (decide_eq_false (fun z => nomatch z)), iteF ?_⟩
        refine ⟨_, rfl, D, _, rfl, .inl (SqL.of D0), rfl, true, congrArg V.bl (decide_eq_true rfl), iteT ?_⟩
        refine ⟨_, rfl, .ty "ValueError", _, true, rfl, .ty "ValueError", ee, d10.ve, (fun _ z => by cases z; exact ⟨_, B0 _ _ hdd ndD⟩), true, rfl, iteT ?_⟩
        exact ⟨_, rfl, D, _, 0, _, rfl, rfl, SqL.of D0, rfl, tell t _ B0 t0_⟩
      · have eC2 := eC.symm
        subst eC2
        have d8 : Ed X.K cE c8 := ⟨_, L.k8, .inr rfl⟩
        have ee := d8.exc L.o
        have xf := L.k8.xf (up2 cE)
        have q0 := kit_no d8 L.k0 (L.ne (by simp)) (Ne.symm n0_8)
        have q1 := kit_no d8 L.k1 (L.ne (by simp)) (Ne.symm n1_8)
        have q2 := kit_no d8 L.k2 (L.ne (by simp)) (Ne.symm n2_8)
        have q3 := kit_no d8 L.k3 (L.ne (by simp)) (Ne.symm n3_8)
        have q4 := kit_no d8 L.k4 (L.ne (by simp)) (Ne.symm n4_8)
        have q5 := kit_no d8 L.k5 (L.ne (by simp)) (Ne.symm n5_8)
        have q6 := kit_no d8 L.k6 (L.ne (by simp)) (Ne.symm n6_8)
        have q7 := kit_no d8 L.k7 (L.ne (by simp)) (Ne.symm n7_8)
        have q8 := kit_yes (K := X.K) (C := c8)
        have q9 := kit_no d8 L.k9 (L.ne (by simp)) n8_9
        have q10 := kit_no d8 L.k10 (L.ne (by simp)) n8_10
        have q11 := kit_no d8 L.k11 (L.ne (by simp)) n8_11
        have exm : PySem.W.exmOne X.K (.ref c8) (.ref cE) = some true := PySem.W.exm_ref (by rw [L.kE.sub, List.contains_cons, up1.be, Bool.or_true]) L.kE.hd (by obtain ⟨_, _, _, _, z⟩ := L.kE.cls; exact z) (by rw [L.k8.sub, List.contains_cons, List.contains_cons, beq_self_eq_true, Bool.true_or, Bool.or_true])
        refine ⟨true, exm, fun _ a oe na hz hf => ?_, fun z => nomatch z⟩
        refine ⟨_, (pss_cons (ps_if (pt_val (pe_callB (call_isP (List.mem_cons_self ..) hz hf) (by rfl) T.isinstance pI (pa_cons (pv 1) (pa_cons (pe_glob (v := .ref c0) rfl L.m0 rfl) pa_nil)))) (pss_one (ps_expr (pe_bm PySem.F.plainAttrs_list PySem.F.slot_list_append PySem.F.type_list_append mt_append (pv 2) (pa_cons (pe_tup (pa_cons pe_str (pa_cons (pe_callB (R2 a oe) (by rfl) T.repr pT (pa_cons (pe_xp (List.mem_cons_self ..) hz hf (pv 1)) pa_nil)) pa_nil))) pa_nil)))) pss_nil)
      (pss_cons (ps_if (pt_val (pe_callB (call_isP (List.mem_cons_self ..) hz hf) (by rfl) T.isinstance pI (pa_cons (pv 1) (pa_cons (pe_glob (v := .ref c1) rfl L.m1 rfl) pa_nil)))) (pss_one (ps_expr (pe_bm PySem.F.plainAttrs_list PySem.F.slot_list_append PySem.F.type_list_append mt_append (pv 2) (pa_cons (pe_tup (pa_cons pe_str (pa_cons (pe_callB (R2 a oe) (by rfl) T.repr pT (pa_cons (pe_xp (List.mem_cons_self ..) hz hf (pv 1)) pa_nil)) pa_nil))) pa_nil)))) pss_nil)
      (pss_cons (ps_if (pt_val (pe_callB (call_isP (List.mem_cons_self ..) hz hf) (by rfl) T.isinstance pI (pa_cons (pv 1) (pa_cons (pe_glob (v := .ref c2) rfl L.m2 rfl) pa_nil)))) (pss_one (ps_expr (pe_bm PySem.F.plainAttrs_list PySem.F.slot_list_append PySem.F.type_list_append mt_append (pv 2) (pa_cons (pe_tup (pa_cons pe_str (pa_cons (pe_callB (R2 a oe) (by rfl) T.repr pT (pa_cons (pe_xp (List.mem_cons_self ..) hz hf (pv 1)) pa_nil)) pa_nil))) pa_nil)))) pss_nil)
      (pss_cons (ps_if (pt_val (pe_callB (call_isP (List.mem_cons_self ..) hz hf) (by rfl) T.isinstance pI (pa_cons (pv 1) (pa_cons (pe_glob (v := .ref c3) rfl L.m3 rfl) pa_nil)))) (pss_one (ps_expr (pe_bm PySem.F.plainAttrs_list PySem.F.slot_list_append PySem.F.type_list_append mt_append (pv 2) (pa_cons (pe_tup (pa_cons pe_str (pa_cons (pe_callB (R2 a oe) (by rfl) T.repr pT (pa_cons (pe_xp (List.mem_cons_self ..) hz hf (pv 1)) pa_nil)) pa_nil))) pa_nil)))) pss_nil)
      (pss_cons (ps_if (pt_val (pe_callB (call_isP (List.mem_cons_self ..) hz hf) (by rfl) T.isinstance pI (pa_cons (pv 1) (pa_cons (pe_glob (v := .ref c7) rfl L.m7 rfl) pa_nil)))) (pss_one (ps_expr (pe_bm PySem.F.plainAttrs_list PySem.F.slot_list_append PySem.F.type_list_append mt_append (pv 2) (pa_cons (pe_tup (pa_cons pe_str (pa_cons (pe_callB (R2 a oe) (by rfl) T.repr pT (pa_cons (pe_xp (List.mem_cons_self ..) hz hf (pv 1)) pa_nil)) pa_nil))) pa_nil)))) pss_nil)
      (pss_cons (ps_if (pt_val (pe_callB (call_isPT (List.mem_cons_self ..) hz hf) (by rfl) T.isinstance pI (pa_cons (pv 1) (pa_cons (pe_tup (pa_cons (pe_glob (v := .ref c4) rfl L.m4 rfl) (pa_cons (pe_glob (v := .ref c6) rfl L.m6 rfl) (pa_cons (pe_glob (v := .ref c9) rfl L.m9 rfl) (pa_cons (pe_glob (v := .ref c10) rfl L.m10 rfl) pa_nil))))) pa_nil)))) (pss_one (ps_expr (pe_bm PySem.F.plainAttrs_list PySem.F.slot_list_append PySem.F.type_list_append mt_append (pv 2) (pa_cons (pe_tup (pa_cons pe_str (pa_cons (pe_callB (R2 a oe) (by rfl) T.repr pT (pa_cons (pe_xp (List.mem_cons_self ..) hz hf (pv 1)) pa_nil)) pa_nil))) pa_nil)))) pss_nil)
      (pss_cons (ps_if (pt_val (pe_callB (call_isP (List.mem_cons_self ..) hz hf) (by rfl) T.isinstance pI (pa_cons (pv 1) (pa_cons (pe_glob (v := .ref c8) rfl L.m8 rfl) pa_nil)))) (pss_one (ps_expr (pe_bm PySem.F.plainAttrs_list PySem.F.slot_list_append PySem.F.type_list_append mt_append (pv 2) (pa_cons (pe_tup (pa_cons pe_str (pa_cons (pe_callB (R2 a oe) (by rfl) T.repr pT (pa_cons (pe_xp (List.mem_cons_self ..) hz hf (pv 1)) pa_nil)) pa_nil))) pa_nil)))) pss_nil)
      (pss_cons (ps_if (pt_val (pe_callB (call_isP (List.mem_cons_self ..) hz hf) (by rfl) T.isinstance pI (pa_cons (pv 1) (pa_cons (pe_glob (v := .ref c5) rfl L.m5 rfl) pa_nil)))) (pss_one (ps_expr (pe_bm PySem.F.plainAttrs_list PySem.F.slot_list_append PySem.F.type_list_append mt_append (pv 2) (pa_cons (pe_tup (pa_cons pe_str (pa_cons (pe_callB (R2 a oe) (by rfl) T.repr pT (pa_cons (pe_tup (pa_cons (pe_xp (List.mem_cons_self ..) hz hf (pv 1)) (pa_cons (pe_xp (List.mem_cons_self ..) hz hf (pv 1)) pa_nil))) pa_nil)) pa_nil))) pa_nil)))) pss_nil)
      (pss_cons (ps_if (pt_val (pe_callB (call_isP (List.mem_cons_self ..) hz hf) (by rfl) T.isinstance pI (pa_cons (pv 1) (pa_cons (pe_glob (v := .ref c11) rfl L.m11 rfl) pa_nil)))) (pss_one (ps_expr (pe_bm PySem.F.plainAttrs_list PySem.F.slot_list_append PySem.F.type_list_append mt_append (pv 2) (pa_cons (pe_tup (pa_cons pe_str (pa_cons (pe_callB (R2 a oe) (by rfl) T.repr pT (pa_cons (pe_xp (List.mem_cons_self ..) hz hf (pv 1)) pa_nil)) pa_nil))) pa_nil)))) pss_nil)
      (pss_cons (ps_if (pt_cmpR op_isN (pv 1) pe_non (nomark _)) (pss_one (ps_ret pe_non)) pss_nil)
      (pss_one (ps_ret (pe_ifExp (PW.pt (pw_and (pt_cmpR op_eq (pe_callB call_len_seq (by rfl) T.len PySem.boot_len (pa_cons (pv 2) pa_nil)) pe_int (nomark _)) (pw_and1 (pt_val (pe_callB (call_isP (List.mem_cons_self ..) hz hf) (by rfl) T.isinstance pI (pa_cons (pv 1) (pa_cons (pe_bltn (v := .ty "ValueError") (u := .type "ValueError") rfl tv (by decide +kernel) rfl) pa_nil))))))) (pe_ix ix_list (pv 2) pe_int (fun _ _ => rfl)) (pe_tup (pa_cons pe_str (pa_cons pe_str pa_nil)))))))))))))))), ?_⟩
        have s0 : Same H' H' := Same.refl H'
        refine ⟨_, rfl, .ref c0, _, false, rfl, .own c0, ee, q0, (fun _ z => by cases z; exact ⟨_, s0 _ _ hdd⟩), false, rfl, iteF ?_⟩
        refine ⟨_, rfl, .ref c1, _, false, rfl, .own c1, ee, q1, (fun _ z => by cases z; exact ⟨_, s0 _ _ hdd⟩), false, rfl, iteF ?_⟩
        refine ⟨_, rfl, .ref c2, _, false, rfl, .own c2, ee, q2, (fun _ z => by cases z; exact ⟨_, s0 _ _ hdd⟩), false, rfl, iteF ?_⟩
        refine ⟨_, rfl, .ref c3, _, false, rfl, .own c3, ee, q3, (fun _ z => by cases z; exact ⟨_, s0 _ _ hdd⟩), false, rfl, iteF ?_⟩
        refine ⟨_, rfl, .ref c7, _, false, rfl, .own c7, ee, q7, (fun _ z => by cases z; exact ⟨_, s0 _ _ hdd⟩), false, rfl, iteF ?_⟩
        refine ⟨_, rfl, (by show 4 ≤ sizeLine; decide), fun t1 m1 => ?_⟩
        have s1 := s0.step (o := .tup [.ref c4, .ref c6, .ref c9, .ref c10]) m1
        refine ⟨t1, _, _, false, rfl, upd_same, .cons (.own _) (.cons (.own _) (.cons (.own _) (.cons (.own _) .nil))), ee, (any_no q4 (any_no q6 (any_no q9 (any_no q10 rfl)))), (fun _ z => by cases z; exact ⟨_, s1 _ _ hdd⟩), false, rfl, iteF ?_⟩
        refine ⟨_, rfl, .ref c8, _, true, rfl, .own c8, ee, q8, (fun _ z => by cases z; exact ⟨_, s1 _ _ hdd⟩), true, rfl, iteT ?_⟩
        have ndD : dd ≠ D := ne_of hdd hD0 (by intro z; cases z)
        refine ⟨_, rfl, .inl ⟨rfl, _, SqL.of (s1 _ _ hD0)⟩, _, rfl, dd, _, v, rfl, rfl, s1 _ _ hdd, xf, g8_number, rfl, v, pd, rfl, dz.keep s1, sh, dp, sz, (by show 2 ≤ sizeLine; decide), fun t nt => ?_⟩
        have w1 := Same.new (o := .tup [.str "few", .str pd.shown]) nt
        refine ⟨D, [], .ref t, rfl, rfl, w1 _ _ (s1 _ _ hD0), by decide, ?_⟩
        have ntD : t ≠ D := (ne_of_none (s1 _ _ hD0) nt).symm
        have B0 : ∀ b o, H' b = some o → b ≠ D → _ := fun b o z1 z2 => (upd_ne (o := .lst [.ref t]) z2).trans (w1 _ _ (s1 _ _ z1))
        have D0 := at_put (D := D) w1
        have t0_ := at_put2 w1 ntD
        refine ⟨_, rfl, .ref c5, _, false, rfl, .own c5, ee, q5, (fun _ z => by cases z; exact ⟨_, B0 _ _ hdd ndD⟩), false, rfl, iteF ?_⟩
        refine ⟨_, rfl, .ref c11, _, false, rfl, .own c11, ee, q11, (fun _ z => by cases z; exact ⟨_, B0 _ _ hdd ndD⟩), false, rfl, iteF ?_⟩
        refine ⟨_, rfl, rfl, false, congrArg V.bl (decide_eq_false (fun z => nomatch z)), iteF ?_⟩
        refine ⟨_, rfl, D, _, rfl, .inl (SqL.of D0), rfl, true, congrArg V.bl (decide_eq_true rfl), iteT ?_⟩
        refine ⟨_, rfl, .ty "ValueError", _, true, rfl, .ty "ValueError", ee, d8.ve, (fun _ z => by cases z; exact ⟨_, B0 _ _ hdd ndD⟩), true, rfl, iteT ?_⟩
        exact ⟨_, rfl, D, _, 0, _, rfl, rfl, SqL.of D0, rfl, tell t _ B0 t0_⟩
      · have eC2 := eC.symm
        subst eC2
        have d11 : Ed X.K cE c11 := ⟨_, L.k11, .inr rfl⟩
        have ee := d11.exc L.o
        have xf := L.k11.xf (up2 cE)
        have q0 := kit_no d11 L.k0 (L.ne (by simp)) (Ne.symm n0_11)
        have q1 := kit_no d11 L.k1 (L.ne (by simp)) (Ne.symm n1_11)
        have q2 := kit_no d11 L.k2 (L.ne (by simp)) (Ne.symm n2_11)
        have q3 := kit_no d11 L.k3 (L.ne (by simp)) (Ne.symm n3_11)
        have q4 := kit_no d11 L.k4 (L.ne (by simp)) (Ne.symm n4_11)
        have q5 := kit_no d11 L.k5 (L.ne (by simp)) (Ne.symm n5_11)
        have q6 := kit_no d11 L.k6 (L.ne (by simp)) (Ne.symm n6_11)
        have q7 := kit_no d11 L.k7 (L.ne (by simp)) (Ne.symm n7_11)
        have q8 := kit_no d11 L.k8 (L.ne (by simp)) (Ne.symm n8_11)
        have q9 := kit_no d11 L.k9 (L.ne (by simp)) (Ne.symm n9_11)
        have q10 := kit_no d11 L.k10 (L.ne (by simp)) (Ne.symm n10_11)
        have q11 := kit_yes (K := X.K) (C := c11)
        have exm : PySem.W.exmOne X.K (.ref c11) (.ref cE) = some true := PySem.W.exm_ref (by rw [L.kE.sub, List.contains_cons, up1.be, Bool.or_true]) L.kE.hd (by obtain ⟨_, _, _, _, z⟩ := L.kE.cls; exact z) (by rw [L.k11.sub, List.contains_cons, List.contains_cons, beq_self_eq_true, Bool.true_or, Bool.or_true])
        refine ⟨true, exm, fun _ a oe na hz hf => ?_, fun z => nomatch z⟩
        refine ⟨_, (pss_cons (ps_if (pt_val (pe_callB (call_isP (List.mem_cons_self ..) hz hf) (by rfl) T.isinstance pI (pa_cons (pv 1) (pa_cons (pe_glob (v := .ref c0) rfl L.m0 rfl) pa_nil)))) (pss_one (ps_expr (pe_bm PySem.F.plainAttrs_list PySem.F.slot_list_append PySem.F.type_list_append mt_append (pv 2) (pa_cons (pe_tup (pa_cons pe_str (pa_cons (pe_callB (R2 a oe) (by rfl) T.repr pT (pa_cons (pe_xp (List.mem_cons_self ..) hz hf (pv 1)) pa_nil)) pa_nil))) pa_nil)))) pss_nil)
      (pss_cons (ps_if (pt_val (pe_callB (call_isP (List.mem_cons_self ..) hz hf) (by rfl) T.isinstance pI (pa_cons (pv 1) (pa_cons (pe_glob (v := .ref c1) rfl L.m1 rfl) pa_nil)))) (pss_one (ps_expr (pe_bm PySem.F.plainAttrs_list PySem.F.slot_list_append PySem.F.type_list_append mt_append (pv 2) (pa_cons (pe_tup (pa_cons pe_str (pa_cons (pe_callB (R2 a oe) (by rfl) T.repr pT (pa_cons (pe_xp (List.mem_cons_self ..) hz hf (pv 1)) pa_nil)) pa_nil))) pa_nil)))) pss_nil)
      (pss_cons (ps_if (pt_val (pe_callB (call_isP (List.mem_cons_self ..) hz hf) (by rfl) T.isinstance pI (pa_cons (pv 1) (pa_cons (pe_glob (v := .ref c2) rfl L.m2 rfl) pa_nil)))) (pss_one (ps_expr (pe_bm PySem.F.plainAttrs_list PySem.F.slot_list_append PySem.F.type_list_append mt_append (pv 2) (pa_cons (pe_tup (pa_cons pe_str (pa_cons (pe_callB (R2 a oe) (by rfl) T.repr pT (pa_cons (pe_xp (List.mem_cons_self ..) hz hf (pv 1)) pa_nil)) pa_nil))) pa_nil)))) pss_nil)
      (pss_cons (ps_if (pt_val (pe_callB (call_isP (List.mem_cons_self ..) hz hf) (by rfl) T.isinstance pI (pa_cons (pv 1) (pa_cons (pe_glob (v := .ref c3) rfl L.m3 rfl) pa_nil)))) (pss_one (ps_expr (pe_bm PySem.F.plainAttrs_list PySem.F.slot_list_append PySem.F.type_list_append mt_append (pv 2) (pa_cons (pe_tup (pa_cons pe_str (pa_cons (pe_callB (R2 a oe) (by rfl) T.repr pT (pa_cons (pe_xp (List.mem_cons_self ..) hz hf (pv 1)) pa_nil)) pa_nil))) pa_nil)))) pss_nil)
      (pss_cons (ps_if (pt_val (pe_callB (call_isP (List.mem_cons_self ..) hz hf) (by rfl) T.isinstance pI (pa_cons (pv 1) (pa_cons (pe_glob (v := .ref c7) rfl L.m7 rfl) pa_nil)))) (pss_one (ps_expr (pe_bm PySem.F.plainAttrs_list PySem.F.slot_list_append PySem.F.type_list_append mt_append (pv 2) (pa_cons (pe_tup (pa_cons pe_str (pa_cons (pe_callB (R2 a oe) (by rfl) T.repr pT (pa_cons (pe_xp (List.mem_cons_self ..) hz hf (pv 1)) pa_nil)) pa_nil))) pa_nil)))) pss_nil)
      (pss_cons (ps_if (pt_val (pe_callB (call_isPT (List.mem_cons_self ..) hz hf) (by rfl) T.isinstance pI (pa_cons (pv 1) (pa_cons (pe_tup (pa_cons (pe_glob (v := .ref c4) rfl L.m4 rfl) (pa_cons (pe_glob (v := .ref c6) rfl L.m6 rfl) (pa_cons (pe_glob (v := .ref c9) rfl L.m9 rfl) (pa_cons (pe_glob (v := .ref c10) rfl L.m10 rfl) pa_nil))))) pa_nil)))) (pss_one (ps_expr (pe_bm PySem.F.plainAttrs_list PySem.F.slot_list_append PySem.F.type_list_append mt_append (pv 2) (pa_cons (pe_tup (pa_cons pe_str (pa_cons (pe_callB (R2 a oe) (by rfl) T.repr pT (pa_cons (pe_xp (List.mem_cons_self ..) hz hf (pv 1)) pa_nil)) pa_nil))) pa_nil)))) pss_nil)
      (pss_cons (ps_if (pt_val (pe_callB (call_isP (List.mem_cons_self ..) hz hf) (by rfl) T.isinstance pI (pa_cons (pv 1) (pa_cons (pe_glob (v := .ref c8) rfl L.m8 rfl) pa_nil)))) (pss_one (ps_expr (pe_bm PySem.F.plainAttrs_list PySem.F.slot_list_append PySem.F.type_list_append mt_append (pv 2) (pa_cons (pe_tup (pa_cons pe_str (pa_cons (pe_callB (R2 a oe) (by rfl) T.repr pT (pa_cons (pe_xp (List.mem_cons_self ..) hz hf (pv 1)) pa_nil)) pa_nil))) pa_nil)))) pss_nil)
      (pss_cons (ps_if (pt_val (pe_callB (call_isP (List.mem_cons_self ..) hz hf) (by rfl) T.isinstance pI (pa_cons (pv 1) (pa_cons (pe_glob (v := .ref c5) rfl L.m5 rfl) pa_nil)))) (pss_one (ps_expr (pe_bm PySem.F.plainAttrs_list PySem.F.slot_list_append PySem.F.type_list_append mt_append (pv 2) (pa_cons (pe_tup (pa_cons pe_str (pa_cons (pe_callB (R2 a oe) (by rfl) T.repr pT (pa_cons (pe_tup (pa_cons (pe_xp (List.mem_cons_self ..) hz hf (pv 1)) (pa_cons (pe_xp (List.mem_cons_self ..) hz hf (pv 1)) pa_nil))) pa_nil)) pa_nil))) pa_nil)))) pss_nil)
      (pss_cons (ps_if (pt_val (pe_callB (call_isP (List.mem_cons_self ..) hz hf) (by rfl) T.isinstance pI (pa_cons (pv 1) (pa_cons (pe_glob (v := .ref c11) rfl L.m11 rfl) pa_nil)))) (pss_one (ps_expr (pe_bm PySem.F.plainAttrs_list PySem.F.slot_list_append PySem.F.type_list_append mt_append (pv 2) (pa_cons (pe_tup (pa_cons pe_str (pa_cons (pe_callB (R2 a oe) (by rfl) T.repr pT (pa_cons (pe_xp (List.mem_cons_self ..) hz hf (pv 1)) pa_nil)) pa_nil))) pa_nil)))) pss_nil)
      (pss_cons (ps_if (pt_cmpR op_isN (pv 1) pe_non (nomark _)) (pss_one (ps_ret pe_non)) pss_nil)
      (pss_one (ps_ret (pe_ifExp (PW.pt (pw_and (pt_cmpR op_eq (pe_callB call_len_seq (by rfl) T.len PySem.boot_len (pa_cons (pv 2) pa_nil)) pe_int (nomark _)) (pw_and1 (pt_val (pe_callB (call_isP (List.mem_cons_self ..) hz hf) (by rfl) T.isinstance pI (pa_cons (pv 1) (pa_cons (pe_bltn (v := .ty "ValueError") (u := .type "ValueError") rfl tv (by decide +kernel) rfl) pa_nil))))))) (pe_ix ix_list (pv 2) pe_int (fun _ _ => rfl)) (pe_tup (pa_cons pe_str (pa_cons pe_str pa_nil)))))))))))))))), ?_⟩
        have s0 : Same H' H' := Same.refl H'
        refine ⟨_, rfl, .ref c0, _, false, rfl, .own c0, ee, q0, (fun _ z => by cases z; exact ⟨_, s0 _ _ hdd⟩), false, rfl, iteF ?_⟩
        refine ⟨_, rfl, .ref c1, _, false, rfl, .own c1, ee, q1, (fun _ z => by cases z; exact ⟨_, s0 _ _ hdd⟩), false, rfl, iteF ?_⟩
        refine ⟨_, rfl, .ref c2, _, false, rfl, .own c2, ee, q2, (fun _ z => by cases z; exact ⟨_, s0 _ _ hdd⟩), false, rfl, iteF ?_⟩
        refine ⟨_, rfl, .ref c3, _, false, rfl, .own c3, ee, q3, (fun _ z => by cases z; exact ⟨_, s0 _ _ hdd⟩), false, rfl, iteF ?_⟩
        refine ⟨_, rfl, .ref c7, _, false, rfl, .own c7, ee, q7, (fun _ z => by cases z; exact ⟨_, s0 _ _ hdd⟩), false, rfl, iteF ?_⟩
        refine ⟨_, rfl, (by show 4 ≤ sizeLine; decide), fun t1 m1 => ?_⟩
        have s1 := s0.step (o := .tup [.ref c4, .ref c6, .ref c9, .ref c10]) m1
        refine ⟨t1, _, _, false, rfl, upd_same, .cons (.own _) (.cons (.own _) (.cons (.own _) (.cons (.own _) .nil))), ee, (any_no q4 (any_no q6 (any_no q9 (any_no q10 rfl)))), (fun _ z => by cases z; exact ⟨_, s1 _ _ hdd⟩), false, rfl, iteF ?_⟩
        refine ⟨_, rfl, .ref c8, _, false, rfl, .own c8, ee, q8, (fun _ z => by cases z; exact ⟨_, s1 _ _ hdd⟩), false, rfl, iteF ?_⟩
        refine ⟨_, rfl, .ref c5, _, false, rfl, .own c5, ee, q5, (fun _ z => by cases z; exact ⟨_, s1 _ _ hdd⟩), false, rfl, iteF ?_⟩
        refine ⟨_, rfl, .ref c11, _, true, rfl, .own c11, ee, q11, (fun _ z => by cases z; exact ⟨_, s1 _ _ hdd⟩), true, rfl, iteT ?_⟩
        have ndD : dd ≠ D := ne_of hdd hD0 (by intro z; cases z)
        refine ⟨_, rfl, .inl ⟨rfl, _, SqL.of (s1 _ _ hD0)⟩, _, rfl, dd, _, v, rfl, rfl, s1 _ _ hdd, xf, g11_line, rfl, v, pd, rfl, dz.keep s1, sh, dp, sz, (by show 2 ≤ sizeLine; decide), fun t nt => ?_⟩
        have w1 := Same.new (o := .tup [.str "text", .str pd.shown]) nt
        refine ⟨D, [], .ref t, rfl, rfl, w1 _ _ (s1 _ _ hD0), by decide, ?_⟩
        have ntD : t ≠ D := (ne_of_none (s1 _ _ hD0) nt).symm
        have B0 : ∀ b o, H' b = some o → b ≠ D → _ := fun b o z1 z2 => (upd_ne (o := .lst [.ref t]) z2).trans (w1 _ _ (s1 _ _ z1))
        have D0 := at_put (D := D) w1
        have t0_ := at_put2 w1 ntD
        refine ⟨_, rfl, rfl, false, congrArg V.bl (decide_eq_false (fun z => nomatch z)), iteF ?_⟩
        refine ⟨_, rfl, D, _, rfl, .inl (SqL.of D0), rfl, true, congrArg V.bl (decide_eq_true rfl), iteT ?_⟩
        refine ⟨_, rfl, .ty "ValueError", _, true, rfl, .ty "ValueError", ee, d11.ve, (fun _ z => by cases z; exact ⟨_, B0 _ _ hdd ndD⟩), true, rfl, iteT ?_⟩
        exact ⟨_, rfl, D, _, 0, _, rfl, rfl, SqL.of D0, rfl, tell t _ B0 t0_⟩
    · -- no error
      refine ⟨_, rfl, _, _, _, _, false, rfl, .own c0, .base .non, n0, false, rfl, iteF ?_⟩
      refine ⟨_, rfl, _, _, _, _, false, rfl, .own c1, .base .non, n1, false, rfl, iteF ?_⟩
      refine ⟨_, rfl, _, _, _, _, false, rfl, .own c2, .base .non, n2, false, rfl, iteF ?_⟩
      refine ⟨_, rfl, _, _, _, _, false, rfl, .own c3, .base .non, n3, false, rfl, iteF ?_⟩
      refine ⟨_, rfl, _, _, _, _, false, rfl, .own c7, .base .non, n7, false, rfl, iteF ?_⟩
      refine ⟨_, rfl, (by show 4 ≤ sizeLine; decide), fun t1 m1 => ⟨.non, t1, _, .type "NoneType", _, false, rfl, upd_same, .cons (.own _) (.cons (.own _) (.cons (.own _) (.cons (.own _) .nil))), .base .non, any_no n4 (any_no n6 (any_no n9 (any_no n10 rfl))), false, rfl, iteF ?_⟩⟩
      refine ⟨_, rfl, _, _, _, _, false, rfl, .own c8, .base .non, n8, false, rfl, iteF ?_⟩
      refine ⟨_, rfl, _, _, _, _, false, rfl, .own c5, .base .non, n5, false, rfl, iteF ?_⟩
      refine ⟨_, rfl, _, _, _, _, false, rfl, .own c11, .base .non, n11, false, rfl, iteF ?_⟩
      refine ⟨_, rfl, rfl, true, congrArg V.bl (decide_eq_true rfl), iteT ?_⟩
      exact end_ _ (Same.new m1)
end
end Cf
namespace Cf
open PySem L2
section
variable {P : Program} {w : World} {K : PySem.W.Frag} {mg : Str → Option Value} {base : Heap} {cN : Addr}
/-! ### numbers refused -/
/-- data that are no number -/
def nonum : PyData → Bool
  | .int _ => false
  | _ => true
theorem ty_list {H : Hp} {a : Addr} {xs : List V} (h : SqL K H a xs) : TyX K H (.ref a) (.type "list") := by
  rcases h with (h | ⟨o, h⟩) | ⟨o, its, n, h1, h2, _⟩
  · exact .base (.lst h)
  · exact .base (.frz h)
  · exact .kList h1 h2
theorem ty_tup {H : Hp} {a : Addr} {xs : List V} (h : SqT K H a xs) : TyX K H (.ref a) (.type "tuple") := by
  rcases h with (h | ⟨o, h⟩) | ⟨o, its, n, h1, h2, _⟩
  · exact .base (.tup h)
  · exact .fTuple h
  · exact .kTuple h1 h2
/-- its type, and what isinstance says of int and bool -/
theorem dz_ty {H : Hp} {v : V} {d : PyData} (z : Dz K H v d) (n : nonum d = true) : ∃ (t : String) (bi bb : Bool), TyX K H v (.type t) ∧ kitB t "int" = some bi ∧ kitB t "bool" = some bb ∧ (bi && !bb) = false := by
  cases z with
  | flat h nd =>
    cases h with
    | non => exact ⟨"NoneType", false, false, .base .non, by decide +kernel, by decide +kernel, rfl⟩
    | bl b => exact ⟨"bool", true, true, .base (.bl b), by decide +kernel, by decide +kernel, rfl⟩
    | int i => cases n
    | str x => exact ⟨"str", false, false, .base (.str x), by decide +kernel, by decide +kernel, rfl⟩
    | lst h _ => exact ⟨"list", false, false, ty_list h, by decide +kernel, by decide +kernel, rfl⟩
    | tup h _ => exact ⟨"tuple", false, false, ty_tup h, by decide +kernel, by decide +kernel, rfl⟩
  | nums is h => exact ⟨"dict", false, false, .base (.dK h), by decide +kernel, by decide +kernel, rfl⟩
def spIsNumV (K : PySem.W.Frag) : Sp := fun vs H Q _ => ∃ x : V, vs = [x] ∧ ((∃ n, x = .int n ∧ Q (.bl true) H) ∨ ∃ d, Dz K H x d ∧ nonum d = true ∧ Q (.bl false) H)
theorem scIsNumberV : FnScope ["value"] ["value"] (defScope sIsNumber) := ⟨rfl, rfl, rfl, by decide +kernel, rfl, by decide +kernel, by decide +kernel⟩
theorem ok_isnumV {f : Addr} {fd : FuncData} (F : Fun K "is_number" "is_number" sIsNumber f fd) (T : Nm mg) : FnOk P w K mg base CX0 1 f fd ["value"] (spIsNumV K) := by
  refine F.ok scIsNumberV (fun vs H Q E h => ?_) (fun cdv A outer s H vs Q E hr h => ?_)
  · obtain ⟨x, rfl, _⟩ := h
    rfl
  · obtain ⟨x, rfl, h⟩ := h
    refine ⟨_, pss_one (ps_ret (pe_and (pe_callB call_isi (by rfl) T.isinstance (by decide +kernel) (pa_cons (pv 0) (pa_cons (pe_bltn (v := .ty "int") (by rfl) T.int (by decide +kernel) rfl) pa_nil)))
      (pe_one (pe_not (pe_callB call_isi (by rfl) T.isinstance (by decide +kernel) (pa_cons (pv 0) (pa_cons (pe_bltn (v := .ty "bool") (by rfl) T.bool (by decide +kernel) rfl) pa_nil))))))), ?_⟩
    rcases h with ⟨n, rfl, k⟩ | ⟨d, z, n, k⟩
    · refine ⟨_, rfl, _, _, _, _, true, rfl, .ty "int", .base (.int _), kit_ty (by decide +kernel), true, rfl, iteT ?_⟩
      exact ⟨_, rfl, _, _, _, _, false, rfl, .ty "bool", .base (.int _), kit_ty (by decide +kernel), false, rfl, k⟩
    · obtain ⟨t, bi, bb, ty, e1, e2, e3⟩ := dz_ty z n
      refine ⟨_, rfl, _, _, _, _, bi, rfl, .ty "int", ty, kit_ty e1, bi, rfl, ?_⟩
      cases bi with
      | false => exact iteF k
      | true =>
        refine iteT ⟨_, rfl, _, _, _, _, bb, rfl, .ty "bool", ty, kit_ty e2, bb, rfl, ?_⟩
        rw [Bool.true_and] at e3
        rw [e3]
        exact k
/-- BadNumber(x) is let out -/
def OutN (cN : Addr) (x : V) (E : XK) (H : Hp) : Prop := ∀ (dd : Addr) (H' : Hp), Same H H' → H dd = none → H' dd = some (.xd [("value", x)]) → E (.ref cN) (some dd) H'
/-- what the __init__ of such a class promises: the fields stand in a new dict -/
def spI (C : Addr) (n : Nat) (mk : List V → List (Str × V)) : Sp := fun vs H Q _ => ∃ (a : Addr) (us : List V), vs = .ref a :: us ∧ us.length = n ∧ H a = some (exo a C none) ∧
  ∀ (H' : Hp) (dx : Addr), (∀ b o, H b = some o → b ≠ a → H' b = some o) → H dx = none → dx ≠ a → H' a = some (exo a C (some dx)) → H' dx = some (exd dx (mk us)) → Q .non H'
theorem ok_init1 {C f : Addr} {fd : FuncData} (F : Fun K "__init__" "BadNumber.__init__" (inner sBadnumber) f fd) (O : OexC K C) (h0 : PySem.W.findIn K (.ref C) "value" = some none) : FnOk P w K mg base (L2.CX P w) 1 f fd ["self", "value"] (spI C 1 mk0) := by
  refine F.okX sc0 (fun vs H Q E h => ?_) (fun cdv A outer s H vs Q E hr h => ?_)
  · obtain ⟨a, us, rfl, l, _⟩ := h
    match us, l with
    | [_], _ => rfl
  · obtain ⟨a, us, rfl, l, ha, go⟩ := h
    match us, l, go with
    | [v], _, go =>
      refine ⟨_, pss_one (ps_ost (pv 0) (pv 1)), ?_⟩
      refine ⟨_, rfl, _, rfl, a, C, rfl, O, h0, .inl ⟨ha, fun dx hx ne => ?_⟩⟩
      exact go _ dx (fun b o e nb => by rw [upd_ne nb, upd_ne (ne_of_none e hx)]; exact e) hx ne upd_same (by rw [upd_ne ne]; exact upd_same)
/-- a def that may let errors out, as its callers see it -/
structure Dx (P : Program) (w : World) (K : PySem.W.Frag) (mg : Str → Option Value) (base : Heap) (k : Nat) (x : Str) (ps : List Str) (dvs : List V) (sp : Sp) : Prop where
  ex : ∃ (f : Addr) (fd : FuncData) (ds : List Value), FnOk P w K mg base (L2.CX P w) k f fd ps sp ∧ mg x = some (.ref f) ∧ PySem.W.keepIn K (.ref f) = true ∧ Vals dvs ds ∧ Binds K fd ps ds
section
variable {X : Cx} {W : WX} {k : Nat} {x : Str} {ps : List Str} {sp : Sp} {dvs : List V} {p pos : Pos} {e : Expr} {es : List Expr} {t : TA} {rest : List Stmt}
theorem pe_dx (D : Dx X.prog X.w X.K X.mg X.base k x ps dvs sp) (hr : Room k X.A) (tk : L2.Takes X W) (ha : PA X (e :: es) t) (hg : Gl X x := by rfl) (hdb : (x == ("__debug__" : Str)) = false := by decide)
    (he : starEach (e :: es) X.env = (false, eval e X.env) :: starEach es X.env := by rfl) (hpl : (backTo pos (starEach es X.env)).any (·.1) = false := by rfl) :
    PE X (.Call (.Name x p) (e :: es) [] pos) (tCallSD sp dvs (WE W) t) := by
  obtain ⟨f, fd, ds, F, m, kp, hv, b⟩ := D.ex
  exact pe_callSD F hr hg m kp b hv (fun σ => L2.passAt tk σ) ha hdb he hpl
/-- what is never reached -/
theorem pss_never : PSs X rest (fun _ _ _ => False) := ⟨fun _ _ _ _ _ _ h => h.elim⟩
end
def spCheckX (K : PySem.W.Frag) (cN : Addr) : Sp := fun vs H Q E => ∃ x : V, vs = [x, .non] ∧ ((∃ n, x = .int n ∧ Q .non H) ∨ ∃ d, Dz K H x d ∧ nonum d = true ∧ OutN cN x E H)
theorem scCheckNumberX : FnScope ["value", "least"] ["value", "least"] (defScope sCheckNumber) := ⟨rfl, rfl, rfl, by decide +kernel, rfl, by decide +kernel, by decide +kernel⟩
end
end Cf
namespace Cf
open PySem L2
section
variable {P : Program} {w : World} {K : PySem.W.Frag} {mg : Str → Option Value} {base : Heap} {cN : Addr}
/-! ### check_number, and what it lets out of the functions of one argument -/
theorem raise_read {C : Addr} {n : Nat} {mk : List V → List (Str × V)} {vs : List V} {H1 : Hp} {Q : XK} (ln : vs.length = n) (go : ∀ (dd : Addr) (H2 : Hp), Same H1 H2 → H1 dd = none → H2 dd = some (.xd (mk vs)) → Q (.ref C) (some dd) H2) :
    ∀ a, H1 a = none → spI C n mk (.ref a :: (vs ++ [])) (upd H1 a (exo a C none)) (fun v H2 => v = .non ∧ ∃ (d : Addr) (fs : List (Str × V)), H2 a = some (exo a C (some d)) ∧ H2 d = some (exd d fs) ∧ H1 d = none ∧ Q (.ref C) (some d) (upd (del H2 a) d (.xd fs))) (fun _ _ _ => False) := by
  intro a ha
  rw [List.append_nil]
  refine ⟨a, vs, rfl, ln, upd_same, fun H' dx keep hx ne at_ ad => ⟨rfl, dx, _, at_, ad, ?_, ?_⟩⟩
  · rw [upd_ne ne] at hx
    exact hx
  · have h0 : H1 dx = none := by rw [upd_ne ne] at hx; exact hx
    refine go dx _ (fun b o e => ?_) h0 upd_same
    have nb := ne_of_none e ha
    rw [upd_ne (ne_of_none e h0), del_ne nb]
    exact keep b o (by rw [upd_ne nb]; exact e) nb
/-- a class that is raised -/
structure Rs (P : Program) (w : World) (K : PySem.W.Frag) (mg : Str → Option Value) (base : Heap) (x : Str) (C : Addr) (n : Nat) (mk : List V → List (Str × V)) : Prop where
  ox : OexC K C
  m : mg x = some (.ref C)
  ex : ∃ (fI : Addr) (fd : FuncData) (ps : List Str), PySem.W.findIn K (.ref C) "__init__" = some (some (.ref fI)) ∧ PySem.W.typeIn K (.ref fI) = some (.type "function") ∧ FnOk P w K mg base (L2.CX P w) 1 fI fd ps (spI C n mk) ∧ Binds K fd ps []
theorem pmk_rs {X : Cx} {x : Str} {C : Addr} {n : Nat} {mk : List V → List (Str × V)} {e : Expr} {es : List Expr} {ta : TA} {p pos : Pos} {W : WX} (R : Rs X.prog X.w X.K X.mg X.base x C n mk) (hr : Room 2 X.A) (tk : L2.Takes X W) (ha : PA X (e :: es) ta) (hg : Gl X x := by rfl)
    (hdb : (x == ("__debug__" : Str)) = false := by decide) (he : starEach (e :: es) X.env = (false, eval e X.env) :: starEach es X.env := by rfl) (hpl : (backTo pos (starEach es X.env)).any (·.1) = false := by rfl) :
    PMk X (.Call (.Name x p) (e :: es) [] pos) (tMkO C (spI C n mk) [] ta) := by
  obtain ⟨fI, fd, ps, h1, h2, F, b⟩ := R.ex
  exact pmk_oex R.ox h1 h2 F hr b .nil (L2.passes_call tk (fun _ _ _ _ z => z.elim)) hg R.m ha hdb he hpl
theorem ok_checkX {dV : List V} {f : Addr} {fd : FuncData} (F : FunD K "check_number" "check_number" (defArgs sCheckNumber) (defBody sCheckNumber) (defScope sCheckNumber) dV [] f fd) (DN : Df P w K mg base 1 "is_number" ["value"] [] (spIsNumV K)) (R : Rs P w K mg base "BadNumber" cN 1 mk0) :
    FnOk P w K mg base (L2.CX P w) 3 f fd ["value", "least"] (spCheckX K cN) := by
  refine F.ok scCheckNumberX (fun vs H Q E h => ?_) (fun cdv A outer s H vs Q E hr h => ?_)
  · obtain ⟨x, rfl, _⟩ := h
    rfl
  · obtain ⟨x, rfl, h⟩ := h
    have hr1 : Room 1 _ := hr.mono (by decide)
    refine ⟨_, pss_one (ps_if (PW.pt (pw_or (pt_not (pt_val (pe_df DN hr1 (pa_cons (pv 0) pa_nil)))) (pw_or1 (PW.pt (pw_and (pt_cmpR op_notN (pv 1) pe_non (nomark _)) (pw_and1 (pt_cmpR op_lt (pv 0) (pv 1) (nomark _))))))))
      (pss_one (ps_raise rfl (L2.takes_of rfl rfl rfl rfl) (pmk_rs R hr (L2.takes_of rfl rfl rfl rfl) (pa_cons (pv 0) pa_nil)))) pss_nil), ?_⟩
    rcases h with ⟨n, rfl, k⟩ | ⟨d, z, n, out⟩
    · refine ⟨_, rfl, _, rfl, .inl ⟨n, rfl, true, rfl, iteF ?_⟩⟩
      exact ⟨_, rfl, rfl, false, rfl, iteF (iteF k)⟩
    · refine ⟨_, rfl, x, rfl, .inr ⟨d, z, n, false, rfl, iteT ?_⟩⟩
      refine iteT ?_
      exact ⟨_, rfl, by show 1 ≤ 1000; decide, raise_read rfl fun dd H2 s h0 h1 => out dd H2 s h0 h1⟩
/-- a function of one argument refuses it -/
def spRx (K : PySem.W.Frag) (cN : Addr) : Sp := fun vs H Q E => ∃ (x : V) (d : PyData), vs = [x] ∧ Dz K H x d ∧ nonum d = true ∧ OutN cN x E H
theorem scXIsLeap : FnScope ["year"] ["year"] (defScope sIsLeap) := ⟨rfl, rfl, rfl, by decide +kernel, rfl, by decide +kernel, by decide +kernel⟩
theorem ok_xis_leap {f : Addr} {fd : FuncData} (F : Fun K "is_leap" "is_leap" sIsLeap f fd) (DC : Dx P w K mg base 3 "check_number" ["value", "least"] [.non] (spCheckX K cN)) : FnOk P w K mg base (L2.CX P w) 4 f fd ["year"] (spRx K cN) := by
  refine F.okX scXIsLeap (fun vs H Q E h => ?_) (fun cdv A outer s H vs Q E hr h => ?_)
  · obtain ⟨x, d, rfl, _⟩ := h
    rfl
  · obtain ⟨x, d, rfl, z, n, out⟩ := h
    refine ⟨_, pss_cons (ps_expr (pe_dx DC hr (L2.takes_of rfl rfl rfl rfl) (pa_cons (pv 0) pa_nil))) pss_never, ?_⟩
    exact ⟨_, rfl, x, rfl, .inr ⟨d, z, n, fun dd H' s h0 h1 => out dd H' s h0 h1⟩⟩
theorem scXYearStart : FnScope ["year"] ["year"] (defScope sYearStart) := ⟨rfl, rfl, rfl, by decide +kernel, rfl, by decide +kernel, by decide +kernel⟩
theorem ok_xyear_start {f : Addr} {fd : FuncData} (F : Fun K "year_start" "year_start" sYearStart f fd) (DC : Dx P w K mg base 3 "check_number" ["value", "least"] [.non] (spCheckX K cN)) : FnOk P w K mg base (L2.CX P w) 4 f fd ["year"] (spRx K cN) := by
  refine F.okX scXYearStart (fun vs H Q E h => ?_) (fun cdv A outer s H vs Q E hr h => ?_)
  · obtain ⟨x, d, rfl, _⟩ := h
    rfl
  · obtain ⟨x, d, rfl, z, n, out⟩ := h
    refine ⟨_, pss_cons (ps_expr (pe_dx DC hr (L2.takes_of rfl rfl rfl rfl) (pa_cons (pv 0) pa_nil))) pss_never, ?_⟩
    exact ⟨_, rfl, x, rfl, .inr ⟨d, z, n, fun dd H' s h0 h1 => out dd H' s h0 h1⟩⟩
theorem scXDateOf : FnScope ["day", "year", "leap", "number", "month"] ["day"] (defScope sDateOf) := ⟨rfl, rfl, rfl, by decide +kernel, rfl, by decide +kernel, by decide +kernel⟩
theorem ok_xdate_of {f : Addr} {fd : FuncData} (F : Fun K "date_of" "date_of" sDateOf f fd) (DC : Dx P w K mg base 3 "check_number" ["value", "least"] [.non] (spCheckX K cN)) : FnOk P w K mg base (L2.CX P w) 4 f fd ["day"] (spRx K cN) := by
  refine F.okX scXDateOf (fun vs H Q E h => ?_) (fun cdv A outer s H vs Q E hr h => ?_)
  · obtain ⟨x, d, rfl, _⟩ := h
    rfl
  · obtain ⟨x, d, rfl, z, n, out⟩ := h
    refine ⟨_, pss_cons (ps_expr (pe_dx DC hr (L2.takes_of rfl rfl rfl rfl) (pa_cons (pv 0) pa_nil))) pss_never, ?_⟩
    exact ⟨_, rfl, x, rfl, .inr ⟨d, z, n, fun dd H' s h0 h1 => out dd H' s h0 h1⟩⟩
theorem scXWeekday : FnScope ["day"] ["day"] (defScope sWeekday) := ⟨rfl, rfl, rfl, by decide +kernel, rfl, by decide +kernel, by decide +kernel⟩
theorem ok_xweekday {f : Addr} {fd : FuncData} (F : Fun K "weekday" "weekday" sWeekday f fd) (DC : Dx P w K mg base 3 "check_number" ["value", "least"] [.non] (spCheckX K cN)) : FnOk P w K mg base (L2.CX P w) 4 f fd ["day"] (spRx K cN) := by
  refine F.okX scXWeekday (fun vs H Q E h => ?_) (fun cdv A outer s H vs Q E hr h => ?_)
  · obtain ⟨x, d, rfl, _⟩ := h
    rfl
  · obtain ⟨x, d, rfl, z, n, out⟩ := h
    refine ⟨_, pss_cons (ps_expr (pe_dx DC hr (L2.takes_of rfl rfl rfl rfl) (pa_cons (pv 0) pa_nil))) pss_never, ?_⟩
    exact ⟨_, rfl, x, rfl, .inr ⟨d, z, n, fun dd H' s h0 h1 => out dd H' s h0 h1⟩⟩
theorem scXWeekOf : FnScope ["day", "in_week", "thursday", "year"] ["day"] (defScope sWeekOf) := ⟨rfl, rfl, rfl, by decide +kernel, rfl, by decide +kernel, by decide +kernel⟩
theorem ok_xweek_of {f : Addr} {fd : FuncData} (F : Fun K "week_of" "week_of" sWeekOf f fd) (DC : Dx P w K mg base 3 "check_number" ["value", "least"] [.non] (spCheckX K cN)) : FnOk P w K mg base (L2.CX P w) 4 f fd ["day"] (spRx K cN) := by
  refine F.okX scXWeekOf (fun vs H Q E h => ?_) (fun cdv A outer s H vs Q E hr h => ?_)
  · obtain ⟨x, d, rfl, _⟩ := h
    rfl
  · obtain ⟨x, d, rfl, z, n, out⟩ := h
    refine ⟨_, pss_cons (ps_expr (pe_dx DC hr (L2.takes_of rfl rfl rfl rfl) (pa_cons (pv 0) pa_nil))) pss_never, ?_⟩
    exact ⟨_, rfl, x, rfl, .inr ⟨d, z, n, fun dd H' s h0 h1 => out dd H' s h0 h1⟩⟩
theorem scXKindOf : FnScope ["year"] ["year"] (defScope sKindOf) := ⟨rfl, rfl, rfl, by decide +kernel, rfl, by decide +kernel, by decide +kernel⟩
theorem ok_xkind_of {f : Addr} {fd : FuncData} (F : Fun K "kind_of" "kind_of" sKindOf f fd) (DC : Dx P w K mg base 3 "check_number" ["value", "least"] [.non] (spCheckX K cN)) : FnOk P w K mg base (L2.CX P w) 4 f fd ["year"] (spRx K cN) := by
  refine F.okX scXKindOf (fun vs H Q E h => ?_) (fun cdv A outer s H vs Q E hr h => ?_)
  · obtain ⟨x, d, rfl, _⟩ := h
    rfl
  · obtain ⟨x, d, rfl, z, n, out⟩ := h
    refine ⟨_, pss_cons (ps_expr (pe_dx DC hr (L2.takes_of rfl rfl rfl rfl) (pa_cons (pv 0) pa_nil))) pss_never, ?_⟩
    exact ⟨_, rfl, x, rfl, .inr ⟨d, z, n, fun dd H' s h0 h1 => out dd H' s h0 h1⟩⟩
end
end Cf
namespace Cf
open PySem L2
section
open LamX
variable {P : Program} {w : World} {K : PySem.W.Frag} {mg : Str → Option Value} {base : Heap} {cE c0 c1 c2 c3 c4 c5 c6 c7 c8 c9 c10 c11 : Addr}
/-! ### a lambda handed to _law_raised -/
/-- what stands written of _law_raised and of the classes -/
structure Rz (K : PySem.W.Frag) (mg : Str → Option Value) (cE c0 c1 c2 c3 c4 c5 c6 c7 c8 c9 c10 c11 : Addr) : Prop where
  T : Nm mg
  tv : mg "ValueError" = none
  L : Cls K mg cE c0 c1 c2 c3 c4 c5 c6 c7 c8 c9 c10 c11
  g0_value : PySem.W.findIn K (.ref c0) "value" = some none
  g1_value : PySem.W.findIn K (.ref c1) "value" = some none
  g2_value : PySem.W.findIn K (.ref c2) "value" = some none
  g3_value : PySem.W.findIn K (.ref c3) "value" = some none
  g7_value : PySem.W.findIn K (.ref c7) "value" = some none
  g4_index : PySem.W.findIn K (.ref c4) "index" = some none
  g6_index : PySem.W.findIn K (.ref c6) "index" = some none
  g9_index : PySem.W.findIn K (.ref c9) "index" = some none
  g10_index : PySem.W.findIn K (.ref c10) "index" = some none
  g8_number : PySem.W.findIn K (.ref c8) "number" = some none
  g5_year : PySem.W.findIn K (.ref c5) "year" = some none
  g5_index : PySem.W.findIn K (.ref c5) "index" = some none
  g11_line : PySem.W.findIn K (.ref c11) "line" = some none
  d : ∃ (g : Addr) (oc dV kV doc pm cdv ct : Value) (an od : Option Addr) (osl : Array (Option Value)), mg "_law_raised" = some (.ref g) ∧ PySem.W.keepIn K (.ref g) = true ∧ PySem.W.codeIn K cdv "_law_raised" = true ∧
    K.lookup g = some ⟨oc, od, .func (PySem.W.fnOf "_law_raised" "_law_raised" (defArgs sLawRaised) (defBody sLawRaised) (defScope sLawRaised) dV kV doc pm an cdv ct), osl⟩ ∧
    Binds K (PySem.W.fnOf "_law_raised" "_law_raised" (defArgs sLawRaised) (defBody sLawRaised) (defScope sLawRaised) dV kV doc pm an cdv ct) ["work"] []
theorem pe_rz {X : Cx} {T0 : List (Addr × Str)} {c Pt : Addr} {k : Nat} {params : Arguments} {body : Expr} {scope : Scope} {t : XK → TE} {p lpos pos : Pos} (Z : Rz X.K X.mg cE c0 c1 c2 c3 c4 c5 c6 c7 c8 c9 c10 c11) (gd : X.A.guards = some []) (TB : TabB X.base X.mg c Pt) {lq q0 : Str} {scq : Scope}
    (inT : (Pt, lq) ∈ T0) (one : ∀ p ∈ T0, p.1 = Pt → p.2 = lq) (room : Room (k + 2) X.A)
    (walk : ∀ (A : Around) (outer : List Env) (s : Shared) (H : Hp) (E : XK) (f c' : Addr), Room k (A.deeper (lamEnv X scope s.heap.objs.size f c')) → PE (lamCx X A outer s H E scope f c') body (t E))
    (LS : LamS scq scope) (hl : q0 ++ "<lambda>" = lq) (hq0 : X.env.qual = q0 := by rfl) (hsc : X.env.scope = scq := by rfl) (hcode : X.env.code = .ref c := by rfl) (hg : Gl X "_law_raised" := by rfl) (hdef : defaultsOf params X.env = ([], []) := by rfl)
    (bind : ∀ (q : Str) (cl : List (Str × Addr)) (pm cv ctv : Value), bindArgs (PySem.W.kla_fn "<lambda>" q params body scope cl pm cv ctv) ⟨[], []⟩ = pure [] := by intros; rfl) :
    PE X (.Call (.Name "_law_raised" p) [.Lambda params body scope lpos] [] pos) (tLam T0 (TRais X.K c0 c1 c2 c3 c4 c5 c6 c7 c8 c9 c10 c11) t) := by
  subst hq0 hsc hl
  obtain ⟨g, oc, dV, kV, doc, pm, cdv, ct, an, od, osl, h1, h2, h3, h4, h5⟩ := Z.d
  have hu : X.A.units + 80 < cLine := by have := room.un; omega
  exact pe_lam2 hg h1 h2 h4 h3 h5 scLawRaised rfl (Or.inl rfl) (raised_gives rfl Z.T Z.tv Z.L gd hu Z.g0_value Z.g1_value Z.g2_value Z.g3_value Z.g7_value Z.g4_index Z.g6_index Z.g9_index Z.g10_index Z.g8_number Z.g5_year Z.g5_index Z.g11_line) TB hcode inT one room LS hdef bind walk
/-- the heap without its tables -/
def ntb (H : Hp) : Hp := fun b => match H b with
  | some (.tbl _) => none
  | r => r
theorem ntb_of {H : Hp} {b : Addr} {o : HO} (e : H b = some o) (n : ∀ ps, o ≠ .tbl ps) : ntb H b = some o := by
  unfold ntb
  rw [e]
  cases o <;> first | rfl | exact absurd rfl (n _)
theorem ntb_at {H : Hp} {b : Addr} {o : HO} (e : ntb H b = some o) : H b = some o ∧ ∀ ps, o ≠ .tbl ps := by
  unfold ntb at e
  split at e
  · cases e
  · rename_i n
    refine ⟨e, fun ps z => ?_⟩
    subst z
    exact n ps e
theorem ntb_ext {H H' : Hp} (e : ExtN H H') : Same (ntb H) (ntb H') := fun b o h => ntb_of (e b o (ntb_at h).1 (ntb_at h).2) (ntb_at h).2
theorem ntb_same (H : Hp) : Same (ntb H) H := fun b o h => (ntb_at h).1
theorem Same.ext {H H' : Hp} (s : Same H H') : ExtN H H' := fun b o h _ => s b o h
/-- such a call, of work that lets BadNumber(x) out -/
theorem site {T0 : List (Addr × Str)} {t : XK → TE} {σ : L2.St} {Hc : Hp} {Q : VK} {x : V} {d : PyData} (tb : Tabs T0 Hc) (dz : Dz K (ntb Hc) x d) (sh : d.showable = true) (dp : d.depth ≤ 50) (sz : d.shown.length ≤ sizeLine)
    (rd : ∀ (E : XK) (Hx : Hp) (Q' : VK), ExtN Hc Hx → OutN c0 x E Hx → t E σ Hx Q') (go : ∀ (tt : Addr) (H2 : Hp), ExtN Hc H2 → Tabs T0 H2 → H2 tt = some (.tup [.str "number", .str d.shown]) → Q (.ref tt) H2) :
    tLam T0 (TRais K c0 c1 c2 c3 c4 c5 c6 c7 c8 c9 c10 c11) t σ Hc Q := by
  refine ⟨tb, fun H1 e1 tb1 D hD => ?_⟩
  have s1 : Same H1 (upd H1 D (.lst [])) := Same.new hD
  refine rd _ _ _ (e1.trans (Same.ext s1)) fun dd H' s h0 h1 => ?_
  refine ⟨c0, dd, x, d, "value", "number", rfl, rfl, s _ _ upd_same, h1, ((dz.keep (ntb_ext (e1.trans (Same.ext (s1.trans s))))).keep (ntb_same H')), sh, by omega, sz, .inl ⟨rfl, rfl, rfl⟩, fun tt H2 keep ht => ?_⟩
  have s2 : Same H1 H2 := fun b o eb => keep b o (s b o (s1 b o eb)) (ne_of_none eb hD)
  exact go tt H2 (e1.trans (Same.ext s2)) (tb1.ext s2) ht

/-- .. called by keywords only -/
structure Dkx (P : Program) (w : World) (K : PySem.W.Frag) (mg : Str → Option Value) (base : Heap) (k : Nat) (x : Str) (ps ks : List Str) (gV : List V → List V) (sp : Sp) : Prop where
  ex : ∃ (f : Addr) (fd : FuncData) (g : List Value → List Value), FnOk P w K mg base (L2.CX P w) k f fd ps sp ∧ mg x = some (.ref f) ∧ PySem.W.keepIn K (.ref f) = true ∧ (∀ {vs : List V} {us : List Value}, Vals vs us → Vals (gV vs) (g us)) ∧
    ∀ (s : Shared) (ws : List Value), K.In s.heap → ws.length = ks.length → BindsTo s fd ⟨[], ks.zip ws⟩ (ps.zip (g ws))
theorem pe_dkx {X : Cx} {W : WX} {k : Nat} {x : Str} {ps ks : List Str} {sp : Sp} {p pos : Pos} {tk : TA} {kws : List Keyword} {gV : List V → List V} (D : Dkx X.prog X.w X.K X.mg X.base k x ps ks gV sp) (hr : Room k X.A) (tks : L2.Takes X W) (hkw : PK X kws tk) (hg : Gl X x := by rfl)
    (hall : (backToKw pos (keywordEach kws X.env)).all (·.1.isSome) = true := by rfl) (hks : (backToKw pos (keywordEach kws X.env)).filterMap (·.1) = ks := by rfl) (hdb : (x == ("__debug__" : Str)) = false := by decide)
    (hpl : ((backTo pos (starEach [] X.env)).any (·.1) || (backToKw pos (keywordEach kws X.env)).any (·.1.isNone)) = false := by rfl) :
    PE X (.Call (.Name x p) [] kws pos) (fun σ H Q => tk σ H fun zs H2 => zs.length = ks.length ∧ sp (gV zs) H2 Q (WE W σ)) := by
  obtain ⟨f, fd, g, F, m, kp, rel, b⟩ := D.ex
  constructor
  intro pins s σ H Q I h
  apply wpAny_Call_Name_kw (ld_glob I hg m ?_ hdb)
  apply PySem.W.callWith_KW0 (h₀ := X.base) I.ok.mod.kin kp hall ?_ hpl
  apply thn (hkw.run pos pins s σ H _ I h)
  rintro ws s2 ⟨zs, H2, I2, rz, ln, asked⟩
  refine ⟨I2.kIn, ?_⟩
  rw [hks]
  have ll : ws.length = ks.length := rz.length.symm.trans ln
  have rr := rel rz
  apply wpAny_call
  refine codeAny_mono (F.run X.A X.stack s2 H2 ⟨[], ks.zip ws⟩ (g ws) (gV zs) Q (WE W σ) hr I2.env0 (b s2 ws I2.kIn ll) rr asked) ?_
  intro res s' got
  match res, got with
  | .error e, got => exact L2.passAt tks σ pins H2 s2 e s' I2 got
  | .ok (.ret u), got => exact I2.after got
  | .ok .next, got => exact got.elim
  | .ok .brk, got => exact got.elim
  | .ok .cont, got => exact got.elim
theorem Tabs.put {T0 : List (Addr × Str)} {H : Hp} {l : Addr} {xs ys : List V} (t : Tabs T0 H) (h : H l = some (.lst xs)) : Tabs T0 (upd H l (.lst ys)) := fun p hp => by
  obtain ⟨ps, h1, h2, h3⟩ := t p hp
  refine ⟨ps, ?_, h2, fun pos cv hc => ?_⟩
  · rw [upd_ne (ne_of h1 h (by intro z; cases z))]
    exact h1
  · obtain ⟨c, e1, e2⟩ := h3 pos cv hc
    refine ⟨c, e1, ?_⟩
    rw [upd_ne (ne_of e2 h (by intro z; cases z))]
    exact e2
theorem ext_put {H H' : Hp} {l : Addr} {o : HO} (e : ExtN H H') (h : H l = none) : ExtN H (upd H' l o) := fun b u eb n => by
  rw [upd_ne (ne_of_none eb h)]
  exact e b u eb n
/-- such a call, of work that lets BadDate((y, m, d)) out -/
theorem siteD {T0 : List (Addr × Str)} {t : XK → TE} {σ : L2.St} {Hc : Hp} {Q : VK} {y m e : Int} (tb : Tabs T0 Hc) (sh : PyData.showable (.tuple [.int y, .int m, .int e]) = true) (dp : PyData.depth (.tuple [.int y, .int m, .int e]) ≤ 50) (sz : (PyData.shown (.tuple [.int y, .int m, .int e])).length ≤ sizeLine)
    (rd : ∀ (E : XK) (Hx : Hp) (Q' : VK), ExtN Hc Hx → (∀ (dd u : Addr) (H' : Hp), Same Hx H' → Hx dd = none → H' u = some (.tup [.int y, .int m, .int e]) → H' dd = some (.xd [("value", .ref u)]) → E (.ref c1) (some dd) H') → t E σ Hx Q')
    (go : ∀ (tt : Addr) (H2 : Hp), ExtN Hc H2 → Tabs T0 H2 → H2 tt = some (.tup [.str "date", .str (PyData.shown (.tuple [.int y, .int m, .int e]))]) → Q (.ref tt) H2) :
    tLam T0 (TRais K c0 c1 c2 c3 c4 c5 c6 c7 c8 c9 c10 c11) t σ Hc Q := by
  refine ⟨tb, fun H1 e1 tb1 D hD => ?_⟩
  have s1 : Same H1 (upd H1 D (.lst [])) := Same.new hD
  refine rd _ _ _ (e1.trans (Same.ext s1)) fun dd u H' s h0 hu h1 => ?_
  refine ⟨c1, dd, .ref u, .tuple [.int y, .int m, .int e], "value", "date", rfl, rfl, s _ _ upd_same, h1, .flat (.tup (SqT.of hu) (.cons (.int y) (.cons (.int m) (.cons (.int e) .nil)))) rfl, sh, by omega, sz, .inr (.inl ⟨rfl, rfl, rfl⟩), fun tt H2 keep ht => ?_⟩
  have s2 : Same H1 H2 := fun b o eb => keep b o (s b o (s1 b o eb)) (ne_of_none eb hD)
  exact go tt H2 (e1.trans (Same.ext s2)) (tb1.ext s2) ht
/-- .. of work that lets nothing out -/
theorem siteN {T0 : List (Addr × Str)} {t : XK → TE} {σ : L2.St} {Hc : Hp} {Q : VK} (tb : Tabs T0 Hc)
    (rd : ∀ (E : XK) (Hx : Hp) (Q' : VK), ExtN Hc Hx → (∀ (v : V) (H' : Hp), Same Hx H' → Q' v H') → t E σ Hx Q')
    (go : ∀ H2 : Hp, ExtN Hc H2 → Tabs T0 H2 → Q .non H2) : tLam T0 (TRais K c0 c1 c2 c3 c4 c5 c6 c7 c8 c9 c10 c11) t σ Hc Q := by
  refine ⟨tb, fun H1 e1 tb1 D hD => ?_⟩
  have s1 : Same H1 (upd H1 D (.lst [])) := Same.new hD
  refine rd _ _ _ (e1.trans (Same.ext s1)) fun v H' s H2 s2 => ?_
  have s3 : Same H1 H2 := (s1.trans s).trans s2
  exact go H2 (e1.trans (Same.ext s3)) (tb1.ext s3)
/-- the draws leave the tables -/
theorem tabs_but {T0 : List (Addr × Str)} {p a b : Addr} {n : Nat} {H H' : Hp} (t : Tabs T0 H) (S : Stt p a b n H) (B : But p a H H') : Tabs T0 H' := fun q hq => by
  obtain ⟨ps, h1, h2, h3⟩ := t q hq
  obtain ⟨u1, u2, u3, w1, w2, _⟩ := S.there
  refine ⟨ps, B _ _ h1 (ne_of h1 w1 (by intro z; cases z)) (ne_of h1 w2 (by intro z; cases z)), h2, fun pos cv hc => ?_⟩
  obtain ⟨c, e1, e2⟩ := h3 pos cv hc
  exact ⟨c, e1, B _ _ e2 (ne_of e2 w1 (by intro z; cases z)) (ne_of e2 w2 (by intro z; cases z))⟩
end
end Cf
namespace Cf
open PySem L2
section
open LamX
variable {P : Program} {w : World} {K : PySem.W.Frag} {mg : Str → Option Value} {base : Heap} {cE c0 c1 c2 c3 c4 c5 c6 c7 c8 c9 c10 c11 : Addr}
/-! ### _law_simple_right -/
def one1 : List V → List V := fun l => [l.getD 0 .non]
def tupN (s : Str) : HO := .tup [.str "number", .str s]
theorem dp_tups {H : Hp} {s : Str} : ∀ ts : List Addr, (∀ t ∈ ts, H t = some (tupN s)) → DpAll K H (ts.map V.ref) (ts.map fun _ => .tuple [.str "number", .str s])
  | [], _ => .nil
  | t :: ts, h => .cons (.tup (SqT.of (h t (List.mem_cons_self ..))) (.cons (.str _) (.cons (.str _) .nil))) (dp_tups ts fun u m => h u (List.mem_cons_of_mem _ m))
theorem eqv_tups {α β : Type} {s : Str} : ∀ (ts : List α) (us : List β), ts.length = us.length → PyData.eqvAll (ts.map fun _ => .tuple [.str "number", .str s]) (us.map fun _ => .tuple [.str "number", .str s]) = true
  | [], [], _ => by simp [PyData.eqvAll]
  | [], _ :: _, h => by cases h
  | _ :: _, [], h => by cases h
  | _ :: ts, _ :: us, h => by
    have := eqv_tups (s := s) ts us (by simpa using h)
    simp [PyData.eqvAll, PyData.eqv, this]
theorem lay_tups {α : Type} {s : Str} (ok : PyData.strOk s = true) : ∀ ts : List α, PyData.canLayAll0 (ts.map fun _ => .tuple [.str "number", .str s]) = true
  | [] => rfl
  | _ :: ts => by
    have h : PyData.strOk (Str.ofString "number") = true := by decide +kernel
    simp [PyData.canLayAll0, PyData.canLay0, lay_tups ok ts, ok, h]
theorem depth_tups {α : Type} {s : Str} : ∀ ts : List α, PyData.depthAll (ts.map fun _ => .tuple [.str "number", .str s]) ≤ 2
  | [] => by simp [PyData.depthAll]
  | _ :: ts => by have := depth_tups (s := s) ts; simp only [List.map_cons, PyData.depthAll, PyData.depth]; omega
theorem shaped_tups {α : Type} {s : Str} (ok : PyData.strOk s = true) (ts : List α) : SeqAt.shaped (.list (ts.map fun _ => .tuple [.str "number", .str s])) = true := by
  unfold SeqAt.shaped
  rw [Bool.and_eq_true]
  refine ⟨?_, decide_eq_true ?_⟩
  · simp only [PyData.canLay0]; exact lay_tups ok ts
  · have := depth_tups (s := s) ts
    simp only [PyData.depth]; omega
theorem all_put {H : Hp} {l : Addr} {xs ys : List V} {s : Str} {ts : List Addr} (h : ∀ t ∈ ts, H t = some (tupN s)) (hl : H l = some (.lst xs)) : ∀ t ∈ ts, upd H l (.lst ys) t = some (tupN s) := fun t m => by
  rw [upd_ne (ne_of (h t m) hl (by intro z; cases z))]
  exact h t m
theorem all_ext {H H' : Hp} {s : Str} {ts : List Addr} (h : ∀ t ∈ ts, H t = some (tupN s)) (e : ExtN H H') : ∀ t ∈ ts, H' t = some (tupN s) := fun t m => e t _ (h t m) fun ps z => by cases z
theorem all_add {H : Hp} {s : Str} {ts : List Addr} {u : Addr} (h : ∀ t ∈ ts, H t = some (tupN s)) (hu : H u = some (tupN s)) : ∀ t ∈ ts ++ [u], H t = some (tupN s) := fun t m => by
  rcases List.mem_append.mp m with m | m
  · exact h t m
  · rw [List.mem_singleton.mp m]
    exact hu
def spSimple (K : PySem.W.Frag) (T0 : List (Addr × Str)) : Sp := fun vs H Q _ => ∃ (x : V) (d : PyData), vs = [x] ∧ Dz K (ntb H) x d ∧ nonum d = true ∧ d.showable = true ∧ d.depth ≤ 50 ∧ d.shown.length ≤ sizeLine ∧ PyData.strOk d.shown = true ∧ Tabs T0 H ∧ ∀ H' : Hp, ExtN H H' → Tabs T0 H' → Q (.bl true) H'
theorem scLawSimple : FnScope ["odd", "told"] ["odd"] (defScope sLawSimpleRight) := ⟨rfl, rfl, rfl, by decide +kernel, rfl, by decide +kernel, by decide +kernel⟩
set_option maxHeartbeats 4000000 in
theorem ok_simple {T0 : List (Addr × Str)} {c Pt f : Addr} {oc dV kV doc pm ct : Value} {an od : Option Addr} {osl : Array (Option Value)} (Z : Rz K mg cE c0 c1 c2 c3 c4 c5 c6 c7 c8 c9 c10 c11)
    (there : K.lookup f = some ⟨oc, od, .func (PySem.W.fnOf "_law_simple_right" "_law_simple_right" (defArgs sLawSimpleRight) (defBody sLawSimpleRight) (defScope sLawSimpleRight) dV kV doc pm an (.ref c) ct), osl⟩) (code : PySem.W.codeIn K (.ref c) "_law_simple_right" = true)
    (TB : TabB base mg c Pt) {lq : Str} (hlq : ("_law_simple_right.<locals>." : Str) ++ "<lambda>" = lq) (inT : (Pt, lq) ∈ T0) (one : ∀ p ∈ T0, p.1 = Pt → p.2 = lq)
    (D_is_leap : Dx P w K mg base 4 "is_leap" ["year"] [] (spRx K c0)) (K_is_leap : Dkx P w K mg base 4 "is_leap" ["year"] ["year"] one1 (spRx K c0)) (D_year_start : Dx P w K mg base 4 "year_start" ["year"] [] (spRx K c0)) (K_year_start : Dkx P w K mg base 4 "year_start" ["year"] ["year"] one1 (spRx K c0)) (D_date_of : Dx P w K mg base 4 "date_of" ["day"] [] (spRx K c0)) (K_date_of : Dkx P w K mg base 4 "date_of" ["day"] ["day"] one1 (spRx K c0)) (D_weekday : Dx P w K mg base 4 "weekday" ["day"] [] (spRx K c0)) (K_weekday : Dkx P w K mg base 4 "weekday" ["day"] ["day"] one1 (spRx K c0)) (D_week_of : Dx P w K mg base 4 "week_of" ["day"] [] (spRx K c0)) (K_week_of : Dkx P w K mg base 4 "week_of" ["day"] ["day"] one1 (spRx K c0)) (D_kind_of : Dx P w K mg base 4 "kind_of" ["year"] [] (spRx K c0)) (K_kind_of : Dkx P w K mg base 4 "kind_of" ["year"] ["year"] one1 (spRx K c0)) :
    FnG P w K mg base CX0 7 f (PySem.W.fnOf "_law_simple_right" "_law_simple_right" (defArgs sLawSimpleRight) (defBody sLawSimpleRight) (defScope sLawSimpleRight) dV kV doc pm an (.ref c) ct) ["odd"] (spSimple K T0) := by
  refine fn_g there code scLawSimple (fun vs H Q E h => ?_) (fun A gd outer s H vs Q E hr h => ?_)
  · obtain ⟨x, d, rfl, _⟩ := h
    rfl
  · obtain ⟨x, d, rfl, dz, n, sh, dp, sz, ok, tb, k⟩ := h
    have nd := scLawSimple.nd
    have hu := hr.units
    have pT : bootBuiltins "repr" = some (.builtin "repr") := by decide +kernel
    refine ⟨_, pss_cons (ps_set (i := 1) nd rfl (Or.inl rfl) (pe_lst (pa_cons (pe_rz Z gd TB inT one hr (fun A outer s H E f c' r2 => (pe_dx D_is_leap r2 (L2.takes_of rfl rfl rfl rfl) (pa_cons (pv 0) pa_nil))) (lamS_by (sc := defScope sLawSimpleRight) (by decide +kernel)) hlq) pa_nil)))
      (pss_cons (ps_expr (pe_bm PySem.F.plainAttrs_list PySem.F.slot_list_append PySem.F.type_list_append mt_append (pv 1) (pa_cons (pe_rz Z gd TB inT one hr (fun A outer s H E f c' r2 => (pe_dkx K_is_leap r2 (L2.takes_of rfl rfl rfl rfl) (pk_cons (pv 0) pk_nil))) (lamS_by (sc := defScope sLawSimpleRight) (by decide +kernel)) hlq) pa_nil)))
      (pss_cons (ps_expr (pe_bm PySem.F.plainAttrs_list PySem.F.slot_list_append PySem.F.type_list_append mt_append (pv 1) (pa_cons (pe_rz Z gd TB inT one hr (fun A outer s H E f c' r2 => (pe_dx D_year_start r2 (L2.takes_of rfl rfl rfl rfl) (pa_cons (pv 0) pa_nil))) (lamS_by (sc := defScope sLawSimpleRight) (by decide +kernel)) hlq) pa_nil)))
      (pss_cons (ps_expr (pe_bm PySem.F.plainAttrs_list PySem.F.slot_list_append PySem.F.type_list_append mt_append (pv 1) (pa_cons (pe_rz Z gd TB inT one hr (fun A outer s H E f c' r2 => (pe_dkx K_year_start r2 (L2.takes_of rfl rfl rfl rfl) (pk_cons (pv 0) pk_nil))) (lamS_by (sc := defScope sLawSimpleRight) (by decide +kernel)) hlq) pa_nil)))
      (pss_cons (ps_expr (pe_bm PySem.F.plainAttrs_list PySem.F.slot_list_append PySem.F.type_list_append mt_append (pv 1) (pa_cons (pe_rz Z gd TB inT one hr (fun A outer s H E f c' r2 => (pe_dx D_date_of r2 (L2.takes_of rfl rfl rfl rfl) (pa_cons (pv 0) pa_nil))) (lamS_by (sc := defScope sLawSimpleRight) (by decide +kernel)) hlq) pa_nil)))
      (pss_cons (ps_expr (pe_bm PySem.F.plainAttrs_list PySem.F.slot_list_append PySem.F.type_list_append mt_append (pv 1) (pa_cons (pe_rz Z gd TB inT one hr (fun A outer s H E f c' r2 => (pe_dkx K_date_of r2 (L2.takes_of rfl rfl rfl rfl) (pk_cons (pv 0) pk_nil))) (lamS_by (sc := defScope sLawSimpleRight) (by decide +kernel)) hlq) pa_nil)))
      (pss_cons (ps_expr (pe_bm PySem.F.plainAttrs_list PySem.F.slot_list_append PySem.F.type_list_append mt_append (pv 1) (pa_cons (pe_rz Z gd TB inT one hr (fun A outer s H E f c' r2 => (pe_dx D_weekday r2 (L2.takes_of rfl rfl rfl rfl) (pa_cons (pv 0) pa_nil))) (lamS_by (sc := defScope sLawSimpleRight) (by decide +kernel)) hlq) pa_nil)))
      (pss_cons (ps_expr (pe_bm PySem.F.plainAttrs_list PySem.F.slot_list_append PySem.F.type_list_append mt_append (pv 1) (pa_cons (pe_rz Z gd TB inT one hr (fun A outer s H E f c' r2 => (pe_dkx K_weekday r2 (L2.takes_of rfl rfl rfl rfl) (pk_cons (pv 0) pk_nil))) (lamS_by (sc := defScope sLawSimpleRight) (by decide +kernel)) hlq) pa_nil)))
      (pss_cons (ps_expr (pe_bm PySem.F.plainAttrs_list PySem.F.slot_list_append PySem.F.type_list_append mt_append (pv 1) (pa_cons (pe_rz Z gd TB inT one hr (fun A outer s H E f c' r2 => (pe_dx D_week_of r2 (L2.takes_of rfl rfl rfl rfl) (pa_cons (pv 0) pa_nil))) (lamS_by (sc := defScope sLawSimpleRight) (by decide +kernel)) hlq) pa_nil)))
      (pss_cons (ps_expr (pe_bm PySem.F.plainAttrs_list PySem.F.slot_list_append PySem.F.type_list_append mt_append (pv 1) (pa_cons (pe_rz Z gd TB inT one hr (fun A outer s H E f c' r2 => (pe_dkx K_week_of r2 (L2.takes_of rfl rfl rfl rfl) (pk_cons (pv 0) pk_nil))) (lamS_by (sc := defScope sLawSimpleRight) (by decide +kernel)) hlq) pa_nil)))
      (pss_cons (ps_expr (pe_bm PySem.F.plainAttrs_list PySem.F.slot_list_append PySem.F.type_list_append mt_append (pv 1) (pa_cons (pe_rz Z gd TB inT one hr (fun A outer s H E f c' r2 => (pe_dx D_kind_of r2 (L2.takes_of rfl rfl rfl rfl) (pa_cons (pv 0) pa_nil))) (lamS_by (sc := defScope sLawSimpleRight) (by decide +kernel)) hlq) pa_nil)))
      (pss_cons (ps_expr (pe_bm PySem.F.plainAttrs_list PySem.F.slot_list_append PySem.F.type_list_append mt_append (pv 1) (pa_cons (pe_rz Z gd TB inT one hr (fun A outer s H E f c' r2 => (pe_dkx K_kind_of r2 (L2.takes_of rfl rfl rfl rfl) (pk_cons (pv 0) pk_nil))) (lamS_by (sc := defScope sLawSimpleRight) (by decide +kernel)) hlq) pa_nil)))
      ((pss_one (ps_ret (pe_cmpR (op_eqD hu) (pv 1) (pe_op op_rep (pe_lst (pa_cons (pe_tup (pa_cons pe_str (pa_cons (pe_callB (call_reprI gd hu) (by rfl) Z.T.repr pT (pa_cons (pv 0) pa_nil)) pa_nil))) pa_nil)) pe_int) (nomark _)))))))))))))))), ?_⟩
    refine site tb dz sh dp sz (fun E Hx Q' e out => ⟨_, rfl, x, d, rfl, (dz.keep (ntb_ext e)).keep (ntb_same Hx), n, out⟩) fun t1 H1 e1 tb1 h1 => ?_
    refine ⟨by show 1 ≤ sizeLine; decide, fun l nl => ?_⟩
    have dz1 := dz.keep (ntb_ext e1)
    have E1 : ExtN H1 _ := Same.ext (Same.new (o := .lst ([t1].map V.ref)) nl)
    have tbs1 := tb1.ext (Same.new (o := .lst ([t1].map V.ref)) nl)
    have al1 := all_ext (s := d.shown) (ts := [t1]) (fun t m => by rw [List.mem_singleton.mp m]; exact h1) E1
    have hl1 : upd H1 l (.lst ([t1].map V.ref)) l = some (.lst ([t1].map V.ref)) := upd_same
    refine ⟨_, rfl, .inl ⟨rfl, _, SqL.of hl1⟩, ?_⟩
    refine site tbs1 (dz1.keep (ntb_ext E1)) sh dp sz (fun E Hx Q' e out => ⟨_, rfl, rfl, x, d, rfl, ((dz1.keep (ntb_ext E1)).keep (ntb_ext e)).keep (ntb_same Hx), n, out⟩) fun t2 H2 e2 tb2 h2 => ?_
    have gl2 := e2 _ _ hl1 (fun ps z => by cases z)
    refine ⟨l, _, .ref t2, rfl, rfl, gl2, by show 1 < sizeLine; decide, ?_⟩
    have al2 := all_put (l := l) (ys := ([t1].map V.ref) ++ [.ref t2]) (all_add (all_ext al1 e2) h2) gl2
    have E2 := ext_put (o := .lst (([t1].map V.ref) ++ [.ref t2])) (E1.trans e2) nl
    have tbs2 := Cf.Tabs.put tb2 (ys := ([t1].map V.ref) ++ [.ref t2]) gl2
    have hl2 : upd H2 l (.lst (([t1].map V.ref) ++ [.ref t2])) l = some (.lst (([t1] ++ [t2]).map V.ref)) := by rw [List.map_append]; exact upd_same
    refine ⟨_, rfl, .inl ⟨rfl, _, SqL.of hl2⟩, ?_⟩
    refine site tbs2 (dz1.keep (ntb_ext E2)) sh dp sz (fun E Hx Q' e out => ⟨_, rfl, x, d, rfl, ((dz1.keep (ntb_ext E2)).keep (ntb_ext e)).keep (ntb_same Hx), n, out⟩) fun t3 H3 e3 tb3 h3 => ?_
    have gl3 := e3 _ _ hl2 (fun ps z => by cases z)
    refine ⟨l, _, .ref t3, rfl, rfl, gl3, by show 2 < sizeLine; decide, ?_⟩
    have al3 := all_put (l := l) (ys := (([t1] ++ [t2]).map V.ref) ++ [.ref t3]) (all_add (all_ext al2 e3) h3) gl3
    have E3 := ext_put (o := .lst ((([t1] ++ [t2]).map V.ref) ++ [.ref t3])) (E2.trans e3) nl
    have tbs3 := Cf.Tabs.put tb3 (ys := (([t1] ++ [t2]).map V.ref) ++ [.ref t3]) gl3
    have hl3 : upd H3 l (.lst ((([t1] ++ [t2]).map V.ref) ++ [.ref t3])) l = some (.lst ((([t1] ++ [t2]) ++ [t3]).map V.ref)) := by rw [List.map_append]; exact upd_same
    refine ⟨_, rfl, .inl ⟨rfl, _, SqL.of hl3⟩, ?_⟩
    refine site tbs3 (dz1.keep (ntb_ext E3)) sh dp sz (fun E Hx Q' e out => ⟨_, rfl, rfl, x, d, rfl, ((dz1.keep (ntb_ext E3)).keep (ntb_ext e)).keep (ntb_same Hx), n, out⟩) fun t4 H4 e4 tb4 h4 => ?_
    have gl4 := e4 _ _ hl3 (fun ps z => by cases z)
    refine ⟨l, _, .ref t4, rfl, rfl, gl4, by show 3 < sizeLine; decide, ?_⟩
    have al4 := all_put (l := l) (ys := ((([t1] ++ [t2]) ++ [t3]).map V.ref) ++ [.ref t4]) (all_add (all_ext al3 e4) h4) gl4
    have E4 := ext_put (o := .lst (((([t1] ++ [t2]) ++ [t3]).map V.ref) ++ [.ref t4])) (E3.trans e4) nl
    have tbs4 := Cf.Tabs.put tb4 (ys := ((([t1] ++ [t2]) ++ [t3]).map V.ref) ++ [.ref t4]) gl4
    have hl4 : upd H4 l (.lst (((([t1] ++ [t2]) ++ [t3]).map V.ref) ++ [.ref t4])) l = some (.lst (((([t1] ++ [t2]) ++ [t3]) ++ [t4]).map V.ref)) := by rw [List.map_append]; exact upd_same
    refine ⟨_, rfl, .inl ⟨rfl, _, SqL.of hl4⟩, ?_⟩
    refine site tbs4 (dz1.keep (ntb_ext E4)) sh dp sz (fun E Hx Q' e out => ⟨_, rfl, x, d, rfl, ((dz1.keep (ntb_ext E4)).keep (ntb_ext e)).keep (ntb_same Hx), n, out⟩) fun t5 H5 e5 tb5 h5 => ?_
    have gl5 := e5 _ _ hl4 (fun ps z => by cases z)
    refine ⟨l, _, .ref t5, rfl, rfl, gl5, by show 4 < sizeLine; decide, ?_⟩
    have al5 := all_put (l := l) (ys := (((([t1] ++ [t2]) ++ [t3]) ++ [t4]).map V.ref) ++ [.ref t5]) (all_add (all_ext al4 e5) h5) gl5
    have E5 := ext_put (o := .lst ((((([t1] ++ [t2]) ++ [t3]) ++ [t4]).map V.ref) ++ [.ref t5])) (E4.trans e5) nl
    have tbs5 := Cf.Tabs.put tb5 (ys := (((([t1] ++ [t2]) ++ [t3]) ++ [t4]).map V.ref) ++ [.ref t5]) gl5
    have hl5 : upd H5 l (.lst ((((([t1] ++ [t2]) ++ [t3]) ++ [t4]).map V.ref) ++ [.ref t5])) l = some (.lst ((((([t1] ++ [t2]) ++ [t3]) ++ [t4]) ++ [t5]).map V.ref)) := by rw [List.map_append]; exact upd_same
    refine ⟨_, rfl, .inl ⟨rfl, _, SqL.of hl5⟩, ?_⟩
    refine site tbs5 (dz1.keep (ntb_ext E5)) sh dp sz (fun E Hx Q' e out => ⟨_, rfl, rfl, x, d, rfl, ((dz1.keep (ntb_ext E5)).keep (ntb_ext e)).keep (ntb_same Hx), n, out⟩) fun t6 H6 e6 tb6 h6 => ?_
    have gl6 := e6 _ _ hl5 (fun ps z => by cases z)
    refine ⟨l, _, .ref t6, rfl, rfl, gl6, by show 5 < sizeLine; decide, ?_⟩
    have al6 := all_put (l := l) (ys := ((((([t1] ++ [t2]) ++ [t3]) ++ [t4]) ++ [t5]).map V.ref) ++ [.ref t6]) (all_add (all_ext al5 e6) h6) gl6
    have E6 := ext_put (o := .lst (((((([t1] ++ [t2]) ++ [t3]) ++ [t4]) ++ [t5]).map V.ref) ++ [.ref t6])) (E5.trans e6) nl
    have tbs6 := Cf.Tabs.put tb6 (ys := ((((([t1] ++ [t2]) ++ [t3]) ++ [t4]) ++ [t5]).map V.ref) ++ [.ref t6]) gl6
    have hl6 : upd H6 l (.lst (((((([t1] ++ [t2]) ++ [t3]) ++ [t4]) ++ [t5]).map V.ref) ++ [.ref t6])) l = some (.lst (((((([t1] ++ [t2]) ++ [t3]) ++ [t4]) ++ [t5]) ++ [t6]).map V.ref)) := by rw [List.map_append]; exact upd_same
    refine ⟨_, rfl, .inl ⟨rfl, _, SqL.of hl6⟩, ?_⟩
    refine site tbs6 (dz1.keep (ntb_ext E6)) sh dp sz (fun E Hx Q' e out => ⟨_, rfl, x, d, rfl, ((dz1.keep (ntb_ext E6)).keep (ntb_ext e)).keep (ntb_same Hx), n, out⟩) fun t7 H7 e7 tb7 h7 => ?_
    have gl7 := e7 _ _ hl6 (fun ps z => by cases z)
    refine ⟨l, _, .ref t7, rfl, rfl, gl7, by show 6 < sizeLine; decide, ?_⟩
    have al7 := all_put (l := l) (ys := (((((([t1] ++ [t2]) ++ [t3]) ++ [t4]) ++ [t5]) ++ [t6]).map V.ref) ++ [.ref t7]) (all_add (all_ext al6 e7) h7) gl7
    have E7 := ext_put (o := .lst ((((((([t1] ++ [t2]) ++ [t3]) ++ [t4]) ++ [t5]) ++ [t6]).map V.ref) ++ [.ref t7])) (E6.trans e7) nl
    have tbs7 := Cf.Tabs.put tb7 (ys := (((((([t1] ++ [t2]) ++ [t3]) ++ [t4]) ++ [t5]) ++ [t6]).map V.ref) ++ [.ref t7]) gl7
    have hl7 : upd H7 l (.lst ((((((([t1] ++ [t2]) ++ [t3]) ++ [t4]) ++ [t5]) ++ [t6]).map V.ref) ++ [.ref t7])) l = some (.lst ((((((([t1] ++ [t2]) ++ [t3]) ++ [t4]) ++ [t5]) ++ [t6]) ++ [t7]).map V.ref)) := by rw [List.map_append]; exact upd_same
    refine ⟨_, rfl, .inl ⟨rfl, _, SqL.of hl7⟩, ?_⟩
    refine site tbs7 (dz1.keep (ntb_ext E7)) sh dp sz (fun E Hx Q' e out => ⟨_, rfl, rfl, x, d, rfl, ((dz1.keep (ntb_ext E7)).keep (ntb_ext e)).keep (ntb_same Hx), n, out⟩) fun t8 H8 e8 tb8 h8 => ?_
    have gl8 := e8 _ _ hl7 (fun ps z => by cases z)
    refine ⟨l, _, .ref t8, rfl, rfl, gl8, by show 7 < sizeLine; decide, ?_⟩
    have al8 := all_put (l := l) (ys := ((((((([t1] ++ [t2]) ++ [t3]) ++ [t4]) ++ [t5]) ++ [t6]) ++ [t7]).map V.ref) ++ [.ref t8]) (all_add (all_ext al7 e8) h8) gl8
    have E8 := ext_put (o := .lst (((((((([t1] ++ [t2]) ++ [t3]) ++ [t4]) ++ [t5]) ++ [t6]) ++ [t7]).map V.ref) ++ [.ref t8])) (E7.trans e8) nl
    have tbs8 := Cf.Tabs.put tb8 (ys := ((((((([t1] ++ [t2]) ++ [t3]) ++ [t4]) ++ [t5]) ++ [t6]) ++ [t7]).map V.ref) ++ [.ref t8]) gl8
    have hl8 : upd H8 l (.lst (((((((([t1] ++ [t2]) ++ [t3]) ++ [t4]) ++ [t5]) ++ [t6]) ++ [t7]).map V.ref) ++ [.ref t8])) l = some (.lst (((((((([t1] ++ [t2]) ++ [t3]) ++ [t4]) ++ [t5]) ++ [t6]) ++ [t7]) ++ [t8]).map V.ref)) := by rw [List.map_append]; exact upd_same
    refine ⟨_, rfl, .inl ⟨rfl, _, SqL.of hl8⟩, ?_⟩
    refine site tbs8 (dz1.keep (ntb_ext E8)) sh dp sz (fun E Hx Q' e out => ⟨_, rfl, x, d, rfl, ((dz1.keep (ntb_ext E8)).keep (ntb_ext e)).keep (ntb_same Hx), n, out⟩) fun t9 H9 e9 tb9 h9 => ?_
    have gl9 := e9 _ _ hl8 (fun ps z => by cases z)
    refine ⟨l, _, .ref t9, rfl, rfl, gl9, by show 8 < sizeLine; decide, ?_⟩
    have al9 := all_put (l := l) (ys := (((((((([t1] ++ [t2]) ++ [t3]) ++ [t4]) ++ [t5]) ++ [t6]) ++ [t7]) ++ [t8]).map V.ref) ++ [.ref t9]) (all_add (all_ext al8 e9) h9) gl9
    have E9 := ext_put (o := .lst ((((((((([t1] ++ [t2]) ++ [t3]) ++ [t4]) ++ [t5]) ++ [t6]) ++ [t7]) ++ [t8]).map V.ref) ++ [.ref t9])) (E8.trans e9) nl
    have tbs9 := Cf.Tabs.put tb9 (ys := (((((((([t1] ++ [t2]) ++ [t3]) ++ [t4]) ++ [t5]) ++ [t6]) ++ [t7]) ++ [t8]).map V.ref) ++ [.ref t9]) gl9
    have hl9 : upd H9 l (.lst ((((((((([t1] ++ [t2]) ++ [t3]) ++ [t4]) ++ [t5]) ++ [t6]) ++ [t7]) ++ [t8]).map V.ref) ++ [.ref t9])) l = some (.lst ((((((((([t1] ++ [t2]) ++ [t3]) ++ [t4]) ++ [t5]) ++ [t6]) ++ [t7]) ++ [t8]) ++ [t9]).map V.ref)) := by rw [List.map_append]; exact upd_same
    refine ⟨_, rfl, .inl ⟨rfl, _, SqL.of hl9⟩, ?_⟩
    refine site tbs9 (dz1.keep (ntb_ext E9)) sh dp sz (fun E Hx Q' e out => ⟨_, rfl, rfl, x, d, rfl, ((dz1.keep (ntb_ext E9)).keep (ntb_ext e)).keep (ntb_same Hx), n, out⟩) fun t10 H10 e10 tb10 h10 => ?_
    have gl10 := e10 _ _ hl9 (fun ps z => by cases z)
    refine ⟨l, _, .ref t10, rfl, rfl, gl10, by show 9 < sizeLine; decide, ?_⟩
    have al10 := all_put (l := l) (ys := ((((((((([t1] ++ [t2]) ++ [t3]) ++ [t4]) ++ [t5]) ++ [t6]) ++ [t7]) ++ [t8]) ++ [t9]).map V.ref) ++ [.ref t10]) (all_add (all_ext al9 e10) h10) gl10
    have E10 := ext_put (o := .lst (((((((((([t1] ++ [t2]) ++ [t3]) ++ [t4]) ++ [t5]) ++ [t6]) ++ [t7]) ++ [t8]) ++ [t9]).map V.ref) ++ [.ref t10])) (E9.trans e10) nl
    have tbs10 := Cf.Tabs.put tb10 (ys := ((((((((([t1] ++ [t2]) ++ [t3]) ++ [t4]) ++ [t5]) ++ [t6]) ++ [t7]) ++ [t8]) ++ [t9]).map V.ref) ++ [.ref t10]) gl10
    have hl10 : upd H10 l (.lst (((((((((([t1] ++ [t2]) ++ [t3]) ++ [t4]) ++ [t5]) ++ [t6]) ++ [t7]) ++ [t8]) ++ [t9]).map V.ref) ++ [.ref t10])) l = some (.lst (((((((((([t1] ++ [t2]) ++ [t3]) ++ [t4]) ++ [t5]) ++ [t6]) ++ [t7]) ++ [t8]) ++ [t9]) ++ [t10]).map V.ref)) := by rw [List.map_append]; exact upd_same
    refine ⟨_, rfl, .inl ⟨rfl, _, SqL.of hl10⟩, ?_⟩
    refine site tbs10 (dz1.keep (ntb_ext E10)) sh dp sz (fun E Hx Q' e out => ⟨_, rfl, x, d, rfl, ((dz1.keep (ntb_ext E10)).keep (ntb_ext e)).keep (ntb_same Hx), n, out⟩) fun t11 H11 e11 tb11 h11 => ?_
    have gl11 := e11 _ _ hl10 (fun ps z => by cases z)
    refine ⟨l, _, .ref t11, rfl, rfl, gl11, by show 10 < sizeLine; decide, ?_⟩
    have al11 := all_put (l := l) (ys := (((((((((([t1] ++ [t2]) ++ [t3]) ++ [t4]) ++ [t5]) ++ [t6]) ++ [t7]) ++ [t8]) ++ [t9]) ++ [t10]).map V.ref) ++ [.ref t11]) (all_add (all_ext al10 e11) h11) gl11
    have E11 := ext_put (o := .lst ((((((((((([t1] ++ [t2]) ++ [t3]) ++ [t4]) ++ [t5]) ++ [t6]) ++ [t7]) ++ [t8]) ++ [t9]) ++ [t10]).map V.ref) ++ [.ref t11])) (E10.trans e11) nl
    have tbs11 := Cf.Tabs.put tb11 (ys := (((((((((([t1] ++ [t2]) ++ [t3]) ++ [t4]) ++ [t5]) ++ [t6]) ++ [t7]) ++ [t8]) ++ [t9]) ++ [t10]).map V.ref) ++ [.ref t11]) gl11
    have hl11 : upd H11 l (.lst ((((((((((([t1] ++ [t2]) ++ [t3]) ++ [t4]) ++ [t5]) ++ [t6]) ++ [t7]) ++ [t8]) ++ [t9]) ++ [t10]).map V.ref) ++ [.ref t11])) l = some (.lst ((((((((((([t1] ++ [t2]) ++ [t3]) ++ [t4]) ++ [t5]) ++ [t6]) ++ [t7]) ++ [t8]) ++ [t9]) ++ [t10]) ++ [t11]).map V.ref)) := by rw [List.map_append]; exact upd_same
    refine ⟨_, rfl, .inl ⟨rfl, _, SqL.of hl11⟩, ?_⟩
    refine site tbs11 (dz1.keep (ntb_ext E11)) sh dp sz (fun E Hx Q' e out => ⟨_, rfl, rfl, x, d, rfl, ((dz1.keep (ntb_ext E11)).keep (ntb_ext e)).keep (ntb_same Hx), n, out⟩) fun t12 H12 e12 tb12 h12 => ?_
    have gl12 := e12 _ _ hl11 (fun ps z => by cases z)
    refine ⟨l, _, .ref t12, rfl, rfl, gl12, by show 11 < sizeLine; decide, ?_⟩
    have al12 := all_put (l := l) (ys := ((((((((((([t1] ++ [t2]) ++ [t3]) ++ [t4]) ++ [t5]) ++ [t6]) ++ [t7]) ++ [t8]) ++ [t9]) ++ [t10]) ++ [t11]).map V.ref) ++ [.ref t12]) (all_add (all_ext al11 e12) h12) gl12
    have E12 := ext_put (o := .lst (((((((((((([t1] ++ [t2]) ++ [t3]) ++ [t4]) ++ [t5]) ++ [t6]) ++ [t7]) ++ [t8]) ++ [t9]) ++ [t10]) ++ [t11]).map V.ref) ++ [.ref t12])) (E11.trans e12) nl
    have tbs12 := Cf.Tabs.put tb12 (ys := ((((((((((([t1] ++ [t2]) ++ [t3]) ++ [t4]) ++ [t5]) ++ [t6]) ++ [t7]) ++ [t8]) ++ [t9]) ++ [t10]) ++ [t11]).map V.ref) ++ [.ref t12]) gl12
    have hl12 : upd H12 l (.lst (((((((((((([t1] ++ [t2]) ++ [t3]) ++ [t4]) ++ [t5]) ++ [t6]) ++ [t7]) ++ [t8]) ++ [t9]) ++ [t10]) ++ [t11]).map V.ref) ++ [.ref t12])) l = some (.lst (((((((((((([t1] ++ [t2]) ++ [t3]) ++ [t4]) ++ [t5]) ++ [t6]) ++ [t7]) ++ [t8]) ++ [t9]) ++ [t10]) ++ [t11]) ++ [t12]).map V.ref)) := by rw [List.map_append]; exact upd_same
    have dzE := (dz1.keep (ntb_ext E12)).keep (ntb_same _)
    refine ⟨_, rfl, _, rfl, x, d, rfl, dzE, sh, by omega, sz, by show 2 ≤ sizeLine; decide, fun tp ntp => ?_⟩
    refine ⟨by show 1 ≤ sizeLine; decide, fun q nq => ?_⟩
    refine ⟨q, 12, _, rfl, rfl, upd_same, by decide, by decide, by show 12 ≤ sizeLine; decide, fun r nr => ?_⟩
    have s1 := ((Same.new (o := tupN d.shown) ntp).step (o := .lst [.ref tp]) nq).step (o := .lst (([tp, tp, tp, tp, tp, tp, tp, tp, tp, tp, tp, tp] : List Addr).map V.ref)) nr
    have htp := Same.new (o := .lst (([tp, tp, tp, tp, tp, tp, tp, tp, tp, tp, tp, tp] : List Addr).map V.ref)) nr _ _ (Same.new (o := .lst [.ref tp]) nq tp (tupN d.shown) upd_same)
    refine ⟨.list (((((((((((([t1] ++ [t2]) ++ [t3]) ++ [t4]) ++ [t5]) ++ [t6]) ++ [t7]) ++ [t8]) ++ [t9]) ++ [t10]) ++ [t11]) ++ [t12]).map fun _ => .tuple [.str "number", .str d.shown]), .list (([tp, tp, tp, tp, tp, tp, tp, tp, tp, tp, tp, tp] : List Addr).map fun _ => .tuple [.str "number", .str d.shown]), .lst (SqL.of (s1 _ _ hl12)) (dp_tups _ (all_ext al12 (Same.ext s1))), .lst (SqL.of upd_same) (show DpAll K _ (([tp, tp, tp, tp, tp, tp, tp, tp, tp, tp, tp, tp] : List Addr).map V.ref) _ from dp_tups (s := d.shown) [tp, tp, tp, tp, tp, tp, tp, tp, tp, tp, tp, tp] (fun t m => ?_)), shaped_tups ok _, shaped_tups ok _, ?_⟩
    · have : t = tp := by simpa using m
      rw [this]
      exact htp
    · rw [PyData.eqv, eqv_tups _ _ (by simp)]
      exact k _ (e1.trans (E12.trans (Same.ext s1))) (tbs12.ext s1)
end
end Cf
namespace Cf
open PySem L2
section
variable {P : Program} {w : World} {K : PySem.W.Frag} {mg : Str → Option Value} {base : Heap}
/-! ### the program's constants -/
structure Cn (K : PySem.W.Frag) (mg : Str → Option Value) : Prop where
  cy : ∃ t, mg "CYCLE_YEARS" = some (.int 400 t)
  cd : ∃ t, mg "CYCLE_DAYS" = some (.int 146097 t)
structure Cm (K : PySem.W.Frag) (mg : Str → Option Value) (tp : Addr) : Prop where
  ml : mg "MONTH_LENGTHS" = some (.ref tp)
  sq : ∀ H : Hp, SqT K H tp (MLs.map V.int)
/-! ### is_number, check_number -/
def spIsNum : Sp := fun vs H Q _ => ∃ n : Int, vs = [.int n] ∧ Q (.bl true) H
theorem scIsNumber : FnScope ["value"] ["value"] (defScope sIsNumber) := ⟨rfl, rfl, rfl, by decide +kernel, rfl, by decide +kernel, by decide +kernel⟩
theorem ok_isnum {f : Addr} {fd : FuncData} (F : Fun K "is_number" "is_number" sIsNumber f fd) (T : Nm mg) : FnOk P w K mg base CX0 1 f fd ["value"] spIsNum := by
  refine F.ok scIsNumber (fun vs H Q E h => ?_) (fun cdv A outer s H vs Q E hr h => ?_)
  · obtain ⟨n, rfl, _⟩ := h
    rfl
  · obtain ⟨n, rfl, k⟩ := h
    refine ⟨_, pss_one (ps_ret (pe_and (pe_callB call_isi (by rfl) T.isinstance (by decide +kernel) (pa_cons (pv 0) (pa_cons (pe_bltn (v := .ty "int") (by rfl) T.int (by decide +kernel) rfl) pa_nil)))
      (pe_one (pe_not (pe_callB call_isi (by rfl) T.isinstance (by decide +kernel) (pa_cons (pv 0) (pa_cons (pe_bltn (v := .ty "bool") (by rfl) T.bool (by decide +kernel) rfl) pa_nil))))))), ?_⟩
    refine ⟨_, rfl, _, _, _, _, true, rfl, .ty "int", .base (.int _), kit_ty (by decide +kernel), true, rfl, iteT ?_⟩
    exact ⟨_, rfl, _, _, _, _, false, rfl, .ty "bool", .base (.int _), kit_ty (by decide +kernel), false, rfl, k⟩
def spCheck : Sp := fun vs H Q _ => ∃ n : Int, vs = [.int n, .non] ∧ Q .non H
theorem scCheckNumber : FnScope ["value", "least"] ["value", "least"] (defScope sCheckNumber) := ⟨rfl, rfl, rfl, by decide +kernel, rfl, by decide +kernel, by decide +kernel⟩
theorem ok_check {dV : List V} {f : Addr} {fd : FuncData} (F : FunD K "check_number" "check_number" (defArgs sCheckNumber) (defBody sCheckNumber) (defScope sCheckNumber) dV [] f fd) (DN : Df P w K mg base 1 "is_number" ["value"] [] spIsNum) :
    FnOk P w K mg base CX0 2 f fd ["value", "least"] spCheck := by
  refine F.ok scCheckNumber (fun vs H Q E h => ?_) (fun cdv A outer s H vs Q E hr h => ?_)
  · obtain ⟨n, rfl, _⟩ := h
    rfl
  · obtain ⟨n, rfl, k⟩ := h
    refine ⟨_, PSs.nox (pss_one (ps_if (PW.pt (pw_or (pt_not (pt_val (pe_df DN hr (pa_cons (pv 0) pa_nil)))) (pw_or1 (PW.pt (pw_and (pt_cmpR op_notN (pv 1) pe_non (nomark _)) (pw_and1 (pt_cmpR op_lt (pv 0) (pv 1) (nomark _))))))))
      (pss_one ps_never) pss_nil)), ?_⟩
    refine ⟨_, rfl, n, rfl, true, rfl, iteF ?_⟩
    exact ⟨_, rfl, rfl, false, rfl, iteF (iteF k)⟩
/-! ### is_leap, leap_years_before, year_start -/
def spLeap : Sp := fun vs H Q _ => ∃ y : Int, vs = [.int y] ∧ Q (.bl (leapB y)) H
theorem scIsLeap : FnScope ["year"] ["year"] (defScope sIsLeap) := ⟨rfl, rfl, rfl, by decide +kernel, rfl, by decide +kernel, by decide +kernel⟩
theorem ok_leap {f : Addr} {fd : FuncData} (F : Fun K "is_leap" "is_leap" sIsLeap f fd) (DC : Df P w K mg base 2 "check_number" ["value", "least"] [.non] spCheck) : FnOk P w K mg base CX0 3 f fd ["year"] spLeap := by
  refine F.ok scIsLeap (fun vs H Q E h => ?_) (fun cdv A outer s H vs Q E hr h => ?_)
  · obtain ⟨n, rfl, _⟩ := h
    rfl
  · obtain ⟨y, rfl, k⟩ := h
    refine ⟨_, pss_cons (ps_expr (pe_df DC hr (pa_cons (pv 0) pa_nil))) (pss_one (ps_ret (pe_and (pe_cmpR op_eq (pe_op op_mod (pv 0) pe_int) pe_int (nomark _))
      (pe_one (pe_or (pe_cmpR op_ne (pe_op op_mod (pv 0) pe_int) pe_int (nomark _)) (pe_one (pe_cmpR op_eq (pe_op op_mod (pv 0) pe_int) pe_int (nomark _)))))))), ?_⟩
    refine ⟨_, rfl, y, rfl, _, rfl, _, _, rfl, rfl, (by show (0 : Int) < 4; decide), rfl, _, rfl, ?_⟩
    have k' := k
    unfold leapB at k'
    rw [dec_int]
    by_cases c4 : y % 4 = 0
    · refine iteTT (by simpa using c4) ?_
      rw [decide_eq_true c4, Bool.true_and] at k'
      refine ⟨_, rfl, _, _, rfl, rfl, (by show (0 : Int) < 100; decide), rfl, _, rfl, ?_⟩
      by_cases c1 : y % 100 = 0
      · refine iteFF ?_ ?_
        · rw [dec_int]; simpa using c1
        · refine ⟨_, rfl, _, _, rfl, rfl, (by show (0 : Int) < 400; decide), rfl, ?_⟩
          rw [decide_eq_false (by simpa using c1), Bool.false_or] at k'
          rw [show decide (V.int (y % 400) = V.int 0) = decide (y % 400 = 0) by rw [dec_int]; rfl]
          exact k'
      · refine iteTT ?_ ?_
        · rw [dec_int]; simpa using c1
        · rw [decide_eq_true (by simpa using c1), Bool.true_or] at k'
          exact k'
    · refine iteFF (by simpa using c4) ?_
      rw [decide_eq_false c4, Bool.false_and] at k'
      exact k'
def spLyb : Sp := fun vs H Q _ => ∃ y : Int, vs = [.int y] ∧ Q (.int (lyb y)) H
theorem scLeapYearsBefore : FnScope ["year", "last"] ["year"] (defScope sLeapYearsBefore) := ⟨rfl, rfl, rfl, by decide +kernel, rfl, by decide +kernel, by decide +kernel⟩
theorem ok_lyb {f : Addr} {fd : FuncData} (F : Fun K "leap_years_before" "leap_years_before" sLeapYearsBefore f fd) : FnOk P w K mg base CX0 1 f fd ["year"] spLyb := by
  refine F.ok scLeapYearsBefore (fun vs H Q E h => ?_) (fun cdv A outer s H vs Q E hr h => ?_)
  · obtain ⟨n, rfl, _⟩ := h
    rfl
  · obtain ⟨y, rfl, k⟩ := h
    refine ⟨_, pss_cons (ps_set (i := 1) scLeapYearsBefore.nd rfl (Or.inl rfl) (pe_op op_sub (pv 0) pe_int)) (pss_one (ps_ret (pe_op op_add (pe_op op_sub (pe_op op_fdiv (pv 1) pe_int) (pe_op op_fdiv (pv 1) pe_int)) (pe_op op_fdiv (pv 1) pe_int)))), ?_⟩
    refine ⟨_, rfl, _, _, rfl, rfl, _, rfl, _, _, rfl, rfl, ⟨by decide, by decide⟩, _, rfl, _, _, rfl, rfl, ⟨by decide, by decide⟩, _, _, rfl, rfl, _, rfl, _, _, rfl, rfl, ⟨by decide, by decide⟩, _, _, rfl, rfl, k⟩
def spYs : Sp := fun vs H Q _ => ∃ y : Int, vs = [.int y] ∧ Q (.int (ysOf y)) H
theorem scYearStart : FnScope ["year"] ["year"] (defScope sYearStart) := ⟨rfl, rfl, rfl, by decide +kernel, rfl, by decide +kernel, by decide +kernel⟩
theorem ok_ys {f : Addr} {fd : FuncData} (F : Fun K "year_start" "year_start" sYearStart f fd) (DC : Df P w K mg base 2 "check_number" ["value", "least"] [.non] spCheck) (DL : Df P w K mg base 1 "leap_years_before" ["year"] [] spLyb) :
    FnOk P w K mg base CX0 3 f fd ["year"] spYs := by
  refine F.ok scYearStart (fun vs H Q E h => ?_) (fun cdv A outer s H vs Q E hr h => ?_)
  · obtain ⟨n, rfl, _⟩ := h
    rfl
  · obtain ⟨y, rfl, k⟩ := h
    have hr1 : Room 1 _ := hr.mono (by decide)
    refine ⟨_, pss_cons (ps_expr (pe_df DC hr (pa_cons (pv 0) pa_nil))) (pss_one (ps_ret (pe_op op_sub (pe_op op_add (pe_op op_mul pe_int (pe_op op_sub (pv 0) pe_int)) (pe_df DL hr1 (pa_cons (pv 0) pa_nil))) (pe_df DL hr1 (pa_cons pe_int pa_nil))))), ?_⟩
    refine ⟨_, rfl, y, rfl, _, rfl, _, _, rfl, rfl, _, _, rfl, rfl, .inl ⟨by decide, by decide⟩, _, rfl, y, rfl, _, _, rfl, rfl, 2000, rfl, _, _, rfl, rfl, k⟩
/-! ### months -/
def spMlen : Sp := fun vs H Q _ => ∃ (m : Int) (l : Bool), vs = [.int m, .bl l] ∧ 1 ≤ m ∧ m ≤ 12 ∧ Q (.int (mlen m l)) H
theorem scMonthLength : FnScope ["month", "leap"] ["month", "leap"] (defScope sMonthLength) := ⟨rfl, rfl, rfl, by decide +kernel, rfl, by decide +kernel, by decide +kernel⟩
theorem ok_mlen {f tp : Addr} {fd : FuncData} (F : Fun K "month_length" "month_length" sMonthLength f fd) (M : Cm K mg tp) : FnOk P w K mg base CX0 1 f fd ["month", "leap"] spMlen := by
  refine F.ok scMonthLength (fun vs H Q E h => ?_) (fun cdv A outer s H vs Q E hr h => ?_)
  · obtain ⟨m, l, rfl, _⟩ := h
    rfl
  · obtain ⟨m, l, rfl, m1, m2, k⟩ := h
    refine ⟨_, pss_one (ps_ret (pe_ifExp (PW.pt (pw_and (pt_cmpR op_eq (pv 0) pe_int (nomark _)) (pw_and1 (pt_val (pv 1))))) pe_int (pe_ix ix_tup (pe_glob (v := .ref tp) rfl M.ml rfl) (pe_op op_sub (pv 0) pe_int) (fun _ _ => rfl)))), ?_⟩
    have other : ¬ (m = 2 ∧ l = true) → tOp (rIxT K) (tC (.ref tp)) (tOp (rI0 fun i j => .int (i - j)) (tVar 0) (tC (.int 1))) [some (.int m), some (.bl l)] H Q := fun hn => by
      refine ⟨_, rfl, _, _, rfl, rfl, tp, _, _, V.int (ml m), rfl, rfl, M.sq H, ?_, ?_⟩
      · refine at_of (j := (m - 1).toNat) (by omega) ?_
        rw [List.getElem?_map, MLs_get m1 m2]
        rfl
      · unfold mlen at k
        rw [if_neg hn] at k
        exact k
    refine ⟨_, rfl, rfl, _, rfl, ?_⟩
    by_cases c : m = 2
    · subst c
      refine iteTT (by rfl) ?_
      refine ⟨_, rfl, l, rfl, ?_⟩
      cases l with
      | true => exact iteT k
      | false => exact iteF (other (by intro h; cases h.2))
    · refine iteFF (by rw [dec_int]; simpa using c) ?_
      exact iteF (other fun h => c h.1)
def spMst : Sp := fun vs H Q _ => ∃ (m : Int) (l : Bool), vs = [.int m, .bl l] ∧ 1 ≤ m ∧ m ≤ 13 ∧ ∀ H', Same H H' → Q (.int (mst m l)) H'
theorem scMonthStart : FnScope ["month", "leap", "leap_day"] ["month", "leap"] (defScope sMonthStart) := ⟨rfl, rfl, rfl, by decide +kernel, rfl, by decide +kernel, by decide +kernel⟩
theorem m13 {m : Int} (h1 : 1 ≤ m) (h2 : m ≤ 13) : m = 13 ∨ (1 ≤ m ∧ m ≤ 12) := by omega
theorem cut_ML {m : Int} (h1 : 1 ≤ m) (h2 : m ≤ 12) : cutV (MLs.map V.int) none (some (m - 1)) = (MLs.take (m - 1).toNat).map V.int ∧ ¬ (HT.sIx (MLs.map V.int).length 0 none = 0 ∧ HT.sIx (MLs.map V.int).length (MLs.map V.int).length (some (m - 1)) = (MLs.map V.int).length) := by
  rcases m12 h1 h2 with rfl | rfl | rfl | rfl | rfl | rfl | rfl | rfl | rfl | rfl | rfl | rfl <;> decide
theorem ok_mst {f tp : Addr} {fd : FuncData} (F : Fun K "month_start" "month_start" sMonthStart f fd) (M : Cm K mg tp) (T : Nm mg) : FnOk P w K mg base CX0 1 f fd ["month", "leap"] spMst := by
  refine F.ok scMonthStart (fun vs H Q E h => ?_) (fun cdv A outer s H vs Q E hr h => ?_)
  · obtain ⟨m, l, rfl, _⟩ := h
    rfl
  · obtain ⟨m, l, rfl, m1, m2, k⟩ := h
    refine ⟨_, pss_cons (ps_set (i := 2) scMonthStart.nd rfl (Or.inl rfl) (pe_ifExp (PW.pt (pw_and (pt_val (pv 1)) (pw_and1 (pt_cmpR op_gt (pv 0) pe_int (nomark _))))) pe_int pe_int))
      (pss_one (ps_ret (pe_op op_add (pe_callB (cr_sumT rfl) (by rfl) T.sum (by decide +kernel) (pa_cons (pe_slice sl_tupA (pe_glob (v := .ref tp) rfl M.ml rfl) po_none (po_some (pe_op op_sub (pv 0) pe_int))) pa_nil)) (pv 2)))), ?_⟩
    have rest : ∀ d : Int, d = (if l = true ∧ 2 < m then 1 else 0) → tRet (tOp (rI0 fun i j => .int (i + j)) (tCB (rSumT K) (tCons (tSl (rSlA K) (tC (.ref tp)) tNoPart (tPart (tOp (rI0 fun i j => .int (i - j)) (tVar 0) (tC (.int 1))))) tNil)) (tVar 2))
        { nx := fun _ H' => Q .non H', rt := Q } [some (.int m), some (.bl l), some (.int d)] H := fun d hd => by
      refine ⟨_, rfl, _, _, rfl, rfl, _, rfl, tp, MLs.map V.int, rfl, M.sq H, fun hw => ?_, fun hw p hp => ?_⟩
      · refine ⟨tp, MLs, rfl, M.sq H, _, rfl, _, _, rfl, rfl, ?_⟩
        have e : m = 13 := by
          rcases m13 m1 m2 with e | ⟨a1, a2⟩
          · exact e
          · exact absurd hw (cut_ML a1 a2).2
        subst e
        have e2 : mst 13 l = MLs.sum + d := by
          rw [hd]
          cases l <;> decide
        show Q (.int (MLs.sum + d)) H
        rw [← e2]
        exact k H (Same.refl H)
      · have e : 1 ≤ m ∧ m ≤ 12 := by
          rcases m13 m1 m2 with e | e
          · subst e
            exact absurd (by decide) hw
          · exact e
        refine ⟨p, MLs.take (m - 1).toNat, rfl, ?_, _, rfl, _, _, rfl, rfl, ?_⟩
        · refine SqT.of ?_
          rw [upd_same, (cut_ML e.1 e.2).1]
        · have e2 : mst m l = (MLs.take (m - 1).toNat).sum + d := by
            rw [hd]
            rfl
          show Q (.int ((MLs.take (m - 1).toNat).sum + d)) _
          rw [← e2]
          exact k _ (Same.new hp)
    refine ⟨_, rfl, l, rfl, ?_⟩
    cases l with
    | false => exact iteF (iteF (rest 0 (by rw [if_neg]; intro h; cases h.1)))
    | true =>
      refine iteT ?_
      refine ⟨_, rfl, _, _, rfl, rfl, _, rfl, ?_⟩
      by_cases c : 2 < m
      · exact iteTT (decide_eq_true c) (rest 1 (by rw [if_pos ⟨rfl, c⟩]))
      · exact iteFF (decide_eq_false c) (rest 0 (by rw [if_neg fun h => c h.2]))
/-! ### day_of -/
def spDayOf : Sp := fun vs H Q _ => ∃ y m d : Int, vs = [.int y, .int m, .int d] ∧ IsDate y m d ∧ ∀ H', Same H H' → Q (.int (dayOf y m d)) H'
theorem scDayOf : FnScope ["year", "month", "day", "leap"] ["year", "month", "day"] (defScope sDayOf) := ⟨rfl, rfl, rfl, by decide +kernel, rfl, by decide +kernel, by decide +kernel⟩
theorem ok_dayof {f : Addr} {fd : FuncData} (F : Fun K "day_of" "day_of" sDayOf f fd) (DC : Df P w K mg base 2 "check_number" ["value", "least"] [.non] spCheck) (DL : Df P w K mg base 3 "is_leap" ["year"] [] spLeap)
    (DM : Df P w K mg base 1 "month_length" ["month", "leap"] [] spMlen) (DY : Df P w K mg base 3 "year_start" ["year"] [] spYs) (DS : Df P w K mg base 1 "month_start" ["month", "leap"] [] spMst) :
    FnOk P w K mg base CX0 4 f fd ["year", "month", "day"] spDayOf := by
  refine F.ok scDayOf (fun vs H Q E h => ?_) (fun cdv A outer s H vs Q E hr h => ?_)
  · obtain ⟨y, m, d, rfl, _⟩ := h
    rfl
  · obtain ⟨y, m, d, rfl, D, k⟩ := h
    have hr1 : Room 1 _ := hr.mono (by decide)
    have hr2 : Room 2 _ := hr.mono (by decide)
    refine ⟨_, pss_cons (ps_expr (pe_df DC hr2 (pa_cons (pv 0) pa_nil))) (pss_cons (ps_expr (pe_df DC hr2 (pa_cons (pv 1) pa_nil))) (pss_cons (ps_expr (pe_df DC hr2 (pa_cons (pv 2) pa_nil)))
      (pss_cons (ps_set (i := 3) scDayOf.nd rfl (Or.inl rfl) (pe_df DL hr (pa_cons (pv 0) pa_nil)))
      (pss_cons (ps_if (PW.pt (pw_or (pt_not (pt_chain op_le op_le pe_int (pv 1) pe_int)) (pw_or1 (pt_not (pt_chain op_le op_le pe_int (pv 2) (pe_df DM hr1 (pa_cons (pv 1) (pa_cons (pv 3) pa_nil)))))))) (pss_one ps_never) pss_nil)
      (pss_one (ps_ret (pe_op op_sub (pe_op op_add (pe_op op_add (pe_df DY hr (pa_cons (pv 0) pa_nil)) (pe_df DS hr1 (pa_cons (pv 1) (pa_cons (pv 3) pa_nil)))) (pv 2)) pe_int))))))), ?_⟩
    refine ⟨_, rfl, y, rfl, _, rfl, m, rfl, _, rfl, d, rfl, _, rfl, y, rfl, ?_⟩
    refine ⟨_, rfl, _, _, rfl, rfl, true, congrArg V.bl (decide_eq_true D.m1), iteT ?_⟩
    refine ⟨_, _, rfl, rfl, true, congrArg V.bl (decide_eq_true D.m2), iteF ?_⟩
    refine ⟨_, rfl, _, _, rfl, rfl, true, congrArg V.bl (decide_eq_true D.d1), iteT ?_⟩
    refine ⟨_, rfl, _, rfl, m, leapB y, rfl, D.m1, D.m2, _, _, rfl, rfl, true, congrArg V.bl (decide_eq_true D.d2), ?_⟩
    show if false = true then _ else _
    refine iteF ?_
    refine ⟨_, rfl, y, rfl, _, rfl, _, rfl, m, leapB y, rfl, D.m1, by have := D.m2; omega, fun H' S' => ?_⟩
    exact ⟨_, _, rfl, rfl, _, rfl, _, _, rfl, rfl, _, _, rfl, rfl, k H' S'⟩
/-! ### year_of -/
theorem while_w {c : TT} {tb : TS} {D : Ends} {σ : L2.St} {H : Hp} (Pv : L2.St → Hp → Prop) (μ : L2.St → Hp → Nat) (h0 : Pv σ H)
    (hs : ∀ σ H, Pv σ H → c σ H fun b H1 => if b = true then ∃ N : L2.St → Hp → Prop, (∀ σ' H', N σ' H' → Pv σ' H' ∧ μ σ' H' < μ σ H) ∧ tb { D with nx := N, ct := N, bk := D.nx } σ H1 else D.nx σ H1)
    (up : ∀ σ H Q Q', (∀ b H1, Q b H1 → Q' b H1) → c σ H Q → c σ H Q') : tWhile c tb D σ H := by
  refine ⟨fun m σ H => m = μ σ H ∧ Pv σ H, ⟨_, rfl, h0⟩, ?_⟩
  rintro m σ H ⟨rfl, p⟩
  refine up σ H _ _ (fun b H1 q => ?_) (hs σ H p)
  cases b with
  | true =>
    obtain ⟨N, hN, q⟩ := q
    exact ⟨N, fun σ' H' n => ⟨_, (hN σ' H' n).2, rfl, (hN σ' H' n).1⟩, q⟩
  | false => exact q
def spYearOf : Sp := fun vs H Q _ => ∃ d y : Int, vs = [.int d] ∧ ysOf y ≤ d ∧ d < ysOf (y + 1) ∧ ∀ H', Same H H' → Q (.int y) H'
theorem scYearOf : FnScope ["day", "cycles", "rest", "year"] ["day"] (defScope sYearOf) := ⟨rfl, rfl, rfl, by decide +kernel, rfl, by decide +kernel, by decide +kernel⟩
theorem ok_yearof {f : Addr} {fd : FuncData} (F : Fun K "year_of" "year_of" sYearOf f fd) (T : Nm mg) (C : Cn K mg) (DY : Df P w K mg base 3 "year_start" ["year"] [] spYs) : FnOk P w K mg base CX0 4 f fd ["day"] spYearOf := by
  refine F.ok scYearOf (fun vs H Q E h => ?_) (fun cdv A outer s H vs Q E hr h => ?_)
  · obtain ⟨d, y, rfl, _⟩ := h
    rfl
  · obtain ⟨d, y, rfl, l1, l2, k⟩ := h
    obtain ⟨t1, c1⟩ := C.cy
    obtain ⟨t2, c2⟩ := C.cd
    have nd := scYearOf.nd
    refine ⟨_, pss_cons (ps_asg (pe_callB call_divmod (by rfl) T.divmod (by decide +kernel) (pa_cons (pv 0) (pa_cons (pe_glob (v := .int 146097) rfl c2 ⟨_, rfl⟩) pa_nil))) (pg_tup (by rfl) (pgs_cons (pg_name (i := 1) nd rfl (Or.inl rfl)) (pgs_cons (pg_name (i := 2) nd rfl (Or.inl rfl)) pgs_nil))))
      (pss_cons (ps_set (i := 3) nd rfl (Or.inl rfl) (pe_op op_add (pe_op op_add pe_int (pe_op op_mul (pe_glob (v := .int 400) rfl c1 ⟨_, rfl⟩) (pv 1))) (pe_op op_fdiv (pv 2) pe_int)))
      (pss_cons (ps_while PassesOwn.never (pt_cmpR op_le (pe_df DY hr (pa_cons (pe_op op_add (pv 3) pe_int) pa_nil)) (pv 0) (nomark _)) (pss_one (ps_aug (i := 3) nd rfl (Or.inl rfl) pe_int ip_add)))
      (pss_one (ps_ret (pv 3))))), ?_⟩
    refine ⟨_, rfl, d, 146097, rfl, ⟨by decide, by decide⟩, fun p hp => ?_⟩
    refine ⟨p, _, rfl, SqT.of upd_same, rfl, _, _, rfl, _, _, rfl, rfl, ?_⟩
    refine ⟨_, rfl, _, _, rfl, rfl, .inl ⟨by decide, by decide⟩, _, _, rfl, rfl, _, rfl, _, _, rfl, rfl, ⟨by decide, by decide⟩, _, _, rfl, rfl, ?_⟩
    refine while_w (fun σ H' => Same H H' ∧ ∃ (z c r : Int), z ≤ y ∧ σ = [some (.int d), some (.int c), some (.int r), some (.int z)]) (fun σ _ => match σ with | [_, _, _, some (.int z)] => (y - z).toNat | _ => 0) ⟨Same.new hp, _, _, _, first_try l1 l2, rfl⟩ ?_ ?_
    · rintro σ H' ⟨S, z, c, r, hz, rfl⟩
      refine ⟨_, rfl, _, _, rfl, rfl, z + 1, rfl, _, rfl, _, _, rfl, rfl, _, rfl, ?_⟩
      refine ite2 (fun hc => ?_) (fun hc => ?_)
      · have hc' : ysOf (z + 1) ≤ d := of_decide_eq_true hc
        have hlt : z < y := by
          have q := ys_le_iff (y := z + 1) (z := y) (by omega)
          omega
        refine ⟨fun σ' H'' => Same H H'' ∧ σ' = [some (.int d), some (.int c), some (.int r), some (.int (z + 1))], fun σ' H'' ⟨S', e⟩ => ?_, ?_⟩
        · subst e
          refine ⟨⟨S', z + 1, c, r, by omega, rfl⟩, ?_⟩
          show (y - (z + 1)).toNat < (y - z).toNat
          omega
        · exact ⟨_, rfl, _, _, rfl, rfl, S, rfl⟩
      · have hc' : ¬ ysOf (z + 1) ≤ d := fun q => hc (decide_eq_true q)
        have e : z = y := by
          have q := ys_le_iff (y := y) (z := z) (by omega)
          omega
        subst e
        exact ⟨_, rfl, k H' S⟩
    · rintro σ H' Q1 Q2 hq ⟨v, e1, i, j, e2, e3, u, e4, v2, e5, i2, j2, e6, e7, b, e8, q⟩
      exact ⟨v, e1, i, j, e2, e3, u, e4, v2, e5, i2, j2, e6, e7, b, e8, hq _ _ q⟩
/-! ### date_of, weekday -/
def spDateOf : Sp := fun vs H Q _ => ∃ y m n : Int, vs = [.int (dayOf y m n)] ∧ IsDate y m n ∧ ∀ (H' : Hp) (p : Addr), Same H H' → H p = none → H' p = some (.tup [.int y, .int m, .int n]) → Q (.ref p) H'
theorem scDateOf : FnScope ["day", "year", "leap", "number", "month"] ["day"] (defScope sDateOf) := ⟨rfl, rfl, rfl, by decide +kernel, rfl, by decide +kernel, by decide +kernel⟩
theorem ok_dateof {f : Addr} {fd : FuncData} (F : Fun K "date_of" "date_of" sDateOf f fd) (DC : Df P w K mg base 2 "check_number" ["value", "least"] [.non] spCheck) (DL : Df P w K mg base 3 "is_leap" ["year"] [] spLeap)
    (DO : Df P w K mg base 4 "year_of" ["day"] [] spYearOf) (DY : Df P w K mg base 3 "year_start" ["year"] [] spYs) (DS : Df P w K mg base 1 "month_start" ["month", "leap"] [] spMst) :
    FnOk P w K mg base CX0 5 f fd ["day"] spDateOf := by
  refine F.ok scDateOf (fun vs H Q E h => ?_) (fun cdv A outer s H vs Q E hr h => ?_)
  · obtain ⟨y, m, n, rfl, _⟩ := h
    rfl
  · obtain ⟨y, m, n, rfl, D, k⟩ := h
    have hr1 : Room 1 _ := hr.mono (by decide)
    have hr2 : Room 2 _ := hr.mono (by decide)
    have hr3 : Room 3 _ := hr.mono (by decide)
    have nd := scDateOf.nd
    have yr := D.year
    have mo := D.month
    refine ⟨_, pss_cons (ps_expr (pe_df DC hr2 (pa_cons (pv 0) pa_nil))) (pss_cons (ps_set (i := 1) nd rfl (Or.inl rfl) (pe_df DO hr (pa_cons (pv 0) pa_nil)))
      (pss_cons (ps_set (i := 2) nd rfl (Or.inl rfl) (pe_df DL hr3 (pa_cons (pv 1) pa_nil)))
      (pss_cons (ps_set (i := 3) nd rfl (Or.inl rfl) (pe_op op_sub (pv 0) (pe_df DY hr3 (pa_cons (pv 1) pa_nil))))
      (pss_cons (ps_set (i := 4) nd rfl (Or.inl rfl) pe_int)
      (pss_cons (ps_while PassesOwn.never (pt_cmpR op_le (pe_df DS hr1 (pa_cons (pe_op op_add (pv 4) pe_int) (pa_cons (pv 2) pa_nil))) (pv 3) (nomark _)) (pss_one (ps_aug (i := 4) nd rfl (Or.inl rfl) pe_int ip_add)))
      (pss_one (ps_ret (pe_tup (pa_cons (pv 1) (pa_cons (pv 4) (pa_cons (pe_op op_add (pe_op op_sub (pv 3) (pe_df DS hr1 (pa_cons (pv 4) (pa_cons (pv 2) pa_nil)))) pe_int) pa_nil))))))))))), ?_⟩
    refine ⟨_, rfl, _, rfl, _, rfl, _, y, rfl, yr.1, yr.2, fun H1 S1 => ?_⟩
    refine ⟨_, rfl, y, rfl, _, rfl, _, rfl, y, rfl, _, _, rfl, rfl, ?_⟩
    refine while_w (fun σ H' => Same H H' ∧ ∃ z : Int, 1 ≤ z ∧ z ≤ m ∧ σ = [some (.int (dayOf y m n)), some (.int y), some (.bl (leapB y)), some (.int (dayOf y m n - ysOf y)), some (.int z)]) (fun σ _ => match σ with | [_, _, _, _, some (.int z)] => (m - z).toNat | _ => 0)
      ⟨S1, 1, by omega, D.m1, rfl⟩ ?_ ?_
    · rintro σ H' ⟨S, z, z1, z2, rfl⟩
      refine ⟨_, rfl, _, _, rfl, rfl, _, rfl, z + 1, leapB y, rfl, by omega, by have := D.m2; omega, fun H2 S2 => ?_⟩
      refine ⟨_, rfl, _, _, rfl, rfl, _, rfl, ?_⟩
      refine ite2 (fun hc => ?_) (fun hc => ?_)
      · have hc' : mst (z + 1) (leapB y) ≤ dayOf y m n - ysOf y := of_decide_eq_true hc
        have hlt : z < m := by
          by_cases q : z < m
          · exact q
          · have e : z = m := by omega
            subst e
            omega
        refine ⟨fun σ' H'' => Same H H'' ∧ σ' = [some (.int (dayOf y m n)), some (.int y), some (.bl (leapB y)), some (.int (dayOf y m n - ysOf y)), some (.int (z + 1))], fun σ' H'' ⟨S', e⟩ => ?_, ?_⟩
        · subst e
          refine ⟨⟨S', z + 1, by omega, by omega, rfl⟩, ?_⟩
          show (m - (z + 1)).toNat < (m - z).toNat
          omega
        · exact ⟨_, rfl, _, _, rfl, rfl, S.trans S2, rfl⟩
      · have hc' : ¬ mst (z + 1) (leapB y) ≤ dayOf y m n - ysOf y := fun q => hc (decide_eq_true q)
        have e : z = m := by
          by_cases q : z = m
          · exact q
          · have := mst_le (a := z + 1) (b := m) (by omega) (by omega) (by have := D.m2; omega) (leapB y)
            omega
        subst e
        refine ⟨_, rfl, _, rfl, _, rfl, _, rfl, _, rfl, z, leapB y, rfl, by omega, by have := D.m2; omega, fun H3 S3 => ?_⟩
        refine ⟨_, _, rfl, rfl, _, _, rfl, rfl, (by show 3 ≤ sizeLine; decide), fun p hp => ?_⟩
        have S13 : Same H H3 := (S.trans S2).trans S3
        refine k _ p (S13.step hp) (S13.free hp) ?_
        show _ = some (HO.tup [V.int y, V.int z, V.int n])
        rw [upd_same]
        show some (HO.tup [V.int y, V.int z, V.int (dayOf y z n - ysOf y - mst z (leapB y) + 1)]) = _
        have e : dayOf y z n - ysOf y - mst z (leapB y) + 1 = n := by unfold dayOf; omega
        rw [e]
    · rintro σ H' Q1 Q2 hq ⟨v, e1, i, j, e2, e3, v2, e4, u, l, e5, e6, e7, q⟩
      refine ⟨v, e1, i, j, e2, e3, v2, e4, u, l, e5, e6, e7, fun H2 S2 => ?_⟩
      obtain ⟨v3, e8, i2, j2, e9, e10, b, e11, q⟩ := q H2 S2
      exact ⟨v3, e8, i2, j2, e9, e10, b, e11, hq _ _ q⟩
def spWeekday : Sp := fun vs H Q _ => ∃ d : Int, vs = [.int d] ∧ Q (.int ((d + 5) % 7)) H
theorem scWeekday : FnScope ["day"] ["day"] (defScope sWeekday) := ⟨rfl, rfl, rfl, by decide +kernel, rfl, by decide +kernel, by decide +kernel⟩
theorem ok_weekday {f : Addr} {fd : FuncData} (F : Fun K "weekday" "weekday" sWeekday f fd) (DC : Df P w K mg base 2 "check_number" ["value", "least"] [.non] spCheck) : FnOk P w K mg base CX0 3 f fd ["day"] spWeekday := by
  refine F.ok scWeekday (fun vs H Q E h => ?_) (fun cdv A outer s H vs Q E hr h => ?_)
  · obtain ⟨n, rfl, _⟩ := h
    rfl
  · obtain ⟨d, rfl, k⟩ := h
    refine ⟨_, pss_cons (ps_expr (pe_df DC hr (pa_cons (pv 0) pa_nil))) (pss_one (ps_ret (pe_op op_mod (pe_op op_add (pv 0) pe_int) pe_int))), ?_⟩
    exact ⟨_, rfl, d, rfl, _, rfl, _, _, rfl, rfl, _, _, rfl, rfl, (by show (0 : Int) < 7; decide), k⟩
end
end Cf
namespace Cf
open PySem L2
section
variable {P : Program} {w : World} {K : PySem.W.Frag} {mg : Str → Option Value} {base : Heap} {cN cD : Addr}
/-! ### day_of with all its ends -/
/-- BadDate((y, m, d)) is let out -/
def OutD (cD : Addr) (y m d : Int) (E : XK) (H : Hp) : Prop := ∀ (dd t : Addr) (H' : Hp), Same H H' → H dd = none → H' t = some (.tup [.int y, .int m, .int d]) → H' dd = some (.xd [("value", .ref t)]) → E (.ref cD) (some dd) H'
def spDayX (K : PySem.W.Frag) (cN cD : Addr) : Sp := fun vs H Q E => ∃ x y z : V, vs = [x, y, z] ∧
  ((∃ e, Dz K H x e ∧ nonum e = true ∧ OutN cN x E H) ∨ (∃ (i : Int) (e : PyData), x = .int i ∧ Dz K H y e ∧ nonum e = true ∧ OutN cN y E H) ∨ (∃ (i j : Int) (e : PyData), x = .int i ∧ y = .int j ∧ Dz K H z e ∧ nonum e = true ∧ OutN cN z E H) ∨
    (∃ i j k : Int, x = .int i ∧ y = .int j ∧ z = .int k ∧ ((IsDate i j k ∧ ∀ H', Same H H' → Q (.int (dayOf i j k)) H') ∨ (¬ IsDate i j k ∧ OutD cD i j k E H))))
theorem scDayX : FnScope ["year", "month", "day", "leap"] ["year", "month", "day"] (defScope sDayOf) := ⟨rfl, rfl, rfl, by decide +kernel, rfl, by decide +kernel, by decide +kernel⟩
theorem ok_dayx {f : Addr} {fd : FuncData} (F : Fun K "day_of" "day_of" sDayOf f fd) (DC : Dx P w K mg base 3 "check_number" ["value", "least"] [.non] (spCheckX K cN)) (DL : Df P w K mg base 3 "is_leap" ["year"] [] spLeap)
    (DM : Df P w K mg base 1 "month_length" ["month", "leap"] [] spMlen) (DY : Df P w K mg base 3 "year_start" ["year"] [] spYs) (DS : Df P w K mg base 1 "month_start" ["month", "leap"] [] spMst) (R : Rs P w K mg base "BadDate" cD 1 mk1) :
    FnOk P w K mg base (L2.CX P w) 5 f fd ["year", "month", "day"] (spDayX K cN cD) := by
  refine F.okX scDayX (fun vs H Q E h => ?_) (fun cdv A outer s H vs Q E hr h => ?_)
  · obtain ⟨x, y, z, rfl, _⟩ := h
    rfl
  · obtain ⟨x, y, z, rfl, h⟩ := h
    have hr1 : Room 1 _ := hr.mono (by decide)
    have hr2 : Room 2 _ := hr.mono (by decide)
    have hr3 : Room 3 _ := hr.mono (by decide)
    refine ⟨_, pss_cons (ps_expr (pe_dx DC hr3 (L2.takes_of rfl rfl rfl rfl) (pa_cons (pv 0) pa_nil))) (pss_cons (ps_expr (pe_dx DC hr3 (L2.takes_of rfl rfl rfl rfl) (pa_cons (pv 1) pa_nil))) (pss_cons (ps_expr (pe_dx DC hr3 (L2.takes_of rfl rfl rfl rfl) (pa_cons (pv 2) pa_nil)))
      (pss_cons (ps_set (i := 3) scDayX.nd rfl (Or.inl rfl) (pe_df DL hr3 (pa_cons (pv 0) pa_nil)))
      (pss_cons (ps_if (PW.pt (pw_or (pt_not (pt_chain op_le op_le pe_int (pv 1) pe_int)) (pw_or1 (pt_not (pt_chain op_le op_le pe_int (pv 2) (pe_df DM hr1 (pa_cons (pv 1) (pa_cons (pv 3) pa_nil)))))))) (pss_one (ps_raise rfl (L2.takes_of rfl rfl rfl rfl) (pmk_rs R hr2 (L2.takes_of rfl rfl rfl rfl) (pa_cons (pe_tup (pa_cons (pv 0) (pa_cons (pv 1) (pa_cons (pv 2) pa_nil)))) pa_nil)))) pss_nil)
      (pss_one (ps_ret (pe_op op_sub (pe_op op_add (pe_op op_add (pe_df DY hr3 (pa_cons (pv 0) pa_nil)) (pe_df DS hr1 (pa_cons (pv 1) (pa_cons (pv 3) pa_nil)))) (pv 2)) pe_int))))))), ?_⟩
    rcases h with ⟨e, dz, n, out⟩ | ⟨i, e, rfl, dz, n, out⟩ | ⟨i, j, e, rfl, rfl, dz, n, out⟩ | ⟨i, j, k, rfl, rfl, rfl, h⟩
    · exact ⟨_, rfl, x, rfl, .inr ⟨e, dz, n, fun dd H' s h0 h1 => out dd H' s h0 h1⟩⟩
    · refine ⟨_, rfl, _, rfl, .inl ⟨i, rfl, ?_⟩⟩
      exact ⟨_, rfl, y, rfl, .inr ⟨e, dz, n, fun dd H' s h0 h1 => out dd H' s h0 h1⟩⟩
    · refine ⟨_, rfl, _, rfl, .inl ⟨i, rfl, ?_⟩⟩
      refine ⟨_, rfl, _, rfl, .inl ⟨j, rfl, ?_⟩⟩
      exact ⟨_, rfl, z, rfl, .inr ⟨e, dz, n, fun dd H' s h0 h1 => out dd H' s h0 h1⟩⟩
    · refine ⟨_, rfl, _, rfl, .inl ⟨i, rfl, _, rfl, _, rfl, .inl ⟨j, rfl, _, rfl, _, rfl, .inl ⟨k, rfl, _, rfl, i, rfl, ?_⟩⟩⟩⟩
      by_cases c1 : 1 ≤ j
      · refine ⟨_, rfl, _, _, rfl, rfl, true, congrArg V.bl (decide_eq_true c1), iteT ?_⟩
        by_cases c2 : j ≤ 12
        · refine ⟨_, _, rfl, rfl, true, congrArg V.bl (decide_eq_true c2), iteF ?_⟩
          by_cases c3 : 1 ≤ k
          · refine ⟨_, rfl, _, _, rfl, rfl, true, congrArg V.bl (decide_eq_true c3), iteT ?_⟩
            by_cases c4 : k ≤ mlen j (leapB i)
            · rcases h with ⟨D, go⟩ | ⟨D, out⟩
              · refine ⟨_, rfl, _, rfl, j, leapB i, rfl, c1, c2, _, _, rfl, rfl, true, congrArg V.bl (decide_eq_true c4), ?_⟩
                show if false = true then _ else _
                refine iteF ?_
                refine ⟨_, rfl, i, rfl, _, rfl, _, rfl, j, leapB i, rfl, c1, by omega, fun H' S' => ?_⟩
                exact ⟨_, _, rfl, rfl, _, rfl, _, _, rfl, rfl, _, _, rfl, rfl, go H' S'⟩
              · exact (D ⟨c1, c2, c3, c4⟩).elim
            · rcases h with ⟨D, go⟩ | ⟨D, out⟩
              · exact (c4 D.d2).elim
              · refine ⟨_, rfl, _, rfl, j, leapB i, rfl, c1, c2, _, _, rfl, rfl, false, congrArg V.bl (decide_eq_false c4), ?_⟩
                refine iteTT rfl ?_
                exact ⟨_, rfl, _, rfl, _, rfl, by show 3 ≤ sizeLine; decide, fun t nt => ⟨by show 1 ≤ 1000; decide, raise_read rfl fun dd H2 s h0 h1 => out dd t H2 ((Same.new (o := .tup [.int i, .int j, .int k]) nt).trans s) ((Same.new (o := .tup [.int i, .int j, .int k]) nt).free h0) (s _ _ upd_same) h1⟩⟩
          · rcases h with ⟨D, go⟩ | ⟨D, out⟩
            · exact (c3 D.d1).elim
            · refine ⟨_, rfl, _, _, rfl, rfl, false, congrArg V.bl (decide_eq_false c3), iteF ⟨false, rfl, ?_⟩⟩
              refine iteTT rfl ?_
              exact ⟨_, rfl, _, rfl, _, rfl, by show 3 ≤ sizeLine; decide, fun t nt => ⟨by show 1 ≤ 1000; decide, raise_read rfl fun dd H2 s h0 h1 => out dd t H2 ((Same.new (o := .tup [.int i, .int j, .int k]) nt).trans s) ((Same.new (o := .tup [.int i, .int j, .int k]) nt).free h0) (s _ _ upd_same) h1⟩⟩
        · rcases h with ⟨D, go⟩ | ⟨D, out⟩
          · exact (c2 D.m2).elim
          · refine ⟨_, _, rfl, rfl, false, congrArg V.bl (decide_eq_false c2), iteT ?_⟩
            exact iteT ⟨_, rfl, _, rfl, _, rfl, by show 3 ≤ sizeLine; decide, fun t nt => ⟨by show 1 ≤ 1000; decide, raise_read rfl fun dd H2 s h0 h1 => out dd t H2 ((Same.new (o := .tup [.int i, .int j, .int k]) nt).trans s) ((Same.new (o := .tup [.int i, .int j, .int k]) nt).free h0) (s _ _ upd_same) h1⟩⟩
      · rcases h with ⟨D, go⟩ | ⟨D, out⟩
        · exact (c1 D.m1).elim
        · refine ⟨_, rfl, _, _, rfl, rfl, false, congrArg V.bl (decide_eq_false c1), iteF ⟨false, rfl, ?_⟩⟩
          refine iteTT rfl ?_
          exact iteTT rfl ⟨_, rfl, _, rfl, _, rfl, by show 3 ≤ sizeLine; decide, fun t nt => ⟨by show 1 ≤ 1000; decide, raise_read rfl fun dd H2 s h0 h1 => out dd t H2 ((Same.new (o := .tup [.int i, .int j, .int k]) nt).trans s) ((Same.new (o := .tup [.int i, .int j, .int k]) nt).free h0) (s _ _ upd_same) h1⟩⟩
end
end Cf
namespace Cf
open PySem L2
section
variable {P : Program} {w : World} {K : PySem.W.Frag} {mg : Str → Option Value} {base : Heap}
def spLong : Sp := fun vs H Q _ => ∃ y : Int, vs = [.int y] ∧ Q (.bl (leapB y)) H
theorem scLawIsLong : FnScope ["one_year"] ["one_year"] (defScope sLawIsLong) := ⟨rfl, rfl, rfl, by decide +kernel, rfl, by decide +kernel, by decide +kernel⟩
theorem ok_long {f : Addr} {fd : FuncData} (F : Fun K "_law_is_long" "_law_is_long" sLawIsLong f fd) (T : Nm mg) : FnOk P w K mg base CX0 1 f fd ["one_year"] spLong := by
  refine F.ok scLawIsLong (fun vs H Q E h => ?_) (fun cdv A outer s H vs Q E hr h => ?_)
  · obtain ⟨n, rfl, _⟩ := h
    rfl
  · obtain ⟨y, rfl, k⟩ := h
    have k' := k
    rw [← isLong_eq] at k'
    unfold isLong at k'
    refine ⟨_, pss_one (ps_ret (pe_or (pe_cmpR op_eq (pe_op op_mod (pe_callTy call_int1 (by rfl) T.int (by decide +kernel) (pa_cons (pv 0) pa_nil)) pe_int) pe_int (nomark _))
      (pe_one (pe_and (pe_cmpR op_eq (pe_op op_mod (pe_callTy call_int1 (by rfl) T.int (by decide +kernel) (pa_cons (pv 0) pa_nil)) pe_int) pe_int (nomark _))
        (pe_one (pe_cmpR op_ne (pe_op op_mod (pe_callTy call_int1 (by rfl) T.int (by decide +kernel) (pa_cons (pv 0) pa_nil)) pe_int) pe_int (nomark _))))))), ?_⟩
    refine ⟨_, rfl, .inl ⟨_, rfl, _, _, rfl, rfl, (by show (0 : Int) < 400; decide), rfl, _, rfl, ?_⟩⟩
    rw [dec_int]
    by_cases c4 : y % 400 = 0
    · refine iteTT (by simpa using c4) ?_
      rw [decide_eq_true c4, Bool.true_or] at k'
      exact k'
    · refine iteFF (by simpa using c4) ?_
      rw [decide_eq_false c4, Bool.false_or] at k'
      refine ⟨_, rfl, .inl ⟨_, rfl, _, _, rfl, rfl, (by show (0 : Int) < 4; decide), rfl, _, rfl, ?_⟩⟩
      by_cases c1 : y % 4 = 0
      · refine iteTT (by rw [dec_int]; simpa using c1) ?_
        rw [decide_eq_true c1, Bool.true_and] at k'
        refine ⟨_, rfl, .inl ⟨_, rfl, _, _, rfl, rfl, (by show (0 : Int) < 100; decide), rfl, ?_⟩⟩
        rw [show (!decide (V.int (y % 100) = V.int 0)) = decide (y % 100 ≠ 0) by rw [dec_int]; by_cases q : y % 100 = 0 <;> simp [q]]
        exact k'
      · refine iteFF (by rw [dec_int]; simpa using c1) ?_
        rw [decide_eq_false c1, Bool.false_and] at k'
        exact k'
def spSize : Sp := fun vs H Q _ => ∃ y m : Int, vs = [.int y, .int m] ∧ 1 ≤ m ∧ m ≤ 12 ∧ ∀ H', Same H H' → Q (.int (mlen m (leapB y))) H'
theorem scLawSize : FnScope ["one_year", "one_month"] ["one_year", "one_month"] (defScope sLawSize) := ⟨rfl, rfl, rfl, by decide +kernel, rfl, by decide +kernel, by decide +kernel⟩
theorem ok_size {f : Addr} {fd : FuncData} (F : Fun K "_law_size" "_law_size" sLawSize f fd) (DI : Df P w K mg base 1 "_law_is_long" ["one_year"] [] spLong) : FnOk P w K mg base CX0 2 f fd ["one_year", "one_month"] spSize := by
  refine F.ok scLawSize (fun vs H Q E h => ?_) (fun cdv A outer s H vs Q E hr h => ?_)
  · obtain ⟨n, m, rfl, _⟩ := h
    rfl
  · obtain ⟨y, m, rfl, m1, m2, k⟩ := h
    refine ⟨_, pss_one (ps_ret (pe_ix ix_list (pe_lst (pa_cons pe_int (pa_cons (pe_ifExp (pt_val (pe_df DI hr (pa_cons (pv 0) pa_nil))) pe_int pe_int) (pa_cons pe_int (pa_cons pe_int (pa_cons pe_int (pa_cons pe_int (pa_cons pe_int (pa_cons pe_int (pa_cons pe_int (pa_cons pe_int (pa_cons pe_int (pa_cons pe_int pa_nil)))))))))))))
      (pe_op op_sub (pv 1) pe_int) (fun _ _ => rfl))), ?_⟩
    refine ⟨_, rfl, y, rfl, leapB y, rfl, ?_⟩
    have fin : ∀ l : Bool, l = leapB y → ∀ p : Addr, H p = none → tOp (rI0 fun i j => .int (i - j)) (tVar 1) (tC (.int 1)) [some (.int y), some (.int m)] (upd H p (.lst ((lawSizes l).map V.int))) (fun y1 H2 => rIxL K (.ref p) y1 H2 Q) := fun l hl p hp => by
      refine ⟨_, rfl, _, _, rfl, rfl, p, _, _, V.int (mlen m l), rfl, rfl, SqL.of upd_same, ?_, ?_⟩
      · refine at_of (j := (m - 1).toNat) (by omega) ?_
        rw [List.getElem?_map, lawSizes_get m1 m2]
        rfl
      · rw [hl]
        exact k _ (Same.new hp)
    cases e : leapB y with
    | true => exact iteT ⟨by show 12 ≤ sizeLine; decide, fun p hp => fin true e.symm p hp⟩
    | false => exact iteF ⟨by show 12 ≤ sizeLine; decide, fun p hp => fin false e.symm p hp⟩
/-! ### _law_some_year -/
def spSome : Sp := fun vs H Q _ => ∃ (p a b : Addr) (n : Nat), vs = [.ref p] ∧ Stt p a b n H ∧ n ≤ 900000 ∧
  ∀ (y : Int) (H' : Hp), -(10 ^ 28) ≤ y → y ≤ 10 ^ 28 → Stt p a b (n + 20) H' → But p a H H' → Q (.int y) H'
theorem scLawSomeYear : FnScope ["state", "far", "turn", "ways"] ["state"] (defScope sLawSomeYear) := ⟨rfl, rfl, rfl, by decide +kernel, rfl, by decide +kernel, by decide +kernel⟩
theorem ok_some {f : Addr} {fd : FuncData} (F : Fun K "_law_some_year" "_law_some_year" sLawSomeYear f fd) (T : Nm mg) (DT : Df P w K mg base 2 "_law_take" ["state", "size"] [] spTake) : FnOk P w K mg base CX0 3 f fd ["state"] spSome := by
  refine F.ok scLawSomeYear (fun vs H Q E h => ?_) (fun cdv A outer s H vs Q E hr h => ?_)
  · obtain ⟨p, a, b, n, rfl, _⟩ := h
    rfl
  · obtain ⟨p, a, b, n, rfl, S, hn, k⟩ := h
    have nd := scLawSomeYear.nd
    have npa := S.pa
    have cp9 : CPow 10 9 := ⟨by decide, by decide, by decide⟩
    have cp6 : CPow 10 6 := ⟨by decide, by decide, by decide⟩
    refine ⟨_, pss_cons (ps_set (i := 1) nd rfl (Or.inl rfl) pe_int)
      (pss_cons (ps_for PassesOwn.never rfl (pi_range1 rfl T.range (pa_cons pe_int pa_nil)) (pg_name (i := 2) nd rfl (Or.inl rfl))
        (pss_one (ps_set (i := 1) nd rfl (Or.inl rfl) (pe_op op_add (pe_op op_mul (pv 1) (pe_op op_pow pe_int pe_int)) (pe_df DT hr (pa_cons (pv 0) (pa_cons (pe_op op_pow pe_int pe_int) pa_nil)))))))
      (pss_cons (ps_set (i := 3) nd rfl (Or.inl rfl) (pe_lst (pa_cons (pe_op op_add pe_int (pe_df DT hr (pa_cons (pv 0) (pa_cons pe_int pa_nil))))
        (pa_cons (pe_op op_sub (pe_op op_add (pe_op op_mul pe_int (pe_op op_sub (pe_df DT hr (pa_cons (pv 0) (pa_cons pe_int pa_nil))) pe_int)) (pe_df DT hr (pa_cons (pv 0) (pa_cons pe_int pa_nil)))) pe_int) pa_nil))))
      (pss_cons (ps_set (i := 3) nd rfl (Or.inl rfl) (pe_op op_cat (pv 3) (pe_lst (pa_cons (pe_op op_sub (pe_op op_add (pe_op op_mul pe_int (pe_op op_sub (pe_df DT hr (pa_cons (pv 0) (pa_cons (pe_op op_mul pe_int (pe_op op_pow pe_int pe_int)) pa_nil))) (pe_op op_pow pe_int pe_int)))
          (pe_df DT hr (pa_cons (pv 0) (pa_cons pe_int pa_nil)))) pe_int) (pa_cons (pv 1) (pa_cons (pe_op op_sub pe_int (pv 1)) pa_nil))))))
      (pss_one (ps_ret (pe_ix ix_list (pv 3) (pe_df DT hr (pa_cons (pv 0) (pa_cons pe_int pa_nil))) (fun _ _ => rfl))))))), ?_⟩
    refine ⟨3, rfl, by decide, by decide, for_range (n := 3) (fun i σ H' => Stt p a b (n + i) H' ∧ But p a H H' ∧ ∃ (fa : Int) (v : Option V), 0 ≤ fa ∧ fa < 10 ^ (9 * i) ∧ σ = [some (.ref p), some (.int fa), v, none]) ⟨S, But.refl, 0, none, by decide, by decide, rfl⟩ ?_ ?_⟩
    · rintro i σ H1 hi ⟨S1, B1, fa, v, f0, f1, rfl⟩
      refine ⟨_, rfl, _, _, rfl, rfl, cp9, _, _, rfl, rfl, .inr ⟨by decide, by decide⟩, _, rfl, _, _, rfl, rfl, cp9, p, a, b, n + i, _, rfl, S1, by omega, by decide, by decide, fun z H2 z0 z1 S2 B2 => ?_⟩
      refine ⟨_, _, rfl, rfl, S2, B1.trans B2, fa * 1000000000 + z, _, ?_, ?_, rfl⟩
      · have : z < 1000000000 := z1
        omega
      · have z1' : z < 1000000000 := z1
        have hi' : i = 0 ∨ i = 1 ∨ i = 2 := by omega
        rcases hi' with rfl | rfl | rfl
        · have e : (10 : Int) ^ (9 * 0) = 1 := by decide
          have e2 : (10 : Int) ^ (9 * (0 + 1)) = 1000000000 := by decide
          omega
        · have e : (10 : Int) ^ (9 * 1) = 1000000000 := by decide
          have e2 : (10 : Int) ^ (9 * (1 + 1)) = 1000000000000000000 := by decide
          omega
        · have e : (10 : Int) ^ (9 * 2) = 1000000000000000000 := by decide
          have e2 : (10 : Int) ^ (9 * (2 + 1)) = 1000000000000000000000000000 := by decide
          omega
    · rintro σ H1 ⟨S1, B1, fa, v, f0, f1, rfl⟩
      have f1' : fa < 1000000000000000000000000000 := f1
      have eB : (10 : Int) ^ 28 = 10000000000000000000000000000 := by decide
      -- ways = [..]
      refine ⟨_, rfl, p, a, b, n + 3, 60, rfl, S1, by omega, by decide, by decide, fun z1 H2 a1 b1 S2 B2 => ?_⟩
      refine ⟨_, _, rfl, rfl, _, rfl, p, a, b, _, 61, rfl, S2, by omega, by decide, by decide, fun z2 H3 a2 b2 S3 B3 => ?_⟩
      refine ⟨_, _, rfl, rfl, _, _, rfl, rfl, .inl ⟨by decide, by decide⟩, _, rfl, p, a, b, _, 3, rfl, S3, by omega, by decide, by decide, fun z3 H4 a3 b3 S4 B4 => ?_⟩
      refine ⟨_, _, rfl, rfl, _, _, rfl, rfl, (by show 2 ≤ sizeLine; decide), fun q hq => ?_⟩
      -- ways = ways + [..]
      have S5 := S4.same (Same.new (o := .lst [.int (1990 + z1), .int (100 * (z2 - 10) + z3 - 1)]) hq)
      refine ⟨_, rfl, _, rfl, _, _, rfl, rfl, cp6, _, _, rfl, rfl, .inl ⟨by decide, by decide⟩, p, a, b, _, _, rfl, S5, by omega, by decide, by decide, fun z4 H5 a4 b4 S6 B6 => ?_⟩
      refine ⟨_, _, rfl, rfl, cp6, _, _, rfl, rfl, _, _, rfl, rfl, .inl ⟨by decide, by decide⟩, _, rfl, p, a, b, _, 5, rfl, S6, by omega, by decide, by decide, fun z5 H6 a5 b5 S7 B7 => ?_⟩
      refine ⟨_, _, rfl, rfl, _, _, rfl, rfl, _, rfl, _, rfl, _, _, rfl, rfl, (by show 3 ≤ sizeLine; decide), fun q2 hq2 => ?_⟩
      have B5 : But p a H4 (upd H4 q (.lst [.int (1990 + z1), .int (100 * (z2 - 10) + z3 - 1)])) := But.of (Same.new hq)
      obtain ⟨u1, u2, u3, w1, w2, w3⟩ := S4.there
      have nqp : q ≠ p := (ne_of_none w1 hq).symm
      have nqa : q ≠ a := (ne_of_none w2 hq).symm
      have hq6 : H6 q = some (.lst [.int (1990 + z1), .int (100 * (z2 - 10) + z3 - 1)]) := B7 _ _ (B6 _ _ upd_same nqp nqa) nqp nqa
      have nq2 : q ≠ q2 := ne_of_none hq6 hq2
      refine ⟨q, q2, _, _, rfl, rfl, (upd_ne nq2).trans hq6, upd_same, (by show 5 ≤ sizeLine; decide), fun q3 hq3 => ?_⟩
      have S8 := (S7.same (Same.new hq2)).same (Same.new (o := .lst [.int (1990 + z1), .int (100 * (z2 - 10) + z3 - 1), .int (400 * (z4 - 10 ^ (6 : Int).toNat) + z5 - 2), .int fa, .int (0 - fa)]) hq3)
      refine ⟨_, rfl, _, rfl, p, a, b, _, 5, rfl, S8, by omega, by decide, by decide, fun z6 H7 a6 b6 S9 B9 => ?_⟩
      obtain ⟨x1, x2, x3, y1, y2, y3⟩ := (S7.same (Same.new hq2)).there
      have nqp3 : q3 ≠ p := (ne_of_none y1 hq3).symm
      have nqa3 : q3 ≠ a := (ne_of_none y2 hq3).symm
      have h7 := B9 q3 _ upd_same nqp3 nqa3
      have bb : But p a H H7 := ((B1.trans B2).trans (B3.trans B4)).trans ((B5.trans (B6.trans B7)).trans ((But.of (Same.new hq2)).trans ((But.of (Same.new hq3)).trans B9)))
      have fin : ∀ v : Int, -(10 ^ 28) ≤ v → v ≤ 10 ^ 28 → Q (.int v) H7 := fun v c1 c2 => k v H7 c1 c2 (S9.mono (by omega)) bb
      have z6' : z6 = 0 ∨ z6 = 1 ∨ z6 = 2 ∨ z6 = 3 ∨ z6 = 4 := by omega
      have e6 : (10 : Int) ^ (6 : Int).toNat = 1000000 := by decide
      rcases z6' with rfl | rfl | rfl | rfl | rfl
      · exact ⟨q3, _, 0, _, rfl, rfl, SqL.of h7, rfl, fin (1990 + z1) (by omega) (by omega)⟩
      · exact ⟨q3, _, 1, _, rfl, rfl, SqL.of h7, rfl, fin (100 * (z2 - 10) + z3 - 1) (by omega) (by omega)⟩
      · exact ⟨q3, _, 2, _, rfl, rfl, SqL.of h7, rfl, fin (400 * (z4 - 10 ^ (6 : Int).toNat) + z5 - 2) (by omega) (by omega)⟩
      · exact ⟨q3, _, 3, _, rfl, rfl, SqL.of h7, rfl, fin fa (by omega) (by omega)⟩
      · exact ⟨q3, _, 4, _, rfl, rfl, SqL.of h7, rfl, fin (0 - fa) (by omega) (by omega)⟩
/-! ### _law_pick -/
def spPick : Sp := fun vs H Q _ => ∃ (p a b l : Addr) (n : Nat) (xs : List V), vs = [.ref p, .ref l] ∧ Stt p a b n H ∧ n ≤ 1000000 ∧ H l = some (.lst xs) ∧ l ≠ p ∧ l ≠ a ∧ 0 < xs.length ∧ xs.length ≤ 1000 ∧
  ∀ (i : Nat) (v : V) (H' : Hp), xs[i]? = some v → Stt p a b (n + 1) H' → But p a H H' → Q v H'
theorem scLawPick : FnScope ["state", "some"] ["state", "some"] (defScope sLawPick) := ⟨rfl, rfl, rfl, by decide +kernel, rfl, by decide +kernel, by decide +kernel⟩
theorem ok_pick {f : Addr} {fd : FuncData} (F : Fun K "_law_pick" "_law_pick" sLawPick f fd) (T : Nm mg) (DT : Df P w K mg base 2 "_law_take" ["state", "size"] [] spTake) : FnOk P w K mg base CX0 3 f fd ["state", "some"] spPick := by
  refine F.ok scLawPick (fun vs H Q E h => ?_) (fun cdv A outer s H vs Q E hr h => ?_)
  · obtain ⟨p, a, b, l, n, xs, rfl, _⟩ := h
    rfl
  · obtain ⟨p, a, b, l, n, xs, rfl, S, hn, hl, n1, n2, l0, l1, k⟩ := h
    refine ⟨_, pss_one (ps_ret (pe_ix ix_list (pv 1) (pe_df DT hr (pa_cons (pv 0) (pa_cons (pe_callB call_len_seq (by rfl) T.len PySem.boot_len (pa_cons (pv 1) pa_nil)) pa_nil))) (fun _ _ => rfl))), ?_⟩
    refine ⟨_, rfl, _, rfl, _, rfl, l, xs, rfl, .inl (SqL.of hl), p, a, b, n, _, rfl, S, hn, by omega, by omega, fun z H' z0 z1 S' B' => ?_⟩
    have hlt : z.toNat < xs.length := by omega
    refine ⟨l, xs, z, xs[z.toNat], rfl, rfl, SqL.of (B' _ _ hl n1 n2), at_of (j := z.toNat) (by omega) (by simp [hlt]), ?_⟩
    exact k z.toNat _ H' (by simp [hlt]) S' B'
/-! ### _law_gap -/
/-- a pair that is no month and day of a year y, or 29 February -/
def GapOk (y m d : Int) : Prop := ¬ IsDate y m d ∨ (m = 2 ∧ d = 29)
def PairG (y : Int) (H : Hp) (v : V) : Prop := ∃ (t : Addr) (m d : Int), v = .ref t ∧ H t = some (.tup [.int m, .int d]) ∧ GapOk y m d
theorem PairG.same {y : Int} {H H' : Hp} {v : V} (g : PairG y H v) (s : Same H H') : PairG y H' v := by
  obtain ⟨t, m, d, e, h, g⟩ := g
  exact ⟨t, m, d, e, s _ _ h, g⟩
def spGap : Sp := fun vs H Q _ => ∃ (p a b : Addr) (n : Nat) (y : Int), vs = [.ref p, .int y] ∧ Stt p a b n H ∧ n ≤ 900000 ∧
  ∀ (t : Addr) (m d : Int) (H' : Hp), H' t = some (.tup [.int m, .int d]) → GapOk y m d → -100 ≤ m → m ≤ 10 ^ 29 → -1 ≤ d → d ≤ 10 ^ 29 → Stt p a b (n + 2) H' → But p a H H' → Q (.ref t) H'
theorem scLawGap : FnScope ["state", "one_year", "one_month", "size", "ways"] ["state", "one_year"] (defScope sLawGap) := ⟨rfl, rfl, rfl, by decide +kernel, rfl, by decide +kernel, by decide +kernel⟩
theorem ok_gap {f : Addr} {fd : FuncData} (F : Fun K "_law_gap" "_law_gap" sLawGap f fd) (T : Nm mg) (DT : Df P w K mg base 2 "_law_take" ["state", "size"] [] spTake) (DZ : Df P w K mg base 2 "_law_size" ["one_year", "one_month"] [] spSize) (DP : Df P w K mg base 3 "_law_pick" ["state", "some"] [] spPick) : FnOk P w K mg base CX0 4 f fd ["state", "one_year"] spGap := by
  refine F.ok scLawGap (fun vs H Q E h => ?_) (fun cdv A outer s H vs Q E hr h => ?_)
  · obtain ⟨p, a, b, n, y, rfl, _⟩ := h
    rfl
  · obtain ⟨p, a, b, n, y, rfl, S, hn, k⟩ := h
    have nd := scLawGap.nd
    have hr2 : Room 2 _ := hr.mono (by decide)
    have cp : CPow 10 29 := ⟨by decide, by decide, by decide⟩
    refine ⟨_, pss_cons (ps_set (i := 2) nd rfl (Or.inl rfl) (pe_op op_add pe_int (pe_df DT hr2 (pa_cons (pv 0) (pa_cons pe_int pa_nil)))))
      (pss_cons (ps_set (i := 3) nd rfl (Or.inl rfl) (pe_df DZ hr2 (pa_cons (pv 1) (pa_cons (pv 2) pa_nil))))
      (pss_cons (ps_set (i := 4) nd rfl (Or.inl rfl) (pe_lst (pa_cons (pe_tup (pa_cons pe_int (pa_cons pe_int pa_nil))) (pa_cons (pe_tup (pa_cons pe_int (pa_cons pe_int pa_nil))) (pa_cons (pe_tup (pa_cons (pv 2) (pa_cons pe_int pa_nil))) (pa_cons (pe_tup (pa_cons (pv 2) (pa_cons (pe_un un_neg pe_int) pa_nil))) (pa_cons (pe_tup (pa_cons (pv 2) (pa_cons (pe_op op_add (pv 3) pe_int) pa_nil))) (pa_cons (pe_tup (pa_cons pe_int (pa_cons pe_int pa_nil))) (pa_cons (pe_tup (pa_cons (pv 2) (pa_cons pe_int pa_nil))) pa_nil)))))))))
      (pss_one (ps_ret (pe_df DP hr (pa_cons (pv 0) (pa_cons (pe_op op_cat (pv 4) (pe_lst (pa_cons (pe_tup (pa_cons (pe_op op_sub pe_int (pv 2)) (pa_cons pe_int pa_nil))) (pa_cons (pe_tup (pa_cons (pv 2) (pa_cons (pe_op op_pow pe_int pe_int) pa_nil))) (pa_cons (pe_tup (pa_cons (pe_op op_pow pe_int pe_int) (pa_cons pe_int pa_nil))) (pa_cons (pe_tup (pa_cons pe_int (pa_cons pe_int pa_nil))) pa_nil)))))) pa_nil))))))), ?_⟩
    refine ⟨_, rfl, p, a, b, n, 12, rfl, S, by omega, by decide, by decide, fun z H1 z0 z1 S1 B1 => ⟨_, _, rfl, rfl, ?_⟩⟩
    refine ⟨_, rfl, _, rfl, y, 1 + z, rfl, by omega, by omega, fun H2 ss => ?_⟩
    have qs := S1.same ss
    obtain ⟨u1, u2, u3, w1, w2, w3⟩ := qs.there
    have m1 : (1 : Int) ≤ 1 + z := by omega
    have m2 : (1 : Int) + z ≤ 12 := by omega
    have zb := mlen_bd m1 m2 (leapB y)
    have s0 : Same H2 H2 := Same.refl H2
    refine ⟨by show 2 ≤ sizeLine; decide, fun a1 n1 => ?_⟩
    have s1 := s0.step (o := .tup [.int 0, .int 1]) n1
    refine ⟨by show 2 ≤ sizeLine; decide, fun a2 n2 => ?_⟩
    have s2 := s1.step (o := .tup [.int 13, .int 1]) n2
    refine ⟨_, rfl, by show 2 ≤ sizeLine; decide, fun a3 n3 => ?_⟩
    have s3 := s2.step (o := .tup [.int (1 + z), .int 0]) n3
    refine ⟨_, rfl, _, rfl, by show 2 ≤ sizeLine; decide, fun a4 n4 => ?_⟩
    have s4 := s3.step (o := .tup [.int (1 + z), .int (-1)]) n4
    refine ⟨_, rfl, _, rfl, _, _, rfl, rfl, by show 2 ≤ sizeLine; decide, fun a5 n5 => ?_⟩
    have s5 := s4.step (o := .tup [.int (1 + z), .int (mlen (1 + z) (leapB y) + 1)]) n5
    refine ⟨by show 2 ≤ sizeLine; decide, fun a6 n6 => ?_⟩
    have s6 := s5.step (o := .tup [.int 2, .int 29]) n6
    refine ⟨_, rfl, by show 2 ≤ sizeLine; decide, fun a7 n7 => ?_⟩
    have s7 := s6.step (o := .tup [.int (1 + z), .int 32]) n7
    refine ⟨by show 7 ≤ sizeLine; decide, fun q1 n8 => ?_⟩
    have s8 := s7.step (o := .lst [.ref a1, .ref a2, .ref a3, .ref a4, .ref a5, .ref a6, .ref a7]) n8
    refine ⟨_, rfl, _, rfl, ?_⟩
    refine ⟨_, rfl, _, _, rfl, rfl, by show 2 ≤ sizeLine; decide, fun a9 n9 => ?_⟩
    have s9 := s8.step (o := .tup [.int (0 - (1 + z)), .int 1]) n9
    refine ⟨_, rfl, _, _, rfl, rfl, cp, by show 2 ≤ sizeLine; decide, fun a10 n10 => ?_⟩
    have s10 := s9.step (o := .tup [.int (1 + z), .int (10 ^ (29 : Int).toNat)]) n10
    refine ⟨_, _, rfl, rfl, cp, by show 2 ≤ sizeLine; decide, fun a11 n11 => ?_⟩
    have s11 := s10.step (o := .tup [.int (10 ^ (29 : Int).toNat), .int 1]) n11
    refine ⟨by show 2 ≤ sizeLine; decide, fun a12 n12 => ?_⟩
    have s12 := s11.step (o := .tup [.int 13, .int 0]) n12
    refine ⟨by show 4 ≤ sizeLine; decide, fun q2 n13 => ?_⟩
    have s13 := s12.step (o := .lst [.ref a9, .ref a10, .ref a11, .ref a12]) n13
    have g13 := Same.new (o := .lst [.ref a9, .ref a10, .ref a11, .ref a12]) n13
    have g12 := (Same.new (o := .tup [.int 13, .int 0]) n12).trans g13
    have g11 := (Same.new (o := .tup [.int (10 ^ (29 : Int).toNat), .int 1]) n11).trans g12
    have g10 := (Same.new (o := .tup [.int (1 + z), .int (10 ^ (29 : Int).toNat)]) n10).trans g11
    have g9 := (Same.new (o := .tup [.int (0 - (1 + z)), .int 1]) n9).trans g10
    have g8 := (Same.new (o := .lst [.ref a1, .ref a2, .ref a3, .ref a4, .ref a5, .ref a6, .ref a7]) n8).trans g9
    refine ⟨q1, q2, _, _, rfl, rfl, g9 _ _ upd_same, upd_same, by show 11 ≤ sizeLine; decide, fun q3 n14 => ?_⟩
    have f14 := Same.new (o := .lst [.ref a1, .ref a2, .ref a3, .ref a4, .ref a5, .ref a6, .ref a7, .ref a9, .ref a10, .ref a11, .ref a12]) n14
    have f13 := (Same.new (o := .lst [.ref a9, .ref a10, .ref a11, .ref a12]) n13).trans f14
    have f12 := (Same.new (o := .tup [.int 13, .int 0]) n12).trans f13
    have f11 := (Same.new (o := .tup [.int (10 ^ (29 : Int).toNat), .int 1]) n11).trans f12
    have f10 := (Same.new (o := .tup [.int (1 + z), .int (10 ^ (29 : Int).toNat)]) n10).trans f11
    have f9 := (Same.new (o := .tup [.int (0 - (1 + z)), .int 1]) n9).trans f10
    have f8 := (Same.new (o := .lst [.ref a1, .ref a2, .ref a3, .ref a4, .ref a5, .ref a6, .ref a7]) n8).trans f9
    have f7 := (Same.new (o := .tup [.int (1 + z), .int 32]) n7).trans f8
    have f6 := (Same.new (o := .tup [.int 2, .int 29]) n6).trans f7
    have f5 := (Same.new (o := .tup [.int (1 + z), .int (mlen (1 + z) (leapB y) + 1)]) n5).trans f6
    have f4 := (Same.new (o := .tup [.int (1 + z), .int (-1)]) n4).trans f5
    have f3 := (Same.new (o := .tup [.int (1 + z), .int 0]) n3).trans f4
    have f2 := (Same.new (o := .tup [.int 13, .int 1]) n2).trans f3
    have f1 := (Same.new (o := .tup [.int 0, .int 1]) n1).trans f2
    have s14 := s13.step (o := .lst [.ref a1, .ref a2, .ref a3, .ref a4, .ref a5, .ref a6, .ref a7, .ref a9, .ref a10, .ref a11, .ref a12]) n14
    have e29 : (10 : Int) ^ (29 : Int).toNat = 10 ^ 29 := rfl
    have bm : (10 : Int) ^ 29 = 100000000000000000000000000000 := by decide
    have each : ∀ (i : Nat) (v : V), ([.ref a1, .ref a2, .ref a3, .ref a4, .ref a5, .ref a6, .ref a7, .ref a9, .ref a10, .ref a11, .ref a12] : List V)[i]? = some v → ∃ (t : Addr) (m d : Int), v = .ref t ∧ upd _ q3 (.lst [.ref a1, .ref a2, .ref a3, .ref a4, .ref a5, .ref a6, .ref a7, .ref a9, .ref a10, .ref a11, .ref a12]) t = some (.tup [.int m, .int d]) ∧ GapOk y m d ∧ -100 ≤ m ∧ m ≤ 10 ^ 29 ∧ -1 ≤ d ∧ d ≤ 10 ^ 29 := fun i v hv => by
      match i, hv with
      | 0, hv => cases hv; exact ⟨a1, 0, 1, rfl, f2 _ _ upd_same, .inl fun D => by have c1 := D.m1; have c2 := D.m2; have c3 := D.d1; have c4 := D.d2; omega, by omega, by omega, by omega, by omega⟩
      | 1, hv => cases hv; exact ⟨a2, 13, 1, rfl, f3 _ _ upd_same, .inl fun D => by have c1 := D.m1; have c2 := D.m2; have c3 := D.d1; have c4 := D.d2; omega, by omega, by omega, by omega, by omega⟩
      | 2, hv => cases hv; exact ⟨a3, (1 + z), 0, rfl, f4 _ _ upd_same, .inl fun D => by have c1 := D.m1; have c2 := D.m2; have c3 := D.d1; have c4 := D.d2; omega, by omega, by omega, by omega, by omega⟩
      | 3, hv => cases hv; exact ⟨a4, (1 + z), (-1), rfl, f5 _ _ upd_same, .inl fun D => by have c1 := D.m1; have c2 := D.m2; have c3 := D.d1; have c4 := D.d2; omega, by omega, by omega, by omega, by omega⟩
      | 4, hv => cases hv; exact ⟨a5, (1 + z), (mlen (1 + z) (leapB y) + 1), rfl, f6 _ _ upd_same, .inl fun D => by have c1 := D.m1; have c2 := D.m2; have c3 := D.d1; have c4 := D.d2; omega, by omega, by omega, by omega, by omega⟩
      | 5, hv => cases hv; exact ⟨a6, 2, 29, rfl, f7 _ _ upd_same, .inr ⟨rfl, rfl⟩, by omega, by omega, by omega, by omega⟩
      | 6, hv => cases hv; exact ⟨a7, (1 + z), 32, rfl, f8 _ _ upd_same, .inl fun D => by have c1 := D.m1; have c2 := D.m2; have c3 := D.d1; have c4 := D.d2; omega, by omega, by omega, by omega, by omega⟩
      | 7, hv => cases hv; exact ⟨a9, (0 - (1 + z)), 1, rfl, f10 _ _ upd_same, .inl fun D => by have c1 := D.m1; have c2 := D.m2; have c3 := D.d1; have c4 := D.d2; omega, by omega, by omega, by omega, by omega⟩
      | 8, hv => cases hv; exact ⟨a10, (1 + z), (10 ^ (29 : Int).toNat), rfl, f11 _ _ upd_same, .inl fun D => by have c1 := D.m1; have c2 := D.m2; have c3 := D.d1; have c4 := D.d2; omega, by omega, by omega, by omega, by omega⟩
      | 9, hv => cases hv; exact ⟨a11, (10 ^ (29 : Int).toNat), 1, rfl, f12 _ _ upd_same, .inl fun D => by have c1 := D.m1; have c2 := D.m2; have c3 := D.d1; have c4 := D.d2; omega, by omega, by omega, by omega, by omega⟩
      | 10, hv => cases hv; exact ⟨a12, 13, 0, rfl, f13 _ _ upd_same, .inl fun D => by have c1 := D.m1; have c2 := D.m2; have c3 := D.d1; have c4 := D.d2; omega, by omega, by omega, by omega, by omega⟩
      | i + 11, hv => simp at hv
    refine ⟨p, a, b, q3, n + 1, _, rfl, qs.same s14, by omega, upd_same, (ne_of_none (s13 _ _ w1) n14).symm, (ne_of_none (s13 _ _ w2) n14).symm, by show 0 < 11; decide, by show 11 ≤ 1000; decide, fun i v H4 hv S4 B4 => ?_⟩
    obtain ⟨t, m, d, rfl, ht, ok, b1, b2, b3, b4⟩ := each i v hv
    have tp : t ≠ p := ne_of ht (s14 _ _ w1) (by intro z; cases z)
    have ta : t ≠ a := ne_of ht (s14 _ _ w2) (by intro z; cases z)
    have b14 : But p a H2 H4 := fun c o e c1 c2 => B4 c o (s14 c o e) c1 c2
    exact k t m d H4 (B4 _ _ ht tp ta) ok b1 b2 b3 b4 S4 (B1.trans ((But.of ss).trans b14))
end
end Cf
namespace Cf
open PySem L2
section
variable {P : Program} {w : World} {K : PySem.W.Frag} {mg : Str → Option Value} {base : Heap}
/-! ### _law_odd -/
/-- a value that can be shown, of a few signs -/
def Itm (K : PySem.W.Frag) (H : Hp) (v : V) (d : PyData) : Prop := Dz K H v d ∧ d.showable = true ∧ d.depth ≤ 50 ∧ d.shown.length ≤ 2000 ∧ PyData.strOk d.shown = true ∧ nonum d = true
theorem Itm.keep {K : PySem.W.Frag} {H H' : Hp} {v : V} {d : PyData} (i : Itm K H v d) (s : Same H H') : Itm K H' v d := ⟨i.1.keep s, i.2⟩
theorem itm_at {K : PySem.W.Frag} {H : Hp} : ∀ {xs : List V} {ds : List PyData}, Paired (Itm K H) xs ds → ∀ (i : Nat) (v : V), xs[i]? = some v → ∃ d, Itm K H v d
  | _, _, .nil, i, v, h => by simp at h
  | _, _, .cons a _, 0, v, h => by
    rw [List.getElem?_cons_zero] at h
    cases h
    exact ⟨_, a⟩
  | _, _, .cons _ t, i + 1, v, h => by
    rw [List.getElem?_cons_succ] at h
    exact itm_at t i v h
/-- what H' has beyond H -/
def fr (H H' : Hp) : Hp := fun b => match H b with
  | none => H' b
  | some _ => none
theorem fr_of {H H' : Hp} {b : Addr} {o : HO} (h : H b = none) (e : H' b = some o) : fr H H' b = some o := by
  unfold fr
  rw [h]
  exact e
theorem fr_at {H H' : Hp} {b : Addr} {o : HO} (e : fr H H' b = some o) : H b = none ∧ H' b = some o := by
  unfold fr at e
  cases h : H b with
  | none => rw [h] at e; exact ⟨rfl, e⟩
  | some u => rw [h] at e; cases e
theorem fr_same (H H' : Hp) : Same (fr H H') H' := fun b o e => (fr_at e).2
theorem fr_step {H H' H'' : Hp} (s : ∀ b o, H' b = some o → H b = none → H'' b = some o) : Same (fr H H') (fr H H'') := fun b o e => fr_of (fr_at e).1 (s b o (fr_at e).2 (fr_at e).1)
theorem fr_less {H0 H H' : Hp} (d : ∀ b, H0 b ≠ none → H b ≠ none) : Same (fr H H') (fr H0 H') := fun b o e => by
  obtain ⟨h1, h2⟩ := fr_at e
  refine fr_of ?_ h2
  cases q : H0 b with
  | none => rfl
  | some u => exact absurd h1 (d b (by rw [q]; exact fun z => nomatch z))
theorem fr_but {p q : Addr} {H H' H'' : Hp} (b : But p q H' H'') (hp : H p ≠ none) (hq : H q ≠ none) : Same (fr H H') (fr H H'') :=
  fr_step fun c o e n => b c o e (fun z => hp (z ▸ n)) fun z => hq (z ▸ n)
def spOdd (K : PySem.W.Frag) : Sp := fun vs H Q _ => ∃ (p a b : Addr) (n : Nat), vs = [.ref p] ∧ Stt p a b n H ∧ n ≤ 1000000 ∧
  ∀ (v : V) (d : PyData) (H' : Hp), Itm K (fr H H') v d → Stt p a b (n + 1) H' → But p a H H' → Q v H'
theorem scLawOdd : FnScope ["state", "odd"] ["state"] (defScope sLawOdd) := ⟨rfl, rfl, rfl, by decide +kernel, rfl, by decide +kernel, by decide +kernel⟩
theorem ok_odd {f : Addr} {fd : FuncData} (F : Fun K "_law_odd" "_law_odd" sLawOdd f fd) (T : Nm mg) (DP : Df P w K mg base 3 "_law_pick" ["state", "some"] [] spPick) : FnOk P w K mg base CX0 4 f fd ["state"] (spOdd K) := by
  refine F.ok scLawOdd (fun vs H Q E h => ?_) (fun cdv A outer s H vs Q E hr h => ?_)
  · obtain ⟨p, a, b, n, rfl, _⟩ := h
    rfl
  · obtain ⟨p, a, b, n, rfl, S, hn, k⟩ := h
    have nd := scLawOdd.nd
    refine ⟨_, pss_cons (ps_set (i := 1) nd rfl (Or.inl rfl) (pe_lst (pa_cons pe_non (pa_cons pe_bl (pa_cons pe_bl (pa_cons pe_str (pa_cons pe_str (pa_cons pe_str (pa_cons (pe_lst pa_nil) (pa_cons (pe_lst (pa_cons pe_int pa_nil)) (pa_cons (pe_tup pa_nil) (pa_cons (pe_tup (pa_cons pe_int (pa_cons pe_int pa_nil))) (pa_cons pe_dnewK (pa_cons (pe_disp (pps_cons pe_int pe_int pps_nil) (by rfl) (by rfl) (fun z => by cases z) (by decide)) (pa_cons (pe_lst (pa_cons (pe_lst (pa_cons (pe_tup pa_nil) pa_nil)) pa_nil)) (pa_cons (pe_tup (pa_cons pe_str (pa_cons pe_int (pa_cons pe_int (pa_cons pe_int pa_nil))))) pa_nil)))))))))))))))) (pss_one (ps_ret (pe_df DP hr (pa_cons (pv 0) (pa_cons (pv 1) pa_nil))))), ?_⟩
    obtain ⟨u1, u2, u3, w1, w2, w3⟩ := S.there
    have s0 : Same H H := Same.refl H
    refine ⟨by show 0 ≤ sizeLine; decide, fun a1 n1 => ?_⟩
    have p1 : a1 ≠ p := (ne_of_none (s0 _ _ w1) n1).symm
    have r1 : a1 ≠ a := (ne_of_none (s0 _ _ w2) n1).symm
    have s1 := s0.step (o := .lst []) n1
    refine ⟨by show 1 ≤ sizeLine; decide, fun a2 n2 => ?_⟩
    have p2 : a2 ≠ p := (ne_of_none (s1 _ _ w1) n2).symm
    have r2 : a2 ≠ a := (ne_of_none (s1 _ _ w2) n2).symm
    have s2 := s1.step (o := .lst [.int 1]) n2
    refine ⟨by show 0 ≤ sizeLine; decide, fun a3 n3 => ?_⟩
    have p3 : a3 ≠ p := (ne_of_none (s2 _ _ w1) n3).symm
    have r3 : a3 ≠ a := (ne_of_none (s2 _ _ w2) n3).symm
    have s3 := s2.step (o := .tup []) n3
    refine ⟨by show 2 ≤ sizeLine; decide, fun a4 n4 => ?_⟩
    have p4 : a4 ≠ p := (ne_of_none (s3 _ _ w1) n4).symm
    have r4 : a4 ≠ a := (ne_of_none (s3 _ _ w2) n4).symm
    have s4 := s3.step (o := .tup [.int 1, .int 2]) n4
    refine fun a5 n5 => ?_
    have p5 : a5 ≠ p := (ne_of_none (s4 _ _ w1) n5).symm
    have r5 : a5 ≠ a := (ne_of_none (s4 _ _ w2) n5).symm
    have s5 := s4.step (o := .dK []) n5
    refine fun a6 n6 => ?_
    have p6 : a6 ≠ p := (ne_of_none (s5 _ _ w1) n6).symm
    have r6 : a6 ≠ a := (ne_of_none (s5 _ _ w2) n6).symm
    refine ⟨upd_same, [(Sum.inl 1, .int 2)], rfl, by decide, ?_⟩
    have s6 := (s5.step (o := .dK []) n6).wr (o := .dK [(Sum.inl 1, .int 2)]) (s5.free n6)
    refine ⟨by show 0 ≤ sizeLine; decide, fun a7 n7 => ?_⟩
    have p7 : a7 ≠ p := (ne_of_none (s6 _ _ w1) n7).symm
    have r7 : a7 ≠ a := (ne_of_none (s6 _ _ w2) n7).symm
    have s7 := s6.step (o := .tup []) n7
    refine ⟨by show 1 ≤ sizeLine; decide, fun a8 n8 => ?_⟩
    have p8 : a8 ≠ p := (ne_of_none (s7 _ _ w1) n8).symm
    have r8 : a8 ≠ a := (ne_of_none (s7 _ _ w2) n8).symm
    have s8 := s7.step (o := .lst [.ref a7]) n8
    refine ⟨by show 1 ≤ sizeLine; decide, fun a9 n9 => ?_⟩
    have p9 : a9 ≠ p := (ne_of_none (s8 _ _ w1) n9).symm
    have r9 : a9 ≠ a := (ne_of_none (s8 _ _ w2) n9).symm
    have s9 := s8.step (o := .lst [.ref a8]) n9
    refine ⟨by show 4 ≤ sizeLine; decide, fun a10 n10 => ?_⟩
    have p10 : a10 ≠ p := (ne_of_none (s9 _ _ w1) n10).symm
    have r10 : a10 ≠ a := (ne_of_none (s9 _ _ w2) n10).symm
    have s10 := s9.step (o := .tup [.str "nth", .int 1, .int 1, .int 1]) n10
    refine ⟨by show 14 ≤ sizeLine; decide, fun q nq => ?_⟩
    have pq : q ≠ p := (ne_of_none (s10 _ _ w1) nq).symm
    have rq : q ≠ a := (ne_of_none (s10 _ _ w2) nq).symm
    have s11 := s10.step (o := .lst [.non, .bl true, .bl false, .str "", .str "1", .str "a", .ref a1, .ref a2, .ref a3, .ref a4, .ref a5, .ref a6, .ref a9, .ref a10]) nq
    have t10 := Same.new (o := .lst [.non, .bl true, .bl false, .str "", .str "1", .str "a", .ref a1, .ref a2, .ref a3, .ref a4, .ref a5, .ref a6, .ref a9, .ref a10]) nq
    have t9 := (Same.new n10).trans t10
    have t8 := (Same.new n9).trans t9
    have t7 := (Same.new n8).trans t8
    have t6 := (Same.new n7).trans t7
    have t5 := ((Same.new (o := .dK []) n6).wr (o := .dK [(Sum.inl 1, .int 2)]) n6).trans t6
    have t4 := (Same.new n5).trans t5
    have t3 := (Same.new n4).trans t4
    have t2 := (Same.new n3).trans t3
    have t1 := (Same.new n2).trans t2
    have y1 := fr_of (s0.free n1) (t1 _ _ upd_same)
    have y2 := fr_of (s1.free n2) (t2 _ _ upd_same)
    have y3 := fr_of (s2.free n3) (t3 _ _ upd_same)
    have y4 := fr_of (s3.free n4) (t4 _ _ upd_same)
    have y5 := fr_of (s4.free n5) (t5 _ _ upd_same)
    have y6 := fr_of (s5.free n6) (t6 _ _ upd_same)
    have y7 := fr_of (s6.free n7) (t7 _ _ upd_same)
    have y8 := fr_of (s7.free n8) (t8 _ _ upd_same)
    have y9 := fr_of (s8.free n9) (t9 _ _ upd_same)
    have y10 := fr_of (s9.free n10) (t10 _ _ upd_same)
    have all : Paired (Itm K (fr H _)) [.non, .bl true, .bl false, .str "", .str "1", .str "a", .ref a1, .ref a2, .ref a3, .ref a4, .ref a5, .ref a6, .ref a9, .ref a10] [.none, .bool true, .bool false, .str "", .str "1", .str "a", .list [], .list [.int 1], .tuple [], .tuple [.int 1, .int 2], .dict [], .dict [(.int 1, .int 2)], .list [.list [.tuple []]], .tuple [.str "nth", .int 1, .int 1, .int 1]] :=
      .cons ⟨.flat (.non) rfl, by decide +kernel, by decide +kernel, by decide +kernel, by decide +kernel, rfl⟩ (.cons ⟨.flat (.bl true) rfl, by decide +kernel, by decide +kernel, by decide +kernel, by decide +kernel, rfl⟩ (.cons ⟨.flat (.bl false) rfl, by decide +kernel, by decide +kernel, by decide +kernel, by decide +kernel, rfl⟩ (.cons ⟨.flat (.str _) rfl, by decide +kernel, by decide +kernel, by decide +kernel, by decide +kernel, rfl⟩ (.cons ⟨.flat (.str _) rfl, by decide +kernel, by decide +kernel, by decide +kernel, by decide +kernel, rfl⟩ (.cons ⟨.flat (.str _) rfl, by decide +kernel, by decide +kernel, by decide +kernel, by decide +kernel, rfl⟩ (.cons ⟨.flat (.lst (SqL.of y1) .nil) rfl, by decide +kernel, by decide +kernel, by decide +kernel, by decide +kernel, rfl⟩ (.cons ⟨.flat (.lst (SqL.of y2) (.cons (.int 1) .nil)) rfl, by decide +kernel, by decide +kernel, by decide +kernel, by decide +kernel, rfl⟩ (.cons ⟨.flat (.tup (SqT.of y3) .nil) rfl, by decide +kernel, by decide +kernel, by decide +kernel, by decide +kernel, rfl⟩ (.cons ⟨.flat (.tup (SqT.of y4) (.cons (.int 1) (.cons (.int 2) .nil))) rfl, by decide +kernel, by decide +kernel, by decide +kernel, by decide +kernel, rfl⟩ (.cons ⟨.nums [] y5, by decide +kernel, by decide +kernel, by decide +kernel, by decide +kernel, rfl⟩ (.cons ⟨.nums [(1, 2)] y6, by decide +kernel, by decide +kernel, by decide +kernel, by decide +kernel, rfl⟩ (.cons ⟨.flat (.lst (SqL.of y9) (.cons (.lst (SqL.of y8) (.cons (.tup (SqT.of y7) .nil) .nil)) .nil)) rfl, by decide +kernel, by decide +kernel, by decide +kernel, by decide +kernel, rfl⟩ (.cons ⟨.flat (.tup (SqT.of y10) (.cons (.str _) (.cons (.int 1) (.cons (.int 1) (.cons (.int 1) .nil))))) rfl, by decide +kernel, by decide +kernel, by decide +kernel, by decide +kernel, rfl⟩ (.nil))))))))))))))
    refine ⟨_, rfl, _, rfl, p, a, b, q, n, _, rfl, S.same s11, hn, upd_same, pq, rq, by show 0 < 14; decide, by show 14 ≤ 1000; decide, fun i v H' hv S' B' => ?_⟩
    obtain ⟨d, z⟩ := itm_at all i v hv
    exact k v d H' (z.keep (fr_but B' (by rw [w1]; exact fun z => nomatch z) (by rw [w2]; exact fun z => nomatch z))) S' ((But.of s11).trans B')
end
end Cf
/-! Texts of numbers are made of code points. -/
namespace Cf
open PySem PySem.Spec PyProof.Rows L2
theorem ok_of (s : String) : PyData.strOk (Str.ofString s) = true := by
  rw [Str.ofString_eq_toList]
  unfold PyData.strOk
  rw [Array.all_eq_true']
  intro n hn
  have hn' : n ∈ s.toList.map Char.toNat := by simpa using hn
  obtain ⟨ch, _, rfl⟩ := List.mem_map.mp hn'
  refine decide_eq_true ?_
  have v := ch.valid
  rcases v with v | v
  · have : ch.toNat < 55296 := v
    omega
  · have : ch.toNat < 1114112 := v.2
    omega
theorem ok_app {a b : Str} (h : PyData.strOk a = true) (g : PyData.strOk b = true) : PyData.strOk (a ++ b) = true := by
  unfold PyData.strOk at *
  show ((a.cps ++ b.cps).all _) = true
  rw [Array.all_append, h, g]
  rfl
theorem ok_tup3 {a b c : Str} (h1 : PyData.strOk a = true) (h2 : PyData.strOk b = true) (h3 : PyData.strOk c = true) : PyData.strOk (tupleText [a, b, c]) = true := by
  unfold tupleText
  refine ok_app (ok_app (ok_of _) ?_) (ok_of _)
  show PyData.strOk (a ++ Str.ofString ", " ++ (b ++ Str.ofString ", " ++ c)) = true
  exact ok_app (ok_app h1 (ok_of _)) (ok_app (ok_app h2 (ok_of _)) h3)
theorem ok_int (z : Int) : PyData.strOk (PyData.shown (.int z)) = true := by
  show PyData.strOk (Str.ofString (toString z)) = true
  exact ok_of _
theorem ok_ints3 (a b c : Int) : PyData.strOk (PyData.shown (.tuple [.int a, .int b, .int c])) = true := by
  show PyData.strOk (tupleText [PyData.shown (.int a), PyData.shown (.int b), PyData.shown (.int c)]) = true
  exact ok_tup3 (ok_int a) (ok_int b) (ok_int c)
end Cf
namespace Cf
open PySem L2
section
variable {P : Program} {w : World} {K : PySem.W.Frag} {mg : Str → Option Value} {base : Heap}
/-! ### texts of numbers and of their tuples -/
def Big (i : Int) : Prop := -10000000000000000000000000000000000000000 ≤ i ∧ i ≤ 10000000000000000000000000000000000000000
theorem log_ok {i : Int} (h : Big i) : i.natAbs.log2 < 1920 := by
  by_cases z : i.natAbs = 0
  · rw [z]; decide
  · refine (Nat.log2_lt z).mpr (Nat.lt_of_le_of_lt (show i.natAbs ≤ 10000000000000000000000000000000000000000 by have := h.1; have := h.2; omega) (by decide +kernel))
theorem len_i {i : Int} (h : Big i) : (PyData.shown (.int i)).length ≤ 1921 := by
  show (Str.ofString (toString i)).length ≤ 1921
  rw [ofString_length]
  exact int_text_length_le (by decide) (log_ok h)
theorem show_i {i : Int} (h : Big i) : PyData.showable (.int i) = true := by
  unfold PyData.showable
  exact decide_eq_true (log_ok h)
theorem line_ge : 1000000 ≤ sizeLine := by rw [sizeLine_eq]; decide
def pd3 (a b c : Int) : PyData := .tuple [.int a, .int b, .int c]
theorem pd3_sh {a b c : Int} (ha : Big a) (hb : Big b) (hc : Big c) : (pd3 a b c).showable = true := by
  have h1 := show_i ha
  have h2 := show_i hb
  have h3 := show_i hc
  simp only [pd3, PyData.showable, PyData.showableAll, Bool.and_eq_true] at *
  exact ⟨h1, h2, h3, trivial⟩
theorem pd3_len {a b c : Int} (ha : Big a) (hb : Big b) (hc : Big c) : (pd3 a b c).shown.length ≤ sizeLine := by
  have h1 := len_i ha
  have h2 := len_i hb
  have h3 := len_i hc
  refine Nat.le_trans ?_ line_ge
  have h4 := tupleText_len_le (PyData.shownAll [.int a, .int b, .int c])
  simp only [pd3, PyData.shown, PyData.shownAll, List.map_cons, List.map_nil, List.sum_cons, List.sum_nil, List.length_cons, List.length_nil] at *
  omega
theorem pd3_dict (a b c : Int) : (pd3 a b c).hasDict = false := rfl
theorem pd3_depth (a b c : Int) : (pd3 a b c).depth ≤ 60 := by
  simp only [pd3, PyData.depth, PyData.depthAll]
  decide
theorem dp3 {H : Hp} {p : Addr} {a b c : Int} (h : H p = some (.tup [.int a, .int b, .int c])) : Dp K H (.ref p) (pd3 a b c) := .tup (SqT.of h) (.cons (.int a) (.cons (.int b) (.cons (.int c) .nil)))
theorem ne_same {x : V} : (!decide (x = x)) = false := by rw [decide_eq_true rfl]; rfl
/-- equal data, told by == and != -/
theorem eqv3 (a b c : Int) : PyData.eqv (pd3 a b c) (pd3 a b c) = true := by simp [pd3, PyData.eqv, PyData.eqvAll]
theorem shaped3 (a b c : Int) : SeqAt.shaped (pd3 a b c) = true := by
  unfold SeqAt.shaped
  rw [Bool.and_eq_true]
  exact ⟨rfl, decide_eq_true (by have := pd3_depth a b c; omega)⟩
end
end Cf
namespace Cf
open PySem L2
section
open LamX
variable {P : Program} {w : World} {K : PySem.W.Frag} {mg : Str → Option Value} {base : Heap} {cE c0 c1 c2 c3 c4 c5 c6 c7 c8 c9 c10 c11 : Addr}
/-! ### _law_date_right -/
def rev3d : List V → List V := fun l => [l.getD 1 .non, l.getD 2 .non, l.getD 0 .non]
theorem stt_ext {p a b : Addr} {n : Nat} {H H' : Hp} (S : Stt p a b n H) (e : ExtN H H') : Stt p a b n H' := by
  obtain ⟨⟨ws, cs, rest, turn, h1, h2, h3, h4⟩, h8⟩ := S
  exact ⟨⟨ws, cs, rest, turn, e _ _ h1 (fun ps z => by cases z), e _ _ h2 (fun ps z => by cases z), e _ _ h3 (fun ps z => by cases z), h4⟩, h8⟩
theorem stt_put {p a b D : Addr} {n : Nat} {H : Hp} {o : HO} (S : Stt p a b n H) (h1 : D ≠ p) (h2 : D ≠ a) (h3 : D ≠ b) : Stt p a b n (upd H D o) := by
  obtain ⟨⟨ws, cs, rest, turn, g1, g2, g3, g4⟩, g5⟩ := S
  exact ⟨⟨ws, cs, rest, turn, by rw [upd_ne h1.symm]; exact g1, by rw [upd_ne h2.symm]; exact g2, by rw [upd_ne h3.symm]; exact g3, g4⟩, g5⟩
/-- a value that is an odd item of the heap beyond HL -/
def OddI (K : PySem.W.Frag) (HL H : Hp) (w : V) : Prop := ∃ e, Itm K (fr HL H) w e
def isI : V → Bool
  | .int _ => true
  | _ => false
theorem OddI.no {HL H : Hp} {w : V} (o : OddI K HL H w) : isI w = false := by
  obtain ⟨e, z, _, _, _, _, n⟩ := o
  cases z with
  | flat h _ => cases h <;> first | rfl | (simp [nonum] at n)
  | nums is h => rfl
theorem OddI.keep {HL H H' : Hp} {w : V} (o : OddI K HL H w) (s : Same (fr HL H) (fr HL H')) : OddI K HL H' w := by
  obtain ⟨e, i⟩ := o
  exact ⟨e, i.keep s⟩
/-- an argument: a number or such a value -/
def ElI (K : PySem.W.Frag) (HL H : Hp) (w : V) : Prop := (∃ i : Int, w = .int i) ∨ OddI K HL H w
theorem ElI.keep {HL H H' : Hp} {w : V} (o : ElI K HL H w) (s : Same (fr HL H) (fr HL H')) : ElI K HL H' w := by
  rcases o with o | o
  · exact .inl o
  · exact .inr (o.keep s)
theorem shaped_two {a : Str} {t : Str} (h1 : PyData.strOk a = true) (h2 : PyData.strOk t = true) : SeqAt.shaped (.tuple [.str a, .str t]) = true := by
  unfold SeqAt.shaped
  rw [Bool.and_eq_true]
  refine ⟨?_, decide_eq_true (by simp [PyData.depth, PyData.depthAll])⟩
  simp [PyData.canLay0, PyData.canLayAll0, h1, h2]
theorem eqv_two {a t : Str} : PyData.eqv (.tuple [.str a, .str t]) (.tuple [.str a, .str t]) = true := by simp [PyData.eqv, PyData.eqvAll]
theorem dp_two {H : Hp} {p : Addr} {a t : Str} (h : H p = some (.tup [.str a, .str t])) : Dp K H (.ref p) (.tuple [.str a, .str t]) := .tup (SqT.of h) (.cons (.str a) (.cons (.str t) .nil))
theorem filter_one (w : V) : List.filter (fun w => !isI w) (some w).toList = if isI w then [] else [w] := by cases h : isI w <;> simp [h]
theorem few_filter (j : Nat) (x1 x2 x3 : V) : (([x1, x2, x3].take j).filter fun w => !isI w).length < sizeLine := by
  have h1 := List.length_filter_le (fun w => !isI w) ([x1, x2, x3].take j)
  have h2 := List.length_take_le' j [x1, x2, x3]
  have h3 : ([x1, x2, x3] : List V).length = 3 := rfl
  exact small1000 (by omega)
theorem sql_ntb {H : Hp} {a : Addr} {xs : List V} (h : SqL K H a xs) : SqL K (ntb H) a xs := by
  rcases h with (h | ⟨o, h⟩) | h
  · exact .inl (.inl (ntb_of h (fun ps z => by cases z)))
  · exact .inl (.inr ⟨o, ntb_of h (fun ps z => by cases z)⟩)
  · exact .inr h
theorem sqt_ntb {H : Hp} {a : Addr} {xs : List V} (h : SqT K H a xs) : SqT K (ntb H) a xs := by
  rcases h with (h | ⟨o, h⟩) | h
  · exact .inl (.inl (ntb_of h (fun ps z => by cases z)))
  · exact .inl (.inr ⟨o, ntb_of h (fun ps z => by cases z)⟩)
  · exact .inr h
mutual
theorem dp_ntb {H : Hp} : ∀ (d : PyData) (v : V), Dp K H v d → Dp K (ntb H) v d
  | .none, _, h => by cases h; exact .non
  | .bool _, _, h => by cases h; exact .bl _
  | .int _, _, h => by cases h; exact .int _
  | .str _, _, h => by cases h; exact .str _
  | .list ds, _, h => by cases h with | lst a b => exact .lst (sql_ntb a) (dpa_ntb ds _ b)
  | .tuple ds, _, h => by cases h with | tup a b => exact .tup (sqt_ntb a) (dpa_ntb ds _ b)
  | .dict _, _, h => by cases h
theorem dpa_ntb {H : Hp} : ∀ (ds : List PyData) (vs : List V), DpAll K H vs ds → DpAll K (ntb H) vs ds
  | [], _, h => by cases h; exact .nil
  | d :: ds, _, h => by cases h with | cons a b => exact .cons (dp_ntb d _ a) (dpa_ntb ds _ b)
end
theorem dz_ntb {H : Hp} {v : V} {d : PyData} (h : Dz K H v d) : Dz K (ntb H) v d := by
  cases h with
  | flat h n => exact .flat (dp_ntb d v h) n
  | nums is h => exact .nums is (ntb_of h (fun ps z => by cases z))
theorem flt1 {x1 x2 x3 : V} (h1 : isI x1 = false) : ∃ tl, ([x1, x2, x3].filter fun w => !isI w) = x1 :: tl := ⟨_, List.filter_cons_of_pos (by simp [h1])⟩
theorem flt2 {x1 x2 x3 : V} (h1 : isI x1 = true) (h2 : isI x2 = false) : ∃ tl, ([x1, x2, x3].filter fun w => !isI w) = x2 :: tl := ⟨_, by rw [List.filter_cons_of_neg (by simp [h1]), List.filter_cons_of_pos (by simp [h2])]⟩
theorem flt3 {x1 x2 x3 : V} (h1 : isI x1 = true) (h2 : isI x2 = true) (h3 : isI x3 = false) : ∃ tl, ([x1, x2, x3].filter fun w => !isI w) = x3 :: tl := ⟨_, by rw [List.filter_cons_of_neg (by simp [h1]), List.filter_cons_of_neg (by simp [h2]), List.filter_cons_of_pos (by simp [h3])]⟩
theorem at_zero {x : V} {tl : List V} : atI (x :: tl) 0 = some x := at_of (j := 0) (by rfl) (by rfl)
theorem ok_date : PyData.strOk (Str.ofString "date") = true := by decide +kernel
theorem ok_number : PyData.strOk (Str.ofString "number") = true := by decide +kernel
theorem scDr : FnScope ["state", "one_year", "one_month", "one_day", "due", "some", "odd", "turn", "wrong", "thing"] ["state", "one_year"] (defScope sLawDateRight) := ⟨rfl, rfl, rfl, by decide +kernel, rfl, by decide +kernel, by decide +kernel⟩
def spDr (K : PySem.W.Frag) (T0 : List (Addr × Str)) : Sp := fun vs H Q _ => ∃ (p a b : Addr) (n : Nat) (y : Int), vs = [.ref p, .int y] ∧ Stt p a b n H ∧ n ≤ 800000 ∧ -(10 ^ 28) ≤ y ∧ y ≤ 10 ^ 28 ∧ Tabs T0 H ∧
  ∀ H' : Hp, Stt p a b (n + 20) H' → Tabs T0 H' → Q (.bl true) H'
set_option maxHeartbeats 8000000 in
theorem ok_dr {T0 : List (Addr × Str)} {c Pt f : Addr} {oc dV kV doc pm ct : Value} {an od : Option Addr} {osl : Array (Option Value)} (Z : Rz K mg cE c0 c1 c2 c3 c4 c5 c6 c7 c8 c9 c10 c11)
    (there : K.lookup f = some ⟨oc, od, .func (PySem.W.fnOf "_law_date_right" "_law_date_right" (defArgs sLawDateRight) (defBody sLawDateRight) (defScope sLawDateRight) dV kV doc pm an (.ref c) ct), osl⟩) (code : PySem.W.codeIn K (.ref c) "_law_date_right" = true)
    (TB : TabB base mg c Pt) {lq : Str} (hlq : ("_law_date_right.<locals>." : Str) ++ "<lambda>" = lq) (inT : (Pt, lq) ∈ T0) (one : ∀ p ∈ T0, p.1 = Pt → p.2 = lq)
    (DG : Df P w K mg base 4 "_law_gap" ["state", "one_year"] [] spGap) (DL : Df P w K mg base 1 "_law_is_long" ["one_year"] [] spLong) (DO : Df P w K mg base 4 "_law_odd" ["state"] [] (spOdd K)) (DT : Df P w K mg base 2 "_law_take" ["state", "size"] [] spTake)
    (DD : Dx P w K mg base 5 "day_of" ["year", "month", "day"] [] (spDayX K c0 c1)) (KD : Dkx P w K mg base 5 "day_of" ["year", "month", "day"] ["day", "year", "month"] rev3d (spDayX K c0 c1)) :
    FnG P w K mg base CX0 8 f (PySem.W.fnOf "_law_date_right" "_law_date_right" (defArgs sLawDateRight) (defBody sLawDateRight) (defScope sLawDateRight) dV kV doc pm an (.ref c) ct) ["state", "one_year"] (spDr K T0) := by
  refine fn_g there code scDr (fun vs H Q E h => ?_) (fun A gd outer s H vs Q E hr h => ?_)
  · obtain ⟨p, a, b, n, y, rfl, _⟩ := h
    rfl
  · obtain ⟨p, a, b, n, y, rfl, S, hn, y1, y2, tb, k⟩ := h
    have nd := scDr.nd
    have hu := hr.units
    have hr1 : Room 1 _ := hr.mono (by decide)
    have hr2 : Room 2 _ := hr.mono (by decide)
    have hr4 : Room 4 _ := hr.mono (by decide)
    have pT : bootBuiltins "repr" = some (.builtin "repr") := by decide +kernel
    have pI : bootBuiltins "isinstance" = some (.builtin "isinstance") := by decide +kernel
    suffices all : ∃ t, PSs (cxOf CX0 P w K mg base ["state", "one_year", "one_month", "one_day", "due", "some", "odd", "turn", "wrong", "thing"] "_law_date_right" (defScope sLawDateRight) f (.ref c) A outer s H E).nox (defBody sLawDateRight) t ∧ t { nx := fun _ H' => Q .non H', rt := Q } (L2.start ["state", "one_year", "one_month", "one_day", "due", "some", "odd", "turn", "wrong", "thing"] [.ref p, .int y]) H from
      let ⟨t, h1, h2⟩ := all
      ⟨t, h1.nox, h2⟩
    refine ⟨_, pss_cons (ps_asg (pe_df DG hr4 (pa_cons (pv 0) (pa_cons (pv 1) pa_nil))) (pg_tup (by rfl) (pgs_cons (pg_name (i := 2) nd rfl (Or.inr rfl)) (pgs_cons (pg_name (i := 3) nd rfl (Or.inr rfl)) pgs_nil))))
      (pss_cons (ps_set (i := 4) nd rfl (Or.inl rfl) (pe_tup (pa_cons pe_str (pa_cons (pe_callB (call_reprI gd hu) (by rfl) Z.T.repr pT (pa_cons (pe_tup (pa_cons (pv 1) (pa_cons (pv 2) (pa_cons (pv 3) pa_nil)))) pa_nil)) pa_nil))))
      (pss_cons (ps_if (PW.pt (pw_and (pt_cmpR op_eq (pv 2) pe_int (nomark _)) (pw_and (pt_cmpR op_eq (pv 3) pe_int (nomark _)) (pw_and1 (pt_val (pe_df DL hr1 (pa_cons (pv 1) pa_nil))))))) (pss_one (ps_set (i := 4) nd rfl (Or.inl rfl) pe_non)) pss_nil)
      (pss_cons (ps_if (pt_cmpR (op_neD hu) (pe_rz Z gd TB inT one hr (fun A outer s H E f c' r2 => (pe_dx DD r2 (L2.takes_of rfl rfl rfl rfl) (pa_cons (pv 1) (pa_cons (pv 2) (pa_cons (pv 3) pa_nil))))) (lamS_by (sc := defScope sLawDateRight) (by decide +kernel)) hlq) (pv 4) (nomark _)) (pss_one (ps_ret pe_bl)) pss_nil)
      (pss_cons (ps_if (pt_cmpR (op_neD hu) (pe_rz Z gd TB inT one hr (fun A outer s H E f c' r2 => (pe_dkx KD r2 (L2.takes_of rfl rfl rfl rfl) (pk_cons (pv 3) (pk_cons (pv 1) (pk_cons (pv 2) pk_nil))))) (lamS_by (sc := defScope sLawDateRight) (by decide +kernel)) hlq) (pv 4) (nomark _)) (pss_one (ps_ret pe_bl)) pss_nil)
      (pss_cons (ps_asg (pe_tup (pa_cons (pe_lst (pa_cons (pv 1) (pa_cons (pv 2) (pa_cons (pv 3) pa_nil)))) (pa_cons (pe_df DO hr4 (pa_cons (pv 0) pa_nil)) pa_nil))) (pg_tup (by rfl) (pgs_cons (pg_name (i := 5) nd rfl (Or.inr rfl)) (pgs_cons (pg_name (i := 6) nd rfl (Or.inl rfl)) pgs_nil))))
      (pss_cons (ps_for PassesOwn.never rfl (pi_range1 rfl Z.T.range (pa_cons (pe_op op_add pe_int (pe_df DT hr2 (pa_cons (pv 0) (pa_cons pe_int pa_nil)))) pa_nil)) (pg_name (i := 7) nd rfl (Or.inl rfl))
        (pss_cons (ps_asg (pv 6) (pg_sub (pv 5) (pe_df DT hr2 (pa_cons (pv 0) (pa_cons pe_int pa_nil))) set_list))
        (pss_one (ps_set (i := 6) nd rfl (Or.inl rfl) (pe_df DO hr4 (pa_cons (pv 0) pa_nil))))))
      (pss_cons (ps_setLc (i := 8) (own := [("thing", 9)]) (g := gName 9) rfl nd rfl rfl (sw_true rfl rfl rfl (by decide +kernel)) (pi_list (pv 5))
        (blkOk_by (N := ["state", "one_year", "one_month", "one_day", "due", "some", "odd", "turn", "wrong", "thing"]) (sc := defScope sLawDateRight) (by decide +kernel)) (fun _ _ _ _ _ => pg_name (i := 9) nd rfl (Or.inl rfl))
        (fun _ _ _ _ _ => pts_one (PW.pt (pw_or (pt_not (pt_val (pe_callB (show CallR _ (.builtin "isinstance") (rIsi K) from call_isi) (by rfl) Z.T.isinstance pI (pa_cons (pv 9) (pa_cons (pe_bltn (v := .ty "int") (by rfl) Z.T.int (by decide +kernel) rfl) pa_nil))))) (pw_or1 (pt_val (pe_callB (show CallR _ (.builtin "isinstance") (rIsi K) from call_isi) (by rfl) Z.T.isinstance pI (pa_cons (pv 9) (pa_cons (pe_bltn (v := .ty "bool") (by rfl) Z.T.bool (by decide +kernel) rfl) pa_nil))))))))
        (fun _ _ _ _ _ => pv 9))
      (pss_one (ps_ret (pe_cmpR (op_eqD hu) (pe_rz Z gd TB inT one hr (fun A outer s H E f c' r2 => (pe_dx DD r2 (L2.takes_of rfl rfl rfl rfl) (pa_cons (pe_ix (show IxR _ (rIxL K) from ix_list) (pv 5) pe_int (fun _ _ => rfl)) (pa_cons (pe_ix (show IxR _ (rIxL K) from ix_list) (pv 5) pe_int (fun _ _ => rfl)) (pa_cons (pe_ix (show IxR _ (rIxL K) from ix_list) (pv 5) pe_int (fun _ _ => rfl)) pa_nil))))) (lamS_by (sc := defScope sLawDateRight) (by decide +kernel)) hlq)
        (pe_tup (pa_cons pe_str (pa_cons (pe_callB (call_reprI gd hu) (by rfl) Z.T.repr pT (pa_cons (pe_ix ix_list (pv 8) pe_int (fun _ _ => rfl)) pa_nil)) pa_nil))) (nomark _))))))))))), ?_⟩
    refine ⟨_, rfl, _, rfl, p, a, b, n, y, rfl, S, by omega, fun t m d H1 ht ok b1 b2 b3 b4 S1 B1 => ?_⟩
    have tb1 := tabs_but tb S B1
    refine ⟨t, _, rfl, SqT.of ht, rfl, _, _, rfl, _, _, rfl, rfl, ?_⟩
    have e28 : (10 : Int) ^ 28 = 10000000000000000000000000000 := by decide
    have e29 : (10 : Int) ^ 29 = 100000000000000000000000000000 := by decide
    have gy : Big y := ⟨by omega, by omega⟩
    have gm : Big m := ⟨by omega, by omega⟩
    have gd3 : Big d := ⟨by omega, by omega⟩
    have dep : (pd3 y m d).depth ≤ 50 := by
      simp only [pd3, PyData.depth, PyData.depthAll]
      decide
    refine ⟨_, rfl, _, rfl, _, rfl, by show 3 ≤ sizeLine; decide, fun t1 n1 => ?_⟩
    refine ⟨.ref t1, pd3 y m d, rfl, .flat (dp3 upd_same) rfl, pd3_sh gy gm gd3, by omega, pd3_len gy gm gd3, by show 2 ≤ sizeLine; decide, fun t2 n2 => ?_⟩
    have s3 := (Same.new (o := .tup [.int y, .int m, .int d]) n1).step (o := .tup [.str "date", .str (pd3 y m d).shown]) n2
    have tb3 := tb1.ext s3
    have S3 := S1.same s3
    have h2 : upd (upd H1 t1 (.tup [.int y, .int m, .int d])) t2 (.tup [.str "date", .str (pd3 y m d).shown]) t2 = some (.tup [.str "date", .str (pd3 y m d).shown]) := upd_same
    by_cases D : IsDate y m d
    · have h29 : m = 2 ∧ d = 29 := ok.resolve_left fun h => h D
      obtain ⟨rfl, rfl⟩ := h29
      have lp : leapB y = true := by
        have := D.d2
        cases q : leapB y with
        | true => rfl
        | false => rw [q] at this; exact absurd this (by decide)
      refine ⟨_, rfl, rfl, true, congrArg V.bl (decide_eq_true rfl), iteT ?_⟩
      refine ⟨_, rfl, rfl, true, congrArg V.bl (decide_eq_true rfl), iteT ?_⟩
      refine ⟨_, rfl, y, rfl, true, congrArg V.bl lp, iteT ?_⟩
      refine siteN tb3 (fun E Hx Q' e out => ⟨_, rfl, _, rfl, _, rfl, _, _, _, rfl, .inr (.inr (.inr ⟨y, 2, 29, rfl, rfl, rfl, .inl ⟨D, fun H' s => out _ H' s⟩⟩))⟩) fun H4 e4 tb4 => ?_
      refine ⟨_, rfl, .none, .none, .non, .non, by decide, by decide, false, rfl, iteF ?_⟩
      dsimp only [tNext, tSeq, tIfS, tTest, tOp]
      refine siteN tb4 (fun E Hx Q' e out => ⟨_, rfl, _, rfl, _, rfl, rfl, _, _, _, rfl, .inr (.inr (.inr ⟨y, 2, 29, rfl, rfl, rfl, .inl ⟨D, fun H' s => out _ H' s⟩⟩))⟩) fun H5 e5 tb5 => ?_
      refine ⟨_, rfl, .none, .none, .non, .non, by decide, by decide, false, rfl, iteF ?_⟩
      have S5 := stt_ext S3 (e4.trans e5)
      have E15 : ExtN H1 H5 := (Same.ext s3).trans (e4.trans e5)
      refine ⟨_, rfl, _, rfl, _, rfl, by show 3 ≤ sizeLine; decide, fun l nl => ?_⟩
      obtain ⟨u1, u2, u3, w1, w2, w3⟩ := S5.there
      have lp_ : l ≠ p := (ne_of_none w1 nl).symm
      have la : l ≠ a := (ne_of_none w2 nl).symm
      have lb : l ≠ b := (ne_of_none w3 nl).symm
      have sl := Same.new (o := .lst [.int y, .int 2, .int 29]) nl
      refine ⟨_, rfl, p, a, b, _, rfl, S5.same sl, by omega, fun v ee H7 it S7 B7 => ?_⟩
      refine ⟨by show 2 ≤ sizeLine; decide, fun q nq => ?_⟩
      refine ⟨q, _, rfl, SqT.of upd_same, rfl, _, _, rfl, _, _, rfl, rfl, ?_⟩
      obtain ⟨HL, hHL⟩ : ∃ HL, HL = upd H5 l (HO.lst [.int y, .int 2, .int 29]) := ⟨_, rfl⟩
      have hlL : HL l = some (.lst [.int y, .int 2, .int 29]) := by rw [hHL]; exact upd_same
      rw [← hHL] at it B7
      have SL : Stt p a b (n + 2) HL := by rw [hHL]; exact S5.same sl
      have tbL : Tabs T0 HL := by rw [hHL]; exact tb5.ext sl
      have sq := Same.new (o := .tup [.ref l, v]) nq
      have h7l := B7 l _ hlL lp_ la
      have S8 := S7.same sq
      have tb8 := (tabs_but tbL SL B7).ext sq
      have hP : ∀ {H' : Hp} {k : Nat}, Stt p a b k H' → H' p ≠ none ∧ H' a ≠ none := fun q => by
        obtain ⟨u1, u2, u3, w1, w2, _⟩ := q.there
        exact ⟨(by rw [w1]; exact fun z => nomatch z), by rw [w2]; exact fun z => nomatch z⟩
      have hLl : HL l ≠ none := by rw [hlL]; exact fun z => nomatch z
      have domB : ∀ {HA HB : Hp} {kA kB : Nat}, Stt p a b kB HB → But p a HA HB → (∀ c, HL c ≠ none → HA c ≠ none) → ∀ c, HL c ≠ none → HB c ≠ none := fun {HA HB kA kB} SB BB dom c z => by
        by_cases e1 : c = p
        · rw [e1]; exact (hP SB).1
        · by_cases e2 : c = a
          · rw [e2]; exact (hP SB).2
          · cases q : HA c with
            | none => exact absurd q (dom c z)
            | some o => rw [BB c o q e1 e2]; exact fun z => nomatch z
      have dom7 := domB (kA := 0) S7 B7 (fun c z => z)
      have w7 : OddI K HL (upd H7 q (.tup [.ref l, v])) v := ⟨ee, it.keep (fr_step fun c o e nn => sq c o e)⟩
      refine ⟨_, rfl, p, a, b, _, 3, rfl, S8, by omega, by decide, by decide, fun z H9 z0 z1 S9 B9 => ?_⟩
      have B89 : But p a H7 H9 := (But.of sq).trans B9
      have cnt : (1 + z).toNat ≤ 3 := by omega
      refine ⟨_, _, rfl, rfl, _, rfl, by omega, by omega, ?_⟩
      have pin : ∀ {HA HB : Hp}, But p a HA HB → Same (fr HL HA) (fr HL HB) := fun BB => fr_but BB (hP SL).1 (hP SL).2
      have put_ : ∀ {HA : Hp} {o : HO}, Same (fr HL HA) (fr HL (upd HA l o)) := fun {HA o} => fr_step fun c u e nn => by
        have nc : c ≠ l := fun z => hLl (by rw [← z]; exact nn)
        rw [upd_ne nc]
        exact e
      have domP : ∀ {HA : Hp} {o : HO}, (∀ c, HL c ≠ none → HA c ≠ none) → ∀ c, HL c ≠ none → upd HA l o c ≠ none := fun {HA o} dom c z => by
        by_cases e : c = l
        · rw [e, upd_same]; exact fun z => nomatch z
        · rw [upd_ne e]; exact dom c z
      refine for_range (n := (1 + z).toNat) (fun i σ H' => Stt p a b (n + 4 + 2 * i) H' ∧ Tabs T0 H' ∧ (∀ c, HL c ≠ none → H' c ≠ none) ∧ ∃ (x1 x2 x3 wv : V) (u7 : Option V), σ = [some (.ref p), some (.int y), some (.int 2), some (.int 29), some .non, some (.ref l), some wv, u7, none, none] ∧
          H' l = some (.lst [x1, x2, x3]) ∧ ElI K HL H' x1 ∧ ElI K HL H' x2 ∧ ElI K HL H' x3 ∧ OddI K HL H' wv ∧ (i = 0 ∨ (isI x1 && (isI x2 && isI x3)) = false))
        ⟨S9.mono (by omega), tabs_but tb8 S8 B9, domB (kA := 0) S9 B89 dom7, _, _, _, v, none, rfl, B89 l _ h7l lp_ la, .inl ⟨_, rfl⟩, .inl ⟨_, rfl⟩, .inl ⟨_, rfl⟩, w7.keep (pin B9), .inl rfl⟩ ?_ ?_
      · rintro i σ H10 hi ⟨Sx, tbx, dom, x1, x2, x3, wv, u7, rfl, hl, e1, e2, e3, ow, _⟩
        refine ⟨_, rfl, _, rfl, _, rfl, p, a, b, _, 3, rfl, Sx, by omega, by decide, by decide, fun j H11 j0 j1 S11 B11 => ?_⟩
        have h11 := B11 l _ hl lp_ la
        have jj : j = 0 ∨ j = 1 ∨ j = 2 := by omega
        have dom11 := domB (kA := 0) S11 B11 dom
        have tb11 := tabs_but tbx Sx B11
        rcases jj with rfl | rfl | rfl
        · refine ⟨l, [x1, x2, x3], 0, 0, rfl, rfl, h11, rfl, ?_⟩
          have f := (pin B11).trans (put_ (HA := H11) (o := .lst [wv, x2, x3]))
          have S12 := stt_put (o := .lst [wv, x2, x3]) S11 lp_ la lb
          refine ⟨_, rfl, p, a, b, _, rfl, S12, by omega, fun v2 g2 H13 it2 S13 B13 => ?_⟩
          have dom12 := domP (o := .lst [wv, x2, x3]) dom11
          exact ⟨S13.mono (by omega), tabs_but (Cf.Tabs.put tb11 h11) S12 B13, domB (kA := 0) S13 B13 dom12, wv, x2, x3, v2, _, rfl, B13 l _ upd_same lp_ la, .inr ((ow.keep f).keep (pin B13)), (e2.keep f).keep (pin B13), (e3.keep f).keep (pin B13), ⟨g2, it2.keep (fr_less dom12)⟩, .inr (by rw [ow.no]; simp)⟩
        · refine ⟨l, [x1, x2, x3], 1, 1, rfl, rfl, h11, rfl, ?_⟩
          have f := (pin B11).trans (put_ (HA := H11) (o := .lst [x1, wv, x3]))
          have S12 := stt_put (o := .lst [x1, wv, x3]) S11 lp_ la lb
          refine ⟨_, rfl, p, a, b, _, rfl, S12, by omega, fun v2 g2 H13 it2 S13 B13 => ?_⟩
          have dom12 := domP (o := .lst [x1, wv, x3]) dom11
          exact ⟨S13.mono (by omega), tabs_but (Cf.Tabs.put tb11 h11) S12 B13, domB (kA := 0) S13 B13 dom12, x1, wv, x3, v2, _, rfl, B13 l _ upd_same lp_ la, (e1.keep f).keep (pin B13), .inr ((ow.keep f).keep (pin B13)), (e3.keep f).keep (pin B13), ⟨g2, it2.keep (fr_less dom12)⟩, .inr (by rw [ow.no]; simp)⟩
        · refine ⟨l, [x1, x2, x3], 2, 2, rfl, rfl, h11, rfl, ?_⟩
          have f := (pin B11).trans (put_ (HA := H11) (o := .lst [x1, x2, wv]))
          have S12 := stt_put (o := .lst [x1, x2, wv]) S11 lp_ la lb
          refine ⟨_, rfl, p, a, b, _, rfl, S12, by omega, fun v2 g2 H13 it2 S13 B13 => ?_⟩
          have dom12 := domP (o := .lst [x1, x2, wv]) dom11
          exact ⟨S13.mono (by omega), tabs_but (Cf.Tabs.put tb11 h11) S12 B13, domB (kA := 0) S13 B13 dom12, x1, x2, wv, v2, _, rfl, B13 l _ upd_same lp_ la, (e1.keep f).keep (pin B13), (e2.keep f).keep (pin B13), .inr ((ow.keep f).keep (pin B13)), ⟨g2, it2.keep (fr_less dom12)⟩, .inr (by rw [ow.no]; simp)⟩
      · rintro σ H14 ⟨S14, tb14, dom, x1, x2, x3, wv, u7, rfl, hl, e1, e2, e3, ow, odd⟩
        have any : (isI x1 && (isI x2 && isI x3)) = false := odd.resolve_left (by omega)
        have els : ∀ w ∈ [x1, x2, x3], ElI K HL H14 w := fun w hw => by
          rcases List.mem_cons.mp hw with rfl | hw
          · exact e1
          · rcases List.mem_cons.mp hw with rfl | hw
            · exact e2
            · rw [List.mem_singleton.mp hw]; exact e3
        refine ⟨_, rfl, l, rfl, ⟨_, SqL.of hl⟩, fun D2 hD2 => ?_⟩
        refine lc_list (K := K) (a := l) (xs := [x1, x2, x3]) (fun j H' => Same H14 H' ∧ H' D2 = some (.lst (([x1, x2, x3].take j).filter fun w => !isI w))) ⟨Same.new hD2, upd_same⟩ (fun i H' _ ⟨sx, _⟩ => SqL.of (sx _ _ hl)) ?_ ?_
        · rintro j w H15 hj ⟨s15, hD15⟩
          have hlt := lt_of_get hj
          have ew := els w (List.mem_of_getElem? hj)
          have step : ([x1, x2, x3].take (j + 1)).filter (fun w => !isI w) = ([x1, x2, x3].take j).filter (fun w => !isI w) ++ (if isI w then [] else [w]) := by
            rw [List.take_succ, hj, List.filter_append, filter_one]
          refine ⟨rfl, ?_⟩
          rcases ew with ⟨i, rfl⟩ | ow2
          · refine ⟨_, rfl, _, _, _, _, true, rfl, .ty "int", .base (.int _), kit_ty (by decide +kernel), true, rfl, iteF ?_⟩
            refine ⟨_, rfl, _, _, _, _, false, rfl, .ty "bool", .base (.int _), kit_ty (by decide +kernel), false, rfl, ?_⟩
            refine iteFF rfl ⟨s15, ?_⟩
            rw [step]
            simpa [isI] using hD15
          · have nw := ow2.no
            obtain ⟨g, dz, g1, g2, g3, g4, g5⟩ := ow2
            have dz15 := (dz.keep (fr_same HL H14)).keep s15
            obtain ⟨tn, bi, bb, ty, q1, q2, q3⟩ := dz_ty dz15 g5
            refine ⟨_, rfl, _, _, _, _, bi, rfl, .ty "int", ty, kit_ty q1, bi, rfl, ?_⟩
            have done : ∃ acc, H15 D2 = some (HO.lst acc) ∧ acc.length < sizeLine ∧ Same H14 (upd H15 D2 (.lst (acc ++ [w]))) ∧ upd H15 D2 (.lst (acc ++ [w])) D2 = some (.lst (([x1, x2, x3].take (j + 1)).filter fun w => !isI w)) :=
              ⟨_, hD15, few_filter j x1 x2 x3, s15.wr hD2, by rw [upd_same, step, nw]; rfl⟩
            cases bi with
            | false => exact iteTT rfl (iteTT rfl ⟨_, rfl, done⟩)
            | true =>
              rw [Bool.true_and] at q3
              have q4 : bb = true := by cases bb <;> first | rfl | exact absurd q3 (by decide)
              subst q4
              refine iteFF rfl ⟨_, rfl, _, _, _, _, true, rfl, .ty "bool", ty, kit_ty q2, true, rfl, ?_⟩
              exact iteTT rfl ⟨_, rfl, done⟩
        · rintro H16 ⟨s16, hD16⟩
          have tb16 := tb14.ext s16
          have hl16 := s16 _ _ hl
          have c3 : isI x1 = false ∨ (isI x1 = true ∧ isI x2 = false) ∨ (isI x1 = true ∧ isI x2 = true ∧ isI x3 = false) := by
            cases q1 : isI x1 <;> cases q2 : isI x2 <;> cases q3 : isI x3 <;> simp_all
          have num : ∀ {w : V}, isI w = true → ∃ i : Int, w = .int i := fun {w} h => by
            cases w <;> first | exact ⟨_, rfl⟩ | cases h
          have odd_ : ∀ {w : V}, ElI K HL H14 w → isI w = false → OddI K HL H14 w := fun {w} e h => e.resolve_left fun ⟨i, z⟩ => by rw [z] at h; cases h
          have D16 : H16 D2 = some (.lst ([x1, x2, x3].filter fun w => !isI w)) := hD16
          rcases c3 with q1 | ⟨q1, q2⟩ | ⟨q1, q2, q3⟩
          · obtain ⟨tl, eF⟩ := flt1 q1
            have hF := D16
            rw [eF] at hF
            obtain ⟨g, dz, g1, g2, g3, g4, g5⟩ := odd_ e1 q1
            have dz16 := (dz.keep (fr_same HL H14)).keep s16
            have dzn : Dz K (ntb H16) x1 g := (dz.keep (fr_same HL H14) |>.keep s16) |> fun q => dz_ntb q
            have big : g.shown.length ≤ sizeLine := by have : 1000000 ≤ sizeLine := by rw [sizeLine_eq]; decide
                                                       omega
            refine site tb16 dzn g1 g2 big (fun E Hx Q' e out => ⟨_, rfl, l, _, 0, _, rfl, rfl, SqL.of (e _ _ hl16 (fun ps z => by cases z)), rfl, _, rfl, l, _, 1, _, rfl, rfl, SqL.of (e _ _ hl16 (fun ps z => by cases z)), rfl, _, rfl, l, _, 2, _, rfl, rfl, SqL.of (e _ _ hl16 (fun ps z => by cases z)), rfl, _, _, _, rfl, .inl ⟨g, (dzn.keep (ntb_ext e)).keep (ntb_same Hx), g5, out⟩⟩) fun t7 H17 e17 tb17 h17 => ?_
            have dz17 := (dzn.keep (ntb_ext e17)).keep (ntb_same H17)
            refine ⟨_, rfl, D2, _, 0, x1, rfl, rfl, SqL.of (e17 _ _ hF (fun ps z => by cases z)), at_zero, x1, g, rfl, dz17, g1, by omega, big, by show 2 ≤ sizeLine; decide, fun t8 n8 => ?_⟩
            have s8 := Same.new (o := .tup [.str "number", .str g.shown]) n8
            refine ⟨_, _, dp_two (s8 _ _ h17), dp_two upd_same, shaped_two ok_number g4, shaped_two ok_number g4, ?_⟩
            rw [eqv_two]
            exact k _ (((stt_ext (S14.same s16) e17).same s8).mono (by omega)) (tb17.ext s8)
          · obtain ⟨i1, rfl⟩ := num q1
            obtain ⟨tl, eF⟩ := flt2 q1 q2
            have hF := D16
            rw [eF] at hF
            obtain ⟨g, dz, g1, g2, g3, g4, g5⟩ := odd_ e2 q2
            have dz16 := (dz.keep (fr_same HL H14)).keep s16
            have dzn : Dz K (ntb H16) x2 g := (dz.keep (fr_same HL H14) |>.keep s16) |> fun q => dz_ntb q
            have big : g.shown.length ≤ sizeLine := by have : 1000000 ≤ sizeLine := by rw [sizeLine_eq]; decide
                                                       omega
            refine site tb16 dzn g1 g2 big (fun E Hx Q' e out => ⟨_, rfl, l, _, 0, _, rfl, rfl, SqL.of (e _ _ hl16 (fun ps z => by cases z)), rfl, _, rfl, l, _, 1, _, rfl, rfl, SqL.of (e _ _ hl16 (fun ps z => by cases z)), rfl, _, rfl, l, _, 2, _, rfl, rfl, SqL.of (e _ _ hl16 (fun ps z => by cases z)), rfl, _, _, _, rfl, .inr (.inl ⟨_, g, rfl, (dzn.keep (ntb_ext e)).keep (ntb_same Hx), g5, out⟩)⟩) fun t7 H17 e17 tb17 h17 => ?_
            have dz17 := (dzn.keep (ntb_ext e17)).keep (ntb_same H17)
            refine ⟨_, rfl, D2, _, 0, x2, rfl, rfl, SqL.of (e17 _ _ hF (fun ps z => by cases z)), at_zero, x2, g, rfl, dz17, g1, by omega, big, by show 2 ≤ sizeLine; decide, fun t8 n8 => ?_⟩
            have s8 := Same.new (o := .tup [.str "number", .str g.shown]) n8
            refine ⟨_, _, dp_two (s8 _ _ h17), dp_two upd_same, shaped_two ok_number g4, shaped_two ok_number g4, ?_⟩
            rw [eqv_two]
            exact k _ (((stt_ext (S14.same s16) e17).same s8).mono (by omega)) (tb17.ext s8)
          · obtain ⟨i1, rfl⟩ := num q1
            obtain ⟨i2, rfl⟩ := num q2
            obtain ⟨tl, eF⟩ := flt3 q1 q2 q3
            have hF := D16
            rw [eF] at hF
            obtain ⟨g, dz, g1, g2, g3, g4, g5⟩ := odd_ e3 q3
            have dz16 := (dz.keep (fr_same HL H14)).keep s16
            have dzn : Dz K (ntb H16) x3 g := (dz.keep (fr_same HL H14) |>.keep s16) |> fun q => dz_ntb q
            have big : g.shown.length ≤ sizeLine := by have : 1000000 ≤ sizeLine := by rw [sizeLine_eq]; decide
                                                       omega
            refine site tb16 dzn g1 g2 big (fun E Hx Q' e out => ⟨_, rfl, l, _, 0, _, rfl, rfl, SqL.of (e _ _ hl16 (fun ps z => by cases z)), rfl, _, rfl, l, _, 1, _, rfl, rfl, SqL.of (e _ _ hl16 (fun ps z => by cases z)), rfl, _, rfl, l, _, 2, _, rfl, rfl, SqL.of (e _ _ hl16 (fun ps z => by cases z)), rfl, _, _, _, rfl, .inr (.inr (.inl ⟨_, _, g, rfl, rfl, (dzn.keep (ntb_ext e)).keep (ntb_same Hx), g5, out⟩))⟩) fun t7 H17 e17 tb17 h17 => ?_
            have dz17 := (dzn.keep (ntb_ext e17)).keep (ntb_same H17)
            refine ⟨_, rfl, D2, _, 0, x3, rfl, rfl, SqL.of (e17 _ _ hF (fun ps z => by cases z)), at_zero, x3, g, rfl, dz17, g1, by omega, big, by show 2 ≤ sizeLine; decide, fun t8 n8 => ?_⟩
            have s8 := Same.new (o := .tup [.str "number", .str g.shown]) n8
            refine ⟨_, _, dp_two (s8 _ _ h17), dp_two upd_same, shaped_two ok_number g4, shaped_two ok_number g4, ?_⟩
            rw [eqv_two]
            exact k _ (((stt_ext (S14.same s16) e17).same s8).mono (by omega)) (tb17.ext s8)
    · by_cases hm : m = 2
      · by_cases hd : d = 29
        · have lf : leapB y = false := by
            cases q : leapB y with
            | false => rfl
            | true => exact absurd (⟨by omega, by omega, by omega, by rw [hm, hd, q]; decide⟩ : IsDate y m d) D
          refine ⟨_, rfl, rfl, true, congrArg V.bl (decide_eq_true (by rw [hm])), iteT ?_⟩
          refine ⟨_, rfl, rfl, true, congrArg V.bl (decide_eq_true (by rw [hd])), iteT ?_⟩
          refine ⟨_, rfl, y, rfl, false, congrArg V.bl lf, iteF ?_⟩
          try dsimp only [tNext, tSeq, tIfS, tTest, tOp]
          refine siteD tb3 (pd3_sh gy gm gd3) dep (pd3_len gy gm gd3) (fun E Hx Q' e out => ⟨_, rfl, _, rfl, _, rfl, _, _, _, rfl, .inr (.inr (.inr ⟨y, m, d, rfl, rfl, rfl, .inr ⟨D, out⟩⟩))⟩) fun t4 H4 e4 tb4 h4 => ?_
          have okT := ok_ints3 y m d
          refine ⟨_, rfl, _, _, dp_two h4, dp_two (e4 _ _ h2 (fun ps z => by cases z)), shaped_two ok_date okT, shaped_two ok_date okT, false, congrArg (fun z => V.bl (!z)) (eqv_two (a := Str.ofString "date") (t := (pd3 y m d).shown)), iteF ?_⟩
          try dsimp only [tNext, tSeq, tIfS, tTest, tOp]
          refine siteD tb4 (pd3_sh gy gm gd3) dep (pd3_len gy gm gd3) (fun E Hx Q' e out => ⟨_, rfl, _, rfl, _, rfl, rfl, _, _, _, rfl, .inr (.inr (.inr ⟨y, m, d, rfl, rfl, rfl, .inr ⟨D, out⟩⟩))⟩) fun t5 H5 e5 tb5 h5 => ?_
          refine ⟨_, rfl, _, _, dp_two h5, dp_two (e5 _ _ (e4 _ _ h2 (fun ps z => by cases z)) (fun ps z => by cases z)), shaped_two ok_date okT, shaped_two ok_date okT, false, congrArg (fun z => V.bl (!z)) (eqv_two (a := Str.ofString "date") (t := (pd3 y m d).shown)), iteF ?_⟩
          have S5 := stt_ext S3 (e4.trans e5)
          have E15 : ExtN H1 H5 := (Same.ext s3).trans (e4.trans e5)
          refine ⟨_, rfl, _, rfl, _, rfl, by show 3 ≤ sizeLine; decide, fun l nl => ?_⟩
          obtain ⟨u1, u2, u3, w1, w2, w3⟩ := S5.there
          have lp_ : l ≠ p := (ne_of_none w1 nl).symm
          have la : l ≠ a := (ne_of_none w2 nl).symm
          have lb : l ≠ b := (ne_of_none w3 nl).symm
          have sl := Same.new (o := .lst [.int y, .int m, .int d]) nl
          refine ⟨_, rfl, p, a, b, _, rfl, S5.same sl, by omega, fun v ee H7 it S7 B7 => ?_⟩
          refine ⟨by show 2 ≤ sizeLine; decide, fun q nq => ?_⟩
          refine ⟨q, _, rfl, SqT.of upd_same, rfl, _, _, rfl, _, _, rfl, rfl, ?_⟩
          obtain ⟨HL, hHL⟩ : ∃ HL, HL = upd H5 l (HO.lst [.int y, .int m, .int d]) := ⟨_, rfl⟩
          have hlL : HL l = some (.lst [.int y, .int m, .int d]) := by rw [hHL]; exact upd_same
          rw [← hHL] at it B7
          have SL : Stt p a b (n + 2) HL := by rw [hHL]; exact S5.same sl
          have tbL : Tabs T0 HL := by rw [hHL]; exact tb5.ext sl
          have sq := Same.new (o := .tup [.ref l, v]) nq
          have h7l := B7 l _ hlL lp_ la
          have S8 := S7.same sq
          have tb8 := (tabs_but tbL SL B7).ext sq
          have hP : ∀ {H' : Hp} {k : Nat}, Stt p a b k H' → H' p ≠ none ∧ H' a ≠ none := fun q => by
            obtain ⟨u1, u2, u3, w1, w2, _⟩ := q.there
            exact ⟨(by rw [w1]; exact fun z => nomatch z), by rw [w2]; exact fun z => nomatch z⟩
          have hLl : HL l ≠ none := by rw [hlL]; exact fun z => nomatch z
          have domB : ∀ {HA HB : Hp} {kA kB : Nat}, Stt p a b kB HB → But p a HA HB → (∀ c, HL c ≠ none → HA c ≠ none) → ∀ c, HL c ≠ none → HB c ≠ none := fun {HA HB kA kB} SB BB dom c z => by
            by_cases e1 : c = p
            · rw [e1]; exact (hP SB).1
            · by_cases e2 : c = a
              · rw [e2]; exact (hP SB).2
              · cases q : HA c with
                | none => exact absurd q (dom c z)
                | some o => rw [BB c o q e1 e2]; exact fun z => nomatch z
          have dom7 := domB (kA := 0) S7 B7 (fun c z => z)
          have w7 : OddI K HL (upd H7 q (.tup [.ref l, v])) v := ⟨ee, it.keep (fr_step fun c o e nn => sq c o e)⟩
          refine ⟨_, rfl, p, a, b, _, 3, rfl, S8, by omega, by decide, by decide, fun z H9 z0 z1 S9 B9 => ?_⟩
          have B89 : But p a H7 H9 := (But.of sq).trans B9
          have cnt : (1 + z).toNat ≤ 3 := by omega
          refine ⟨_, _, rfl, rfl, _, rfl, by omega, by omega, ?_⟩
          have pin : ∀ {HA HB : Hp}, But p a HA HB → Same (fr HL HA) (fr HL HB) := fun BB => fr_but BB (hP SL).1 (hP SL).2
          have put_ : ∀ {HA : Hp} {o : HO}, Same (fr HL HA) (fr HL (upd HA l o)) := fun {HA o} => fr_step fun c u e nn => by
            have nc : c ≠ l := fun z => hLl (by rw [← z]; exact nn)
            rw [upd_ne nc]
            exact e
          have domP : ∀ {HA : Hp} {o : HO}, (∀ c, HL c ≠ none → HA c ≠ none) → ∀ c, HL c ≠ none → upd HA l o c ≠ none := fun {HA o} dom c z => by
            by_cases e : c = l
            · rw [e, upd_same]; exact fun z => nomatch z
            · rw [upd_ne e]; exact dom c z
          refine for_range (n := (1 + z).toNat) (fun i σ H' => Stt p a b (n + 4 + 2 * i) H' ∧ Tabs T0 H' ∧ (∀ c, HL c ≠ none → H' c ≠ none) ∧ ∃ (x1 x2 x3 wv : V) (u7 : Option V), σ = [some (.ref p), some (.int y), some (.int m), some (.int d), some (.ref t2), some (.ref l), some wv, u7, none, none] ∧
              H' l = some (.lst [x1, x2, x3]) ∧ ElI K HL H' x1 ∧ ElI K HL H' x2 ∧ ElI K HL H' x3 ∧ OddI K HL H' wv ∧ (i = 0 ∨ (isI x1 && (isI x2 && isI x3)) = false))
            ⟨S9.mono (by omega), tabs_but tb8 S8 B9, domB (kA := 0) S9 B89 dom7, _, _, _, v, none, rfl, B89 l _ h7l lp_ la, .inl ⟨_, rfl⟩, .inl ⟨_, rfl⟩, .inl ⟨_, rfl⟩, w7.keep (pin B9), .inl rfl⟩ ?_ ?_
          · rintro i σ H10 hi ⟨Sx, tbx, dom, x1, x2, x3, wv, u7, rfl, hl, e1, e2, e3, ow, _⟩
            refine ⟨_, rfl, _, rfl, _, rfl, p, a, b, _, 3, rfl, Sx, by omega, by decide, by decide, fun j H11 j0 j1 S11 B11 => ?_⟩
            have h11 := B11 l _ hl lp_ la
            have jj : j = 0 ∨ j = 1 ∨ j = 2 := by omega
            have dom11 := domB (kA := 0) S11 B11 dom
            have tb11 := tabs_but tbx Sx B11
            rcases jj with rfl | rfl | rfl
            · refine ⟨l, [x1, x2, x3], 0, 0, rfl, rfl, h11, rfl, ?_⟩
              have f := (pin B11).trans (put_ (HA := H11) (o := .lst [wv, x2, x3]))
              have S12 := stt_put (o := .lst [wv, x2, x3]) S11 lp_ la lb
              refine ⟨_, rfl, p, a, b, _, rfl, S12, by omega, fun v2 g2 H13 it2 S13 B13 => ?_⟩
              have dom12 := domP (o := .lst [wv, x2, x3]) dom11
              exact ⟨S13.mono (by omega), tabs_but (Cf.Tabs.put tb11 h11) S12 B13, domB (kA := 0) S13 B13 dom12, wv, x2, x3, v2, _, rfl, B13 l _ upd_same lp_ la, .inr ((ow.keep f).keep (pin B13)), (e2.keep f).keep (pin B13), (e3.keep f).keep (pin B13), ⟨g2, it2.keep (fr_less dom12)⟩, .inr (by rw [ow.no]; simp)⟩
            · refine ⟨l, [x1, x2, x3], 1, 1, rfl, rfl, h11, rfl, ?_⟩
              have f := (pin B11).trans (put_ (HA := H11) (o := .lst [x1, wv, x3]))
              have S12 := stt_put (o := .lst [x1, wv, x3]) S11 lp_ la lb
              refine ⟨_, rfl, p, a, b, _, rfl, S12, by omega, fun v2 g2 H13 it2 S13 B13 => ?_⟩
              have dom12 := domP (o := .lst [x1, wv, x3]) dom11
              exact ⟨S13.mono (by omega), tabs_but (Cf.Tabs.put tb11 h11) S12 B13, domB (kA := 0) S13 B13 dom12, x1, wv, x3, v2, _, rfl, B13 l _ upd_same lp_ la, (e1.keep f).keep (pin B13), .inr ((ow.keep f).keep (pin B13)), (e3.keep f).keep (pin B13), ⟨g2, it2.keep (fr_less dom12)⟩, .inr (by rw [ow.no]; simp)⟩
            · refine ⟨l, [x1, x2, x3], 2, 2, rfl, rfl, h11, rfl, ?_⟩
              have f := (pin B11).trans (put_ (HA := H11) (o := .lst [x1, x2, wv]))
              have S12 := stt_put (o := .lst [x1, x2, wv]) S11 lp_ la lb
              refine ⟨_, rfl, p, a, b, _, rfl, S12, by omega, fun v2 g2 H13 it2 S13 B13 => ?_⟩
              have dom12 := domP (o := .lst [x1, x2, wv]) dom11
              exact ⟨S13.mono (by omega), tabs_but (Cf.Tabs.put tb11 h11) S12 B13, domB (kA := 0) S13 B13 dom12, x1, x2, wv, v2, _, rfl, B13 l _ upd_same lp_ la, (e1.keep f).keep (pin B13), (e2.keep f).keep (pin B13), .inr ((ow.keep f).keep (pin B13)), ⟨g2, it2.keep (fr_less dom12)⟩, .inr (by rw [ow.no]; simp)⟩
          · rintro σ H14 ⟨S14, tb14, dom, x1, x2, x3, wv, u7, rfl, hl, e1, e2, e3, ow, odd⟩
            have any : (isI x1 && (isI x2 && isI x3)) = false := odd.resolve_left (by omega)
            have els : ∀ w ∈ [x1, x2, x3], ElI K HL H14 w := fun w hw => by
              rcases List.mem_cons.mp hw with rfl | hw
              · exact e1
              · rcases List.mem_cons.mp hw with rfl | hw
                · exact e2
                · rw [List.mem_singleton.mp hw]; exact e3
            refine ⟨_, rfl, l, rfl, ⟨_, SqL.of hl⟩, fun D2 hD2 => ?_⟩
            refine lc_list (K := K) (a := l) (xs := [x1, x2, x3]) (fun j H' => Same H14 H' ∧ H' D2 = some (.lst (([x1, x2, x3].take j).filter fun w => !isI w))) ⟨Same.new hD2, upd_same⟩ (fun i H' _ ⟨sx, _⟩ => SqL.of (sx _ _ hl)) ?_ ?_
            · rintro j w H15 hj ⟨s15, hD15⟩
              have hlt := lt_of_get hj
              have ew := els w (List.mem_of_getElem? hj)
              have step : ([x1, x2, x3].take (j + 1)).filter (fun w => !isI w) = ([x1, x2, x3].take j).filter (fun w => !isI w) ++ (if isI w then [] else [w]) := by
                rw [List.take_succ, hj, List.filter_append, filter_one]
              refine ⟨rfl, ?_⟩
              rcases ew with ⟨i, rfl⟩ | ow2
              · refine ⟨_, rfl, _, _, _, _, true, rfl, .ty "int", .base (.int _), kit_ty (by decide +kernel), true, rfl, iteF ?_⟩
                refine ⟨_, rfl, _, _, _, _, false, rfl, .ty "bool", .base (.int _), kit_ty (by decide +kernel), false, rfl, ?_⟩
                refine iteFF rfl ⟨s15, ?_⟩
                rw [step]
                simpa [isI] using hD15
              · have nw := ow2.no
                obtain ⟨g, dz, g1, g2, g3, g4, g5⟩ := ow2
                have dz15 := (dz.keep (fr_same HL H14)).keep s15
                obtain ⟨tn, bi, bb, ty, q1, q2, q3⟩ := dz_ty dz15 g5
                refine ⟨_, rfl, _, _, _, _, bi, rfl, .ty "int", ty, kit_ty q1, bi, rfl, ?_⟩
                have done : ∃ acc, H15 D2 = some (HO.lst acc) ∧ acc.length < sizeLine ∧ Same H14 (upd H15 D2 (.lst (acc ++ [w]))) ∧ upd H15 D2 (.lst (acc ++ [w])) D2 = some (.lst (([x1, x2, x3].take (j + 1)).filter fun w => !isI w)) :=
                  ⟨_, hD15, few_filter j x1 x2 x3, s15.wr hD2, by rw [upd_same, step, nw]; rfl⟩
                cases bi with
                | false => exact iteTT rfl (iteTT rfl ⟨_, rfl, done⟩)
                | true =>
                  rw [Bool.true_and] at q3
                  have q4 : bb = true := by cases bb <;> first | rfl | exact absurd q3 (by decide)
                  subst q4
                  refine iteFF rfl ⟨_, rfl, _, _, _, _, true, rfl, .ty "bool", ty, kit_ty q2, true, rfl, ?_⟩
                  exact iteTT rfl ⟨_, rfl, done⟩
            · rintro H16 ⟨s16, hD16⟩
              have tb16 := tb14.ext s16
              have hl16 := s16 _ _ hl
              have c3 : isI x1 = false ∨ (isI x1 = true ∧ isI x2 = false) ∨ (isI x1 = true ∧ isI x2 = true ∧ isI x3 = false) := by
                cases q1 : isI x1 <;> cases q2 : isI x2 <;> cases q3 : isI x3 <;> simp_all
              have num : ∀ {w : V}, isI w = true → ∃ i : Int, w = .int i := fun {w} h => by
                cases w <;> first | exact ⟨_, rfl⟩ | cases h
              have odd_ : ∀ {w : V}, ElI K HL H14 w → isI w = false → OddI K HL H14 w := fun {w} e h => e.resolve_left fun ⟨i, z⟩ => by rw [z] at h; cases h
              have D16 : H16 D2 = some (.lst ([x1, x2, x3].filter fun w => !isI w)) := hD16
              rcases c3 with q1 | ⟨q1, q2⟩ | ⟨q1, q2, q3⟩
              · obtain ⟨tl, eF⟩ := flt1 q1
                have hF := D16
                rw [eF] at hF
                obtain ⟨g, dz, g1, g2, g3, g4, g5⟩ := odd_ e1 q1
                have dz16 := (dz.keep (fr_same HL H14)).keep s16
                have dzn : Dz K (ntb H16) x1 g := (dz.keep (fr_same HL H14) |>.keep s16) |> fun q => dz_ntb q
                have big : g.shown.length ≤ sizeLine := by have : 1000000 ≤ sizeLine := by rw [sizeLine_eq]; decide
                                                           omega
                refine site tb16 dzn g1 g2 big (fun E Hx Q' e out => ⟨_, rfl, l, _, 0, _, rfl, rfl, SqL.of (e _ _ hl16 (fun ps z => by cases z)), rfl, _, rfl, l, _, 1, _, rfl, rfl, SqL.of (e _ _ hl16 (fun ps z => by cases z)), rfl, _, rfl, l, _, 2, _, rfl, rfl, SqL.of (e _ _ hl16 (fun ps z => by cases z)), rfl, _, _, _, rfl, .inl ⟨g, (dzn.keep (ntb_ext e)).keep (ntb_same Hx), g5, out⟩⟩) fun t7 H17 e17 tb17 h17 => ?_
                have dz17 := (dzn.keep (ntb_ext e17)).keep (ntb_same H17)
                refine ⟨_, rfl, D2, _, 0, x1, rfl, rfl, SqL.of (e17 _ _ hF (fun ps z => by cases z)), at_zero, x1, g, rfl, dz17, g1, by omega, big, by show 2 ≤ sizeLine; decide, fun t8 n8 => ?_⟩
                have s8 := Same.new (o := .tup [.str "number", .str g.shown]) n8
                refine ⟨_, _, dp_two (s8 _ _ h17), dp_two upd_same, shaped_two ok_number g4, shaped_two ok_number g4, ?_⟩
                rw [eqv_two]
                exact k _ (((stt_ext (S14.same s16) e17).same s8).mono (by omega)) (tb17.ext s8)
              · obtain ⟨i1, rfl⟩ := num q1
                obtain ⟨tl, eF⟩ := flt2 q1 q2
                have hF := D16
                rw [eF] at hF
                obtain ⟨g, dz, g1, g2, g3, g4, g5⟩ := odd_ e2 q2
                have dz16 := (dz.keep (fr_same HL H14)).keep s16
                have dzn : Dz K (ntb H16) x2 g := (dz.keep (fr_same HL H14) |>.keep s16) |> fun q => dz_ntb q
                have big : g.shown.length ≤ sizeLine := by have : 1000000 ≤ sizeLine := by rw [sizeLine_eq]; decide
                                                           omega
                refine site tb16 dzn g1 g2 big (fun E Hx Q' e out => ⟨_, rfl, l, _, 0, _, rfl, rfl, SqL.of (e _ _ hl16 (fun ps z => by cases z)), rfl, _, rfl, l, _, 1, _, rfl, rfl, SqL.of (e _ _ hl16 (fun ps z => by cases z)), rfl, _, rfl, l, _, 2, _, rfl, rfl, SqL.of (e _ _ hl16 (fun ps z => by cases z)), rfl, _, _, _, rfl, .inr (.inl ⟨_, g, rfl, (dzn.keep (ntb_ext e)).keep (ntb_same Hx), g5, out⟩)⟩) fun t7 H17 e17 tb17 h17 => ?_
                have dz17 := (dzn.keep (ntb_ext e17)).keep (ntb_same H17)
                refine ⟨_, rfl, D2, _, 0, x2, rfl, rfl, SqL.of (e17 _ _ hF (fun ps z => by cases z)), at_zero, x2, g, rfl, dz17, g1, by omega, big, by show 2 ≤ sizeLine; decide, fun t8 n8 => ?_⟩
                have s8 := Same.new (o := .tup [.str "number", .str g.shown]) n8
                refine ⟨_, _, dp_two (s8 _ _ h17), dp_two upd_same, shaped_two ok_number g4, shaped_two ok_number g4, ?_⟩
                rw [eqv_two]
                exact k _ (((stt_ext (S14.same s16) e17).same s8).mono (by omega)) (tb17.ext s8)
              · obtain ⟨i1, rfl⟩ := num q1
                obtain ⟨i2, rfl⟩ := num q2
                obtain ⟨tl, eF⟩ := flt3 q1 q2 q3
                have hF := D16
                rw [eF] at hF
                obtain ⟨g, dz, g1, g2, g3, g4, g5⟩ := odd_ e3 q3
                have dz16 := (dz.keep (fr_same HL H14)).keep s16
                have dzn : Dz K (ntb H16) x3 g := (dz.keep (fr_same HL H14) |>.keep s16) |> fun q => dz_ntb q
                have big : g.shown.length ≤ sizeLine := by have : 1000000 ≤ sizeLine := by rw [sizeLine_eq]; decide
                                                           omega
                refine site tb16 dzn g1 g2 big (fun E Hx Q' e out => ⟨_, rfl, l, _, 0, _, rfl, rfl, SqL.of (e _ _ hl16 (fun ps z => by cases z)), rfl, _, rfl, l, _, 1, _, rfl, rfl, SqL.of (e _ _ hl16 (fun ps z => by cases z)), rfl, _, rfl, l, _, 2, _, rfl, rfl, SqL.of (e _ _ hl16 (fun ps z => by cases z)), rfl, _, _, _, rfl, .inr (.inr (.inl ⟨_, _, g, rfl, rfl, (dzn.keep (ntb_ext e)).keep (ntb_same Hx), g5, out⟩))⟩) fun t7 H17 e17 tb17 h17 => ?_
                have dz17 := (dzn.keep (ntb_ext e17)).keep (ntb_same H17)
                refine ⟨_, rfl, D2, _, 0, x3, rfl, rfl, SqL.of (e17 _ _ hF (fun ps z => by cases z)), at_zero, x3, g, rfl, dz17, g1, by omega, big, by show 2 ≤ sizeLine; decide, fun t8 n8 => ?_⟩
                have s8 := Same.new (o := .tup [.str "number", .str g.shown]) n8
                refine ⟨_, _, dp_two (s8 _ _ h17), dp_two upd_same, shaped_two ok_number g4, shaped_two ok_number g4, ?_⟩
                rw [eqv_two]
                exact k _ (((stt_ext (S14.same s16) e17).same s8).mono (by omega)) (tb17.ext s8)
        · refine ⟨_, rfl, rfl, true, congrArg V.bl (decide_eq_true (by rw [hm])), iteT ?_⟩
          refine ⟨_, rfl, rfl, false, congrArg V.bl (decide_eq_false (fun z => hd (V.int.inj z))), iteF ?_⟩
          try dsimp only [tNext, tSeq, tIfS, tTest, tOp]
          refine siteD tb3 (pd3_sh gy gm gd3) dep (pd3_len gy gm gd3) (fun E Hx Q' e out => ⟨_, rfl, _, rfl, _, rfl, _, _, _, rfl, .inr (.inr (.inr ⟨y, m, d, rfl, rfl, rfl, .inr ⟨D, out⟩⟩))⟩) fun t4 H4 e4 tb4 h4 => ?_
          have okT := ok_ints3 y m d
          refine ⟨_, rfl, _, _, dp_two h4, dp_two (e4 _ _ h2 (fun ps z => by cases z)), shaped_two ok_date okT, shaped_two ok_date okT, false, congrArg (fun z => V.bl (!z)) (eqv_two (a := Str.ofString "date") (t := (pd3 y m d).shown)), iteF ?_⟩
          try dsimp only [tNext, tSeq, tIfS, tTest, tOp]
          refine siteD tb4 (pd3_sh gy gm gd3) dep (pd3_len gy gm gd3) (fun E Hx Q' e out => ⟨_, rfl, _, rfl, _, rfl, rfl, _, _, _, rfl, .inr (.inr (.inr ⟨y, m, d, rfl, rfl, rfl, .inr ⟨D, out⟩⟩))⟩) fun t5 H5 e5 tb5 h5 => ?_
          refine ⟨_, rfl, _, _, dp_two h5, dp_two (e5 _ _ (e4 _ _ h2 (fun ps z => by cases z)) (fun ps z => by cases z)), shaped_two ok_date okT, shaped_two ok_date okT, false, congrArg (fun z => V.bl (!z)) (eqv_two (a := Str.ofString "date") (t := (pd3 y m d).shown)), iteF ?_⟩
          have S5 := stt_ext S3 (e4.trans e5)
          have E15 : ExtN H1 H5 := (Same.ext s3).trans (e4.trans e5)
          refine ⟨_, rfl, _, rfl, _, rfl, by show 3 ≤ sizeLine; decide, fun l nl => ?_⟩
          obtain ⟨u1, u2, u3, w1, w2, w3⟩ := S5.there
          have lp_ : l ≠ p := (ne_of_none w1 nl).symm
          have la : l ≠ a := (ne_of_none w2 nl).symm
          have lb : l ≠ b := (ne_of_none w3 nl).symm
          have sl := Same.new (o := .lst [.int y, .int m, .int d]) nl
          refine ⟨_, rfl, p, a, b, _, rfl, S5.same sl, by omega, fun v ee H7 it S7 B7 => ?_⟩
          refine ⟨by show 2 ≤ sizeLine; decide, fun q nq => ?_⟩
          refine ⟨q, _, rfl, SqT.of upd_same, rfl, _, _, rfl, _, _, rfl, rfl, ?_⟩
          obtain ⟨HL, hHL⟩ : ∃ HL, HL = upd H5 l (HO.lst [.int y, .int m, .int d]) := ⟨_, rfl⟩
          have hlL : HL l = some (.lst [.int y, .int m, .int d]) := by rw [hHL]; exact upd_same
          rw [← hHL] at it B7
          have SL : Stt p a b (n + 2) HL := by rw [hHL]; exact S5.same sl
          have tbL : Tabs T0 HL := by rw [hHL]; exact tb5.ext sl
          have sq := Same.new (o := .tup [.ref l, v]) nq
          have h7l := B7 l _ hlL lp_ la
          have S8 := S7.same sq
          have tb8 := (tabs_but tbL SL B7).ext sq
          have hP : ∀ {H' : Hp} {k : Nat}, Stt p a b k H' → H' p ≠ none ∧ H' a ≠ none := fun q => by
            obtain ⟨u1, u2, u3, w1, w2, _⟩ := q.there
            exact ⟨(by rw [w1]; exact fun z => nomatch z), by rw [w2]; exact fun z => nomatch z⟩
          have hLl : HL l ≠ none := by rw [hlL]; exact fun z => nomatch z
          have domB : ∀ {HA HB : Hp} {kA kB : Nat}, Stt p a b kB HB → But p a HA HB → (∀ c, HL c ≠ none → HA c ≠ none) → ∀ c, HL c ≠ none → HB c ≠ none := fun {HA HB kA kB} SB BB dom c z => by
            by_cases e1 : c = p
            · rw [e1]; exact (hP SB).1
            · by_cases e2 : c = a
              · rw [e2]; exact (hP SB).2
              · cases q : HA c with
                | none => exact absurd q (dom c z)
                | some o => rw [BB c o q e1 e2]; exact fun z => nomatch z
          have dom7 := domB (kA := 0) S7 B7 (fun c z => z)
          have w7 : OddI K HL (upd H7 q (.tup [.ref l, v])) v := ⟨ee, it.keep (fr_step fun c o e nn => sq c o e)⟩
          refine ⟨_, rfl, p, a, b, _, 3, rfl, S8, by omega, by decide, by decide, fun z H9 z0 z1 S9 B9 => ?_⟩
          have B89 : But p a H7 H9 := (But.of sq).trans B9
          have cnt : (1 + z).toNat ≤ 3 := by omega
          refine ⟨_, _, rfl, rfl, _, rfl, by omega, by omega, ?_⟩
          have pin : ∀ {HA HB : Hp}, But p a HA HB → Same (fr HL HA) (fr HL HB) := fun BB => fr_but BB (hP SL).1 (hP SL).2
          have put_ : ∀ {HA : Hp} {o : HO}, Same (fr HL HA) (fr HL (upd HA l o)) := fun {HA o} => fr_step fun c u e nn => by
            have nc : c ≠ l := fun z => hLl (by rw [← z]; exact nn)
            rw [upd_ne nc]
            exact e
          have domP : ∀ {HA : Hp} {o : HO}, (∀ c, HL c ≠ none → HA c ≠ none) → ∀ c, HL c ≠ none → upd HA l o c ≠ none := fun {HA o} dom c z => by
            by_cases e : c = l
            · rw [e, upd_same]; exact fun z => nomatch z
            · rw [upd_ne e]; exact dom c z
          refine for_range (n := (1 + z).toNat) (fun i σ H' => Stt p a b (n + 4 + 2 * i) H' ∧ Tabs T0 H' ∧ (∀ c, HL c ≠ none → H' c ≠ none) ∧ ∃ (x1 x2 x3 wv : V) (u7 : Option V), σ = [some (.ref p), some (.int y), some (.int m), some (.int d), some (.ref t2), some (.ref l), some wv, u7, none, none] ∧
              H' l = some (.lst [x1, x2, x3]) ∧ ElI K HL H' x1 ∧ ElI K HL H' x2 ∧ ElI K HL H' x3 ∧ OddI K HL H' wv ∧ (i = 0 ∨ (isI x1 && (isI x2 && isI x3)) = false))
            ⟨S9.mono (by omega), tabs_but tb8 S8 B9, domB (kA := 0) S9 B89 dom7, _, _, _, v, none, rfl, B89 l _ h7l lp_ la, .inl ⟨_, rfl⟩, .inl ⟨_, rfl⟩, .inl ⟨_, rfl⟩, w7.keep (pin B9), .inl rfl⟩ ?_ ?_
          · rintro i σ H10 hi ⟨Sx, tbx, dom, x1, x2, x3, wv, u7, rfl, hl, e1, e2, e3, ow, _⟩
            refine ⟨_, rfl, _, rfl, _, rfl, p, a, b, _, 3, rfl, Sx, by omega, by decide, by decide, fun j H11 j0 j1 S11 B11 => ?_⟩
            have h11 := B11 l _ hl lp_ la
            have jj : j = 0 ∨ j = 1 ∨ j = 2 := by omega
            have dom11 := domB (kA := 0) S11 B11 dom
            have tb11 := tabs_but tbx Sx B11
            rcases jj with rfl | rfl | rfl
            · refine ⟨l, [x1, x2, x3], 0, 0, rfl, rfl, h11, rfl, ?_⟩
              have f := (pin B11).trans (put_ (HA := H11) (o := .lst [wv, x2, x3]))
              have S12 := stt_put (o := .lst [wv, x2, x3]) S11 lp_ la lb
              refine ⟨_, rfl, p, a, b, _, rfl, S12, by omega, fun v2 g2 H13 it2 S13 B13 => ?_⟩
              have dom12 := domP (o := .lst [wv, x2, x3]) dom11
              exact ⟨S13.mono (by omega), tabs_but (Cf.Tabs.put tb11 h11) S12 B13, domB (kA := 0) S13 B13 dom12, wv, x2, x3, v2, _, rfl, B13 l _ upd_same lp_ la, .inr ((ow.keep f).keep (pin B13)), (e2.keep f).keep (pin B13), (e3.keep f).keep (pin B13), ⟨g2, it2.keep (fr_less dom12)⟩, .inr (by rw [ow.no]; simp)⟩
            · refine ⟨l, [x1, x2, x3], 1, 1, rfl, rfl, h11, rfl, ?_⟩
              have f := (pin B11).trans (put_ (HA := H11) (o := .lst [x1, wv, x3]))
              have S12 := stt_put (o := .lst [x1, wv, x3]) S11 lp_ la lb
              refine ⟨_, rfl, p, a, b, _, rfl, S12, by omega, fun v2 g2 H13 it2 S13 B13 => ?_⟩
              have dom12 := domP (o := .lst [x1, wv, x3]) dom11
              exact ⟨S13.mono (by omega), tabs_but (Cf.Tabs.put tb11 h11) S12 B13, domB (kA := 0) S13 B13 dom12, x1, wv, x3, v2, _, rfl, B13 l _ upd_same lp_ la, (e1.keep f).keep (pin B13), .inr ((ow.keep f).keep (pin B13)), (e3.keep f).keep (pin B13), ⟨g2, it2.keep (fr_less dom12)⟩, .inr (by rw [ow.no]; simp)⟩
            · refine ⟨l, [x1, x2, x3], 2, 2, rfl, rfl, h11, rfl, ?_⟩
              have f := (pin B11).trans (put_ (HA := H11) (o := .lst [x1, x2, wv]))
              have S12 := stt_put (o := .lst [x1, x2, wv]) S11 lp_ la lb
              refine ⟨_, rfl, p, a, b, _, rfl, S12, by omega, fun v2 g2 H13 it2 S13 B13 => ?_⟩
              have dom12 := domP (o := .lst [x1, x2, wv]) dom11
              exact ⟨S13.mono (by omega), tabs_but (Cf.Tabs.put tb11 h11) S12 B13, domB (kA := 0) S13 B13 dom12, x1, x2, wv, v2, _, rfl, B13 l _ upd_same lp_ la, (e1.keep f).keep (pin B13), (e2.keep f).keep (pin B13), .inr ((ow.keep f).keep (pin B13)), ⟨g2, it2.keep (fr_less dom12)⟩, .inr (by rw [ow.no]; simp)⟩
          · rintro σ H14 ⟨S14, tb14, dom, x1, x2, x3, wv, u7, rfl, hl, e1, e2, e3, ow, odd⟩
            have any : (isI x1 && (isI x2 && isI x3)) = false := odd.resolve_left (by omega)
            have els : ∀ w ∈ [x1, x2, x3], ElI K HL H14 w := fun w hw => by
              rcases List.mem_cons.mp hw with rfl | hw
              · exact e1
              · rcases List.mem_cons.mp hw with rfl | hw
                · exact e2
                · rw [List.mem_singleton.mp hw]; exact e3
            refine ⟨_, rfl, l, rfl, ⟨_, SqL.of hl⟩, fun D2 hD2 => ?_⟩
            refine lc_list (K := K) (a := l) (xs := [x1, x2, x3]) (fun j H' => Same H14 H' ∧ H' D2 = some (.lst (([x1, x2, x3].take j).filter fun w => !isI w))) ⟨Same.new hD2, upd_same⟩ (fun i H' _ ⟨sx, _⟩ => SqL.of (sx _ _ hl)) ?_ ?_
            · rintro j w H15 hj ⟨s15, hD15⟩
              have hlt := lt_of_get hj
              have ew := els w (List.mem_of_getElem? hj)
              have step : ([x1, x2, x3].take (j + 1)).filter (fun w => !isI w) = ([x1, x2, x3].take j).filter (fun w => !isI w) ++ (if isI w then [] else [w]) := by
                rw [List.take_succ, hj, List.filter_append, filter_one]
              refine ⟨rfl, ?_⟩
              rcases ew with ⟨i, rfl⟩ | ow2
              · refine ⟨_, rfl, _, _, _, _, true, rfl, .ty "int", .base (.int _), kit_ty (by decide +kernel), true, rfl, iteF ?_⟩
                refine ⟨_, rfl, _, _, _, _, false, rfl, .ty "bool", .base (.int _), kit_ty (by decide +kernel), false, rfl, ?_⟩
                refine iteFF rfl ⟨s15, ?_⟩
                rw [step]
                simpa [isI] using hD15
              · have nw := ow2.no
                obtain ⟨g, dz, g1, g2, g3, g4, g5⟩ := ow2
                have dz15 := (dz.keep (fr_same HL H14)).keep s15
                obtain ⟨tn, bi, bb, ty, q1, q2, q3⟩ := dz_ty dz15 g5
                refine ⟨_, rfl, _, _, _, _, bi, rfl, .ty "int", ty, kit_ty q1, bi, rfl, ?_⟩
                have done : ∃ acc, H15 D2 = some (HO.lst acc) ∧ acc.length < sizeLine ∧ Same H14 (upd H15 D2 (.lst (acc ++ [w]))) ∧ upd H15 D2 (.lst (acc ++ [w])) D2 = some (.lst (([x1, x2, x3].take (j + 1)).filter fun w => !isI w)) :=
                  ⟨_, hD15, few_filter j x1 x2 x3, s15.wr hD2, by rw [upd_same, step, nw]; rfl⟩
                cases bi with
                | false => exact iteTT rfl (iteTT rfl ⟨_, rfl, done⟩)
                | true =>
                  rw [Bool.true_and] at q3
                  have q4 : bb = true := by cases bb <;> first | rfl | exact absurd q3 (by decide)
                  subst q4
                  refine iteFF rfl ⟨_, rfl, _, _, _, _, true, rfl, .ty "bool", ty, kit_ty q2, true, rfl, ?_⟩
                  exact iteTT rfl ⟨_, rfl, done⟩
            · rintro H16 ⟨s16, hD16⟩
              have tb16 := tb14.ext s16
              have hl16 := s16 _ _ hl
              have c3 : isI x1 = false ∨ (isI x1 = true ∧ isI x2 = false) ∨ (isI x1 = true ∧ isI x2 = true ∧ isI x3 = false) := by
                cases q1 : isI x1 <;> cases q2 : isI x2 <;> cases q3 : isI x3 <;> simp_all
              have num : ∀ {w : V}, isI w = true → ∃ i : Int, w = .int i := fun {w} h => by
                cases w <;> first | exact ⟨_, rfl⟩ | cases h
              have odd_ : ∀ {w : V}, ElI K HL H14 w → isI w = false → OddI K HL H14 w := fun {w} e h => e.resolve_left fun ⟨i, z⟩ => by rw [z] at h; cases h
              have D16 : H16 D2 = some (.lst ([x1, x2, x3].filter fun w => !isI w)) := hD16
              rcases c3 with q1 | ⟨q1, q2⟩ | ⟨q1, q2, q3⟩
              · obtain ⟨tl, eF⟩ := flt1 q1
                have hF := D16
                rw [eF] at hF
                obtain ⟨g, dz, g1, g2, g3, g4, g5⟩ := odd_ e1 q1
                have dz16 := (dz.keep (fr_same HL H14)).keep s16
                have dzn : Dz K (ntb H16) x1 g := (dz.keep (fr_same HL H14) |>.keep s16) |> fun q => dz_ntb q
                have big : g.shown.length ≤ sizeLine := by have : 1000000 ≤ sizeLine := by rw [sizeLine_eq]; decide
                                                           omega
                refine site tb16 dzn g1 g2 big (fun E Hx Q' e out => ⟨_, rfl, l, _, 0, _, rfl, rfl, SqL.of (e _ _ hl16 (fun ps z => by cases z)), rfl, _, rfl, l, _, 1, _, rfl, rfl, SqL.of (e _ _ hl16 (fun ps z => by cases z)), rfl, _, rfl, l, _, 2, _, rfl, rfl, SqL.of (e _ _ hl16 (fun ps z => by cases z)), rfl, _, _, _, rfl, .inl ⟨g, (dzn.keep (ntb_ext e)).keep (ntb_same Hx), g5, out⟩⟩) fun t7 H17 e17 tb17 h17 => ?_
                have dz17 := (dzn.keep (ntb_ext e17)).keep (ntb_same H17)
                refine ⟨_, rfl, D2, _, 0, x1, rfl, rfl, SqL.of (e17 _ _ hF (fun ps z => by cases z)), at_zero, x1, g, rfl, dz17, g1, by omega, big, by show 2 ≤ sizeLine; decide, fun t8 n8 => ?_⟩
                have s8 := Same.new (o := .tup [.str "number", .str g.shown]) n8
                refine ⟨_, _, dp_two (s8 _ _ h17), dp_two upd_same, shaped_two ok_number g4, shaped_two ok_number g4, ?_⟩
                rw [eqv_two]
                exact k _ (((stt_ext (S14.same s16) e17).same s8).mono (by omega)) (tb17.ext s8)
              · obtain ⟨i1, rfl⟩ := num q1
                obtain ⟨tl, eF⟩ := flt2 q1 q2
                have hF := D16
                rw [eF] at hF
                obtain ⟨g, dz, g1, g2, g3, g4, g5⟩ := odd_ e2 q2
                have dz16 := (dz.keep (fr_same HL H14)).keep s16
                have dzn : Dz K (ntb H16) x2 g := (dz.keep (fr_same HL H14) |>.keep s16) |> fun q => dz_ntb q
                have big : g.shown.length ≤ sizeLine := by have : 1000000 ≤ sizeLine := by rw [sizeLine_eq]; decide
                                                           omega
                refine site tb16 dzn g1 g2 big (fun E Hx Q' e out => ⟨_, rfl, l, _, 0, _, rfl, rfl, SqL.of (e _ _ hl16 (fun ps z => by cases z)), rfl, _, rfl, l, _, 1, _, rfl, rfl, SqL.of (e _ _ hl16 (fun ps z => by cases z)), rfl, _, rfl, l, _, 2, _, rfl, rfl, SqL.of (e _ _ hl16 (fun ps z => by cases z)), rfl, _, _, _, rfl, .inr (.inl ⟨_, g, rfl, (dzn.keep (ntb_ext e)).keep (ntb_same Hx), g5, out⟩)⟩) fun t7 H17 e17 tb17 h17 => ?_
                have dz17 := (dzn.keep (ntb_ext e17)).keep (ntb_same H17)
                refine ⟨_, rfl, D2, _, 0, x2, rfl, rfl, SqL.of (e17 _ _ hF (fun ps z => by cases z)), at_zero, x2, g, rfl, dz17, g1, by omega, big, by show 2 ≤ sizeLine; decide, fun t8 n8 => ?_⟩
                have s8 := Same.new (o := .tup [.str "number", .str g.shown]) n8
                refine ⟨_, _, dp_two (s8 _ _ h17), dp_two upd_same, shaped_two ok_number g4, shaped_two ok_number g4, ?_⟩
                rw [eqv_two]
                exact k _ (((stt_ext (S14.same s16) e17).same s8).mono (by omega)) (tb17.ext s8)
              · obtain ⟨i1, rfl⟩ := num q1
                obtain ⟨i2, rfl⟩ := num q2
                obtain ⟨tl, eF⟩ := flt3 q1 q2 q3
                have hF := D16
                rw [eF] at hF
                obtain ⟨g, dz, g1, g2, g3, g4, g5⟩ := odd_ e3 q3
                have dz16 := (dz.keep (fr_same HL H14)).keep s16
                have dzn : Dz K (ntb H16) x3 g := (dz.keep (fr_same HL H14) |>.keep s16) |> fun q => dz_ntb q
                have big : g.shown.length ≤ sizeLine := by have : 1000000 ≤ sizeLine := by rw [sizeLine_eq]; decide
                                                           omega
                refine site tb16 dzn g1 g2 big (fun E Hx Q' e out => ⟨_, rfl, l, _, 0, _, rfl, rfl, SqL.of (e _ _ hl16 (fun ps z => by cases z)), rfl, _, rfl, l, _, 1, _, rfl, rfl, SqL.of (e _ _ hl16 (fun ps z => by cases z)), rfl, _, rfl, l, _, 2, _, rfl, rfl, SqL.of (e _ _ hl16 (fun ps z => by cases z)), rfl, _, _, _, rfl, .inr (.inr (.inl ⟨_, _, g, rfl, rfl, (dzn.keep (ntb_ext e)).keep (ntb_same Hx), g5, out⟩))⟩) fun t7 H17 e17 tb17 h17 => ?_
                have dz17 := (dzn.keep (ntb_ext e17)).keep (ntb_same H17)
                refine ⟨_, rfl, D2, _, 0, x3, rfl, rfl, SqL.of (e17 _ _ hF (fun ps z => by cases z)), at_zero, x3, g, rfl, dz17, g1, by omega, big, by show 2 ≤ sizeLine; decide, fun t8 n8 => ?_⟩
                have s8 := Same.new (o := .tup [.str "number", .str g.shown]) n8
                refine ⟨_, _, dp_two (s8 _ _ h17), dp_two upd_same, shaped_two ok_number g4, shaped_two ok_number g4, ?_⟩
                rw [eqv_two]
                exact k _ (((stt_ext (S14.same s16) e17).same s8).mono (by omega)) (tb17.ext s8)
      · refine ⟨_, rfl, rfl, false, congrArg V.bl (decide_eq_false (fun z => hm (V.int.inj z))), iteF ?_⟩
        try dsimp only [tNext, tSeq, tIfS, tTest, tOp]
        refine siteD tb3 (pd3_sh gy gm gd3) dep (pd3_len gy gm gd3) (fun E Hx Q' e out => ⟨_, rfl, _, rfl, _, rfl, _, _, _, rfl, .inr (.inr (.inr ⟨y, m, d, rfl, rfl, rfl, .inr ⟨D, out⟩⟩))⟩) fun t4 H4 e4 tb4 h4 => ?_
        have okT := ok_ints3 y m d
        refine ⟨_, rfl, _, _, dp_two h4, dp_two (e4 _ _ h2 (fun ps z => by cases z)), shaped_two ok_date okT, shaped_two ok_date okT, false, congrArg (fun z => V.bl (!z)) (eqv_two (a := Str.ofString "date") (t := (pd3 y m d).shown)), iteF ?_⟩
        try dsimp only [tNext, tSeq, tIfS, tTest, tOp]
        refine siteD tb4 (pd3_sh gy gm gd3) dep (pd3_len gy gm gd3) (fun E Hx Q' e out => ⟨_, rfl, _, rfl, _, rfl, rfl, _, _, _, rfl, .inr (.inr (.inr ⟨y, m, d, rfl, rfl, rfl, .inr ⟨D, out⟩⟩))⟩) fun t5 H5 e5 tb5 h5 => ?_
        refine ⟨_, rfl, _, _, dp_two h5, dp_two (e5 _ _ (e4 _ _ h2 (fun ps z => by cases z)) (fun ps z => by cases z)), shaped_two ok_date okT, shaped_two ok_date okT, false, congrArg (fun z => V.bl (!z)) (eqv_two (a := Str.ofString "date") (t := (pd3 y m d).shown)), iteF ?_⟩
        have S5 := stt_ext S3 (e4.trans e5)
        have E15 : ExtN H1 H5 := (Same.ext s3).trans (e4.trans e5)
        refine ⟨_, rfl, _, rfl, _, rfl, by show 3 ≤ sizeLine; decide, fun l nl => ?_⟩
        obtain ⟨u1, u2, u3, w1, w2, w3⟩ := S5.there
        have lp_ : l ≠ p := (ne_of_none w1 nl).symm
        have la : l ≠ a := (ne_of_none w2 nl).symm
        have lb : l ≠ b := (ne_of_none w3 nl).symm
        have sl := Same.new (o := .lst [.int y, .int m, .int d]) nl
        refine ⟨_, rfl, p, a, b, _, rfl, S5.same sl, by omega, fun v ee H7 it S7 B7 => ?_⟩
        refine ⟨by show 2 ≤ sizeLine; decide, fun q nq => ?_⟩
        refine ⟨q, _, rfl, SqT.of upd_same, rfl, _, _, rfl, _, _, rfl, rfl, ?_⟩
        obtain ⟨HL, hHL⟩ : ∃ HL, HL = upd H5 l (HO.lst [.int y, .int m, .int d]) := ⟨_, rfl⟩
        have hlL : HL l = some (.lst [.int y, .int m, .int d]) := by rw [hHL]; exact upd_same
        rw [← hHL] at it B7
        have SL : Stt p a b (n + 2) HL := by rw [hHL]; exact S5.same sl
        have tbL : Tabs T0 HL := by rw [hHL]; exact tb5.ext sl
        have sq := Same.new (o := .tup [.ref l, v]) nq
        have h7l := B7 l _ hlL lp_ la
        have S8 := S7.same sq
        have tb8 := (tabs_but tbL SL B7).ext sq
        have hP : ∀ {H' : Hp} {k : Nat}, Stt p a b k H' → H' p ≠ none ∧ H' a ≠ none := fun q => by
          obtain ⟨u1, u2, u3, w1, w2, _⟩ := q.there
          exact ⟨(by rw [w1]; exact fun z => nomatch z), by rw [w2]; exact fun z => nomatch z⟩
        have hLl : HL l ≠ none := by rw [hlL]; exact fun z => nomatch z
        have domB : ∀ {HA HB : Hp} {kA kB : Nat}, Stt p a b kB HB → But p a HA HB → (∀ c, HL c ≠ none → HA c ≠ none) → ∀ c, HL c ≠ none → HB c ≠ none := fun {HA HB kA kB} SB BB dom c z => by
          by_cases e1 : c = p
          · rw [e1]; exact (hP SB).1
          · by_cases e2 : c = a
            · rw [e2]; exact (hP SB).2
            · cases q : HA c with
              | none => exact absurd q (dom c z)
              | some o => rw [BB c o q e1 e2]; exact fun z => nomatch z
        have dom7 := domB (kA := 0) S7 B7 (fun c z => z)
        have w7 : OddI K HL (upd H7 q (.tup [.ref l, v])) v := ⟨ee, it.keep (fr_step fun c o e nn => sq c o e)⟩
        refine ⟨_, rfl, p, a, b, _, 3, rfl, S8, by omega, by decide, by decide, fun z H9 z0 z1 S9 B9 => ?_⟩
        have B89 : But p a H7 H9 := (But.of sq).trans B9
        have cnt : (1 + z).toNat ≤ 3 := by omega
        refine ⟨_, _, rfl, rfl, _, rfl, by omega, by omega, ?_⟩
        have pin : ∀ {HA HB : Hp}, But p a HA HB → Same (fr HL HA) (fr HL HB) := fun BB => fr_but BB (hP SL).1 (hP SL).2
        have put_ : ∀ {HA : Hp} {o : HO}, Same (fr HL HA) (fr HL (upd HA l o)) := fun {HA o} => fr_step fun c u e nn => by
          have nc : c ≠ l := fun z => hLl (by rw [← z]; exact nn)
          rw [upd_ne nc]
          exact e
        have domP : ∀ {HA : Hp} {o : HO}, (∀ c, HL c ≠ none → HA c ≠ none) → ∀ c, HL c ≠ none → upd HA l o c ≠ none := fun {HA o} dom c z => by
          by_cases e : c = l
          · rw [e, upd_same]; exact fun z => nomatch z
          · rw [upd_ne e]; exact dom c z
        refine for_range (n := (1 + z).toNat) (fun i σ H' => Stt p a b (n + 4 + 2 * i) H' ∧ Tabs T0 H' ∧ (∀ c, HL c ≠ none → H' c ≠ none) ∧ ∃ (x1 x2 x3 wv : V) (u7 : Option V), σ = [some (.ref p), some (.int y), some (.int m), some (.int d), some (.ref t2), some (.ref l), some wv, u7, none, none] ∧
            H' l = some (.lst [x1, x2, x3]) ∧ ElI K HL H' x1 ∧ ElI K HL H' x2 ∧ ElI K HL H' x3 ∧ OddI K HL H' wv ∧ (i = 0 ∨ (isI x1 && (isI x2 && isI x3)) = false))
          ⟨S9.mono (by omega), tabs_but tb8 S8 B9, domB (kA := 0) S9 B89 dom7, _, _, _, v, none, rfl, B89 l _ h7l lp_ la, .inl ⟨_, rfl⟩, .inl ⟨_, rfl⟩, .inl ⟨_, rfl⟩, w7.keep (pin B9), .inl rfl⟩ ?_ ?_
        · rintro i σ H10 hi ⟨Sx, tbx, dom, x1, x2, x3, wv, u7, rfl, hl, e1, e2, e3, ow, _⟩
          refine ⟨_, rfl, _, rfl, _, rfl, p, a, b, _, 3, rfl, Sx, by omega, by decide, by decide, fun j H11 j0 j1 S11 B11 => ?_⟩
          have h11 := B11 l _ hl lp_ la
          have jj : j = 0 ∨ j = 1 ∨ j = 2 := by omega
          have dom11 := domB (kA := 0) S11 B11 dom
          have tb11 := tabs_but tbx Sx B11
          rcases jj with rfl | rfl | rfl
          · refine ⟨l, [x1, x2, x3], 0, 0, rfl, rfl, h11, rfl, ?_⟩
            have f := (pin B11).trans (put_ (HA := H11) (o := .lst [wv, x2, x3]))
            have S12 := stt_put (o := .lst [wv, x2, x3]) S11 lp_ la lb
            refine ⟨_, rfl, p, a, b, _, rfl, S12, by omega, fun v2 g2 H13 it2 S13 B13 => ?_⟩
            have dom12 := domP (o := .lst [wv, x2, x3]) dom11
            exact ⟨S13.mono (by omega), tabs_but (Cf.Tabs.put tb11 h11) S12 B13, domB (kA := 0) S13 B13 dom12, wv, x2, x3, v2, _, rfl, B13 l _ upd_same lp_ la, .inr ((ow.keep f).keep (pin B13)), (e2.keep f).keep (pin B13), (e3.keep f).keep (pin B13), ⟨g2, it2.keep (fr_less dom12)⟩, .inr (by rw [ow.no]; simp)⟩
          · refine ⟨l, [x1, x2, x3], 1, 1, rfl, rfl, h11, rfl, ?_⟩
            have f := (pin B11).trans (put_ (HA := H11) (o := .lst [x1, wv, x3]))
            have S12 := stt_put (o := .lst [x1, wv, x3]) S11 lp_ la lb
            refine ⟨_, rfl, p, a, b, _, rfl, S12, by omega, fun v2 g2 H13 it2 S13 B13 => ?_⟩
            have dom12 := domP (o := .lst [x1, wv, x3]) dom11
            exact ⟨S13.mono (by omega), tabs_but (Cf.Tabs.put tb11 h11) S12 B13, domB (kA := 0) S13 B13 dom12, x1, wv, x3, v2, _, rfl, B13 l _ upd_same lp_ la, (e1.keep f).keep (pin B13), .inr ((ow.keep f).keep (pin B13)), (e3.keep f).keep (pin B13), ⟨g2, it2.keep (fr_less dom12)⟩, .inr (by rw [ow.no]; simp)⟩
          · refine ⟨l, [x1, x2, x3], 2, 2, rfl, rfl, h11, rfl, ?_⟩
            have f := (pin B11).trans (put_ (HA := H11) (o := .lst [x1, x2, wv]))
            have S12 := stt_put (o := .lst [x1, x2, wv]) S11 lp_ la lb
            refine ⟨_, rfl, p, a, b, _, rfl, S12, by omega, fun v2 g2 H13 it2 S13 B13 => ?_⟩
            have dom12 := domP (o := .lst [x1, x2, wv]) dom11
            exact ⟨S13.mono (by omega), tabs_but (Cf.Tabs.put tb11 h11) S12 B13, domB (kA := 0) S13 B13 dom12, x1, x2, wv, v2, _, rfl, B13 l _ upd_same lp_ la, (e1.keep f).keep (pin B13), (e2.keep f).keep (pin B13), .inr ((ow.keep f).keep (pin B13)), ⟨g2, it2.keep (fr_less dom12)⟩, .inr (by rw [ow.no]; simp)⟩
        · rintro σ H14 ⟨S14, tb14, dom, x1, x2, x3, wv, u7, rfl, hl, e1, e2, e3, ow, odd⟩
          have any : (isI x1 && (isI x2 && isI x3)) = false := odd.resolve_left (by omega)
          have els : ∀ w ∈ [x1, x2, x3], ElI K HL H14 w := fun w hw => by
            rcases List.mem_cons.mp hw with rfl | hw
            · exact e1
            · rcases List.mem_cons.mp hw with rfl | hw
              · exact e2
              · rw [List.mem_singleton.mp hw]; exact e3
          refine ⟨_, rfl, l, rfl, ⟨_, SqL.of hl⟩, fun D2 hD2 => ?_⟩
          refine lc_list (K := K) (a := l) (xs := [x1, x2, x3]) (fun j H' => Same H14 H' ∧ H' D2 = some (.lst (([x1, x2, x3].take j).filter fun w => !isI w))) ⟨Same.new hD2, upd_same⟩ (fun i H' _ ⟨sx, _⟩ => SqL.of (sx _ _ hl)) ?_ ?_
          · rintro j w H15 hj ⟨s15, hD15⟩
            have hlt := lt_of_get hj
            have ew := els w (List.mem_of_getElem? hj)
            have step : ([x1, x2, x3].take (j + 1)).filter (fun w => !isI w) = ([x1, x2, x3].take j).filter (fun w => !isI w) ++ (if isI w then [] else [w]) := by
              rw [List.take_succ, hj, List.filter_append, filter_one]
            refine ⟨rfl, ?_⟩
            rcases ew with ⟨i, rfl⟩ | ow2
            · refine ⟨_, rfl, _, _, _, _, true, rfl, .ty "int", .base (.int _), kit_ty (by decide +kernel), true, rfl, iteF ?_⟩
              refine ⟨_, rfl, _, _, _, _, false, rfl, .ty "bool", .base (.int _), kit_ty (by decide +kernel), false, rfl, ?_⟩
              refine iteFF rfl ⟨s15, ?_⟩
              rw [step]
              simpa [isI] using hD15
            · have nw := ow2.no
              obtain ⟨g, dz, g1, g2, g3, g4, g5⟩ := ow2
              have dz15 := (dz.keep (fr_same HL H14)).keep s15
              obtain ⟨tn, bi, bb, ty, q1, q2, q3⟩ := dz_ty dz15 g5
              refine ⟨_, rfl, _, _, _, _, bi, rfl, .ty "int", ty, kit_ty q1, bi, rfl, ?_⟩
              have done : ∃ acc, H15 D2 = some (HO.lst acc) ∧ acc.length < sizeLine ∧ Same H14 (upd H15 D2 (.lst (acc ++ [w]))) ∧ upd H15 D2 (.lst (acc ++ [w])) D2 = some (.lst (([x1, x2, x3].take (j + 1)).filter fun w => !isI w)) :=
                ⟨_, hD15, few_filter j x1 x2 x3, s15.wr hD2, by rw [upd_same, step, nw]; rfl⟩
              cases bi with
              | false => exact iteTT rfl (iteTT rfl ⟨_, rfl, done⟩)
              | true =>
                rw [Bool.true_and] at q3
                have q4 : bb = true := by cases bb <;> first | rfl | exact absurd q3 (by decide)
                subst q4
                refine iteFF rfl ⟨_, rfl, _, _, _, _, true, rfl, .ty "bool", ty, kit_ty q2, true, rfl, ?_⟩
                exact iteTT rfl ⟨_, rfl, done⟩
          · rintro H16 ⟨s16, hD16⟩
            have tb16 := tb14.ext s16
            have hl16 := s16 _ _ hl
            have c3 : isI x1 = false ∨ (isI x1 = true ∧ isI x2 = false) ∨ (isI x1 = true ∧ isI x2 = true ∧ isI x3 = false) := by
              cases q1 : isI x1 <;> cases q2 : isI x2 <;> cases q3 : isI x3 <;> simp_all
            have num : ∀ {w : V}, isI w = true → ∃ i : Int, w = .int i := fun {w} h => by
              cases w <;> first | exact ⟨_, rfl⟩ | cases h
            have odd_ : ∀ {w : V}, ElI K HL H14 w → isI w = false → OddI K HL H14 w := fun {w} e h => e.resolve_left fun ⟨i, z⟩ => by rw [z] at h; cases h
            have D16 : H16 D2 = some (.lst ([x1, x2, x3].filter fun w => !isI w)) := hD16
            rcases c3 with q1 | ⟨q1, q2⟩ | ⟨q1, q2, q3⟩
            · obtain ⟨tl, eF⟩ := flt1 q1
              have hF := D16
              rw [eF] at hF
              obtain ⟨g, dz, g1, g2, g3, g4, g5⟩ := odd_ e1 q1
              have dz16 := (dz.keep (fr_same HL H14)).keep s16
              have dzn : Dz K (ntb H16) x1 g := (dz.keep (fr_same HL H14) |>.keep s16) |> fun q => dz_ntb q
              have big : g.shown.length ≤ sizeLine := by have : 1000000 ≤ sizeLine := by rw [sizeLine_eq]; decide
                                                         omega
              refine site tb16 dzn g1 g2 big (fun E Hx Q' e out => ⟨_, rfl, l, _, 0, _, rfl, rfl, SqL.of (e _ _ hl16 (fun ps z => by cases z)), rfl, _, rfl, l, _, 1, _, rfl, rfl, SqL.of (e _ _ hl16 (fun ps z => by cases z)), rfl, _, rfl, l, _, 2, _, rfl, rfl, SqL.of (e _ _ hl16 (fun ps z => by cases z)), rfl, _, _, _, rfl, .inl ⟨g, (dzn.keep (ntb_ext e)).keep (ntb_same Hx), g5, out⟩⟩) fun t7 H17 e17 tb17 h17 => ?_
              have dz17 := (dzn.keep (ntb_ext e17)).keep (ntb_same H17)
              refine ⟨_, rfl, D2, _, 0, x1, rfl, rfl, SqL.of (e17 _ _ hF (fun ps z => by cases z)), at_zero, x1, g, rfl, dz17, g1, by omega, big, by show 2 ≤ sizeLine; decide, fun t8 n8 => ?_⟩
              have s8 := Same.new (o := .tup [.str "number", .str g.shown]) n8
              refine ⟨_, _, dp_two (s8 _ _ h17), dp_two upd_same, shaped_two ok_number g4, shaped_two ok_number g4, ?_⟩
              rw [eqv_two]
              exact k _ (((stt_ext (S14.same s16) e17).same s8).mono (by omega)) (tb17.ext s8)
            · obtain ⟨i1, rfl⟩ := num q1
              obtain ⟨tl, eF⟩ := flt2 q1 q2
              have hF := D16
              rw [eF] at hF
              obtain ⟨g, dz, g1, g2, g3, g4, g5⟩ := odd_ e2 q2
              have dz16 := (dz.keep (fr_same HL H14)).keep s16
              have dzn : Dz K (ntb H16) x2 g := (dz.keep (fr_same HL H14) |>.keep s16) |> fun q => dz_ntb q
              have big : g.shown.length ≤ sizeLine := by have : 1000000 ≤ sizeLine := by rw [sizeLine_eq]; decide
                                                         omega
              refine site tb16 dzn g1 g2 big (fun E Hx Q' e out => ⟨_, rfl, l, _, 0, _, rfl, rfl, SqL.of (e _ _ hl16 (fun ps z => by cases z)), rfl, _, rfl, l, _, 1, _, rfl, rfl, SqL.of (e _ _ hl16 (fun ps z => by cases z)), rfl, _, rfl, l, _, 2, _, rfl, rfl, SqL.of (e _ _ hl16 (fun ps z => by cases z)), rfl, _, _, _, rfl, .inr (.inl ⟨_, g, rfl, (dzn.keep (ntb_ext e)).keep (ntb_same Hx), g5, out⟩)⟩) fun t7 H17 e17 tb17 h17 => ?_
              have dz17 := (dzn.keep (ntb_ext e17)).keep (ntb_same H17)
              refine ⟨_, rfl, D2, _, 0, x2, rfl, rfl, SqL.of (e17 _ _ hF (fun ps z => by cases z)), at_zero, x2, g, rfl, dz17, g1, by omega, big, by show 2 ≤ sizeLine; decide, fun t8 n8 => ?_⟩
              have s8 := Same.new (o := .tup [.str "number", .str g.shown]) n8
              refine ⟨_, _, dp_two (s8 _ _ h17), dp_two upd_same, shaped_two ok_number g4, shaped_two ok_number g4, ?_⟩
              rw [eqv_two]
              exact k _ (((stt_ext (S14.same s16) e17).same s8).mono (by omega)) (tb17.ext s8)
            · obtain ⟨i1, rfl⟩ := num q1
              obtain ⟨i2, rfl⟩ := num q2
              obtain ⟨tl, eF⟩ := flt3 q1 q2 q3
              have hF := D16
              rw [eF] at hF
              obtain ⟨g, dz, g1, g2, g3, g4, g5⟩ := odd_ e3 q3
              have dz16 := (dz.keep (fr_same HL H14)).keep s16
              have dzn : Dz K (ntb H16) x3 g := (dz.keep (fr_same HL H14) |>.keep s16) |> fun q => dz_ntb q
              have big : g.shown.length ≤ sizeLine := by have : 1000000 ≤ sizeLine := by rw [sizeLine_eq]; decide
                                                         omega
              refine site tb16 dzn g1 g2 big (fun E Hx Q' e out => ⟨_, rfl, l, _, 0, _, rfl, rfl, SqL.of (e _ _ hl16 (fun ps z => by cases z)), rfl, _, rfl, l, _, 1, _, rfl, rfl, SqL.of (e _ _ hl16 (fun ps z => by cases z)), rfl, _, rfl, l, _, 2, _, rfl, rfl, SqL.of (e _ _ hl16 (fun ps z => by cases z)), rfl, _, _, _, rfl, .inr (.inr (.inl ⟨_, _, g, rfl, rfl, (dzn.keep (ntb_ext e)).keep (ntb_same Hx), g5, out⟩))⟩) fun t7 H17 e17 tb17 h17 => ?_
              have dz17 := (dzn.keep (ntb_ext e17)).keep (ntb_same H17)
              refine ⟨_, rfl, D2, _, 0, x3, rfl, rfl, SqL.of (e17 _ _ hF (fun ps z => by cases z)), at_zero, x3, g, rfl, dz17, g1, by omega, big, by show 2 ≤ sizeLine; decide, fun t8 n8 => ?_⟩
              have s8 := Same.new (o := .tup [.str "number", .str g.shown]) n8
              refine ⟨_, _, dp_two (s8 _ _ h17), dp_two upd_same, shaped_two ok_number g4, shaped_two ok_number g4, ?_⟩
              rw [eqv_two]
              exact k _ (((stt_ext (S14.same s16) e17).same s8).mono (by omega)) (tb17.ext s8)
end
end Cf
namespace Cf
open PySem L2
section
open LamX
variable {P : Program} {w : World} {K : PySem.W.Frag} {mg : Str → Option Value} {base : Heap}
/-! ### law -/
def spLawT (K : PySem.W.Frag) (T0 : List (Addr × Str)) : Sp := fun vs H Q _ => ∃ (l : Addr) (ns : List Int), vs = [.ref l] ∧ SqL K H l (ns.map V.int) ∧ ns.length ≤ 63 ∧ Tabs T0 H ∧ ∀ H', Q (.bl true) H'
theorem scLaw : FnScope ["script", "state", "turn", "odd", "one_year"] ["script"] (defScope sLaw) := ⟨rfl, rfl, rfl, by decide +kernel, rfl, by decide +kernel, by decide +kernel⟩
theorem ok_law {T0 : List (Addr × Str)} {f : Addr} {fd : FuncData} (F : Fun K "law" "law" sLaw f fd) (T : Nm mg) (DB : Df P w K mg base 1 "_law_begun" ["script"] [] (spBegun K)) (DS : Df P w K mg base 3 "_law_some_year" ["state"] [] spSome) (DO : Df P w K mg base 4 "_law_odd" ["state"] [] (spOdd K))
    (DN : Df P w K mg base 1 "is_number" ["value"] [] (spIsNumV K)) (KN : Dk P w K mg base 1 "is_number" ["value"] ["value"] one1 (spIsNumV K)) (DR : Dg P w K mg base 7 "_law_simple_right" ["odd"] [] (spSimple K T0)) (DD : Dg P w K mg base 8 "_law_date_right" ["state", "one_year"] [] (spDr K T0)) :
    FnG P w K mg base CX0 9 f fd ["script"] (spLawT K T0) := by
  refine funG F scLaw (fun vs H Q E h => ?_) (fun cdv A gd outer s H vs Q E hr h => ?_)
  · obtain ⟨l, ns, rfl, _⟩ := h
    rfl
  · obtain ⟨l, ns, rfl, hS, hlen, tb, k⟩ := h
    have nd := scLaw.nd
    have hr1 : Room 1 _ := hr.mono (by decide)
    have hr3 : Room 3 _ := hr.mono (by decide)
    have hr4 : Room 4 _ := hr.mono (by decide)
    have hr7 : Room 7 _ := hr.mono (by decide)
    refine ⟨_, pss_cons (ps_set (i := 1) nd rfl (Or.inl rfl) (pe_df DB hr1 (pa_cons (pv 0) pa_nil)))
      (pss_cons (ps_for PassesOwn.never rfl (pi_range1 rfl T.range (pa_cons (pe_op op_add pe_int (pe_callB (call_min2 rfl) (by rfl) T.min (by decide +kernel) (pa_cons (pe_callB call_len_seq (by rfl) T.len PySem.boot_len (pa_cons (pv 0) pa_nil)) (pa_cons pe_int pa_nil)))) pa_nil)) (pg_name (i := 2) nd rfl (Or.inl rfl))
        (pss_cons (ps_par (i := 3) (j := 4) (by rfl) nd rfl rfl (by decide) rfl rfl (pa_cons (pe_df DO hr4 (pa_cons (pv 1) pa_nil)) (pa_cons (pe_df DS hr3 (pa_cons (pv 1) pa_nil)) pa_nil)) (by rfl))
        (pss_cons (ps_if (PW.pt (pw_or (pt_cmpR op_notBl (pe_df DN hr1 (pa_cons (pv 3) pa_nil)) pe_bl (nomark _)) (pw_or (pt_cmpR op_notBl (pe_dk KN hr1 (pk_cons (pv 4) pk_nil)) pe_bl (nomark _)) (pw_or1 (pt_not (pt_val (pe_dg DR gd hr7 (pa_cons (pv 3) pa_nil)))))))) (pss_one (ps_ret pe_bl)) pss_nil)
        (pss_one (ps_if (pt_not (pt_val (pe_dg DD gd hr (pa_cons (pv 1) (pa_cons (pv 4) pa_nil))))) (pss_one (ps_ret pe_bl)) pss_nil)))))
      (pss_one (ps_ret pe_bl))), ?_⟩
    refine ⟨_, rfl, l, ns, rfl, hS, hlen, fun H1 p a b p0 a0 b0 S1 St1 => ?_⟩
    refine ⟨_, rfl, l, _, rfl, .inl (S1.seq hS), _, _, rfl, _, _, rfl, rfl, _, rfl, ?_, ?_, ?_⟩
    · rw [List.length_map]
      split <;> omega
    · rw [List.length_map]
      split <;> omega
    · refine for_range (fun i σ H' => Stt p a b (45 * i) H' ∧ Tabs T0 H' ∧ ∃ v2 v3 v4 : Option V, σ = [some (.ref l), some (.ref p), v2, v3, v4]) ⟨St1, tb.ext S1, none, none, none, rfl⟩ ?_ ?_
      · rintro i σ H2 hi ⟨St2, tb2, v2, v3, v4, rfl⟩
        have hi2 : i ≤ 100 := by
          rw [List.length_map] at hi
          split at hi <;> omega
        refine ⟨_, rfl, p, a, b, _, rfl, St2, by omega, fun v d H3 it S3 B3 => ?_⟩
        refine ⟨_, rfl, p, a, b, _, rfl, S3, by omega, fun y H4 y1 y2 S4 B4 => ?_⟩
        refine ⟨_, _, rfl, ?_⟩
        have hP : H2 p ≠ none ∧ H2 a ≠ none := by
          obtain ⟨u1, u2, u3, w1, w2, _⟩ := St2.there
          exact ⟨(by rw [w1]; exact fun z => nomatch z), by rw [w2]; exact fun z => nomatch z⟩
        obtain ⟨dz, g1, g2, g3, g4, g5⟩ := it
        have dz4 : Dz K H4 v d := (dz.keep (fr_but B4 hP.1 hP.2)).keep (fr_same _ _)
        have tb4 := tabs_but (tabs_but tb2 St2 B3) S3 B4
        have big : d.shown.length ≤ sizeLine := by
          have : 1000000 ≤ sizeLine := by rw [sizeLine_eq]; decide
          omega
        refine ⟨_, rfl, v, rfl, .inr ⟨d, dz4, g5, false, false, rfl, rfl, false, rfl, iteF ?_⟩⟩
        refine ⟨_, rfl, rfl, _, rfl, .inl ⟨y, rfl, true, true, rfl, rfl, false, rfl, iteF ?_⟩⟩
        refine ⟨_, rfl, v, d, rfl, dz_ntb dz4, g5, g1, g2, big, g4, tb4, fun H5 e5 tb5 => ⟨true, rfl, iteF ?_⟩⟩
        refine ⟨_, rfl, _, rfl, p, a, b, _, y, rfl, stt_ext S4 e5, by omega, y1, y2, tb5, fun H6 S6 tb6 => ⟨true, rfl, iteF ?_⟩⟩
        exact ⟨S6.mono (by omega), tb6, _, _, _, rfl⟩
      · rintro σ H' ⟨_, _, v2, v3, v4, rfl⟩
        exact k H'
end
end Cf
namespace Cf
open PySem L2
section
variable {P : Program} {w : World} {K : PySem.W.Frag} {mg : Str → Option Value} {base : Heap}
theorem ok_init2 {C f : Addr} {fd : FuncData} (F : Fun K "__init__" "BadDate.__init__" (inner sBaddate) f fd) (O : OexC K C) (h0 : PySem.W.findIn K (.ref C) "value" = some none) : FnOk P w K mg base (L2.CX P w) 1 f fd ["self", "value"] (spI C 1 mk1) := by
  refine F.okX sc1 (fun vs H Q E h => ?_) (fun cdv A outer s H vs Q E hr h => ?_)
  · obtain ⟨a, us, rfl, l, _⟩ := h
    match us, l with
    | [_], _ => rfl
  · obtain ⟨a, us, rfl, l, ha, go⟩ := h
    match us, l, go with
    | [v], _, go =>
      refine ⟨_, pss_one (ps_ost (pv 0) (pv 1)), ?_⟩
      refine ⟨_, rfl, _, rfl, a, C, rfl, O, h0, .inl ⟨ha, fun dx hx ne => ?_⟩⟩
      exact go _ dx (fun b o e nb => by rw [upd_ne nb, upd_ne (ne_of_none e hx)]; exact e) hx ne upd_same (by rw [upd_ne ne]; exact upd_same)
end
end Cf
/-! The end of a law whose defs make lambdas, promised where no repr is under way. -/
namespace Cf
open PySem PySem.Spec PyProof.Rows L2 LamX
section
variable {P : Program} {w : World} {K : PySem.W.Frag} {mg mb : Str → Option Value} {k : Nat} {fa a : Addr} {fd : FuncData} {x : Str} {sp : Sp} {st : Shared} {vs : List Value} {ns : List Int} {cs : List (Addr × Addr)}
def scrOT (vs : List Value) : Obj := { cls := .type "list", data := .seq vs.toArray }
/-- an empty table of code objects -/
def emptyT : Obj := { cls := .none, data := .fields #[] }
/-- tracked: the script, where it is none of the module's own objects, and the tables -/
noncomputable def tabH (K : PySem.W.Frag) (a : Addr) (vs : List Value) (ns : List Int) (cs : List (Addr × Addr)) : Hp := fun b =>
  open Classical in if b = a ∧ K.lookup a = none then some (.frz (scrOT vs) (.lst (ns.map V.int))) else if b ∈ cs.map (·.2) then some (.tbl #[]) else none
theorem tabH_some {b : Addr} {u : HO} (h : tabH K a vs ns cs b = some u) : (b = a ∧ K.lookup a = none ∧ u = .frz (scrOT vs) (.lst (ns.map V.int))) ∨ (b ∈ cs.map (·.2) ∧ u = .tbl #[]) := by
  unfold tabH at h
  split at h
  · rename_i c
    exact .inl ⟨c.1, c.2, (Option.some.inj h).symm⟩
  · split at h
    · rename_i c
      exact .inr ⟨c, (Option.some.inj h).symm⟩
    · cases h
theorem tabH_at (h : K.lookup a = none) : tabH K a vs ns cs a = some (.frz (scrOT vs) (.lst (ns.map V.int))) := by
  unfold tabH
  exact if_pos ⟨rfl, h⟩
theorem tabH_tab {b : Addr} (h : b ∈ cs.map (·.2)) (ne : b ≠ a) : tabH K a vs ns cs b = some (.tbl #[]) := by
  unfold tabH
  rw [if_neg (fun c => ne c.1), if_pos h]
theorem law_gT (KX : K.In st.heap) (hns : st.heap.Ns mainGlobals mg) (hb : st.heap.Ns builtinsNs mb) (hbb : ∀ x : Str, x ≠ "__name__" → mb x = bootBuiltins x) (lim : st.heap.NoLimit) (hg : st.gens = #[])
    (hT : ∀ p ∈ cs, st.heap.get? p.2 = some emptyT) (nT : ∀ p ∈ cs, K.lookup p.2 = none) (C : ∀ p ∈ cs, PySem.W.CodeHd st.heap p.1 p.2)
    (hbm : ∃ (bm : Addr) (ob : Obj), mg "__builtins__" = some (.ref bm) ∧ bm ≠ builtinsNs ∧ st.heap.get? bm = some ob ∧ ob.cls = .type "module" ∧ ob.dict = some builtinsNs ∧ ob.data = .plain)
    (ha : st.heap.get? a = some (scrOT vs)) (hi : IntsAre vs ns) (hl : ns.length ≤ sizeLine) (room : Room k callerA)
    (F : ∀ base : Heap, K.In base → base.Ns mainGlobals mg → (∀ p ∈ cs, TabB base mg p.1 p.2) → FnG P w K mg base CX0 k fa fd [x] sp) (hbind : ∀ (s : Shared) (u : Value), BindsTo s fd ⟨[u], []⟩ [(x, u)])
    (hsp : ∀ H : Hp, (∀ p ∈ cs, H p.2 = some (.tbl #[])) → SqL K H a (ns.map V.int) → sp [.ref a] H (fun v _ => v = .bl true) fun _ _ _ => False) :
    codeAny (model P w) callerA (.call (.ref fa) ⟨[.ref a], []⟩) (fun r s' => r = .ok (.ret (.bool true)) ∧ OldK st.heap s'.heap ∧ s'.os = st.os ∧ AllBare s'.gens) st := by
  have vals := vals_ints hi
  have len := hi.length
  have isT : ∀ b, b ∈ cs.map (·.2) → st.heap.get? b = some emptyT := fun b m => by
    obtain ⟨p, hp, rfl⟩ := List.mem_map.mp m
    exact hT p hp
  have memT : ∀ p ∈ cs, p.2 ∈ cs.map (·.2) := fun p hp => List.mem_map.mpr ⟨p, hp, rfl⟩
  have aT : a ∉ cs.map (·.2) := fun m => by
    have q := isT a m
    rw [ha] at q
    have z : Data.seq vs.toArray _ = Data.fields #[] := congrArg Obj.data (Option.some.inj q)
    cases z
  have tabs : ∀ p ∈ cs, tabH K a vs ns cs p.2 = some (.tbl #[]) := fun p hp => tabH_tab (memT p hp) fun z => aT (z ▸ memT p hp)
  have inH : SqL K (tabH K a vs ns cs) a (ns.map V.int) := by
    cases q : K.lookup a with
    | none => exact Or.inl (Or.inr ⟨_, tabH_at q⟩)
    | some o =>
      have e := KX a o q
      rw [ha] at e
      cases e
      refine Or.inr ⟨_, vs.toArray, _, q, rfl, rfl, rfl, ?_, ?_⟩
      · rw [List.size_toArray]; omega
      · simpa using vals
  have held : HOk P w (tabH K a vs ns cs) st.heap := by
    intro b u e
    rcases tabH_some e with ⟨rfl, _, rfl⟩ | ⟨m, rfl⟩
    · refine ⟨ha, ?_, vs, _, vals, ha⟩
      rw [List.length_map]
      exact hl
    · exact isT b m
  -- what is neither the script nor a table stands in the base
  have put : ∀ {b : Addr} {o : Obj}, st.heap.get? b = some o → tabH K a vs ns cs b = none → (hidT st.heap (tabH K a vs ns cs)).get? b = some o := fun e n => hidT_get e n
  have off : ∀ {b : Addr} {o : Obj}, st.heap.get? b = some o → (∀ v n, o.data ≠ .seq v n) → o.data ≠ .fields #[] → tabH K a vs ns cs b = none := fun {b o} e n1 n2 => by
    cases q : tabH K a vs ns cs b with
    | none => rfl
    | some u =>
      rcases tabH_some q with ⟨rfl, _, _⟩ | ⟨m, _⟩
      · rw [ha] at e
        cases e
        exact (n1 _ _ rfl).elim
      · rw [isT b m] at e
        cases e
        exact (n2 rfl).elim
  have names : ∀ {b : Addr} {m : Str → Option Value}, st.heap.Ns b m → (hidT st.heap (tabH K a vs ns cs)).Ns b m := by
    rintro b m ⟨o, es, ep, e, d, r⟩
    refine ⟨o, es, ep, put e (off e (fun v n z => ?_) fun z => ?_), d, r⟩
    · rw [d] at z; cases z
    · rw [d] at z; cases z
  have inB : K.In (hidT st.heap (tabH K a vs ns cs)) := by
    intro b o e
    refine put (KX b o e) ?_
    cases q : tabH K a vs ns cs b with
    | none => rfl
    | some u =>
      rcases tabH_some q with ⟨rfl, z, _⟩ | ⟨m, _⟩
      · rw [z] at e
        cases e
      · obtain ⟨p, hp, rfl⟩ := List.mem_map.mp m
        rw [nT p hp] at e
        cases e
  have md : L2.Mod K mg (hidT st.heap (tabH K a vs ns cs)) := by
    obtain ⟨mc, l1, l2⟩ := lim
    exact { kin := inB, glob := names hns, blt := ⟨mb, names hb, hbb⟩, nolimit := ⟨mc, names l1, l2⟩ }
  have TB : ∀ p ∈ cs, TabB (hidT st.heap (tabH K a vs ns cs)) mg p.1 p.2 := by
    intro p hp
    have there := hT p hp
    refine { code := ?_, bm := ?_, gP := fun z => ?_ }
    · obtain ⟨o, us, file, tf, flags, tg, inF, text, tt, e1, r1, r2, r3, r4⟩ := C p hp
      refine ⟨o, us, file, tf, flags, tg, inF, text, tt, put e1 (off e1 (fun v n z => ?_) fun z => ?_), r1, r2, r3, r4⟩
      · rw [r2] at z; cases z
      · rw [r2] at z
        cases z
        simp at r3
    · obtain ⟨bm, ob, b1, b2, b3, b4, b5, b6⟩ := hbm
      have nG : bm ≠ mainGlobals := fun q => by
        obtain ⟨o, es, ep, e, d, _⟩ := hns
        rw [q, e] at b3
        cases b3
        rw [d] at b6
        cases b6
      have nP : bm ≠ p.2 := fun q => by
        rw [q, there] at b3
        cases b3
        cases b6
      refine ⟨bm, ob, b1, b2, nG, nP, put b3 (off b3 (fun v n z => ?_) fun z => ?_), b4, b5, b6⟩
      · rw [b6] at z; cases z
      · rw [b6] at z; cases z
    · obtain ⟨o, es, ep, e, d, _⟩ := hns
      rw [z, there] at e
      cases e
      cases d
  have env : Env0 P w K mg (hidT st.heap (tabH K a vs ns cs)) callerA [] st (tabH K a vs ns cs) :=
    { frames := rfl, mod := md, bs := fun _ _ e => of_hidT e, bsz := Nat.le_of_eq (hidT_size _ _), funs := trivial, frf := fun b hb => (by cases hb), hok := held, bare := .of_eq hg }
  refine codeAny_mono ((F _ inB (names hns) TB).go callerA rfl [] st (tabH K a vs ns cs) ⟨[.ref a], []⟩ [.ref a] [.ref a] _ _ room env (hbind st (.ref a)) (.cons rfl .nil) (hsp _ tabs inH)) ?_
  intro r s' h
  match r, h with
  | .error e, h => exact (h : False).elim
  | .ok .next, h => exact (h : False).elim
  | .ok .brk, h => exact (h : False).elim
  | .ok .cont, h => exact (h : False).elim
  | .ok (.ret u), ⟨v, H', os, bare, un, hok', rv, q⟩ =>
    subst q
    cases (show u = Value.bool true from rv)
    have kept : ∀ b o, b ∉ cs.map (·.2) → st.heap.get? b = some o → s'.heap.get? b = some o := fun b o nb e => by
      cases q : tabH K a vs ns cs b with
      | none => exact un.keep b o e q (by intro z; cases z) (by intro z; cases z)
      | some u =>
        rcases tabH_some q with ⟨rfl, _, rfl⟩ | ⟨m, _⟩
        · obtain ⟨e2, _⟩ := hok' b _ (un.frzs b _ _ q)
          rw [ha] at e
          cases e
          exact e2
        · exact absurd m nb
    have grown : ∀ p ∈ cs, ∃ more : Array Value, s'.heap.get? p.2 = some { cls := .none, data := .fields more } := fun p hp => by
      obtain ⟨more, z⟩ := un.tbls p.2 #[] (tabs p hp)
      exact ⟨_, hok' p.2 _ z⟩
    refine ⟨rfl, ⟨fun b o e => ?_, fun b o e => ?_⟩, os, bare⟩
    · by_cases m : b ∈ cs.map (·.2)
      · obtain ⟨p, hp, rfl⟩ := List.mem_map.mp m
        obtain ⟨more, hm⟩ := grown p hp
        rw [hT p hp] at e
        cases e
        exact .inr (.inl ⟨((C p hp).tab (hT p hp)).isCodeTable, rfl, #[], more, rfl, by rw [Array.empty_append]; exact hm⟩)
      · exact .inl (kept b o m e)
    · by_cases m : b ∈ cs.map (·.2)
      · obtain ⟨p, hp, rfl⟩ := List.mem_map.mp m
        obtain ⟨more, hm⟩ := grown p hp
        exact ⟨_, hm⟩
      · exact ⟨o, kept b o m e⟩
end
/-- the table that the code of the def x leads to -/
theorem tab_in {K : PySem.W.Frag} {x : Str} {f c Pt : Addr} {oc : Value} {od : Option Addr} {fd : FuncData} {sl : Array (Option Value)} {co : Value} {cd : Option Addr} {vs : Array Value} {csl : Array (Option Value)} (h1 : PySem.W.nsIn K mainGlobals x = some (some (.ref f)))
    (h2 : K.lookup f = some ⟨oc, od, .func fd, sl⟩) (h3 : fd.code = .ref c) (h4 : K.lookup c = some ⟨co, cd, .fields vs, csl⟩) (h5 : vs[11]? = some (.ref Pt)) : PySem.W.tabIn K x = some (c, Pt) := by
  unfold PySem.W.tabIn
  rw [h1]
  simp only [h2, h3, h4, h5]
theorem walk_gT {l : PySem.W.OpenLaw} {n k : Nat} {q : Program} {loose : List Str} {XP : (Str → Option Value) → Heap → Prop} {YP : World → Heap → Prop} {d : DefRec} {K : Params → PySem.W.Frag} {x : Str}
    (most : l.most = some n) (n2 : n ≤ sizeLine) (dflt : d.params.defaults = []) (room : Room k callerA) (hY : ∀ (w : World) (h : Heap), YP w h → (K w.params).In h)
    (F : ∀ (w : World) (mg : Str → Option Value) (fa : Addr) (h : Heap), (K w.params).In h → h.Ns mainGlobals mg → mg d.name = some (.ref fa) →
      ∃ (fd : FuncData) (cs : List (Addr × Addr)) (sp : Sp), (∀ p ∈ cs, (K w.params).lookup p.2 = none) ∧ (∀ p ∈ cs, ∃ (y : Str) (r : DefRec), (recsOf q).find? (fun e => e.name == y) = some r ∧ PySem.W.tabIn (K w.params) y = some p) ∧
        (∀ (s : Shared) (u : Value), BindsTo s fd ⟨[u], []⟩ [(x, u)]) ∧
        (∀ (H : Hp) (a : Addr) (ns : List Int), ns.length ≤ n → (∀ p ∈ cs, H p.2 = some (.tbl #[])) → SqL (K w.params) H a (ns.map V.int) → sp [.ref a] H (fun v _ => v = .bl true) fun _ _ _ => False) ∧
        ∀ base : Heap, (K w.params).In base → base.Ns mainGlobals mg → (∀ p ∈ cs, TabB base mg p.1 p.2) → FnG l.prog w (K w.params) mg base CX0 k fa fd [x] sp) :
    PySem.W.WalkO q loose XP YP l.row.toRowW d [] (fun f vs => PySem.call f vs) := by
  apply Att.attach_call most dflt
  intro w s0 s1 mg mb fa o pm cd doc a vs ns G Y ho hd hcd hmg hobj hints hlen hg
  have inK := hY w _ Y
  obtain ⟨fd, cs, sp', nT, tb, hb, hsp, hF⟩ := F w mg fa _ inK G.T.g hmg
  have both : ∀ p ∈ cs, PySem.W.CodeHd s1.heap p.1 p.2 ∧ s1.heap.get? p.2 = some emptyT := fun p hp => by
    obtain ⟨y, r, e1, e2⟩ := tb p hp
    exact PySem.W.tab_of G.T inK e1 e2
  exact law_gT inK G.T.g G.T.b G.T.builtins G.T.nolimit hg (fun p hp => (both p hp).2) nT (fun p hp => (both p hp).1) G.T.bmain hobj hints (Nat.le_trans hlen n2) room hF hb fun H h1 h2 => hsp H a ns hlen h1 h2
end Cf
namespace Cf
open PySem L2 LamX PySem.Spec PyProof.Rows
theorem getD_rel : ∀ {vs : List V} {us : List Value} (i : Nat), Vals vs us → RelV (vs.getD i .non) (us.getD i .none)
  | _, _, _, .nil => rfl
  | _, _, 0, .cons r _ => r
  | _, _, i + 1, .cons _ t => getD_rel i t

set_option maxHeartbeats 8000000 in
theorem all_mk {q : Program} {l : PySem.W.OpenLaw} {w : World} {K : PySem.W.Frag} {h : Heap} {mg : Str → Option Value} {fa : Addr} (X : K.In h) (G : h.Ns mainGlobals mg) (hfa : mg "law" = some (.ref fa))
    {f0 : Addr} {od0 an0 : Option Addr} {sl0 : Array (Option Value)} {oc0 kV0 dc0 pm0 cd0 ct0 : Value}
    {f1 : Addr} {od1 an1 : Option Addr} {sl1 : Array (Option Value)} {oc1 kV1 dc1 pm1 cd1 ct1 : Value}
    {T1 : Addr} {oT1 : Value} {dT1 : Option Addr} {nT1 : Nat} {sT1 : Array (Option Value)}
    {f2 : Addr} {od2 an2 : Option Addr} {sl2 : Array (Option Value)} {oc2 kV2 dc2 pm2 cd2 ct2 : Value}
    {f3 : Addr} {od3 an3 : Option Addr} {sl3 : Array (Option Value)} {oc3 kV3 dc3 pm3 cd3 ct3 : Value}
    {f4 : Addr} {od4 an4 : Option Addr} {sl4 : Array (Option Value)} {oc4 kV4 dc4 pm4 cd4 ct4 : Value}
    {f5 : Addr} {od5 an5 : Option Addr} {sl5 : Array (Option Value)} {oc5 kV5 dc5 pm5 cd5 ct5 : Value}
    {f6 : Addr} {od6 an6 : Option Addr} {sl6 : Array (Option Value)} {oc6 kV6 dc6 pm6 cd6 ct6 : Value}
    {f7 : Addr} {od7 an7 : Option Addr} {sl7 : Array (Option Value)} {oc7 kV7 dc7 pm7 cd7 ct7 : Value}
    {f8 : Addr} {od8 an8 : Option Addr} {sl8 : Array (Option Value)} {oc8 kV8 dc8 pm8 cd8 ct8 : Value}
    {f9 : Addr} {od9 an9 : Option Addr} {sl9 : Array (Option Value)} {oc9 kV9 dc9 pm9 cd9 ct9 : Value}
    {f10 : Addr} {od10 an10 : Option Addr} {sl10 : Array (Option Value)} {oc10 kV10 dc10 pm10 cd10 ct10 : Value}
    {f11 : Addr} {od11 an11 : Option Addr} {sl11 : Array (Option Value)} {oc11 kV11 dc11 pm11 cd11 ct11 : Value}
    {f12 : Addr} {od12 an12 : Option Addr} {sl12 : Array (Option Value)} {oc12 kV12 dc12 pm12 cd12 ct12 : Value}
    {f13 : Addr} {od13 an13 : Option Addr} {sl13 : Array (Option Value)} {oc13 kV13 dc13 pm13 cd13 ct13 : Value}
    {f14 : Addr} {od14 an14 : Option Addr} {sl14 : Array (Option Value)} {oc14 kV14 dc14 pm14 cd14 ct14 : Value}
    {f15 : Addr} {od15 an15 : Option Addr} {sl15 : Array (Option Value)} {oc15 kV15 dc15 pm15 cd15 ct15 : Value}
    {f16 : Addr} {od16 an16 : Option Addr} {sl16 : Array (Option Value)} {oc16 kV16 dc16 pm16 cd16 ct16 : Value}
    {f17 : Addr} {od17 an17 : Option Addr} {sl17 : Array (Option Value)} {oc17 kV17 dc17 pm17 cd17 ct17 : Value}
    {f18 : Addr} {od18 an18 : Option Addr} {sl18 : Array (Option Value)} {oc18 kV18 dc18 pm18 cd18 ct18 : Value}
    {f19 : Addr} {od19 an19 : Option Addr} {sl19 : Array (Option Value)} {oc19 kV19 dc19 pm19 cd19 ct19 : Value}
    {f20 : Addr} {od20 an20 : Option Addr} {sl20 : Array (Option Value)} {oc20 kV20 dc20 pm20 cd20 ct20 : Value}
    {f21 : Addr} {od21 an21 : Option Addr} {sl21 : Array (Option Value)} {oc21 kV21 dc21 pm21 cd21 ct21 : Value}
    {tp : Addr} {ddM : Option Addr} {nM : Nat} {slM : Array (Option Value)} {w0 w1 w2 w3 w4 w5 w6 w7 w8 w9 w10 w11 : Tok}
    {cE y0 y1 y2 y3 y4 y5 y6 y7 y8 y9 y10 y11 : Addr}
    {nmE qE : Str} {NE : Addr} {bsE : List Value} {snE : List Str} {subE : List Value} {abE : Bool} {colE : Option Bool} {ddE : Option Addr} {kaE kbE kcE kdE keE : Option Value}
    {i0 i1 i2 i3 i4 i5 i6 i7 i8 i9 i10 i11 : Addr}
    {nm0 q0 : Str} {N0 : Addr} {bs0 : List Value} {sn0 : List Str} {sub0 : List Value} {ab0 : Bool} {col0 : Option Bool} {dd0 : Option Addr} {ka0 kb0 kc0 kd0 ke0 : Option Value}
    {ic0 ik0 id0 ip0 ie0 it0 : Value} {io0 ia0 : Option Addr} {is0 : Array (Option Value)}
    {nm1 q1 : Str} {N1 : Addr} {bs1 : List Value} {sn1 : List Str} {sub1 : List Value} {ab1 : Bool} {col1 : Option Bool} {dd1 : Option Addr} {ka1 kb1 kc1 kd1 ke1 : Option Value}
    {ic1 ik1 id1 ip1 ie1 it1 : Value} {io1 ia1 : Option Addr} {is1 : Array (Option Value)}
    {nm2 q2 : Str} {N2 : Addr} {bs2 : List Value} {sn2 : List Str} {sub2 : List Value} {ab2 : Bool} {col2 : Option Bool} {dd2 : Option Addr} {ka2 kb2 kc2 kd2 ke2 : Option Value}
    {ic2 ik2 id2 ip2 ie2 it2 : Value} {io2 ia2 : Option Addr} {is2 : Array (Option Value)}
    {nm3 q3 : Str} {N3 : Addr} {bs3 : List Value} {sn3 : List Str} {sub3 : List Value} {ab3 : Bool} {col3 : Option Bool} {dd3 : Option Addr} {ka3 kb3 kc3 kd3 ke3 : Option Value}
    {ic3 ik3 id3 ip3 ie3 it3 : Value} {io3 ia3 : Option Addr} {is3 : Array (Option Value)}
    {nm4 q4 : Str} {N4 : Addr} {bs4 : List Value} {sn4 : List Str} {sub4 : List Value} {ab4 : Bool} {col4 : Option Bool} {dd4 : Option Addr} {ka4 kb4 kc4 kd4 ke4 : Option Value}
    {ic4 ik4 id4 ip4 ie4 it4 : Value} {io4 ia4 : Option Addr} {is4 : Array (Option Value)}
    {nm5 q5 : Str} {N5 : Addr} {bs5 : List Value} {sn5 : List Str} {sub5 : List Value} {ab5 : Bool} {col5 : Option Bool} {dd5 : Option Addr} {ka5 kb5 kc5 kd5 ke5 : Option Value}
    {ic5 ik5 id5 ip5 ie5 it5 : Value} {io5 ia5 : Option Addr} {is5 : Array (Option Value)}
    {nm6 q6 : Str} {N6 : Addr} {bs6 : List Value} {sn6 : List Str} {sub6 : List Value} {ab6 : Bool} {col6 : Option Bool} {dd6 : Option Addr} {ka6 kb6 kc6 kd6 ke6 : Option Value}
    {ic6 ik6 id6 ip6 ie6 it6 : Value} {io6 ia6 : Option Addr} {is6 : Array (Option Value)}
    {nm7 q7 : Str} {N7 : Addr} {bs7 : List Value} {sn7 : List Str} {sub7 : List Value} {ab7 : Bool} {col7 : Option Bool} {dd7 : Option Addr} {ka7 kb7 kc7 kd7 ke7 : Option Value}
    {ic7 ik7 id7 ip7 ie7 it7 : Value} {io7 ia7 : Option Addr} {is7 : Array (Option Value)}
    {nm8 q8 : Str} {N8 : Addr} {bs8 : List Value} {sn8 : List Str} {sub8 : List Value} {ab8 : Bool} {col8 : Option Bool} {dd8 : Option Addr} {ka8 kb8 kc8 kd8 ke8 : Option Value}
    {ic8 ik8 id8 ip8 ie8 it8 : Value} {io8 ia8 : Option Addr} {is8 : Array (Option Value)}
    {nm9 q9 : Str} {N9 : Addr} {bs9 : List Value} {sn9 : List Str} {sub9 : List Value} {ab9 : Bool} {col9 : Option Bool} {dd9 : Option Addr} {ka9 kb9 kc9 kd9 ke9 : Option Value}
    {ic9 ik9 id9 ip9 ie9 it9 : Value} {io9 ia9 : Option Addr} {is9 : Array (Option Value)}
    {nm10 q10 : Str} {N10 : Addr} {bs10 : List Value} {sn10 : List Str} {sub10 : List Value} {ab10 : Bool} {col10 : Option Bool} {dd10 : Option Addr} {ka10 kb10 kc10 kd10 ke10 : Option Value}
    {ic10 ik10 id10 ip10 ie10 it10 : Value} {io10 ia10 : Option Addr} {is10 : Array (Option Value)}
    {nm11 q11 : Str} {N11 : Addr} {bs11 : List Value} {sn11 : List Str} {sub11 : List Value} {ab11 : Bool} {col11 : Option Bool} {dd11 : Option Addr} {ka11 kb11 kc11 kd11 ke11 : Option Value}
    {ic11 ik11 id11 ip11 ie11 it11 : Value} {io11 ia11 : Option Addr} {is11 : Array (Option Value)}
    {cS cD pS pD gS gD gR : Addr} {oS oD oR kS kD kR dS dD dR pmS pmD pmR ctS ctD ctR cdR coS coD : Value} {anS anD anR odS odD odR cqS cqD : Option Addr} {slS slD slR csS csD : Array (Option Value)} {vsS vsD : Array Value} {dfS dfD : DefRec}
    (a0 : PySem.W.nsIn K mainGlobals "is_number" = some (some (.ref f0)))
    (l0 : K.lookup f0 = some ⟨oc0, od0, .func (PySem.W.fnOf "is_number" "is_number" (defArgs sIsNumber) (defBody sIsNumber) (defScope sIsNumber) .none kV0 dc0 pm0 an0 cd0 ct0), sl0⟩)
    (c0 : PySem.W.codeIn K cd0 "is_number" = true)
    (k0 : PySem.W.keepIn K (.ref f0) = true)
    (a1 : PySem.W.nsIn K mainGlobals "check_number" = some (some (.ref f1)))
    (l1 : K.lookup f1 = some ⟨oc1, od1, .func (PySem.W.fnOf "check_number" "check_number" (defArgs sCheckNumber) (defBody sCheckNumber) (defScope sCheckNumber) (.ref T1) kV1 dc1 pm1 an1 cd1 ct1), sl1⟩)
    (c1 : PySem.W.codeIn K cd1 "check_number" = true)
    (k1 : PySem.W.keepIn K (.ref f1) = true)
    (lT1 : K.lookup T1 = some ⟨oT1, dT1, .seq #[.none] nT1, sT1⟩)
    (a2 : PySem.W.nsIn K mainGlobals "is_leap" = some (some (.ref f2)))
    (l2 : K.lookup f2 = some ⟨oc2, od2, .func (PySem.W.fnOf "is_leap" "is_leap" (defArgs sIsLeap) (defBody sIsLeap) (defScope sIsLeap) .none kV2 dc2 pm2 an2 cd2 ct2), sl2⟩)
    (c2 : PySem.W.codeIn K cd2 "is_leap" = true)
    (k2 : PySem.W.keepIn K (.ref f2) = true)
    (a3 : PySem.W.nsIn K mainGlobals "leap_years_before" = some (some (.ref f3)))
    (l3 : K.lookup f3 = some ⟨oc3, od3, .func (PySem.W.fnOf "leap_years_before" "leap_years_before" (defArgs sLeapYearsBefore) (defBody sLeapYearsBefore) (defScope sLeapYearsBefore) .none kV3 dc3 pm3 an3 cd3 ct3), sl3⟩)
    (c3 : PySem.W.codeIn K cd3 "leap_years_before" = true)
    (k3 : PySem.W.keepIn K (.ref f3) = true)
    (a4 : PySem.W.nsIn K mainGlobals "year_start" = some (some (.ref f4)))
    (l4 : K.lookup f4 = some ⟨oc4, od4, .func (PySem.W.fnOf "year_start" "year_start" (defArgs sYearStart) (defBody sYearStart) (defScope sYearStart) .none kV4 dc4 pm4 an4 cd4 ct4), sl4⟩)
    (c4 : PySem.W.codeIn K cd4 "year_start" = true)
    (k4 : PySem.W.keepIn K (.ref f4) = true)
    (a5 : PySem.W.nsIn K mainGlobals "month_length" = some (some (.ref f5)))
    (l5 : K.lookup f5 = some ⟨oc5, od5, .func (PySem.W.fnOf "month_length" "month_length" (defArgs sMonthLength) (defBody sMonthLength) (defScope sMonthLength) .none kV5 dc5 pm5 an5 cd5 ct5), sl5⟩)
    (c5 : PySem.W.codeIn K cd5 "month_length" = true)
    (k5 : PySem.W.keepIn K (.ref f5) = true)
    (a6 : PySem.W.nsIn K mainGlobals "month_start" = some (some (.ref f6)))
    (l6 : K.lookup f6 = some ⟨oc6, od6, .func (PySem.W.fnOf "month_start" "month_start" (defArgs sMonthStart) (defBody sMonthStart) (defScope sMonthStart) .none kV6 dc6 pm6 an6 cd6 ct6), sl6⟩)
    (c6 : PySem.W.codeIn K cd6 "month_start" = true)
    (k6 : PySem.W.keepIn K (.ref f6) = true)
    (a7 : PySem.W.nsIn K mainGlobals "day_of" = some (some (.ref f7)))
    (l7 : K.lookup f7 = some ⟨oc7, od7, .func (PySem.W.fnOf "day_of" "day_of" (defArgs sDayOf) (defBody sDayOf) (defScope sDayOf) .none kV7 dc7 pm7 an7 cd7 ct7), sl7⟩)
    (c7 : PySem.W.codeIn K cd7 "day_of" = true)
    (k7 : PySem.W.keepIn K (.ref f7) = true)
    (a8 : PySem.W.nsIn K mainGlobals "date_of" = some (some (.ref f8)))
    (l8 : K.lookup f8 = some ⟨oc8, od8, .func (PySem.W.fnOf "date_of" "date_of" (defArgs sDateOf) (defBody sDateOf) (defScope sDateOf) .none kV8 dc8 pm8 an8 cd8 ct8), sl8⟩)
    (c8 : PySem.W.codeIn K cd8 "date_of" = true)
    (k8 : PySem.W.keepIn K (.ref f8) = true)
    (a9 : PySem.W.nsIn K mainGlobals "weekday" = some (some (.ref f9)))
    (l9 : K.lookup f9 = some ⟨oc9, od9, .func (PySem.W.fnOf "weekday" "weekday" (defArgs sWeekday) (defBody sWeekday) (defScope sWeekday) .none kV9 dc9 pm9 an9 cd9 ct9), sl9⟩)
    (c9 : PySem.W.codeIn K cd9 "weekday" = true)
    (k9 : PySem.W.keepIn K (.ref f9) = true)
    (a10 : PySem.W.nsIn K mainGlobals "week_of" = some (some (.ref f10)))
    (l10 : K.lookup f10 = some ⟨oc10, od10, .func (PySem.W.fnOf "week_of" "week_of" (defArgs sWeekOf) (defBody sWeekOf) (defScope sWeekOf) .none kV10 dc10 pm10 an10 cd10 ct10), sl10⟩)
    (c10 : PySem.W.codeIn K cd10 "week_of" = true)
    (k10 : PySem.W.keepIn K (.ref f10) = true)
    (a11 : PySem.W.nsIn K mainGlobals "kind_of" = some (some (.ref f11)))
    (l11 : K.lookup f11 = some ⟨oc11, od11, .func (PySem.W.fnOf "kind_of" "kind_of" (defArgs sKindOf) (defBody sKindOf) (defScope sKindOf) .none kV11 dc11 pm11 an11 cd11 ct11), sl11⟩)
    (c11 : PySem.W.codeIn K cd11 "kind_of" = true)
    (k11 : PySem.W.keepIn K (.ref f11) = true)
    (a12 : PySem.W.nsIn K mainGlobals "_law_begun" = some (some (.ref f12)))
    (l12 : K.lookup f12 = some ⟨oc12, od12, .func (PySem.W.fnOf "_law_begun" "_law_begun" (defArgs sLawBegun) (defBody sLawBegun) (defScope sLawBegun) .none kV12 dc12 pm12 an12 cd12 ct12), sl12⟩)
    (c12 : PySem.W.codeIn K cd12 "_law_begun" = true)
    (k12 : PySem.W.keepIn K (.ref f12) = true)
    (a13 : PySem.W.nsIn K mainGlobals "_law_mixed" = some (some (.ref f13)))
    (l13 : K.lookup f13 = some ⟨oc13, od13, .func (PySem.W.fnOf "_law_mixed" "_law_mixed" (defArgs sLawMixed) (defBody sLawMixed) (defScope sLawMixed) .none kV13 dc13 pm13 an13 cd13 ct13), sl13⟩)
    (c13 : PySem.W.codeIn K cd13 "_law_mixed" = true)
    (k13 : PySem.W.keepIn K (.ref f13) = true)
    (a14 : PySem.W.nsIn K mainGlobals "_law_take" = some (some (.ref f14)))
    (l14 : K.lookup f14 = some ⟨oc14, od14, .func (PySem.W.fnOf "_law_take" "_law_take" (defArgs sLawTake) (defBody sLawTake) (defScope sLawTake) .none kV14 dc14 pm14 an14 cd14 ct14), sl14⟩)
    (c14 : PySem.W.codeIn K cd14 "_law_take" = true)
    (k14 : PySem.W.keepIn K (.ref f14) = true)
    (a15 : PySem.W.nsIn K mainGlobals "_law_pick" = some (some (.ref f15)))
    (l15 : K.lookup f15 = some ⟨oc15, od15, .func (PySem.W.fnOf "_law_pick" "_law_pick" (defArgs sLawPick) (defBody sLawPick) (defScope sLawPick) .none kV15 dc15 pm15 an15 cd15 ct15), sl15⟩)
    (c15 : PySem.W.codeIn K cd15 "_law_pick" = true)
    (k15 : PySem.W.keepIn K (.ref f15) = true)
    (a16 : PySem.W.nsIn K mainGlobals "_law_is_long" = some (some (.ref f16)))
    (l16 : K.lookup f16 = some ⟨oc16, od16, .func (PySem.W.fnOf "_law_is_long" "_law_is_long" (defArgs sLawIsLong) (defBody sLawIsLong) (defScope sLawIsLong) .none kV16 dc16 pm16 an16 cd16 ct16), sl16⟩)
    (c16 : PySem.W.codeIn K cd16 "_law_is_long" = true)
    (k16 : PySem.W.keepIn K (.ref f16) = true)
    (a17 : PySem.W.nsIn K mainGlobals "_law_size" = some (some (.ref f17)))
    (l17 : K.lookup f17 = some ⟨oc17, od17, .func (PySem.W.fnOf "_law_size" "_law_size" (defArgs sLawSize) (defBody sLawSize) (defScope sLawSize) .none kV17 dc17 pm17 an17 cd17 ct17), sl17⟩)
    (c17 : PySem.W.codeIn K cd17 "_law_size" = true)
    (k17 : PySem.W.keepIn K (.ref f17) = true)
    (a18 : PySem.W.nsIn K mainGlobals "_law_some_year" = some (some (.ref f18)))
    (l18 : K.lookup f18 = some ⟨oc18, od18, .func (PySem.W.fnOf "_law_some_year" "_law_some_year" (defArgs sLawSomeYear) (defBody sLawSomeYear) (defScope sLawSomeYear) .none kV18 dc18 pm18 an18 cd18 ct18), sl18⟩)
    (c18 : PySem.W.codeIn K cd18 "_law_some_year" = true)
    (k18 : PySem.W.keepIn K (.ref f18) = true)
    (a19 : PySem.W.nsIn K mainGlobals "_law_odd" = some (some (.ref f19)))
    (l19 : K.lookup f19 = some ⟨oc19, od19, .func (PySem.W.fnOf "_law_odd" "_law_odd" (defArgs sLawOdd) (defBody sLawOdd) (defScope sLawOdd) .none kV19 dc19 pm19 an19 cd19 ct19), sl19⟩)
    (c19 : PySem.W.codeIn K cd19 "_law_odd" = true)
    (k19 : PySem.W.keepIn K (.ref f19) = true)
    (a20 : PySem.W.nsIn K mainGlobals "_law_gap" = some (some (.ref f20)))
    (l20 : K.lookup f20 = some ⟨oc20, od20, .func (PySem.W.fnOf "_law_gap" "_law_gap" (defArgs sLawGap) (defBody sLawGap) (defScope sLawGap) .none kV20 dc20 pm20 an20 cd20 ct20), sl20⟩)
    (c20 : PySem.W.codeIn K cd20 "_law_gap" = true)
    (k20 : PySem.W.keepIn K (.ref f20) = true)
    (a21 : PySem.W.nsIn K mainGlobals "law" = some (some (.ref f21)))
    (l21 : K.lookup f21 = some ⟨oc21, od21, .func (PySem.W.fnOf "law" "law" (defArgs sLaw) (defBody sLaw) (defScope sLaw) .none kV21 dc21 pm21 an21 cd21 ct21), sl21⟩)
    (c21 : PySem.W.codeIn K cd21 "law" = true)
    (k21 : PySem.W.keepIn K (.ref f21) = true)
    (aM : PySem.W.nsIn K mainGlobals "MONTH_LENGTHS" = some (some (.ref tp)))
    (lM : K.lookup tp = some ⟨.type "tuple", ddM, .seq #[.int 31 w0, .int 28 w1, .int 31 w2, .int 30 w3, .int 31 w4, .int 30 w5, .int 31 w6, .int 31 w7, .int 30 w8, .int 31 w9, .int 30 w10, .int 31 w11] nM, slM⟩)
    (z_abs : PySem.W.nsIn K mainGlobals "abs" = some none)
    (z_int : PySem.W.nsIn K mainGlobals "int" = some none)
    (z_bool : PySem.W.nsIn K mainGlobals "bool" = some none)
    (z_isinstance : PySem.W.nsIn K mainGlobals "isinstance" = some none)
    (z_sum : PySem.W.nsIn K mainGlobals "sum" = some none)
    (z_divmod : PySem.W.nsIn K mainGlobals "divmod" = some none)
    (z_min : PySem.W.nsIn K mainGlobals "min" = some none)
    (z_len : PySem.W.nsIn K mainGlobals "len" = some none)
    (z_range : PySem.W.nsIn K mainGlobals "range" = some none)
    (z_repr : PySem.W.nsIn K mainGlobals "repr" = some none)
    (mE : PySem.W.nsIn K mainGlobals "ClockError" = some (some (.ref cE)))
    (m0 : PySem.W.nsIn K mainGlobals "BadNumber" = some (some (.ref y0)))
    (m1 : PySem.W.nsIn K mainGlobals "BadDate" = some (some (.ref y1)))
    (m2 : PySem.W.nsIn K mainGlobals "BadDays" = some (some (.ref y2)))
    (m3 : PySem.W.nsIn K mainGlobals "BadYearly" = some (some (.ref y3)))
    (m4 : PySem.W.nsIn K mainGlobals "BadRow" = some (some (.ref y4)))
    (m5 : PySem.W.nsIn K mainGlobals "BadOrder" = some (some (.ref y5)))
    (m6 : PySem.W.nsIn K mainGlobals "BadZone" = some (some (.ref y6)))
    (m7 : PySem.W.nsIn K mainGlobals "BadWord" = some (some (.ref y7)))
    (m8 : PySem.W.nsIn K mainGlobals "TooFew" = some (some (.ref y8)))
    (m9 : PySem.W.nsIn K mainGlobals "BadLog" = some (some (.ref y9)))
    (m10 : PySem.W.nsIn K mainGlobals "BadLimit" = some (some (.ref y10)))
    (m11 : PySem.W.nsIn K mainGlobals "BadText" = some (some (.ref y11)))
    (hn : PySem.W.specialIn K (.builtin "object.__class__") "__get__" = some (some (.builtin "getset_descriptor.__get__")))
    (ht : PySem.W.takesIn K (.builtin "object.__class__") = some true)
    (thE : K.lookup cE = some (excClassObj nmE qE cE NE bsE [.type "ValueError", .type "Exception", .type "BaseException", .type "object"] true snE subE abE colE ddE kaE kbE kcE kdE keE "ValueError.__new__"))
    (saE : PySem.W.findIn K (.ref cE) "__setattr__" = some (some (.builtin "object.__setattr__")))
    (gaE : PySem.W.findIn K (.ref cE) "__getattribute__" = some (some (.builtin "BaseException.__getattribute__")))
    (ggE : PySem.W.findIn K (.ref cE) "__getattr__" = some none)
    (clE : PySem.W.findIn K (.ref cE) "__class__" = some (some (.builtin "object.__class__")))
    (kpE : PySem.W.keepIn K (.ref cE) = true)
    (xE : PySem.W.excIn K cE [.type "ValueError", .type "Exception", .type "BaseException", .type "object"] "ValueError.__new__" = true)
    (nD : [cE, y0, y1, y2, y3, y4, y5, y6, y7, y8, y9, y10, y11].Nodup)
    (tE : PySem.W.nsIn K mainGlobals "enumerate" = some none)
    (tV : PySem.W.nsIn K mainGlobals "ValueError" = some none)
    (th0 : K.lookup y0 = some (excClassObj nm0 q0 y0 N0 bs0 (.ref cE :: [.type "ValueError", .type "Exception", .type "BaseException", .type "object"]) true sn0 sub0 ab0 col0 dd0 ka0 kb0 kc0 kd0 ke0 "ValueError.__new__"))
    (sa0 : PySem.W.findIn K (.ref y0) "__setattr__" = some (some (.builtin "object.__setattr__")))
    (ga0 : PySem.W.findIn K (.ref y0) "__getattribute__" = some (some (.builtin "BaseException.__getattribute__")))
    (gg0 : PySem.W.findIn K (.ref y0) "__getattr__" = some none)
    (cl0 : PySem.W.findIn K (.ref y0) "__class__" = some (some (.builtin "object.__class__")))
    (kp0 : PySem.W.keepIn K (.ref y0) = true)
    (in0 : PySem.W.findIn K (.ref y0) "__init__" = some (some (.ref i0)))
    (il0 : K.lookup i0 = some ⟨ic0, io0, .func (PySem.W.fnOf "__init__" "BadNumber.__init__" (defArgs (inner sBadnumber)) (defBody (inner sBadnumber)) (defScope (inner sBadnumber)) .none ik0 id0 ip0 ia0 ie0 it0), is0⟩)
    (io_0 : PySem.W.codeIn K ie0 "BadNumber.__init__" = true)
    (ik_0 : PySem.W.keepIn K (.ref i0) = true)
    (ity0 : PySem.W.typeIn K (.ref i0) = some (.type "function"))
    (f0_0 : PySem.W.findIn K (.ref y0) "value" = some none)
    (th1 : K.lookup y1 = some (excClassObj nm1 q1 y1 N1 bs1 (.ref cE :: [.type "ValueError", .type "Exception", .type "BaseException", .type "object"]) true sn1 sub1 ab1 col1 dd1 ka1 kb1 kc1 kd1 ke1 "ValueError.__new__"))
    (sa1 : PySem.W.findIn K (.ref y1) "__setattr__" = some (some (.builtin "object.__setattr__")))
    (ga1 : PySem.W.findIn K (.ref y1) "__getattribute__" = some (some (.builtin "BaseException.__getattribute__")))
    (gg1 : PySem.W.findIn K (.ref y1) "__getattr__" = some none)
    (cl1 : PySem.W.findIn K (.ref y1) "__class__" = some (some (.builtin "object.__class__")))
    (kp1 : PySem.W.keepIn K (.ref y1) = true)
    (in1 : PySem.W.findIn K (.ref y1) "__init__" = some (some (.ref i1)))
    (il1 : K.lookup i1 = some ⟨ic1, io1, .func (PySem.W.fnOf "__init__" "BadDate.__init__" (defArgs (inner sBaddate)) (defBody (inner sBaddate)) (defScope (inner sBaddate)) .none ik1 id1 ip1 ia1 ie1 it1), is1⟩)
    (io_1 : PySem.W.codeIn K ie1 "BadDate.__init__" = true)
    (ik_1 : PySem.W.keepIn K (.ref i1) = true)
    (ity1 : PySem.W.typeIn K (.ref i1) = some (.type "function"))
    (f1_0 : PySem.W.findIn K (.ref y1) "value" = some none)
    (th2 : K.lookup y2 = some (excClassObj nm2 q2 y2 N2 bs2 (.ref cE :: [.type "ValueError", .type "Exception", .type "BaseException", .type "object"]) true sn2 sub2 ab2 col2 dd2 ka2 kb2 kc2 kd2 ke2 "ValueError.__new__"))
    (sa2 : PySem.W.findIn K (.ref y2) "__setattr__" = some (some (.builtin "object.__setattr__")))
    (ga2 : PySem.W.findIn K (.ref y2) "__getattribute__" = some (some (.builtin "BaseException.__getattribute__")))
    (gg2 : PySem.W.findIn K (.ref y2) "__getattr__" = some none)
    (cl2 : PySem.W.findIn K (.ref y2) "__class__" = some (some (.builtin "object.__class__")))
    (kp2 : PySem.W.keepIn K (.ref y2) = true)
    (in2 : PySem.W.findIn K (.ref y2) "__init__" = some (some (.ref i2)))
    (il2 : K.lookup i2 = some ⟨ic2, io2, .func (PySem.W.fnOf "__init__" "BadDays.__init__" (defArgs (inner sBaddays)) (defBody (inner sBaddays)) (defScope (inner sBaddays)) .none ik2 id2 ip2 ia2 ie2 it2), is2⟩)
    (io_2 : PySem.W.codeIn K ie2 "BadDays.__init__" = true)
    (ik_2 : PySem.W.keepIn K (.ref i2) = true)
    (ity2 : PySem.W.typeIn K (.ref i2) = some (.type "function"))
    (f2_0 : PySem.W.findIn K (.ref y2) "value" = some none)
    (th3 : K.lookup y3 = some (excClassObj nm3 q3 y3 N3 bs3 (.ref cE :: [.type "ValueError", .type "Exception", .type "BaseException", .type "object"]) true sn3 sub3 ab3 col3 dd3 ka3 kb3 kc3 kd3 ke3 "ValueError.__new__"))
    (sa3 : PySem.W.findIn K (.ref y3) "__setattr__" = some (some (.builtin "object.__setattr__")))
    (ga3 : PySem.W.findIn K (.ref y3) "__getattribute__" = some (some (.builtin "BaseException.__getattribute__")))
    (gg3 : PySem.W.findIn K (.ref y3) "__getattr__" = some none)
    (cl3 : PySem.W.findIn K (.ref y3) "__class__" = some (some (.builtin "object.__class__")))
    (kp3 : PySem.W.keepIn K (.ref y3) = true)
    (in3 : PySem.W.findIn K (.ref y3) "__init__" = some (some (.ref i3)))
    (il3 : K.lookup i3 = some ⟨ic3, io3, .func (PySem.W.fnOf "__init__" "BadYearly.__init__" (defArgs (inner sBadyearly)) (defBody (inner sBadyearly)) (defScope (inner sBadyearly)) .none ik3 id3 ip3 ia3 ie3 it3), is3⟩)
    (io_3 : PySem.W.codeIn K ie3 "BadYearly.__init__" = true)
    (ik_3 : PySem.W.keepIn K (.ref i3) = true)
    (ity3 : PySem.W.typeIn K (.ref i3) = some (.type "function"))
    (f3_0 : PySem.W.findIn K (.ref y3) "value" = some none)
    (th4 : K.lookup y4 = some (excClassObj nm4 q4 y4 N4 bs4 (.ref cE :: [.type "ValueError", .type "Exception", .type "BaseException", .type "object"]) true sn4 sub4 ab4 col4 dd4 ka4 kb4 kc4 kd4 ke4 "ValueError.__new__"))
    (sa4 : PySem.W.findIn K (.ref y4) "__setattr__" = some (some (.builtin "object.__setattr__")))
    (ga4 : PySem.W.findIn K (.ref y4) "__getattribute__" = some (some (.builtin "BaseException.__getattribute__")))
    (gg4 : PySem.W.findIn K (.ref y4) "__getattr__" = some none)
    (cl4 : PySem.W.findIn K (.ref y4) "__class__" = some (some (.builtin "object.__class__")))
    (kp4 : PySem.W.keepIn K (.ref y4) = true)
    (in4 : PySem.W.findIn K (.ref y4) "__init__" = some (some (.ref i4)))
    (il4 : K.lookup i4 = some ⟨ic4, io4, .func (PySem.W.fnOf "__init__" "BadRow.__init__" (defArgs (inner sBadrow)) (defBody (inner sBadrow)) (defScope (inner sBadrow)) .none ik4 id4 ip4 ia4 ie4 it4), is4⟩)
    (io_4 : PySem.W.codeIn K ie4 "BadRow.__init__" = true)
    (ik_4 : PySem.W.keepIn K (.ref i4) = true)
    (ity4 : PySem.W.typeIn K (.ref i4) = some (.type "function"))
    (f4_0 : PySem.W.findIn K (.ref y4) "index" = some none)
    (th5 : K.lookup y5 = some (excClassObj nm5 q5 y5 N5 bs5 (.ref cE :: [.type "ValueError", .type "Exception", .type "BaseException", .type "object"]) true sn5 sub5 ab5 col5 dd5 ka5 kb5 kc5 kd5 ke5 "ValueError.__new__"))
    (sa5 : PySem.W.findIn K (.ref y5) "__setattr__" = some (some (.builtin "object.__setattr__")))
    (ga5 : PySem.W.findIn K (.ref y5) "__getattribute__" = some (some (.builtin "BaseException.__getattribute__")))
    (gg5 : PySem.W.findIn K (.ref y5) "__getattr__" = some none)
    (cl5 : PySem.W.findIn K (.ref y5) "__class__" = some (some (.builtin "object.__class__")))
    (kp5 : PySem.W.keepIn K (.ref y5) = true)
    (in5 : PySem.W.findIn K (.ref y5) "__init__" = some (some (.ref i5)))
    (il5 : K.lookup i5 = some ⟨ic5, io5, .func (PySem.W.fnOf "__init__" "BadOrder.__init__" (defArgs (inner sBadorder)) (defBody (inner sBadorder)) (defScope (inner sBadorder)) .none ik5 id5 ip5 ia5 ie5 it5), is5⟩)
    (io_5 : PySem.W.codeIn K ie5 "BadOrder.__init__" = true)
    (ik_5 : PySem.W.keepIn K (.ref i5) = true)
    (ity5 : PySem.W.typeIn K (.ref i5) = some (.type "function"))
    (f5_0 : PySem.W.findIn K (.ref y5) "year" = some none)
    (f5_1 : PySem.W.findIn K (.ref y5) "index" = some none)
    (th6 : K.lookup y6 = some (excClassObj nm6 q6 y6 N6 bs6 (.ref cE :: [.type "ValueError", .type "Exception", .type "BaseException", .type "object"]) true sn6 sub6 ab6 col6 dd6 ka6 kb6 kc6 kd6 ke6 "ValueError.__new__"))
    (sa6 : PySem.W.findIn K (.ref y6) "__setattr__" = some (some (.builtin "object.__setattr__")))
    (ga6 : PySem.W.findIn K (.ref y6) "__getattribute__" = some (some (.builtin "BaseException.__getattribute__")))
    (gg6 : PySem.W.findIn K (.ref y6) "__getattr__" = some none)
    (cl6 : PySem.W.findIn K (.ref y6) "__class__" = some (some (.builtin "object.__class__")))
    (kp6 : PySem.W.keepIn K (.ref y6) = true)
    (in6 : PySem.W.findIn K (.ref y6) "__init__" = some (some (.ref i6)))
    (il6 : K.lookup i6 = some ⟨ic6, io6, .func (PySem.W.fnOf "__init__" "BadZone.__init__" (defArgs (inner sBadzone)) (defBody (inner sBadzone)) (defScope (inner sBadzone)) .none ik6 id6 ip6 ia6 ie6 it6), is6⟩)
    (io_6 : PySem.W.codeIn K ie6 "BadZone.__init__" = true)
    (ik_6 : PySem.W.keepIn K (.ref i6) = true)
    (ity6 : PySem.W.typeIn K (.ref i6) = some (.type "function"))
    (f6_0 : PySem.W.findIn K (.ref y6) "index" = some none)
    (th7 : K.lookup y7 = some (excClassObj nm7 q7 y7 N7 bs7 (.ref cE :: [.type "ValueError", .type "Exception", .type "BaseException", .type "object"]) true sn7 sub7 ab7 col7 dd7 ka7 kb7 kc7 kd7 ke7 "ValueError.__new__"))
    (sa7 : PySem.W.findIn K (.ref y7) "__setattr__" = some (some (.builtin "object.__setattr__")))
    (ga7 : PySem.W.findIn K (.ref y7) "__getattribute__" = some (some (.builtin "BaseException.__getattribute__")))
    (gg7 : PySem.W.findIn K (.ref y7) "__getattr__" = some none)
    (cl7 : PySem.W.findIn K (.ref y7) "__class__" = some (some (.builtin "object.__class__")))
    (kp7 : PySem.W.keepIn K (.ref y7) = true)
    (in7 : PySem.W.findIn K (.ref y7) "__init__" = some (some (.ref i7)))
    (il7 : K.lookup i7 = some ⟨ic7, io7, .func (PySem.W.fnOf "__init__" "BadWord.__init__" (defArgs (inner sBadword)) (defBody (inner sBadword)) (defScope (inner sBadword)) .none ik7 id7 ip7 ia7 ie7 it7), is7⟩)
    (io_7 : PySem.W.codeIn K ie7 "BadWord.__init__" = true)
    (ik_7 : PySem.W.keepIn K (.ref i7) = true)
    (ity7 : PySem.W.typeIn K (.ref i7) = some (.type "function"))
    (f7_0 : PySem.W.findIn K (.ref y7) "value" = some none)
    (th8 : K.lookup y8 = some (excClassObj nm8 q8 y8 N8 bs8 (.ref cE :: [.type "ValueError", .type "Exception", .type "BaseException", .type "object"]) true sn8 sub8 ab8 col8 dd8 ka8 kb8 kc8 kd8 ke8 "ValueError.__new__"))
    (sa8 : PySem.W.findIn K (.ref y8) "__setattr__" = some (some (.builtin "object.__setattr__")))
    (ga8 : PySem.W.findIn K (.ref y8) "__getattribute__" = some (some (.builtin "BaseException.__getattribute__")))
    (gg8 : PySem.W.findIn K (.ref y8) "__getattr__" = some none)
    (cl8 : PySem.W.findIn K (.ref y8) "__class__" = some (some (.builtin "object.__class__")))
    (kp8 : PySem.W.keepIn K (.ref y8) = true)
    (in8 : PySem.W.findIn K (.ref y8) "__init__" = some (some (.ref i8)))
    (il8 : K.lookup i8 = some ⟨ic8, io8, .func (PySem.W.fnOf "__init__" "TooFew.__init__" (defArgs (inner sToofew)) (defBody (inner sToofew)) (defScope (inner sToofew)) .none ik8 id8 ip8 ia8 ie8 it8), is8⟩)
    (io_8 : PySem.W.codeIn K ie8 "TooFew.__init__" = true)
    (ik_8 : PySem.W.keepIn K (.ref i8) = true)
    (ity8 : PySem.W.typeIn K (.ref i8) = some (.type "function"))
    (f8_0 : PySem.W.findIn K (.ref y8) "number" = some none)
    (th9 : K.lookup y9 = some (excClassObj nm9 q9 y9 N9 bs9 (.ref cE :: [.type "ValueError", .type "Exception", .type "BaseException", .type "object"]) true sn9 sub9 ab9 col9 dd9 ka9 kb9 kc9 kd9 ke9 "ValueError.__new__"))
    (sa9 : PySem.W.findIn K (.ref y9) "__setattr__" = some (some (.builtin "object.__setattr__")))
    (ga9 : PySem.W.findIn K (.ref y9) "__getattribute__" = some (some (.builtin "BaseException.__getattribute__")))
    (gg9 : PySem.W.findIn K (.ref y9) "__getattr__" = some none)
    (cl9 : PySem.W.findIn K (.ref y9) "__class__" = some (some (.builtin "object.__class__")))
    (kp9 : PySem.W.keepIn K (.ref y9) = true)
    (in9 : PySem.W.findIn K (.ref y9) "__init__" = some (some (.ref i9)))
    (il9 : K.lookup i9 = some ⟨ic9, io9, .func (PySem.W.fnOf "__init__" "BadLog.__init__" (defArgs (inner sBadlog)) (defBody (inner sBadlog)) (defScope (inner sBadlog)) .none ik9 id9 ip9 ia9 ie9 it9), is9⟩)
    (io_9 : PySem.W.codeIn K ie9 "BadLog.__init__" = true)
    (ik_9 : PySem.W.keepIn K (.ref i9) = true)
    (ity9 : PySem.W.typeIn K (.ref i9) = some (.type "function"))
    (f9_0 : PySem.W.findIn K (.ref y9) "index" = some none)
    (th10 : K.lookup y10 = some (excClassObj nm10 q10 y10 N10 bs10 (.ref cE :: [.type "ValueError", .type "Exception", .type "BaseException", .type "object"]) true sn10 sub10 ab10 col10 dd10 ka10 kb10 kc10 kd10 ke10 "ValueError.__new__"))
    (sa10 : PySem.W.findIn K (.ref y10) "__setattr__" = some (some (.builtin "object.__setattr__")))
    (ga10 : PySem.W.findIn K (.ref y10) "__getattribute__" = some (some (.builtin "BaseException.__getattribute__")))
    (gg10 : PySem.W.findIn K (.ref y10) "__getattr__" = some none)
    (cl10 : PySem.W.findIn K (.ref y10) "__class__" = some (some (.builtin "object.__class__")))
    (kp10 : PySem.W.keepIn K (.ref y10) = true)
    (in10 : PySem.W.findIn K (.ref y10) "__init__" = some (some (.ref i10)))
    (il10 : K.lookup i10 = some ⟨ic10, io10, .func (PySem.W.fnOf "__init__" "BadLimit.__init__" (defArgs (inner sBadlimit)) (defBody (inner sBadlimit)) (defScope (inner sBadlimit)) .none ik10 id10 ip10 ia10 ie10 it10), is10⟩)
    (io_10 : PySem.W.codeIn K ie10 "BadLimit.__init__" = true)
    (ik_10 : PySem.W.keepIn K (.ref i10) = true)
    (ity10 : PySem.W.typeIn K (.ref i10) = some (.type "function"))
    (f10_0 : PySem.W.findIn K (.ref y10) "index" = some none)
    (th11 : K.lookup y11 = some (excClassObj nm11 q11 y11 N11 bs11 (.ref cE :: [.type "ValueError", .type "Exception", .type "BaseException", .type "object"]) true sn11 sub11 ab11 col11 dd11 ka11 kb11 kc11 kd11 ke11 "ValueError.__new__"))
    (sa11 : PySem.W.findIn K (.ref y11) "__setattr__" = some (some (.builtin "object.__setattr__")))
    (ga11 : PySem.W.findIn K (.ref y11) "__getattribute__" = some (some (.builtin "BaseException.__getattribute__")))
    (gg11 : PySem.W.findIn K (.ref y11) "__getattr__" = some none)
    (cl11 : PySem.W.findIn K (.ref y11) "__class__" = some (some (.builtin "object.__class__")))
    (kp11 : PySem.W.keepIn K (.ref y11) = true)
    (in11 : PySem.W.findIn K (.ref y11) "__init__" = some (some (.ref i11)))
    (il11 : K.lookup i11 = some ⟨ic11, io11, .func (PySem.W.fnOf "__init__" "BadText.__init__" (defArgs (inner sBadtext)) (defBody (inner sBadtext)) (defScope (inner sBadtext)) .none ik11 id11 ip11 ia11 ie11 it11), is11⟩)
    (io_11 : PySem.W.codeIn K ie11 "BadText.__init__" = true)
    (ik_11 : PySem.W.keepIn K (.ref i11) = true)
    (ity11 : PySem.W.typeIn K (.ref i11) = some (.type "function"))
    (f11_0 : PySem.W.findIn K (.ref y11) "line" = some none)
    (aS : PySem.W.nsIn K mainGlobals "_law_simple_right" = some (some (.ref gS)))
    (lS : K.lookup gS = some ⟨oS, odS, .func (PySem.W.fnOf "_law_simple_right" "_law_simple_right" (defArgs sLawSimpleRight) (defBody sLawSimpleRight) (defScope sLawSimpleRight) .none kS dS pmS anS (.ref cS) ctS), slS⟩)
    (ccS : PySem.W.codeIn K (.ref cS) "_law_simple_right" = true)
    (kkS : PySem.W.keepIn K (.ref gS) = true)
    (coS : K.lookup cS = some ⟨coS, cqS, .fields vsS, csS⟩)
    (cvS : vsS[11]? = some (.ref pS))
    (ntS : K.lookup pS = none)
    (dfS : (recsOf q).find? (fun e => e.name == ("_law_simple_right" : Str)) = some dfS)
    (aD : PySem.W.nsIn K mainGlobals "_law_date_right" = some (some (.ref gD)))
    (lD : K.lookup gD = some ⟨oD, odD, .func (PySem.W.fnOf "_law_date_right" "_law_date_right" (defArgs sLawDateRight) (defBody sLawDateRight) (defScope sLawDateRight) .none kD dD pmD anD (.ref cD) ctD), slD⟩)
    (ccD : PySem.W.codeIn K (.ref cD) "_law_date_right" = true)
    (kkD : PySem.W.keepIn K (.ref gD) = true)
    (coD : K.lookup cD = some ⟨coD, cqD, .fields vsD, csD⟩)
    (cvD : vsD[11]? = some (.ref pD))
    (ntD : K.lookup pD = none)
    (dfD : (recsOf q).find? (fun e => e.name == ("_law_date_right" : Str)) = some dfD)
    (aR : PySem.W.nsIn K mainGlobals "_law_raised" = some (some (.ref gR)))
    (lR : K.lookup gR = some ⟨oR, odR, .func (PySem.W.fnOf "_law_raised" "_law_raised" (defArgs sLawRaised) (defBody sLawRaised) (defScope sLawRaised) .none kR dR pmR anR cdR ctR), slR⟩)
    (ccR : PySem.W.codeIn K cdR "_law_raised" = true)
    (kkR : PySem.W.keepIn K (.ref gR) = true)
    (pne : pS ≠ pD)
    : ∃ (fd : FuncData) (cs : List (Addr × Addr)) (sp : Sp), (∀ p ∈ cs, K.lookup p.2 = none) ∧ (∀ p ∈ cs, ∃ (y : Str) (r : DefRec), (recsOf q).find? (fun e => e.name == y) = some r ∧ PySem.W.tabIn K y = some p) ∧
        (∀ (s : Shared) (u : Value), BindsTo s fd ⟨[u], []⟩ [("script", u)]) ∧
        (∀ (H : Hp) (a : Addr) (ns : List Int), ns.length ≤ 63 → (∀ p ∈ cs, H p.2 = some (.tbl #[])) → SqL K H a (ns.map V.int) → sp [.ref a] H (fun v _ => v = .bl true) fun _ _ _ => False) ∧
        ∀ base : Heap, K.In base → base.Ns mainGlobals mg → (∀ p ∈ cs, TabB base mg p.1 p.2) → FnG l.prog w K mg base CX0 9 fa fd ["script"] sp := by
  obtain ⟨T0, eT⟩ : ∃ T0 : List (Addr × Str), T0 = [(pS, ("_law_simple_right.<locals>." : Str) ++ "<lambda>"), (pD, ("_law_date_right.<locals>." : Str) ++ "<lambda>")] := ⟨_, rfl⟩
  have e := hfa.symm.trans (PySem.W.mg_of X G a21)
  cases e
  have T : Nm mg := { abs := PySem.W.mg_none_of X G z_abs, int := PySem.W.mg_none_of X G z_int, bool := PySem.W.mg_none_of X G z_bool, isinstance := PySem.W.mg_none_of X G z_isinstance, sum := PySem.W.mg_none_of X G z_sum, divmod := PySem.W.mg_none_of X G z_divmod, min := PySem.W.mg_none_of X G z_min, len := PySem.W.mg_none_of X G z_len, range := PySem.W.mg_none_of X G z_range, repr := PySem.W.mg_none_of X G z_repr }
  have M : Cm K mg tp := ⟨PySem.W.mg_of X G aM, fun H => .inr ⟨_, _, _, lM, rfl, rfl, (by show 12 ≤ sizeLine; decide), .cons ⟨_, rfl⟩ (.cons ⟨_, rfl⟩ (.cons ⟨_, rfl⟩ (.cons ⟨_, rfl⟩ (.cons ⟨_, rfl⟩ (.cons ⟨_, rfl⟩ (.cons ⟨_, rfl⟩ (.cons ⟨_, rfl⟩ (.cons ⟨_, rfl⟩ (.cons ⟨_, rfl⟩ (.cons ⟨_, rfl⟩ (.cons ⟨_, rfl⟩ (.nil))))))))))))⟩⟩
  refine ⟨PySem.W.fnOf "law" "law" (defArgs sLaw) (defBody sLaw) (defScope sLaw) .none kV21 dc21 pm21 an21 cd21 ct21, [(cS, pS), (cD, pD)], spLawT K T0, ?_, ?_, fun s v => .of_eq rfl, ?_, fun base _ _ TBs => ?_⟩
  · intro p hp
    rcases List.mem_cons.mp hp with rfl | hp
    · exact ntS
    · rw [List.mem_singleton.mp hp]; exact ntD
  · intro p hp
    rcases List.mem_cons.mp hp with rfl | hp
    · exact ⟨_, _, dfS, tab_in aS lS rfl coS cvS⟩
    · rw [List.mem_singleton.mp hp]; exact ⟨_, _, dfD, tab_in aD lD rfl coD cvD⟩
  · intro H a ns hl ht hS
    refine ⟨a, ns, rfl, hS, hl, fun p hp => ?_, fun _ => rfl⟩
    rw [eT] at hp
    rcases List.mem_cons.mp hp with rfl | hp
    · exact TabS.nil (ht _ (List.mem_cons_self ..))
    · rw [List.mem_singleton.mp hp]; exact TabS.nil (ht _ (List.mem_cons_of_mem _ (List.mem_cons_self ..)))
  subst eT
  have te := PySem.W.mg_none_of X G tE
  have tv := PySem.W.mg_none_of X G tV
  have L : Cls K mg cE y0 y1 y2 y3 y4 y5 y6 y7 y8 y9 y10 y11 := { kE := ⟨⟨nmE, qE, NE, bsE, snE, subE, abE, colE, ddE, kaE, kbE, kcE, kdE, keE, thE⟩, saE, gaE, ggE, clE, kpE⟩, mE := PySem.W.mg_of X G mE, o := ⟨hn, ht⟩, nd := nD, k0 := ⟨⟨nm0, q0, N0, bs0, sn0, sub0, ab0, col0, dd0, ka0, kb0, kc0, kd0, ke0, th0⟩, sa0, ga0, gg0, cl0, kp0⟩, m0 := PySem.W.mg_of X G m0, k1 := ⟨⟨nm1, q1, N1, bs1, sn1, sub1, ab1, col1, dd1, ka1, kb1, kc1, kd1, ke1, th1⟩, sa1, ga1, gg1, cl1, kp1⟩, m1 := PySem.W.mg_of X G m1, k2 := ⟨⟨nm2, q2, N2, bs2, sn2, sub2, ab2, col2, dd2, ka2, kb2, kc2, kd2, ke2, th2⟩, sa2, ga2, gg2, cl2, kp2⟩, m2 := PySem.W.mg_of X G m2, k3 := ⟨⟨nm3, q3, N3, bs3, sn3, sub3, ab3, col3, dd3, ka3, kb3, kc3, kd3, ke3, th3⟩, sa3, ga3, gg3, cl3, kp3⟩, m3 := PySem.W.mg_of X G m3, k4 := ⟨⟨nm4, q4, N4, bs4, sn4, sub4, ab4, col4, dd4, ka4, kb4, kc4, kd4, ke4, th4⟩, sa4, ga4, gg4, cl4, kp4⟩, m4 := PySem.W.mg_of X G m4, k5 := ⟨⟨nm5, q5, N5, bs5, sn5, sub5, ab5, col5, dd5, ka5, kb5, kc5, kd5, ke5, th5⟩, sa5, ga5, gg5, cl5, kp5⟩, m5 := PySem.W.mg_of X G m5, k6 := ⟨⟨nm6, q6, N6, bs6, sn6, sub6, ab6, col6, dd6, ka6, kb6, kc6, kd6, ke6, th6⟩, sa6, ga6, gg6, cl6, kp6⟩, m6 := PySem.W.mg_of X G m6, k7 := ⟨⟨nm7, q7, N7, bs7, sn7, sub7, ab7, col7, dd7, ka7, kb7, kc7, kd7, ke7, th7⟩, sa7, ga7, gg7, cl7, kp7⟩, m7 := PySem.W.mg_of X G m7, k8 := ⟨⟨nm8, q8, N8, bs8, sn8, sub8, ab8, col8, dd8, ka8, kb8, kc8, kd8, ke8, th8⟩, sa8, ga8, gg8, cl8, kp8⟩, m8 := PySem.W.mg_of X G m8, k9 := ⟨⟨nm9, q9, N9, bs9, sn9, sub9, ab9, col9, dd9, ka9, kb9, kc9, kd9, ke9, th9⟩, sa9, ga9, gg9, cl9, kp9⟩, m9 := PySem.W.mg_of X G m9, k10 := ⟨⟨nm10, q10, N10, bs10, sn10, sub10, ab10, col10, dd10, ka10, kb10, kc10, kd10, ke10, th10⟩, sa10, ga10, gg10, cl10, kp10⟩, m10 := PySem.W.mg_of X G m10, k11 := ⟨⟨nm11, q11, N11, bs11, sn11, sub11, ab11, col11, dd11, ka11, kb11, kc11, kd11, ke11, th11⟩, sa11, ga11, gg11, cl11, kp11⟩, m11 := PySem.W.mg_of X G m11 }
  have Fi0 := fun_mk (st := (inner sBadnumber)) il0 io_0 ik_0
  have Bi0 := Fi0.binds (ps := ["self", "value"]) fun _ _ _ _ _ _ us hl => match us, hl with | [_, _], _ => rfl
  have Fi1 := fun_mk (st := (inner sBaddate)) il1 io_1 ik_1
  have Bi1 := Fi1.binds (ps := ["self", "value"]) fun _ _ _ _ _ _ us hl => match us, hl with | [_, _], _ => rfl
  have Fi2 := fun_mk (st := (inner sBaddays)) il2 io_2 ik_2
  have Bi2 := Fi2.binds (ps := ["self", "value"]) fun _ _ _ _ _ _ us hl => match us, hl with | [_, _], _ => rfl
  have Fi3 := fun_mk (st := (inner sBadyearly)) il3 io_3 ik_3
  have Bi3 := Fi3.binds (ps := ["self", "value"]) fun _ _ _ _ _ _ us hl => match us, hl with | [_, _], _ => rfl
  have Fi4 := fun_mk (st := (inner sBadrow)) il4 io_4 ik_4
  have Bi4 := Fi4.binds (ps := ["self", "index"]) fun _ _ _ _ _ _ us hl => match us, hl with | [_, _], _ => rfl
  have Fi5 := fun_mk (st := (inner sBadorder)) il5 io_5 ik_5
  have Bi5 := Fi5.binds (ps := ["self", "year", "index"]) fun _ _ _ _ _ _ us hl => match us, hl with | [_, _, _], _ => rfl
  have Fi6 := fun_mk (st := (inner sBadzone)) il6 io_6 ik_6
  have Bi6 := Fi6.binds (ps := ["self", "index"]) fun _ _ _ _ _ _ us hl => match us, hl with | [_, _], _ => rfl
  have Fi7 := fun_mk (st := (inner sBadword)) il7 io_7 ik_7
  have Bi7 := Fi7.binds (ps := ["self", "value"]) fun _ _ _ _ _ _ us hl => match us, hl with | [_, _], _ => rfl
  have Fi8 := fun_mk (st := (inner sToofew)) il8 io_8 ik_8
  have Bi8 := Fi8.binds (ps := ["self", "number"]) fun _ _ _ _ _ _ us hl => match us, hl with | [_, _], _ => rfl
  have Fi9 := fun_mk (st := (inner sBadlog)) il9 io_9 ik_9
  have Bi9 := Fi9.binds (ps := ["self", "index"]) fun _ _ _ _ _ _ us hl => match us, hl with | [_, _], _ => rfl
  have Fi10 := fun_mk (st := (inner sBadlimit)) il10 io_10 ik_10
  have Bi10 := Fi10.binds (ps := ["self", "index"]) fun _ _ _ _ _ _ us hl => match us, hl with | [_, _], _ => rfl
  have Fi11 := fun_mk (st := (inner sBadtext)) il11 io_11 ik_11
  have Bi11 := Fi11.binds (ps := ["self", "line"]) fun _ _ _ _ _ _ us hl => match us, hl with | [_, _], _ => rfl
  have R0 : Rs l.prog w K mg base "BadNumber" y0 1 mk0 := ⟨L.k0.oex (up2 cE), L.m0, i0, _, ["self", "value"], in0, ity0, ok_init1 Fi0 (L.k0.oex (up2 cE)) f0_0, Bi0⟩
  have R1 : Rs l.prog w K mg base "BadDate" y1 1 mk1 := ⟨L.k1.oex (up2 cE), L.m1, i1, _, ["self", "value"], in1, ity1, ok_init2 Fi1 (L.k1.oex (up2 cE)) f1_0, Bi1⟩
  have Z : Rz K mg cE y0 y1 y2 y3 y4 y5 y6 y7 y8 y9 y10 y11 := { T := T, tv := tv, L := L, g0_value := f0_0, g1_value := f1_0, g2_value := f2_0, g3_value := f3_0, g7_value := f7_0, g4_index := f4_0, g6_index := f6_0, g9_index := f9_0, g10_index := f10_0, g8_number := f8_0, g5_year := f5_0, g5_index := f5_1, g11_line := f11_0, d := ⟨gR, _, _, _, _, _, _, _, _, _, _, PySem.W.mg_of X G aR, kkR, ccR, lR, (fun_mk (st := sLawRaised) lR ccR kkR).binds (ps := ["work"]) fun _ _ _ _ _ _ us hl => match us, hl with | [_], _ => rfl⟩ }
  have F_is_number := fun_mk (st := sIsNumber) l0 c0 k0
  have b_is_number := F_is_number.binds (ps := ["value"]) fun _ _ _ _ _ _ us hl => match us, hl with | [_], _ => rfl
  have G_is_number : FnOk l.prog w K mg base CX0 1 f0 _ ["value"] spIsNum := ok_isnum F_is_number T
  have D_is_number : Df l.prog w K mg base 1 "is_number" ["value"] [] spIsNum := ⟨⟨_, _, [], G_is_number, PySem.W.mg_of X G a0, k0, .nil, b_is_number⟩⟩
  have F_check_number : FunD K "check_number" "check_number" (defArgs sCheckNumber) (defBody sCheckNumber) (defScope sCheckNumber) [.non] [] f1 _ := ⟨⟨_, _, _, _, _, _, _, _, _, _, rfl, l1, c1, .inr ⟨by simp, _, _, [.none], _, rfl, lT1, rfl, .cons rfl .nil⟩, .inl rfl⟩, k1⟩
  obtain ⟨ds1, v1, b1⟩ := F_check_number.binds1 (ps := ["value", "least"]) 1 0 (by simp) (by rfl) (fun T kV doc pm an cdv ct us its h1 h2 => match us, its, h1, h2 with | [_], [_], _, _ => ⟨_, rfl, rfl⟩)
  have D_check_number : Df l.prog w K mg base 2 "check_number" ["value", "least"] [.non] spCheck := ⟨⟨_, _, ds1, ok_check F_check_number D_is_number, PySem.W.mg_of X G a1, k1, v1, b1⟩⟩
  have F_is_leap := fun_mk (st := sIsLeap) l2 c2 k2
  have b_is_leap := F_is_leap.binds (ps := ["year"]) fun _ _ _ _ _ _ us hl => match us, hl with | [_], _ => rfl
  have G_is_leap : FnOk l.prog w K mg base CX0 3 f2 _ ["year"] spLeap := ok_leap F_is_leap D_check_number
  have D_is_leap : Df l.prog w K mg base 3 "is_leap" ["year"] [] spLeap := ⟨⟨_, _, [], G_is_leap, PySem.W.mg_of X G a2, k2, .nil, b_is_leap⟩⟩
  have F_leap_years_before := fun_mk (st := sLeapYearsBefore) l3 c3 k3
  have b_leap_years_before := F_leap_years_before.binds (ps := ["year"]) fun _ _ _ _ _ _ us hl => match us, hl with | [_], _ => rfl
  have G_leap_years_before : FnOk l.prog w K mg base CX0 1 f3 _ ["year"] spLyb := ok_lyb F_leap_years_before
  have D_leap_years_before : Df l.prog w K mg base 1 "leap_years_before" ["year"] [] spLyb := ⟨⟨_, _, [], G_leap_years_before, PySem.W.mg_of X G a3, k3, .nil, b_leap_years_before⟩⟩
  have F_year_start := fun_mk (st := sYearStart) l4 c4 k4
  have b_year_start := F_year_start.binds (ps := ["year"]) fun _ _ _ _ _ _ us hl => match us, hl with | [_], _ => rfl
  have G_year_start : FnOk l.prog w K mg base CX0 3 f4 _ ["year"] spYs := ok_ys F_year_start D_check_number D_leap_years_before
  have D_year_start : Df l.prog w K mg base 3 "year_start" ["year"] [] spYs := ⟨⟨_, _, [], G_year_start, PySem.W.mg_of X G a4, k4, .nil, b_year_start⟩⟩
  have F_month_length := fun_mk (st := sMonthLength) l5 c5 k5
  have b_month_length := F_month_length.binds (ps := ["month", "leap"]) fun _ _ _ _ _ _ us hl => match us, hl with | [_, _], _ => rfl
  have G_month_length : FnOk l.prog w K mg base CX0 1 f5 _ ["month", "leap"] spMlen := ok_mlen F_month_length M
  have D_month_length : Df l.prog w K mg base 1 "month_length" ["month", "leap"] [] spMlen := ⟨⟨_, _, [], G_month_length, PySem.W.mg_of X G a5, k5, .nil, b_month_length⟩⟩
  have F_month_start := fun_mk (st := sMonthStart) l6 c6 k6
  have b_month_start := F_month_start.binds (ps := ["month", "leap"]) fun _ _ _ _ _ _ us hl => match us, hl with | [_, _], _ => rfl
  have G_month_start : FnOk l.prog w K mg base CX0 1 f6 _ ["month", "leap"] spMst := ok_mst F_month_start M T
  have D_month_start : Df l.prog w K mg base 1 "month_start" ["month", "leap"] [] spMst := ⟨⟨_, _, [], G_month_start, PySem.W.mg_of X G a6, k6, .nil, b_month_start⟩⟩
  have F_day_of := fun_mk (st := sDayOf) l7 c7 k7
  have b_day_of := F_day_of.binds (ps := ["year", "month", "day"]) fun _ _ _ _ _ _ us hl => match us, hl with | [_, _, _], _ => rfl
  have F_date_of := fun_mk (st := sDateOf) l8 c8 k8
  have b_date_of := F_date_of.binds (ps := ["day"]) fun _ _ _ _ _ _ us hl => match us, hl with | [_], _ => rfl
  have F_weekday := fun_mk (st := sWeekday) l9 c9 k9
  have b_weekday := F_weekday.binds (ps := ["day"]) fun _ _ _ _ _ _ us hl => match us, hl with | [_], _ => rfl
  have F_week_of := fun_mk (st := sWeekOf) l10 c10 k10
  have b_week_of := F_week_of.binds (ps := ["day"]) fun _ _ _ _ _ _ us hl => match us, hl with | [_], _ => rfl
  have F_kind_of := fun_mk (st := sKindOf) l11 c11 k11
  have b_kind_of := F_kind_of.binds (ps := ["year"]) fun _ _ _ _ _ _ us hl => match us, hl with | [_], _ => rfl
  have F_law_begun := fun_mk (st := sLawBegun) l12 c12 k12
  have b_law_begun := F_law_begun.binds (ps := ["script"]) fun _ _ _ _ _ _ us hl => match us, hl with | [_], _ => rfl
  have G_law_begun : FnOk l.prog w K mg base CX0 1 f12 _ ["script"] (spBegun K) := ok_begun F_law_begun T
  have D_law_begun : Df l.prog w K mg base 1 "_law_begun" ["script"] [] (spBegun K) := ⟨⟨_, _, [], G_law_begun, PySem.W.mg_of X G a12, k12, .nil, b_law_begun⟩⟩
  have F_law_mixed := fun_mk (st := sLawMixed) l13 c13 k13
  have b_law_mixed := F_law_mixed.binds (ps := ["state"]) fun _ _ _ _ _ _ us hl => match us, hl with | [_], _ => rfl
  have G_law_mixed : FnOk l.prog w K mg base CX0 1 f13 _ ["state"] spMixed := ok_mixed F_law_mixed T
  have D_law_mixed : Df l.prog w K mg base 1 "_law_mixed" ["state"] [] spMixed := ⟨⟨_, _, [], G_law_mixed, PySem.W.mg_of X G a13, k13, .nil, b_law_mixed⟩⟩
  have F_law_take := fun_mk (st := sLawTake) l14 c14 k14
  have b_law_take := F_law_take.binds (ps := ["state", "size"]) fun _ _ _ _ _ _ us hl => match us, hl with | [_, _], _ => rfl
  have G_law_take : FnOk l.prog w K mg base CX0 2 f14 _ ["state", "size"] spTake := ok_take F_law_take T D_law_mixed
  have D_law_take : Df l.prog w K mg base 2 "_law_take" ["state", "size"] [] spTake := ⟨⟨_, _, [], G_law_take, PySem.W.mg_of X G a14, k14, .nil, b_law_take⟩⟩
  have F_law_pick := fun_mk (st := sLawPick) l15 c15 k15
  have b_law_pick := F_law_pick.binds (ps := ["state", "some"]) fun _ _ _ _ _ _ us hl => match us, hl with | [_, _], _ => rfl
  have G_law_pick : FnOk l.prog w K mg base CX0 3 f15 _ ["state", "some"] spPick := ok_pick F_law_pick T D_law_take
  have D_law_pick : Df l.prog w K mg base 3 "_law_pick" ["state", "some"] [] spPick := ⟨⟨_, _, [], G_law_pick, PySem.W.mg_of X G a15, k15, .nil, b_law_pick⟩⟩
  have F_law_is_long := fun_mk (st := sLawIsLong) l16 c16 k16
  have b_law_is_long := F_law_is_long.binds (ps := ["one_year"]) fun _ _ _ _ _ _ us hl => match us, hl with | [_], _ => rfl
  have G_law_is_long : FnOk l.prog w K mg base CX0 1 f16 _ ["one_year"] spLong := ok_long F_law_is_long T
  have D_law_is_long : Df l.prog w K mg base 1 "_law_is_long" ["one_year"] [] spLong := ⟨⟨_, _, [], G_law_is_long, PySem.W.mg_of X G a16, k16, .nil, b_law_is_long⟩⟩
  have F_law_size := fun_mk (st := sLawSize) l17 c17 k17
  have b_law_size := F_law_size.binds (ps := ["one_year", "one_month"]) fun _ _ _ _ _ _ us hl => match us, hl with | [_, _], _ => rfl
  have G_law_size : FnOk l.prog w K mg base CX0 2 f17 _ ["one_year", "one_month"] spSize := ok_size F_law_size D_law_is_long
  have D_law_size : Df l.prog w K mg base 2 "_law_size" ["one_year", "one_month"] [] spSize := ⟨⟨_, _, [], G_law_size, PySem.W.mg_of X G a17, k17, .nil, b_law_size⟩⟩
  have F_law_some_year := fun_mk (st := sLawSomeYear) l18 c18 k18
  have b_law_some_year := F_law_some_year.binds (ps := ["state"]) fun _ _ _ _ _ _ us hl => match us, hl with | [_], _ => rfl
  have G_law_some_year : FnOk l.prog w K mg base CX0 3 f18 _ ["state"] spSome := ok_some F_law_some_year T D_law_take
  have D_law_some_year : Df l.prog w K mg base 3 "_law_some_year" ["state"] [] spSome := ⟨⟨_, _, [], G_law_some_year, PySem.W.mg_of X G a18, k18, .nil, b_law_some_year⟩⟩
  have F_law_odd := fun_mk (st := sLawOdd) l19 c19 k19
  have b_law_odd := F_law_odd.binds (ps := ["state"]) fun _ _ _ _ _ _ us hl => match us, hl with | [_], _ => rfl
  have G_law_odd : FnOk l.prog w K mg base CX0 4 f19 _ ["state"] (spOdd K) := ok_odd F_law_odd T D_law_pick
  have D_law_odd : Df l.prog w K mg base 4 "_law_odd" ["state"] [] (spOdd K) := ⟨⟨_, _, [], G_law_odd, PySem.W.mg_of X G a19, k19, .nil, b_law_odd⟩⟩
  have F_law_gap := fun_mk (st := sLawGap) l20 c20 k20
  have b_law_gap := F_law_gap.binds (ps := ["state", "one_year"]) fun _ _ _ _ _ _ us hl => match us, hl with | [_, _], _ => rfl
  have G_law_gap : FnOk l.prog w K mg base CX0 4 f20 _ ["state", "one_year"] spGap := ok_gap F_law_gap T D_law_take D_law_size D_law_pick
  have D_law_gap : Df l.prog w K mg base 4 "_law_gap" ["state", "one_year"] [] spGap := ⟨⟨_, _, [], G_law_gap, PySem.W.mg_of X G a20, k20, .nil, b_law_gap⟩⟩
  have F_law := fun_mk (st := sLaw) l21 c21 k21
  have F_v := F_is_number
  have DV : Df l.prog w K mg base 1 "is_number" ["value"] [] (spIsNumV K) := ⟨⟨_, _, [], ok_isnumV F_is_number T, PySem.W.mg_of X G a0, k0, .nil, b_is_number⟩⟩
  have KV : Dk l.prog w K mg base 1 "is_number" ["value"] ["value"] one1 (spIsNumV K) := ⟨⟨_, _, (fun us => [us.getD 0 .none]), ok_isnumV F_is_number T, PySem.W.mg_of X G a0, k0, (fun r => .cons (getD_rel 0 r) .nil), fun s ws _ hl => match ws, hl with | [_], _ => .of_eq rfl⟩⟩
  have DC : Dx l.prog w K mg base 3 "check_number" ["value", "least"] [.non] (spCheckX K y0) := ⟨⟨_, _, ds1, ok_checkX F_check_number DV R0, PySem.W.mg_of X G a1, k1, v1, b1⟩⟩
  have X_is_leap : Dx l.prog w K mg base 4 "is_leap" ["year"] [] (spRx K y0) := ⟨⟨_, _, [], ok_xis_leap F_is_leap DC, PySem.W.mg_of X G a2, k2, .nil, b_is_leap⟩⟩
  have Y_is_leap : Dkx l.prog w K mg base 4 "is_leap" ["year"] ["year"] one1 (spRx K y0) := ⟨⟨_, _, (fun us => [us.getD 0 .none]), ok_xis_leap F_is_leap DC, PySem.W.mg_of X G a2, k2, (fun r => .cons (getD_rel 0 r) .nil), fun s ws _ hl => match ws, hl with | [_], _ => .of_eq rfl⟩⟩
  have X_year_start : Dx l.prog w K mg base 4 "year_start" ["year"] [] (spRx K y0) := ⟨⟨_, _, [], ok_xyear_start F_year_start DC, PySem.W.mg_of X G a4, k4, .nil, b_year_start⟩⟩
  have Y_year_start : Dkx l.prog w K mg base 4 "year_start" ["year"] ["year"] one1 (spRx K y0) := ⟨⟨_, _, (fun us => [us.getD 0 .none]), ok_xyear_start F_year_start DC, PySem.W.mg_of X G a4, k4, (fun r => .cons (getD_rel 0 r) .nil), fun s ws _ hl => match ws, hl with | [_], _ => .of_eq rfl⟩⟩
  have X_date_of : Dx l.prog w K mg base 4 "date_of" ["day"] [] (spRx K y0) := ⟨⟨_, _, [], ok_xdate_of F_date_of DC, PySem.W.mg_of X G a8, k8, .nil, b_date_of⟩⟩
  have Y_date_of : Dkx l.prog w K mg base 4 "date_of" ["day"] ["day"] one1 (spRx K y0) := ⟨⟨_, _, (fun us => [us.getD 0 .none]), ok_xdate_of F_date_of DC, PySem.W.mg_of X G a8, k8, (fun r => .cons (getD_rel 0 r) .nil), fun s ws _ hl => match ws, hl with | [_], _ => .of_eq rfl⟩⟩
  have X_weekday : Dx l.prog w K mg base 4 "weekday" ["day"] [] (spRx K y0) := ⟨⟨_, _, [], ok_xweekday F_weekday DC, PySem.W.mg_of X G a9, k9, .nil, b_weekday⟩⟩
  have Y_weekday : Dkx l.prog w K mg base 4 "weekday" ["day"] ["day"] one1 (spRx K y0) := ⟨⟨_, _, (fun us => [us.getD 0 .none]), ok_xweekday F_weekday DC, PySem.W.mg_of X G a9, k9, (fun r => .cons (getD_rel 0 r) .nil), fun s ws _ hl => match ws, hl with | [_], _ => .of_eq rfl⟩⟩
  have X_week_of : Dx l.prog w K mg base 4 "week_of" ["day"] [] (spRx K y0) := ⟨⟨_, _, [], ok_xweek_of F_week_of DC, PySem.W.mg_of X G a10, k10, .nil, b_week_of⟩⟩
  have Y_week_of : Dkx l.prog w K mg base 4 "week_of" ["day"] ["day"] one1 (spRx K y0) := ⟨⟨_, _, (fun us => [us.getD 0 .none]), ok_xweek_of F_week_of DC, PySem.W.mg_of X G a10, k10, (fun r => .cons (getD_rel 0 r) .nil), fun s ws _ hl => match ws, hl with | [_], _ => .of_eq rfl⟩⟩
  have X_kind_of : Dx l.prog w K mg base 4 "kind_of" ["year"] [] (spRx K y0) := ⟨⟨_, _, [], ok_xkind_of F_kind_of DC, PySem.W.mg_of X G a11, k11, .nil, b_kind_of⟩⟩
  have Y_kind_of : Dkx l.prog w K mg base 4 "kind_of" ["year"] ["year"] one1 (spRx K y0) := ⟨⟨_, _, (fun us => [us.getD 0 .none]), ok_xkind_of F_kind_of DC, PySem.W.mg_of X G a11, k11, (fun r => .cons (getD_rel 0 r) .nil), fun s ws _ hl => match ws, hl with | [_], _ => .of_eq rfl⟩⟩
  have X_day : Dx l.prog w K mg base 5 "day_of" ["year", "month", "day"] [] (spDayX K y0 y1) := ⟨⟨_, _, [], ok_dayx F_day_of DC D_is_leap D_month_length D_year_start D_month_start R1, PySem.W.mg_of X G a7, k7, .nil, b_day_of⟩⟩
  have Y_day : Dkx l.prog w K mg base 5 "day_of" ["year", "month", "day"] ["day", "year", "month"] rev3d (spDayX K y0 y1) := ⟨⟨_, _, (fun us => [us.getD 1 .none, us.getD 2 .none, us.getD 0 .none]), ok_dayx F_day_of DC D_is_leap D_month_length D_year_start D_month_start R1, PySem.W.mg_of X G a7, k7, (fun r => .cons (getD_rel 1 r) (.cons (getD_rel 2 r) (.cons (getD_rel 0 r) .nil))), fun s ws _ hl => match ws, hl with | [_, _, _], _ => .of_eq rfl⟩⟩
  have one_ : ∀ p ∈ [(pS, ("_law_simple_right.<locals>." : Str) ++ "<lambda>"), (pD, ("_law_date_right.<locals>." : Str) ++ "<lambda>")], p.1 = pS → p.2 = ("_law_simple_right.<locals>." : Str) ++ "<lambda>" := fun p hp e => by
    rcases List.mem_cons.mp hp with rfl | hp
    · rfl
    · rw [List.mem_singleton.mp hp] at e
      exact absurd e.symm pne
  have two_ : ∀ p ∈ [(pS, ("_law_simple_right.<locals>." : Str) ++ "<lambda>"), (pD, ("_law_date_right.<locals>." : Str) ++ "<lambda>")], p.1 = pD → p.2 = ("_law_date_right.<locals>." : Str) ++ "<lambda>" := fun p hp e => by
    rcases List.mem_cons.mp hp with rfl | hp
    · exact absurd e pne
    · rw [List.mem_singleton.mp hp]
  have FS := ok_simple (P := l.prog) (w := w) (base := base) (T0 := _) Z lS ccS (TBs _ (List.mem_cons_self ..)) rfl (List.mem_cons_self ..) one_ X_is_leap Y_is_leap X_year_start Y_year_start X_date_of Y_date_of X_weekday Y_weekday X_week_of Y_week_of X_kind_of Y_kind_of
  have G_simple : Dg l.prog w K mg base 7 "_law_simple_right" ["odd"] [] (spSimple K _) := ⟨⟨_, _, [], FS, PySem.W.mg_of X G aS, kkS, .nil, (fun_mk (st := sLawSimpleRight) lS ccS kkS).binds (ps := ["odd"]) fun _ _ _ _ _ _ us hl => match us, hl with | [_], _ => rfl⟩⟩
  have FD := ok_dr (P := l.prog) (w := w) (base := base) (T0 := _) Z lD ccD (TBs _ (List.mem_cons_of_mem _ (List.mem_cons_self ..))) rfl (List.mem_cons_of_mem _ (List.mem_cons_self ..)) two_ D_law_gap D_law_is_long D_law_odd D_law_take X_day Y_day
  have G_date : Dg l.prog w K mg base 8 "_law_date_right" ["state", "one_year"] [] (spDr K _) := ⟨⟨_, _, [], FD, PySem.W.mg_of X G aD, kkD, .nil, (fun_mk (st := sLawDateRight) lD ccD kkD).binds (ps := ["state", "one_year"]) fun _ _ _ _ _ _ us hl => match us, hl with | [_, _], _ => rfl⟩⟩
  exact ok_law F_law T D_law_begun D_law_some_year D_law_odd DV KV G_simple G_date
end Cf
open PySem PySem.W PyProof.Rows
set_option maxRecDepth 100000 in
set_option maxHeartbeats 0 in
theorem PySem.Challenge.cw_clockfolds_k04_dates_refused_holds : PySem.Challenge.rw_clockfolds_k04_dates_refused.Holds := by
  w_on; o_law; k_head; (case hw => w_witness2)
  k_fill
  refine Cf.walk_gT (l := PySem.Challenge.rw_clockfolds_k04_dates_refused) (n := 63) (k := 9) (x := "script") rfl (by decide) rfl ⟨rfl, by decide, by decide⟩ (fun w h Y => PySem.W.km_in_of Y) ?F
  case F =>
    intro w mg fa h KX G hmg
    refine' Cf.all_mk KX G hmg ?a0 ?l0 ?c0 ?k0 ?a1 ?l1 ?c1 ?k1 ?lT1 ?a2 ?l2 ?c2 ?k2 ?a3 ?l3 ?c3 ?k3 ?a4 ?l4 ?c4 ?k4 ?a5 ?l5 ?c5 ?k5 ?a6 ?l6 ?c6 ?k6 ?a7 ?l7 ?c7 ?k7 ?a8 ?l8 ?c8 ?k8 ?a9 ?l9 ?c9 ?k9 ?a10 ?l10 ?c10 ?k10 ?a11 ?l11 ?c11 ?k11 ?a12 ?l12 ?c12 ?k12 ?a13 ?l13 ?c13 ?k13 ?a14 ?l14 ?c14 ?k14 ?a15 ?l15 ?c15 ?k15 ?a16 ?l16 ?c16 ?k16 ?a17 ?l17 ?c17 ?k17 ?a18 ?l18 ?c18 ?k18 ?a19 ?l19 ?c19 ?k19 ?a20 ?l20 ?c20 ?k20 ?a21 ?l21 ?c21 ?k21 ?aM ?lM ?z_abs ?z_int ?z_bool ?z_isinstance ?z_sum ?z_divmod ?z_min ?z_len ?z_range ?z_repr ?mE ?m0 ?m1 ?m2 ?m3 ?m4 ?m5 ?m6 ?m7 ?m8 ?m9 ?m10 ?m11 ?hn ?ht ?thE ?saE ?gaE ?ggE ?clE ?kpE ?xE ?nD ?tE ?tV ?th0 ?sa0 ?ga0 ?gg0 ?cl0 ?kp0 ?in0 ?il0 ?io_0 ?ik_0 ?ity0 ?f0_0 ?th1 ?sa1 ?ga1 ?gg1 ?cl1 ?kp1 ?in1 ?il1 ?io_1 ?ik_1 ?ity1 ?f1_0 ?th2 ?sa2 ?ga2 ?gg2 ?cl2 ?kp2 ?in2 ?il2 ?io_2 ?ik_2 ?ity2 ?f2_0 ?th3 ?sa3 ?ga3 ?gg3 ?cl3 ?kp3 ?in3 ?il3 ?io_3 ?ik_3 ?ity3 ?f3_0 ?th4 ?sa4 ?ga4 ?gg4 ?cl4 ?kp4 ?in4 ?il4 ?io_4 ?ik_4 ?ity4 ?f4_0 ?th5 ?sa5 ?ga5 ?gg5 ?cl5 ?kp5 ?in5 ?il5 ?io_5 ?ik_5 ?ity5 ?f5_0 ?f5_1 ?th6 ?sa6 ?ga6 ?gg6 ?cl6 ?kp6 ?in6 ?il6 ?io_6 ?ik_6 ?ity6 ?f6_0 ?th7 ?sa7 ?ga7 ?gg7 ?cl7 ?kp7 ?in7 ?il7 ?io_7 ?ik_7 ?ity7 ?f7_0 ?th8 ?sa8 ?ga8 ?gg8 ?cl8 ?kp8 ?in8 ?il8 ?io_8 ?ik_8 ?ity8 ?f8_0 ?th9 ?sa9 ?ga9 ?gg9 ?cl9 ?kp9 ?in9 ?il9 ?io_9 ?ik_9 ?ity9 ?f9_0 ?th10 ?sa10 ?ga10 ?gg10 ?cl10 ?kp10 ?in10 ?il10 ?io_10 ?ik_10 ?ity10 ?f10_0 ?th11 ?sa11 ?ga11 ?gg11 ?cl11 ?kp11 ?in11 ?il11 ?io_11 ?ik_11 ?ity11 ?f11_0 ?aS ?lS ?ccS ?kkS ?coS ?cvS ?ntS ?dfS ?aD ?lD ?ccD ?kkD ?coD ?cvD ?ntD ?dfD ?aR ?lR ?ccR ?kkR ?pne
    (case a0 => k_is)
    (case l0 => k_is)
    (case c0 => k_is)
    (case k0 => k_is)
    (case a1 => k_is)
    (case l1 => k_is)
    (case c1 => k_is)
    (case k1 => k_is)
    (case lT1 => k_is)
    (case a2 => k_is)
    (case l2 => k_is)
    (case c2 => k_is)
    (case k2 => k_is)
    (case a3 => k_is)
    (case l3 => k_is)
    (case c3 => k_is)
    (case k3 => k_is)
    (case a4 => k_is)
    (case l4 => k_is)
    (case c4 => k_is)
    (case k4 => k_is)
    (case a5 => k_is)
    (case l5 => k_is)
    (case c5 => k_is)
    (case k5 => k_is)
    (case a6 => k_is)
    (case l6 => k_is)
    (case c6 => k_is)
    (case k6 => k_is)
    (case a7 => k_is)
    (case l7 => k_is)
    (case c7 => k_is)
    (case k7 => k_is)
    (case a8 => k_is)
    (case l8 => k_is)
    (case c8 => k_is)
    (case k8 => k_is)
    (case a9 => k_is)
    (case l9 => k_is)
    (case c9 => k_is)
    (case k9 => k_is)
    (case a10 => k_is)
    (case l10 => k_is)
    (case c10 => k_is)
    (case k10 => k_is)
    (case a11 => k_is)
    (case l11 => k_is)
    (case c11 => k_is)
    (case k11 => k_is)
    (case a12 => k_is)
    (case l12 => k_is)
    (case c12 => k_is)
    (case k12 => k_is)
    (case a13 => k_is)
    (case l13 => k_is)
    (case c13 => k_is)
    (case k13 => k_is)
    (case a14 => k_is)
    (case l14 => k_is)
    (case c14 => k_is)
    (case k14 => k_is)
    (case a15 => k_is)
    (case l15 => k_is)
    (case c15 => k_is)
    (case k15 => k_is)
    (case a16 => k_is)
    (case l16 => k_is)
    (case c16 => k_is)
    (case k16 => k_is)
    (case a17 => k_is)
    (case l17 => k_is)
    (case c17 => k_is)
    (case k17 => k_is)
    (case a18 => k_is)
    (case l18 => k_is)
    (case c18 => k_is)
    (case k18 => k_is)
    (case a19 => k_is)
    (case l19 => k_is)
    (case c19 => k_is)
    (case k19 => k_is)
    (case a20 => k_is)
    (case l20 => k_is)
    (case c20 => k_is)
    (case k20 => k_is)
    (case a21 => k_is)
    (case l21 => k_is)
    (case c21 => k_is)
    (case k21 => k_is)
    (case aM => k_is)
    (case lM => k_is)
    (case z_abs => k_is)
    (case z_int => k_is)
    (case z_bool => k_is)
    (case z_isinstance => k_is)
    (case z_sum => k_is)
    (case z_divmod => k_is)
    (case z_min => k_is)
    (case z_len => k_is)
    (case z_range => k_is)
    (case z_repr => k_is)
    (case mE => k_is)
    (case m0 => k_is)
    (case m1 => k_is)
    (case m2 => k_is)
    (case m3 => k_is)
    (case m4 => k_is)
    (case m5 => k_is)
    (case m6 => k_is)
    (case m7 => k_is)
    (case m8 => k_is)
    (case m9 => k_is)
    (case m10 => k_is)
    (case m11 => k_is)
    (case hn => k_is)
    (case ht => k_is)
    (case thE => k_is)
    (case saE => k_is)
    (case gaE => k_is)
    (case ggE => k_is)
    (case clE => k_is)
    (case kpE => k_is)
    (case xE => k_exc)
    (case nD => decide)
    (case tE => k_is)
    (case tV => k_is)
    (case th0 => k_is)
    (case sa0 => k_is)
    (case ga0 => k_is)
    (case gg0 => k_is)
    (case cl0 => k_is)
    (case kp0 => k_is)
    (case in0 => k_is)
    (case il0 => k_is)
    (case io_0 => k_is)
    (case ik_0 => k_is)
    (case ity0 => k_is)
    (case f0_0 => k_is)
    (case th1 => k_is)
    (case sa1 => k_is)
    (case ga1 => k_is)
    (case gg1 => k_is)
    (case cl1 => k_is)
    (case kp1 => k_is)
    (case in1 => k_is)
    (case il1 => k_is)
    (case io_1 => k_is)
    (case ik_1 => k_is)
    (case ity1 => k_is)
    (case f1_0 => k_is)
    (case th2 => k_is)
    (case sa2 => k_is)
    (case ga2 => k_is)
    (case gg2 => k_is)
    (case cl2 => k_is)
    (case kp2 => k_is)
    (case in2 => k_is)
    (case il2 => k_is)
    (case io_2 => k_is)
    (case ik_2 => k_is)
    (case ity2 => k_is)
    (case f2_0 => k_is)
    (case th3 => k_is)
    (case sa3 => k_is)
    (case ga3 => k_is)
    (case gg3 => k_is)
    (case cl3 => k_is)
    (case kp3 => k_is)
    (case in3 => k_is)
    (case il3 => k_is)
    (case io_3 => k_is)
    (case ik_3 => k_is)
    (case ity3 => k_is)
    (case f3_0 => k_is)
    (case th4 => k_is)
    (case sa4 => k_is)
    (case ga4 => k_is)
    (case gg4 => k_is)
    (case cl4 => k_is)
    (case kp4 => k_is)
    (case in4 => k_is)
    (case il4 => k_is)
    (case io_4 => k_is)
    (case ik_4 => k_is)
    (case ity4 => k_is)
    (case f4_0 => k_is)
    (case th5 => k_is)
    (case sa5 => k_is)
    (case ga5 => k_is)
    (case gg5 => k_is)
    (case cl5 => k_is)
    (case kp5 => k_is)
    (case in5 => k_is)
    (case il5 => k_is)
    (case io_5 => k_is)
    (case ik_5 => k_is)
    (case ity5 => k_is)
    (case f5_0 => k_is)
    (case f5_1 => k_is)
    (case th6 => k_is)
    (case sa6 => k_is)
    (case ga6 => k_is)
    (case gg6 => k_is)
    (case cl6 => k_is)
    (case kp6 => k_is)
    (case in6 => k_is)
    (case il6 => k_is)
    (case io_6 => k_is)
    (case ik_6 => k_is)
    (case ity6 => k_is)
    (case f6_0 => k_is)
    (case th7 => k_is)
    (case sa7 => k_is)
    (case ga7 => k_is)
    (case gg7 => k_is)
    (case cl7 => k_is)
    (case kp7 => k_is)
    (case in7 => k_is)
    (case il7 => k_is)
    (case io_7 => k_is)
    (case ik_7 => k_is)
    (case ity7 => k_is)
    (case f7_0 => k_is)
    (case th8 => k_is)
    (case sa8 => k_is)
    (case ga8 => k_is)
    (case gg8 => k_is)
    (case cl8 => k_is)
    (case kp8 => k_is)
    (case in8 => k_is)
    (case il8 => k_is)
    (case io_8 => k_is)
    (case ik_8 => k_is)
    (case ity8 => k_is)
    (case f8_0 => k_is)
    (case th9 => k_is)
    (case sa9 => k_is)
    (case ga9 => k_is)
    (case gg9 => k_is)
    (case cl9 => k_is)
    (case kp9 => k_is)
    (case in9 => k_is)
    (case il9 => k_is)
    (case io_9 => k_is)
    (case ik_9 => k_is)
    (case ity9 => k_is)
    (case f9_0 => k_is)
    (case th10 => k_is)
    (case sa10 => k_is)
    (case ga10 => k_is)
    (case gg10 => k_is)
    (case cl10 => k_is)
    (case kp10 => k_is)
    (case in10 => k_is)
    (case il10 => k_is)
    (case io_10 => k_is)
    (case ik_10 => k_is)
    (case ity10 => k_is)
    (case f10_0 => k_is)
    (case th11 => k_is)
    (case sa11 => k_is)
    (case ga11 => k_is)
    (case gg11 => k_is)
    (case cl11 => k_is)
    (case kp11 => k_is)
    (case in11 => k_is)
    (case il11 => k_is)
    (case io_11 => k_is)
    (case ik_11 => k_is)
    (case ity11 => k_is)
    (case f11_0 => k_is)
    (case aS => k_is)
    (case lS => k_is)
    (case ccS => k_is)
    (case kkS => k_is)
    (case coS => k_is)
    (case cvS => rfl)
    (case ntS => rfl)
    (case dfS => rfl)
    (case aD => k_is)
    (case lD => k_is)
    (case ccD => k_is)
    (case kkD => k_is)
    (case coD => k_is)
    (case cvD => rfl)
    (case ntD => rfl)
    (case dfD => rfl)
    (case aR => k_is)
    (case lR => k_is)
    (case ccR => k_is)
    (case kkR => k_is)
    (case pne => decide)
