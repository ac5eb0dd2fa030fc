import PyProof.Rows.All
import Wide.All
import OpenK.AllK
import Wide.FinOn
import PyProof.ReprRoads
import KE.KTupSum
import HandS.ForMost
import HandS.IsInst
import HandS.Defaults
import HandS.TupAny
import HandS.ExcInit
import HandS.ExcIs
import HandS.ExcField
import HandS.ExcValue
import KE.KExcIs
import HandS.Walk
import PySem.Challenge.RW_clockfolds_k05_errors_apart
set_option Elab.async false
set_option linter.all false
set_option maxRecDepth 100000
/-! Own layer over HandS: promises that hold where no repr is under way (guards = some []), repr of data, sum of a tuple. -/
namespace Cf
open PySem PySem.Spec PyProof.Rows L2

/-- as FnOk, but asked only where no repr is under way -/
structure FnG (P : Program) (w : World) (K : PySem.W.Frag) (mg : Str → Option Value) (base : Heap) (CX : CXT) (k : Nat) (f : Addr) (fd : FuncData) (ps : List Str) (sp : Sp) : Prop where
  many : ∀ vs H Q E, sp vs H Q E → vs.length = ps.length
  go : ∀ (A : Around), A.guards = some [] → ∀ (outer : List Env) (s : Shared) (H : Hp) (args : Args) (us : List Value) (vs : List V) (Q : VK) (E : XK),
    Room k A → Env0 P w K mg base A outer s H → BindsTo s fd args (ps.zip us) → Vals vs us → sp vs H Q E →
      codeAny (model P w) A (.call (.ref f) args) (CR CX outer P w H s Q E) s

section
variable {P : Program} {w : World} {K : PySem.W.Frag} {mg : Str → Option Value} {base : Heap} {CX : CXT}

theorem FnG.of {k : Nat} {f : Addr} {fd : FuncData} {ps : List Str} {sp : Sp} (F : FnOk P w K mg base CX k f fd ps sp) : FnG P w K mg base CX k f fd ps sp :=
  { many := F.len, go := fun A _ => F.run A }

/-- a def keeps its promise, its body walked where no repr is under way -/
theorem fn_g {k : Nat} {f : Addr} {name qual : Str} {params : Arguments} {body : List Stmt} {scope : Scope} {dV kV doc pm cdv ct oc : Value} {an od : Option Addr} {osl : Array (Option Value)} {N ps : List Str} {sp : Sp}
    (there : K.lookup f = some ⟨oc, od, .func (PySem.W.fnOf name qual params body scope dV kV doc pm an cdv ct), osl⟩)
    (code : PySem.W.codeIn K cdv qual = true) (sc : FnScope N ps scope) (many : ∀ vs H Q E, sp vs H Q E → vs.length = ps.length)
    (walk : ∀ (A : Around), A.guards = some [] → ∀ (outer : List Env) (s : Shared) (H : Hp) (vs : List V) (Q : VK) (E : XK),
      Room k (A.deeper (envOfC qual scope s.heap.objs.size f cdv)) → sp vs H Q E →
        ∃ t, PSs (cxOf CX P w K mg base N qual scope f cdv A outer s H E) body t ∧ t { nx := fun _ H' => Q .non H', rt := Q } (start N vs) H) :
    FnG P w K mg base CX (k + 1) f (PySem.W.fnOf name qual params body scope dV kV doc pm an cdv ct) ps sp := by
  constructor
  · exact many
  intro A gd outer s H args us vs Q E room env bind vals asked
  have n := many vs H Q E asked
  have inK : K.In s.heap := env.mod.kin.keeps fun b o h => (env.bs b o h).1
  have noLim : s.heap.NoLimit := env.mod.nolimit.keeps fun b o h => (env.bs b o h).1
  have kinds : ∀ y ∈ ps.zip us, scope.names.lookup y.1 = some .local ∨
      (scope.names.lookup y.1 = some .cell ∧ ((cellsFrom (s.heap.objs.size + 1) scope.names []).lookup y.1).isSome = true) := by
    rintro ⟨z, v⟩ hz
    have hz1 := (List.of_mem_zip hz).1
    cases sc.par z hz1 with
    | inl l => exact Or.inl l
    | inr c => exact Or.inr ⟨c, PySem.W.cellsFrom_some _ _ _ (Or.inl c)⟩
  apply codeAny_call_function room.depth (inK _ _ there) rfl sc.co sc.gen rfl (PySem.W.codeRec_of inK code)
  apply bind
  apply wpAny_newFunctionEnv_cells sc.kind kinds
  intro env' he s1 x
  cases he
  refine And.intro (noLim.keeps x.toInCall.keep) (codeAny_func ?_)
  rcases walk A gd outer s H vs Q E (room.deeper _) asked with ⟨t, ht, hq⟩
  have I0 := inv_start (CX := CX) (E := E) (f := f) (qual := qual) (cd := cdv) sc room.hd env n vals x
  apply wpAny_mono (ht.run [] s1 (start N vs) H _ I0 hq)
  · intro fl s' hs
    cases fl with
    | ret u =>
      rcases hs with ⟨v, _, H', J, rv, q⟩
      exact ⟨v, H', J.os, J.bare, J.base, J.hok, rv, q⟩
    | next =>
      rcases hs with ⟨_, H', J, q⟩
      exact ⟨V.non, H', J.os, J.bare, J.base, J.hok, rfl, q⟩
    | brk =>
      rcases hs with ⟨_, _, _, q⟩
      exact q.elim
    | cont =>
      rcases hs with ⟨_, _, _, q⟩
      exact q.elim
  · intro e s' hs
    exact hs

/-- .. of the text's def, none let out -/
theorem funG {x qual : Str} {st : Stmt} {f : Addr} {fd : FuncData} {N ps : List Str} {k : Nat} {sp : Sp} (F : Fun K x qual st f fd) (sc : FnScope N ps (defScope st))
    (many : ∀ vs H Q E, sp vs H Q E → vs.length = ps.length)
    (walk : ∀ (cdv : Value) (A : Around), A.guards = some [] → ∀ (outer : List Env) (s : Shared) (H : Hp) (vs : List V) (Q : VK) (E : XK),
      Room k (A.deeper (envOfC qual (defScope st) s.heap.objs.size f cdv)) → sp vs H Q E →
        ∃ t, PSs (cxOf CX0 P w K mg base N qual (defScope st) f cdv A outer s H E).nox (defBody st) t ∧ t { nx := fun _ H' => Q .non H', rt := Q } (start N vs) H) :
    FnG P w K mg base CX0 (k + 1) f fd ps sp := by
  rcases F.ex with ⟨_, _, _, _, _, _, cdv, _, _, rfl, there, code⟩
  exact fn_g there code sc many fun A gd outer s H vs Q E room asked =>
    let ⟨t, h, q⟩ := walk cdv A gd outer s H vs Q E room asked
    ⟨t, h.nox, q⟩
end

section
variable {X : Cx} {CX : CXT} {k : Nat} {f : Addr} {fd : FuncData} {ps : List Str} {sp : Sp} {dvs : List V} {ds : List Value} {E : XK} {x : Str} {p pos : Pos} {e : Expr} {es : List Expr} {t : TA}
theorem goG {pins : List (Addr × Obj)} {σ : L2.St} {H : Hp} {s : Shared} {Q : VK} {us : List Value} {vs : List V} (F : FnG X.prog X.w X.K X.mg X.base CX k f fd ps sp) (gd : X.A.guards = some []) (room : Room k X.A)
    (hb : Binds X.K fd ps ds) (hd : Vals dvs ds) (out : Passes CX X E) (I : Inv X pins σ H s) (r : Vals vs us) (asked : sp (vs ++ dvs) H Q E) :
    wpAny (model X.prog X.w) X.A (call (.ref f) us) (EP X pins σ Q) X.xe s := by
  have rr : Vals (vs ++ dvs) (us ++ ds) := r.append hd
  have ll : (us ++ ds).length = ps.length := rr.length.symm.trans (F.many _ _ _ _ asked)
  apply wpAny_call
  refine codeAny_mono (F.go X.A gd X.stack s H ⟨us, []⟩ (us ++ ds) (vs ++ dvs) Q E room I.env0 (hb s us I.kIn ll) rr asked) ?_
  intro res s' got
  match res, got with
  | .error e, got => exact out pins σ H s e s' I got
  | .ok (.ret u), got => exact I.after got
  | .ok .next, got => exact got.elim
  | .ok .brk, got => exact got.elim
  | .ok .cont, got => exact got.elim
/-- f(e, ..), f a def of the program that may show containers -/
theorem pe_callG (F : FnG X.prog X.w X.K X.mg X.base CX k f fd ps sp) (gd : X.A.guards = some []) (room : Room k X.A) (hg : Gl X x) (hm : X.mg x = some (.ref f)) (hk : PySem.W.keepIn X.K (.ref f) = true)
    (hb : Binds X.K fd ps ds) (hd : Vals dvs ds) (out : Passes CX X E) (args : PA X (e :: es) t) (hdb : (x == ("__debug__" : Str)) = false := by decide)
    (he : starEach (e :: es) X.env = (false, eval e X.env) :: starEach es X.env := by rfl) (hpl : (backTo pos (starEach es X.env)).any (·.1) = false := by rfl) :
    PE X (.Call (.Name x p) (e :: es) [] pos) (tCall sp dvs E t) := by
  constructor
  intro pins s σ H Q I h
  apply wpAny_Call_Name_kw (ld_glob I hg hm ?_ hdb)
  apply PySem.W.callWith_K (h₀ := X.base) I.ok.mod.kin hk _ he hpl
  apply thn (args.run pos pins s σ H _ I h)
  rintro us s1 ⟨vs, H1, I1, r, q⟩
  exact ⟨I1.kIn, goG F gd room hb hd out I1 r q⟩
end

/-! ### repr -/
/-- data as they lie in the heap: as Dp of the hand layer, and dicts of ints -/
theorem call_reprD {X : Cx} (gd : X.A.guards = some []) (hu : X.A.units + 64 < cLine) : CallR X (.builtin "repr") (fun xs H Q => ∃ (a : Addr) (d : PyData), xs = [.ref a] ∧ Dp X.K H (.ref a) d ∧ d.showable = true ∧ d.hasDict = false ∧ d.depth ≤ 60 ∧ d.shown.length ≤ sizeLine ∧ Q (.str d.shown) H) := by
  intro pins s σ H xs us Q I r h
  obtain ⟨a, d, rfl, hd, sh, nd, dd, sz, q⟩ := h
  obtain ⟨u, rfl, ru⟩ : ∃ u, us = [u] ∧ RelV (.ref a) u := by
    cases r with
    | cons r1 r2 => cases r2; exact ⟨_, rfl, r1⟩
  cases ru
  obtain ⟨as, rd⟩ := Dp.reads I d _ _ hd rfl
  refine repr_of_reads' rd sh (fun z => by rw [nd] at z; cases z) gd (by omega) (fun _ _ e => e) (fun h' u tk k => ?_) sz
  exact ⟨.str _, H, I.kept k, ⟨_, rfl⟩, q⟩
theorem call_repr_bl {X : Cx} : CallR X (.builtin "repr") (fun xs H Q => ∃ b, xs = [.bl b] ∧ Q (.str (if b then "True" else "False")) H) := by
  intro pins s σ H xs us Q I r h
  obtain ⟨b, rfl, q⟩ := h
  obtain ⟨u, rfl, ru⟩ : ∃ u, us = [u] ∧ RelV (.bl b) u := by
    cases r with
    | cons r1 r2 => cases r2; exact ⟨_, rfl, r1⟩
  cases ru
  exact PySem.P.repr_of_bool ⟨.str _, H, I.tok _, ⟨_, rfl⟩, q⟩
theorem call_repr_i {X : Cx} : CallR X (.builtin "repr") (fun xs H Q => ∃ i, xs = [.int i] ∧ i.natAbs.log2 < 1920 ∧ Q (.str (toString i)) H) := by
  intro pins s σ H xs us Q I r h
  obtain ⟨i, rfl, hz, q⟩ := h
  obtain ⟨u, rfl, t, rfl⟩ := vals1 r
  exact PySem.P.repr_of_int hz ⟨.str _, H, I.tok _, ⟨_, rfl⟩, q⟩
/-! ### sum of a tuple of ints -/
def rSumT (K : PySem.W.Frag) : List V → Hp → VK → Prop := fun vs H Q => ∃ (a : Addr) (ns : List Int), vs = [V.ref a] ∧ SqT K H a (ns.map V.int) ∧ Q (.int ns.sum) H
theorem cr_sumT {X : Cx} (hc : X.calm = true) : CallR X (.builtin "sum") (rSumT X.K) := by
  intro pins s σ H vs us Q I r h
  obtain ⟨a, ns, rfl, hs, q⟩ := h
  obtain ⟨its, rv, hl, _⟩ := I.tuple hs
  rw [Vals.ref1 r]
  have hi := rv.ints
  obtain ⟨xs, e⟩ := hi.allInts.items
  have hn : numsOf (intItems xs).toList = ns := by rw [← e]; exact hi.numsOf
  rw [nums_intItems] at hn
  have hl' : s.heap.IsTuple a its.toArray := hl
  rw [e] at hl'
  refine PySem.W.ktm_sumG (I.ok.hd hc) hl' fun h' tk t' hk => ?_
  have e2 : PySem.preSum (numAt xs) xs.size = ns.sum := by
    rw [preSum_eq, List.take_of_length_le (by simp), hn]
  rw [e2]
  exact ⟨.int _, H, I.kept hk, ⟨_, rfl⟩, q⟩
/-! ### a def of the program as its callers see it -/
structure Df (P : Program) (w : World) (K : PySem.W.Frag) (mg : Str → Option Value) (base : Heap) (k : Nat) (x : Str) (ps : List Str) (dvs : List V) (sp : Sp) : Prop where
  ex : ∃ (f : Addr) (fd : FuncData) (ds : List Value), FnOk P w K mg base CX0 k f fd ps sp ∧ mg x = some (.ref f) ∧ PySem.W.keepIn K (.ref f) = true ∧ Vals dvs ds ∧ Binds K fd ps ds
structure Dg (P : Program) (w : World) (K : PySem.W.Frag) (mg : Str → Option Value) (base : Heap) (k : Nat) (x : Str) (ps : List Str) (dvs : List V) (sp : Sp) : Prop where
  ex : ∃ (f : Addr) (fd : FuncData) (ds : List Value), FnG P w K mg base CX0 k f fd ps sp ∧ mg x = some (.ref f) ∧ PySem.W.keepIn K (.ref f) = true ∧ Vals dvs ds ∧ Binds K fd ps ds
/-- called by names alone, ks in the text's order -/
structure Dk (P : Program) (w : World) (K : PySem.W.Frag) (mg : Str → Option Value) (base : Heap) (k : Nat) (x : Str) (ps ks : List Str) (gV : List V → List V) (sp : Sp) : Prop where
  ex : ∃ (f : Addr) (fd : FuncData) (g : List Value → List Value), FnOk P w K mg base CX0 k f fd ps sp ∧ mg x = some (.ref f) ∧ PySem.W.keepIn K (.ref f) = true ∧
    (∀ {vs : List V} {us : List Value}, Vals vs us → Vals (gV vs) (g us)) ∧
    ∀ (s : Shared) (ws : List Value), K.In s.heap → ws.length = ks.length → BindsTo s fd ⟨[], ks.zip ws⟩ (ps.zip (g ws))
def tCallN0 (n : Nat) (sp : Sp) (gV : List V → List V) (tk : TA) : TE := fun σ H Q => tk σ H fun zs H2 => zs.length = n ∧ sp (gV zs) H2 Q E0
section
variable {X : Cx} {k : Nat} {x : Str} {ps ks : List Str} {sp : Sp} {dvs : List V} {p pos : Pos} {e : Expr} {es : List Expr} {t tk : TA} {kws : List Keyword} {gV : List V → List V}
theorem pe_df (D : Df X.prog X.w X.K X.mg X.base k x ps dvs sp) (hr : Room k X.A) (ha : PA X (e :: es) t) (hg : Gl X x := by rfl) (hdb : (x == ("__debug__" : Str)) = false := by decide)
    (he : starEach (e :: es) X.env = (false, eval e X.env) :: starEach es X.env := by rfl) (hpl : (backTo pos (starEach es X.env)).any (·.1) = false := by rfl) :
    PE X (.Call (.Name x p) (e :: es) [] pos) (tCall sp dvs E0 t) := by
  obtain ⟨f, fd, ds, F, m, kp, hv, b⟩ := D.ex
  exact pe_call F hr hg m kp b hv pass0 ha hdb he hpl
theorem pe_dg (D : Dg X.prog X.w X.K X.mg X.base k x ps dvs sp) (gd : X.A.guards = some []) (hr : Room k X.A) (ha : PA X (e :: es) t) (hg : Gl X x := by rfl) (hdb : (x == ("__debug__" : Str)) = false := by decide)
    (he : starEach (e :: es) X.env = (false, eval e X.env) :: starEach es X.env := by rfl) (hpl : (backTo pos (starEach es X.env)).any (·.1) = false := by rfl) :
    PE X (.Call (.Name x p) (e :: es) [] pos) (tCall sp dvs E0 t) := by
  obtain ⟨f, fd, ds, F, m, kp, hv, b⟩ := D.ex
  exact pe_callG F gd hr hg m kp b hv pass0 ha hdb he hpl
theorem pe_dk (D : Dk X.prog X.w X.K X.mg X.base k x ps ks gV sp) (hr : Room k X.A) (hkw : PK X kws tk) (hg : Gl X x := by rfl)
    (hall : (backToKw pos (keywordEach kws X.env)).all (·.1.isSome) = true := by rfl) (hks : (backToKw pos (keywordEach kws X.env)).filterMap (·.1) = ks := by rfl) (hdb : (x == ("__debug__" : Str)) = false := by decide)
    (hpl : ((backTo pos (starEach [] X.env)).any (·.1) || (backToKw pos (keywordEach kws X.env)).any (·.1.isNone)) = false := by rfl) :
    PE X (.Call (.Name x p) [] kws pos) (tCallN0 ks.length sp gV tk) := by
  obtain ⟨f, fd, g, F, m, kp, rel, b⟩ := D.ex
  constructor
  intro pins s σ H Q I h
  apply wpAny_Call_Name_kw (ld_glob I hg m ?_ hdb)
  apply PySem.W.callWith_KW0 (h₀ := X.base) I.ok.mod.kin kp hall ?_ hpl
  apply thn (hkw.run pos pins s σ H _ I h)
  rintro ws s2 ⟨zs, H2, I2, rz, ln, asked⟩
  refine ⟨I2.kIn, ?_⟩
  rw [hks]
  have ll : ws.length = ks.length := rz.length.symm.trans ln
  have rr := rel rz
  apply wpAny_call
  refine codeAny_mono (F.run X.A X.stack s2 H2 ⟨[], ks.zip ws⟩ (g ws) (gV zs) Q E0 hr I2.env0 (b s2 ws I2.kIn ll) rr asked) ?_
  intro res s' got
  match res, got with
  | .error e, got => exact (got : False).elim
  | .ok (.ret u), got => exact I2.after got
  | .ok .next, got => exact got.elim
  | .ok .brk, got => exact got.elim
  | .ok .cont, got => exact got.elim
end
/-! ### small things -/
theorem _root_.L2.Same.sqt {K : PySem.W.Frag} {H H' : Hp} {a : Addr} {xs : List V} (e : Same H H') (h : SqT K H a xs) : SqT K H' a xs := by
  rcases h with (h | ⟨o, h⟩) | h
  · exact .inl (.inl (e _ _ h))
  · exact .inl (.inr ⟨o, e _ _ h⟩)
  · exact .inr h
theorem _root_.L2.Same.new {H : Hp} {p : Addr} {o : HO} (h : H p = none) : Same H (upd H p o) := fun b u e => by rw [upd_ne (ne_of_none e h)]; exact e
theorem _root_.L2.Same.step {H0 H : Hp} {p : Addr} {o : HO} (s : Same H0 H) (h : H p = none) : Same H0 (upd H p o) := s.trans (Same.new h)
theorem _root_.L2.Same.wr {H0 H : Hp} {p : Addr} {o : HO} (s : Same H0 H) (h : H0 p = none) : Same H0 (upd H p o) := fun b u e => by rw [upd_ne (ne_of_none e h)]; exact s b u e
/-- all but the objects at p and q is as it was -/
def But (p q : Addr) (H H' : Hp) : Prop := ∀ b o, H b = some o → b ≠ p → b ≠ q → H' b = some o
theorem But.refl {p q : Addr} {H : Hp} : But p q H H := fun _ _ h _ _ => h
theorem But.trans {p q : Addr} {H H1 H2 : Hp} (a : But p q H H1) (b : But p q H1 H2) : But p q H H2 := fun c o h h1 h2 => b c o (a c o h h1 h2) h1 h2
theorem But.of {p q : Addr} {H H' : Hp} (a : Same H H') : But p q H H' := fun c o h _ _ => a c o h
theorem _root_.L2.Same.but {p q : Addr} {H0 H H' : Hp} (a : Same H0 H) (b : But p q H H') (hp : H0 p = none) (hq : H0 q = none) : Same H0 H' := fun c o h => b c o (a c o h) (ne_of_none h hp) (ne_of_none h hq)
theorem ints_get {ns : List Int} {i : Nat} {y : V} (h : (ns.map V.int)[i]? = some y) : ∃ z, ns[i]? = some z ∧ y = V.int z := by
  rw [List.getElem?_map] at h
  cases e : ns[i]? with
  | none => rw [e] at h; cases h
  | some z => rw [e] at h; exact ⟨z, rfl, (Option.some.inj h).symm⟩
theorem lt_of_get {α : Type} {l : List α} {i : Nat} {y : α} (h : l[i]? = some y) : i < l.length := (List.getElem?_eq_some_iff.mp h).1
theorem iteFF {A B : Prop} {b : Bool} (e : b = false) (h : B) : if b = true then A else B := by subst e; exact iteF h
theorem iteTT {A B : Prop} {b : Bool} (e : b = true) (h : A) : if b = true then A else B := by subst e; exact iteT h
end Cf
/-! The mathematics of the calendar, plain. -/
namespace Cf
def leapB (y : Int) : Bool := decide (y % 4 = 0) && (decide (y % 100 ≠ 0) || decide (y % 400 = 0))
def lyb (y : Int) : Int := (y - 1) / 4 - (y - 1) / 100 + (y - 1) / 400
def ysOf (y : Int) : Int := 365 * (y - 2000) + lyb y - lyb 2000
theorem leapB_iff (y : Int) : leapB y = true ↔ (y % 4 = 0 ∧ (y % 100 ≠ 0 ∨ y % 400 = 0)) := by
  unfold leapB
  simp only [Bool.and_eq_true, Bool.or_eq_true, decide_eq_true_eq]
def leapI (y : Int) : Int := if leapB y = true then 1 else 0
theorem ys_succ (y : Int) : ysOf (y + 1) = ysOf y + 365 + leapI y := by
  unfold ysOf lyb leapI
  have := leapB_iff y
  by_cases h : leapB y = true
  · rw [if_pos h]
    have h2 := this.mp h
    omega
  · rw [if_neg h]
    have h2 : ¬ (y % 4 = 0 ∧ (y % 100 ≠ 0 ∨ y % 400 = 0)) := fun z => h (this.mpr z)
    omega
theorem leapI_01 (y : Int) : leapI y = 0 ∨ leapI y = 1 := by
  unfold leapI
  by_cases h : leapB y = true
  · rw [if_pos h]; exact Or.inr rfl
  · rw [if_neg h]; exact Or.inl rfl
theorem ys_step (y : Int) : ysOf y + 365 ≤ ysOf (y + 1) ∧ ysOf (y + 1) ≤ ysOf y + 366 := by
  have := ys_succ y
  have := leapI_01 y
  omega
theorem ys_mono_nat (y : Int) : ∀ n : Nat, ysOf y + 365 * (n : Int) ≤ ysOf (y + n)
  | 0 => by simp
  | n + 1 => by
    have h1 := ys_mono_nat y n
    have h2 := (ys_step (y + n)).1
    have e : y + ((n + 1 : Nat) : Int) = y + (n : Int) + 1 := by omega
    rw [e]
    omega
theorem ys_lt {y z : Int} (h : y < z) : ysOf y < ysOf z := by
  have h1 := ys_mono_nat y (z - y).toNat
  have e : y + ((z - y).toNat : Int) = z := by omega
  rw [e] at h1
  omega
theorem ys_le {y z : Int} (h : y ≤ z) : ysOf y ≤ ysOf z := by
  by_cases e : y = z
  · rw [e]; exact Int.le_refl _
  · exact Int.le_of_lt (ys_lt (by omega))
theorem ys_le_iff {y z : Int} (h : ysOf y < ysOf (z + 1)) : y ≤ z := by
  by_cases q : y ≤ z
  · exact q
  · have := ys_le (y := z + 1) (z := y) (by omega)
    omega
/-- the law's own first day of a year -/
def lawNY (y : Int) : Int := 365 * (y - 2000) + (y - 2000 + 3) / 4 - (y - 2000 + 99) / 100 + (y - 2000 + 399) / 400
theorem lawNY_eq (y : Int) : lawNY y = ysOf y := by
  unfold lawNY ysOf lyb
  omega
/-- the first try of year_of is never too late -/
theorem first_try {d y : Int} (h1 : ysOf y ≤ d) (h2 : d < ysOf (y + 1)) : 2000 + 400 * (d / 146097) + (d % 146097) / 366 ≤ y := by
  refine ys_le_iff (z := y) ?_
  have : ysOf (2000 + 400 * (d / 146097) + (d % 146097) / 366) ≤ d := by
    unfold ysOf lyb
    omega
  omega
def ml (m : Int) : Int := match m with
  | 1 => 31 | 2 => 28 | 3 => 31 | 4 => 30 | 5 => 31 | 6 => 30 | 7 => 31 | 8 => 31 | 9 => 30 | 10 => 31 | 11 => 30 | 12 => 31 | _ => 0
def mlen (m : Int) (l : Bool) : Int := if m = 2 ∧ l = true then 29 else ml m
def MLs : List Int := [31, 28, 31, 30, 31, 30, 31, 31, 30, 31, 30, 31]
def mst (m : Int) (l : Bool) : Int := (MLs.take (m - 1).toNat).sum + (if l = true ∧ 2 < m then 1 else 0)
theorem m12 {m : Int} (h1 : 1 ≤ m) (h2 : m ≤ 12) : m = 1 ∨ m = 2 ∨ m = 3 ∨ m = 4 ∨ m = 5 ∨ m = 6 ∨ m = 7 ∨ m = 8 ∨ m = 9 ∨ m = 10 ∨ m = 11 ∨ m = 12 := by omega
theorem mst_succ {m : Int} (h1 : 1 ≤ m) (h2 : m ≤ 12) (l : Bool) : mst (m + 1) l = mst m l + mlen m l := by
  rcases m12 h1 h2 with rfl | rfl | rfl | rfl | rfl | rfl | rfl | rfl | rfl | rfl | rfl | rfl <;> cases l <;> decide
theorem mst_1 (l : Bool) : mst 1 l = 0 := by cases l <;> decide
theorem mst_13 (l : Bool) : mst 13 l = 365 + (if l = true then 1 else 0) := by cases l <;> decide
theorem mlen_bd {m : Int} (h1 : 1 ≤ m) (h2 : m ≤ 12) (l : Bool) : 28 ≤ mlen m l ∧ mlen m l ≤ 31 := by
  rcases m12 h1 h2 with rfl | rfl | rfl | rfl | rfl | rfl | rfl | rfl | rfl | rfl | rfl | rfl <;> cases l <;> decide
theorem mst_bd {m : Int} (h1 : 1 ≤ m) (h2 : m ≤ 13) (l : Bool) : 0 ≤ mst m l ∧ mst m l ≤ 366 := by
  have : m = 13 ∨ m ≤ 12 := by omega
  rcases this with rfl | h
  · cases l <;> decide
  · rcases m12 h1 h with rfl | rfl | rfl | rfl | rfl | rfl | rfl | rfl | rfl | rfl | rfl | rfl <;> cases l <;> decide
theorem mst_mono_nat (l : Bool) (m : Int) (h1 : 1 ≤ m) : ∀ n : Nat, m + n ≤ 13 → mst m l + 28 * (n : Int) ≤ mst (m + n) l
  | 0, _ => by simp
  | n + 1, h => by
    have h3 := mst_mono_nat l m h1 n (by omega)
    have h4 := mst_succ (m := m + n) (by omega) (by omega) l
    have h5 := mlen_bd (m := m + n) (by omega) (by omega) l
    have e : m + ((n + 1 : Nat) : Int) = m + (n : Int) + 1 := by omega
    rw [e, h4]
    omega
theorem mst_le {a b : Int} (h1 : 1 ≤ a) (h : a ≤ b) (h2 : b ≤ 13) (l : Bool) : mst a l ≤ mst b l := by
  have h3 := mst_mono_nat l a h1 (b - a).toNat (by omega)
  have e : a + ((b - a).toNat : Int) = b := by omega
  rw [e] at h3
  omega
/-- a date that exists -/
structure IsDate (y m d : Int) : Prop where
  m1 : 1 ≤ m
  m2 : m ≤ 12
  d1 : 1 ≤ d
  d2 : d ≤ mlen m (leapB y)
def dayOf (y m d : Int) : Int := ysOf y + mst m (leapB y) + d - 1
theorem IsDate.year {y m d : Int} (D : IsDate y m d) : ysOf y ≤ dayOf y m d ∧ dayOf y m d < ysOf (y + 1) := by
  have h1 := mst_bd D.m1 (by have := D.m2; omega) (leapB y)
  have h2 := mst_succ D.m1 D.m2 (leapB y)
  have h3 := mst_le (a := m + 1) (b := 13) (by have := D.m1; omega) (by have := D.m2; omega) (by omega) (leapB y)
  have h4 := mst_13 (leapB y)
  have h5 := ys_succ y
  have h6 : leapI y = (if leapB y = true then 1 else 0) := rfl
  have := D.d1
  have := D.d2
  unfold dayOf
  omega
theorem IsDate.month {y m d : Int} (D : IsDate y m d) : mst m (leapB y) ≤ dayOf y m d - ysOf y ∧ dayOf y m d - ysOf y < mst (m + 1) (leapB y) := by
  have h2 := mst_succ D.m1 D.m2 (leapB y)
  have := D.d1
  have := D.d2
  unfold dayOf
  omega
theorem dayOf_first (y m : Int) : dayOf y m 1 = ysOf y + mst m (leapB y) := by unfold dayOf; omega
theorem ys_as_day (y : Int) : ysOf y = dayOf y 1 1 := by rw [dayOf_first, mst_1]; omega
theorem ys_last (y : Int) : ysOf (y + 1) - 1 = dayOf y 12 31 := by
  have h5 := ys_succ y
  have h6 : leapI y = (if leapB y = true then 1 else 0) := rfl
  have h4 := mst_13 (leapB y)
  have h2 := mst_succ (m := 12) (by omega) (by omega) (leapB y)
  have h3 : mlen 12 (leapB y) = 31 := by cases leapB y <;> decide
  unfold dayOf
  have e : (12 : Int) + 1 = 13 := by omega
  rw [e] at h2
  omega
/-- the law's leap year -/
def isLong (y : Int) : Bool := decide (y % 400 = 0) || (decide (y % 4 = 0) && decide (y % 100 ≠ 0))
theorem isLong_eq (y : Int) : isLong y = leapB y := by
  have h1 := leapB_iff y
  have h2 : isLong y = true ↔ (y % 400 = 0 ∨ (y % 4 = 0 ∧ y % 100 ≠ 0)) := by
    unfold isLong
    simp only [Bool.and_eq_true, Bool.or_eq_true, decide_eq_true_eq]
  have h3 : isLong y = true ↔ leapB y = true := by rw [h1, h2]; omega
  cases a : isLong y <;> cases b : leapB y <;> simp_all
def lawSizes (l : Bool) : List Int := [31, if l = true then 29 else 28, 31, 30, 31, 30, 31, 31, 30, 31, 30, 31]
theorem lawSizes_get {m : Int} (h1 : 1 ≤ m) (h2 : m ≤ 12) (l : Bool) : (lawSizes l)[(m - 1).toNat]? = some (mlen m l) := by
  rcases m12 h1 h2 with rfl | rfl | rfl | rfl | rfl | rfl | rfl | rfl | rfl | rfl | rfl | rfl <;> cases l <;> decide
theorem MLs_get {m : Int} (h1 : 1 ≤ m) (h2 : m ≤ 12) : MLs[(m - 1).toNat]? = some (ml m) := by
  rcases m12 h1 h2 with rfl | rfl | rfl | rfl | rfl | rfl | rfl | rfl | rfl | rfl | rfl | rfl <;> decide
/-- the law's first day of a month -/
theorem lawMonth_eq {y m : Int} (h1 : 1 ≤ m) (h2 : m ≤ 12) :
    lawNY y + (([31, 28 + (lawNY (y + 1) - lawNY y - 365), 31, 30, 31, 30, 31, 31, 30, 31, 30, 31] : List Int).take (m - 1).toNat).sum = ysOf y + mst m (leapB y) := by
  rw [lawNY_eq, lawNY_eq]
  have e : ysOf (y + 1) - ysOf y - 365 = leapI y := by have := ys_succ y; omega
  rw [e]
  have h6 : leapI y = (if leapB y = true then 1 else 0) := rfl
  rw [h6]
  rcases m12 h1 h2 with rfl | rfl | rfl | rfl | rfl | rfl | rfl | rfl | rfl | rfl | rfl | rfl <;> cases leapB y <;> simp [mst, MLs] <;> omega
theorem prev_month {m : Int} (h1 : 2 ≤ m) (h2 : m ≤ 12) : (m + 10) % 12 + 1 = m - 1 := by omega
/-- bounds -/
theorem ys_bd {y B : Int} (h1 : -B ≤ y) (h2 : y ≤ B) (hB : 10000 ≤ B) : -(800 * B) ≤ ysOf y ∧ ysOf y ≤ 800 * B := by
  unfold ysOf lyb
  omega
end Cf
/-! Own errors as values: made (also by names), asked by isinstance, their fields read. -/
namespace Cf
section
open PySem PySem.W PySem.Calls PyProof.Rows PySem.HandSPX
section
variable {M : Model} {A : Around} {E : Value → Shared → Prop} {R : Result → Shared → Prop} {prog : Program} {w : World} {g : Array GenState} {d : Drawn} {t : Nat} {os : OsState} {h : Heap}
variable {bs bm bmB : List Value} {nm q : Str} {hdct ab : Bool} {C N : Addr} {sn : List Str} {sub : List Value} {col : Option Bool} {dd : Option Addr} {B newId initId : String} {k0 k1 k2 k3 k5 : Option Value} {rest : List Value} {kw : List (Str × Value)}
theorem ex_check (B0 : ExcBaseFacts B newId initId bmB) (alike : ∀ T : String, bm.contains (.type T) = bmB.contains (.type T)) {Q : Unit → Shared → Prop} (cls : h.get? C = some (excClassObj nm q C N bs bm hdct sn sub ab col dd k0 k1 k2 k3 k5 newId)) (go : Q () ⟨h, g, d, t, os⟩) :
    wpAny M A (checkBuiltinCall newId ⟨.ref C :: rest, kw⟩) Q E ⟨h, g, d, t, os⟩ := by
  have z1 : (Value.ref C :: bm).contains (.type B) = true := by rw [List.contains_cons, alike, B0.hasB, Bool.or_true]
  have z2 := B0.noStar
  simp only [checkBuiltinCall, B0.newKind, B0.newSplit, B0.newRow]
  repeat (first | refine wpAny_loadPart_at cls ?_ | (refine wpAny_isSubtype_exc cls ?_; rw [z1]) | refine wpAny_staticBase_exc cls ?_ | refine wpAny_madeBy_exc cls ?_ | simp only [bne_self_eq_false, Bool.false_eq_true, if_false] | wp_step)
  exact go
theorem ex_new (B0 : ExcBaseFacts B newId initId bmB) (alike : ∀ T : String, bm.contains (.type T) = bmB.contains (.type T)) (cls : h.get? C = some (excClassObj nm q C N bs bm hdct sn sub ab col dd k0 k1 k2 k3 k5 newId))
    (go : R (.ok (.ret (.ref (h.objs.size + 1)))) ⟨(h.push (kdv_tup rest)).push (excO C h.objs.size), g, d, t, os⟩) (few : rest.length ≤ sizeLine) : codeAny (model prog w) A (.builtin newId ⟨.ref C :: rest, kw⟩) R ⟨h, g, d, t, os⟩ := by
  have z0 := B0.ends
  have z1 : (Value.ref C :: bm).contains (.type B) = true := by rw [List.contains_cons, alike, B0.hasB, Bool.or_true]
  have z2 : (Value.ref C :: bm).contains (.type "AttributeError") = false := by rw [List.contains_cons, alike, B0.noAttr]; rfl
  have z3 : (Value.ref C :: bm).contains (.type "NameError") = false := by rw [List.contains_cons, alike, B0.noName]; rfl
  refine codeAny_builtinAt B0.entry (by
    unfold Builtin.«BaseException.__new__»; refine PySem.wpAt_bind ?_
    show PySem.wpAt _ _ _ (stack >>= _) _ _ _; refine PySem.wpAt_bind (PySem.wpAt_stack fun p below => PySem.wpAt_of_wpAny ?_)
    wp_walk
    refine PySem.wpAt_of_wpAny ?_; rw [B0.owner]
    repeat (first | with_reducible refine wpAny_madeHere_exc B0.canon cls ?_ | with_reducible refine wpAny_loadPart_at cls ?_ | (with_reducible refine wpAny_isSubtype_exc cls ?_; first | rw [z1] | rw [z2] | rw [z3]) | wp_step)
    show R _ _; rw [Heap.size_push]
    exact go)
theorem ex_type (B0 : ExcBaseFacts B newId initId bmB) (alike : ∀ T : String, bm.contains (.type T) = bmB.contains (.type T)) {fI : Addr} {Q : Fin → Shared → Prop} (cls : h.get? C = some (excClassObj nm q C N bs bm hdct sn sub ab col dd k0 k1 k2 k3 k5 newId))
    (ini : W.Looks (model prog w) h (typeLookup (.ref C) "__init__") (some (.ref fI))) (bnd : ∀ self, W.Looks (model prog w) h (bindSpecial (.ref fI) self) (.ref fI, [self])) (few : rest.length ≤ sizeLine)
    (go : codeAny (model prog w) A (.call (.ref fI) ⟨.ref (h.objs.size + 1) :: rest, kw⟩) (fun r s' => match r with | .ok (.ret v) => v = .none ∧ Q (.done (.ret (.ref (h.objs.size + 1)))) s' | .ok _ => False | .error e => E e s')
      ⟨(h.push (kdv_tup rest)).push (excO C h.objs.size), g, d, t, os⟩) : wpAny (model prog w) A (Builtin.«type.__call__» ⟨.ref C :: rest, kw⟩) Q E ⟨h, g, d, t, os⟩ := by
  repeat (first | with_reducible refine wpAny_loadPart_at cls ?_ | with_reducible refine wpAny_madeBy_exc cls ?_ | wp_step)
  refine codeAny_call_builtin_code (Code.quiet_builtin _ B0.quiet) (ex_check B0 alike cls (ex_new B0 alike cls ?_ few))
  show wpAny _ _ _ _ _ _
  have old : ∀ b o, h.get? b = some o → ((h.push (kdv_tup rest)).push (excO C h.objs.size)).get? b = some o := fun _ _ e => Heap.get?_push_of_some _ (Heap.get?_push_of_some _ e)
  have cls' := old _ _ cls
  have mine : ((h.push (kdv_tup rest)).push (excO C h.objs.size)).get? (h.objs.size + 1) = some (excO C h.objs.size) := by heap_get
  have z4 : (Value.ref C :: bm).contains (.ref C) = true := by simp
  have ini' := ini.keeps old
  have bnd' := (bnd (.ref (h.objs.size + 1))).keeps old
  unfold isInstance
  repeat (first | with_reducible refine wpAny_loadPart_at mine ?_ | (with_reducible refine wpAny_isSubtype_exc cls' ?_; rw [z4]) | wp_step)
  show wpAny _ _ (typeLookup (.ref C) _) _ _ _
  refine ini'.at (wpAny_holding (wpAny_bind (bnd'.at (wpAny_bind (wpAny_call (codeAny_mono go fun r s' z => ?_))))))
  rcases r with e | (v | _ | _ | _) <;> first | exact z | exact z.elim | skip
  obtain ⟨rfl, z⟩ := z
  first | exact wpAny_pure (wpAny_pure z) | (wp_walk; exact z)
theorem ex_checkT {Q : Unit → Shared → Prop} (cls : h.get? C = some (excClassObj nm q C N bs bm hdct sn sub ab col dd k0 k1 k2 k3 k5 newId)) (go : Q () ⟨h, g, d, t, os⟩) : wpAny M A (checkBuiltinCall "type.__call__" ⟨.ref C :: rest, kw⟩) Q E ⟨h, g, d, t, os⟩ := by
  have y3 := tc_sub
  have y4 : (⟨h, g, d, t, os⟩ : Shared).TypeIs (.ref C) "type" := ⟨_, cls, rfl⟩
  simp only [checkBuiltinCall, tc_kind, tc_split]; repeat (any_goals (first | assumption | with_reducible refine wpAny_loadPart_at cls ?_ | with_reducible refine wpAny_onRaise ?_ | with_reducible refine wpAny_map ?_ | wp_step))
theorem ex_call (B0 : ExcBaseFacts B newId initId bmB) (alike : ∀ T : String, bm.contains (.type T) = bmB.contains (.type T)) {fI : Addr} (cls : h.get? C = some (excClassObj nm q C N bs bm hdct sn sub ab col dd k0 k1 k2 k3 k5 newId))
    (ini : W.Looks (model prog w) h (typeLookup (.ref C) "__init__") (some (.ref fI))) (bnd : ∀ self, W.Looks (model prog w) h (bindSpecial (.ref fI) self) (.ref fI, [self])) (few : rest.length ≤ sizeLine)
    (go : codeAny (model prog w) (A.under (.builtin "type.__call__" ⟨.ref C :: rest, kw⟩)) (.call (.ref fI) ⟨.ref (h.objs.size + 1) :: rest, kw⟩) (W.InitBack (h.objs.size + 1) R) ⟨(h.push (kdv_tup rest)).push (excO C h.objs.size), g, d, t, os⟩) :
    codeAny (model prog w) A (.call (.ref C) ⟨rest, kw⟩) R ⟨h, g, d, t, os⟩ := by
  have y1 := tc_lookup
  have y2 := tc_bind (.ref C)
  have y4 : (⟨h, g, d, t, os⟩ : Shared).TypeIs (.ref C) "type" := ⟨_, cls, rfl⟩
  refine codeAny_of_tree ?_
  show wpAny _ _ (callAny (.ref C) _) _ _ _
  repeat (any_goals (first | assumption | with_reducible refine wpAny_loadPart_at cls ?_ | wp_step))
  refine ⟨rfl, codeAny_call_builtin_at (Code.quiet_builtin _ (by decide +kernel)) entry_typeCall (ex_checkT cls (ex_type B0 alike cls ini bnd few (codeAny_mono go fun r s' z => ?_)))⟩
  rcases r with e | (v | _ | _ | _) <;> exact z
end
end
section
open PySem PySem.Spec PyProof.Rows L2
/-- an error of the class at C stands at a, its fields fl -/
def ExAt (H : Hp) (a C : Addr) (fl : List (Str × V)) : Prop := ∃ dx, H a = some (exo a C (some dx)) ∧ H dx = some (exd dx fl)
theorem ExAt.same {H H' : Hp} {a C : Addr} {fl : List (Str × V)} (e : ExAt H a C fl) (s : Same H H') : ExAt H' a C fl := by
  obtain ⟨dx, h1, h2⟩ := e
  exact ⟨dx, s _ _ h1, s _ _ h2⟩
/-- what a class's __init__ promises: mk tells the fields of the values -/
def spE (C : Addr) (n : Nat) (mk : List V → List (Str × V)) : Sp := fun vs H Q _ => ∃ (a : Addr) (us : List V), vs = .ref a :: us ∧ us.length = n ∧ H a = some (exo a C none) ∧
  ∀ H' : Hp, (∀ b o, H b = some o → b ≠ a → H' b = some o) → ExAt H' a C (mk us) → Q .non H'
/-- an own error class, as its callers see it -/
structure Ec (P : Program) (w : World) (K : PySem.W.Frag) (mg : Str → Option Value) (base : Heap) (x : Str) (C : Addr) (n : Nat) (ks : List Str) (pick : List V → List V) (mk : List V → List (Str × V)) : Prop where
  ox : OexC K C
  m : mg x = some (.ref C)
  ex : ∃ (fI : Addr) (fd : FuncData) (ps : List Str) (pk : List Value → List Value), PySem.W.findIn K (.ref C) "__init__" = some (some (.ref fI)) ∧ PySem.W.typeIn K (.ref fI) = some (.type "function") ∧ FnOk P w K mg base CX0 1 fI fd ps (spE C n mk) ∧ Binds K fd ps [] ∧
    (∀ {vs : List V} {us : List Value}, Vals vs us → Vals (pick vs) (pk us)) ∧ (∀ vs : List V, vs.length = ks.length → (pick vs).length = n) ∧
    ∀ (s : Shared) (self : Value) (ws : List Value), K.In s.heap → ws.length = ks.length → BindsTo s fd ⟨[self], ks.zip ws⟩ (ps.zip (self :: pk ws))
/-- the reading of a making -/
def tEc (C : Addr) (n : Nat) (pick : List V → List V) (mk : List V → List (Str × V)) (ta : TA) : TE := fun σ H Q => ta σ H fun vs H1 => (pick vs).length = n ∧ vs.length ≤ 1000 ∧ ∀ (a : Addr) (H2 : Hp), H1 a = none → Same H1 H2 → ExAt H2 a C (mk (pick vs)) → Q (.ref a) H2
section
variable {X : Cx} {x : Str} {C : Addr} {n : Nat} {ks : List Str} {pick : List V → List V} {mk : List V → List (Str × V)} {p pos : Pos} {e : Expr} {es : List Expr} {kws : List Keyword} {ta : TA}
theorem ec_run {pins : List (Addr × Obj)} {σ : L2.St} {H1 : Hp} {s1 : Shared} {Q : VK} {us : List Value} {vs' : List V} {kw : List (Str × Value)} {fI : Addr} {fd : FuncData} {ps : List Str} (D : OexC X.K C)
    (ini : PySem.W.findIn X.K (.ref C) "__init__" = some (some (.ref fI))) (tfn : PySem.W.typeIn X.K (.ref fI) = some (.type "function")) (F : FnOk X.prog X.w X.K X.mg X.base CX0 1 fI fd ps (spE C n mk)) (room : Room 2 X.A)
    (I1 : Inv X pins σ H1 s1) (few : us.length ≤ sizeLine) (us' : List Value) (rel : Vals vs' us') (ln : vs'.length = n) (bind : ∀ (s : Shared) (self : Value), X.K.In s.heap → BindsTo s fd ⟨self :: us, kw⟩ (ps.zip (self :: us')))
    (go : ∀ (a : Addr) (H2 : Hp), H1 a = none → Same H1 H2 → ExAt H2 a C (mk vs') → Q (.ref a) H2) : wpAny (model X.prog X.w) X.A (call (.ref C) us kw) (EP X pins σ Q) X.xe s1 := by
  obtain ⟨nm, q, N, bs, bm, sn, sub, ab, col, dd, k0, k1, k2, k3, k5, hC, hbm⟩ := D.cls
  obtain ⟨hp, g, dr, tk, os⟩ := s1
  have fresh : H1 (hp.objs.size + 1) = none := I1.hok.fresh (Nat.le_succ _)
  have mine : ((hp.push (PySem.W.kdv_tup us)).push (PySem.HandSPX.excO C hp.objs.size)).get? (hp.objs.size + 1) = some (PySem.HandSPX.excO C hp.objs.size) := by heap_get
  have I2 : Inv X pins σ (upd H1 (hp.objs.size + 1) (exo (hp.objs.size + 1) C none)) ⟨(hp.push (PySem.W.kdv_tup us)).push (PySem.HandSPX.excO C hp.objs.size), g, dr, tk, os⟩ :=
    I1.laid (t' := tk) (fun _ _ e => Heap.get?_push_of_some _ (Heap.get?_push_of_some _ e)) (Nat.le_succ _) (exo_ok mine)
  have asked : spE C n mk (.ref (hp.objs.size + 1) :: vs') (upd H1 (hp.objs.size + 1) (exo (hp.objs.size + 1) C none)) (fun v H2 => v = .non ∧ Q (.ref (hp.objs.size + 1)) H2) E0 :=
    ⟨_, vs', rfl, ln, upd_same, fun H2 keep at_ => ⟨rfl, go _ H2 fresh (fun b o eb => keep b o (by rw [upd_ne (ne_of_none eb fresh)]; exact eb) (ne_of_none eb fresh)) at_⟩⟩
  refine wpAny_call (ex_call PySem.F.excBase_ValueError (fun Y => PySem.HandSPX.refsVE_contains Y bm hbm) (I1.kIn _ _ hC) (PySem.W.looks_findIn I1.kIn ini) (fun self => PySem.W.bind_fn I1.kIn self tfn) few
    (codeAny_mono (F.run _ X.stack _ _ ⟨_, kw⟩ (Value.ref (hp.objs.size + 1) :: us') _ _ E0 (room.make C us kw) (I2.env0.make C us kw) (bind _ _ I2.kIn) (show Vals (V.ref (hp.objs.size + 1) :: vs') (Value.ref (hp.objs.size + 1) :: us') from .cons rfl rel) asked) fun r s' got => ?_))
  match r, got with
  | .error er, got => exact (got : False).elim
  | .ok .next, got => exact got.elim
  | .ok .brk, got => exact got.elim
  | .ok .cont, got => exact got.elim
  | .ok (.ret u), got =>
    obtain ⟨v, H', I3, rv, ev, q3⟩ := I2.after got
    subst ev
    exact ⟨rv, ⟨V.ref (hp.objs.size + 1), H', I3, rfl, q3⟩⟩
/-- C(e, ..) -/
theorem pe_ec (D : Ec X.prog X.w X.K X.mg X.base x C n ks pick mk) (room : Room 2 X.A) (args : PA X (e :: es) ta) (hg : Gl X x := by rfl) (hdb : (x == ("__debug__" : Str)) = false := by decide)
    (he : starEach (e :: es) X.env = (false, eval e X.env) :: starEach es X.env := by rfl) (hpl : (backTo pos (starEach es X.env)).any (·.1) = false := by rfl) :
    PE X (.Call (.Name x p) (e :: es) [] pos) (tEc C n id mk ta) := by
  obtain ⟨fI, fd, ps, pk, h1, h2, F, b, _, _, _⟩ := D.ex
  constructor
  intro pins s σ H Q I h
  apply wpAny_Call_Name_kw (ld_glob I hg D.m ?_ hdb)
  apply PySem.W.callWith_K (h₀ := X.base) I.ok.mod.kin D.ox.kC _ he hpl
  apply thn (args.run pos pins s σ H _ I h)
  rintro us s1 ⟨vs, H1, I1, r, ln, lt, go⟩
  refine ⟨I1.kIn, ?_⟩
  rw [List.nil_append]
  refine ec_run D.ox h1 h2 F room I1 ?_ us r ln (fun s self X0 => ?_) go
  · rw [← r.length]; exact Nat.le_of_lt (small1000 lt)
  · have z := b s (self :: us) X0 (by
      have q := F.len (.ref 0 :: vs) (upd H1 0 (exo 0 C none)) (fun _ _ => True) E0 ⟨0, vs, rfl, ln, upd_same, fun _ _ _ => trivial⟩
      rw [← q]
      simp only [List.length_cons, List.append_nil, r.length])
    rw [List.append_nil] at z
    exact z
/-- C(k = e, ..) -/
theorem pe_eck (D : Ec X.prog X.w X.K X.mg X.base x C n ks pick mk) (room : Room 2 X.A) (hkw : PK X kws ta) (hg : Gl X x := by rfl)
    (hall : (backToKw pos (keywordEach kws X.env)).all (·.1.isSome) = true := by rfl) (hks : (backToKw pos (keywordEach kws X.env)).filterMap (·.1) = ks := by rfl) (hdb : (x == ("__debug__" : Str)) = false := by decide)
    (hpl : ((backTo pos (starEach [] X.env)).any (·.1) || (backToKw pos (keywordEach kws X.env)).any (·.1.isNone)) = false := by rfl) :
    PE X (.Call (.Name x p) [] kws pos) (fun σ H Q => ta σ H fun vs H1 => vs.length = ks.length ∧ ∀ (a : Addr) (H2 : Hp), H1 a = none → Same H1 H2 → ExAt H2 a C (mk (pick vs)) → Q (.ref a) H2) := by
  obtain ⟨fI, fd, ps, pk, h1, h2, F, b, rel, lnk, bk⟩ := D.ex
  constructor
  intro pins s σ H Q I h
  apply wpAny_Call_Name_kw (ld_glob I hg D.m ?_ hdb)
  apply PySem.W.callWith_KW0 (h₀ := X.base) I.ok.mod.kin D.ox.kC hall ?_ hpl
  apply thn (hkw.run pos pins s σ H _ I h)
  rintro ws s2 ⟨zs, H2, I2, rz, ln, go⟩
  refine ⟨I2.kIn, ?_⟩
  rw [hks]
  have ll : ws.length = ks.length := rz.length.symm.trans ln
  exact ec_run (us := []) D.ox h1 h2 F room I2 (Nat.zero_le _) (pk ws) (rel rz) (lnk zs ln) (fun s self X0 => bk s self ws X0 ll) go
/-! ### a field of an error -/
theorem pe_exf {f : Str} {o : Expr} {to : TE} (he : PE X o to) (hb : attributeBase o f X.env (eval o X.env) = eval o X.env := by rfl) :
    PE X (.Attribute o f pos) (fun σ H Q => to σ H fun y H1 => ∃ (a D : Addr) (fl : List (Str × V)) (v : V), y = .ref a ∧ ExAt H1 a D fl ∧ XfC X.K D ∧ PySem.W.findIn X.K (.ref D) f = some none ∧ fl.lookup f = some v ∧ Q v H1) := by
  constructor
  intro pins s σ H Q I h
  refine attr_of hb (thn (he.run pins s σ H _ I h) fun u s1 hh => ?_)
  obtain ⟨y, H1, I1, ry, a, D, fl, v, rfl, ⟨dx, ea, ed⟩, T, no, l, q⟩ := hh
  obtain rfl : u = Value.ref a := ry
  obtain ⟨t1, ho⟩ := exo_at I1.hok ea
  obtain ⟨mA, hns, hr⟩ := exd_at I1.hok ed
  obtain ⟨od, hod, hl⟩ := lookIn_ns hns
  obtain ⟨u, hu, ru⟩ := RelO.some_of (v := v) (o := mA f) (by rw [← l]; exact hr f)
  have J : PySem.W.InstAt s1.heap a { cls := .ref D, dict := some dx, data := .fields #[.ref t1, .none, .none, .none, .bool false, .none] } D (some od) := ⟨ho, rfl, rfl, hod⟩
  exact HandSPX.exc_get I1.kIn J T.ga T.gg T.exC (PySem.W.findObj_own T.hdC no rfl (by rw [hl, hu])) (handed_of ru) ⟨v, H1, I1.tok _, ru, q⟩
end
end
end Cf
/-! repr of a list whose items are plain data or dicts of ints -/
namespace Cf
section
open PySem PySem.Spec PyProof.Rows L2
/-- data without a dict, or a dict of ints to ints -/
inductive Dz (K : PySem.W.Frag) (H : Hp) : V → PyData → Prop
  | flat {v : V} {d : PyData} : Dp K H v d → d.hasDict = false → Dz K H v d
  | nums {a : Addr} (is : List (Int × Int)) : H a = some (.dK (is.map fun z => (Sum.inl z.1, V.int z.2))) → Dz K H (.ref a) (.dict (is.map fun z => (.int z.1, .int z.2)))
theorem rdAll_ints {h : Heap} : ∀ (is : List Int) (us : List Value), Paired (fun (i : Int) (u : Value) => ∃ t, u = Value.int i t) is us → ReadsAll h us (is.map PyData.int) []
  | [], _, .nil => .nil
  | i :: is, _, .cons hd tl => by
    obtain ⟨t, rfl⟩ := hd
    exact ReadsAll.cons (as := []) (bs := []) (Reads.int i t) (rdAll_ints is _ tl)
theorem pairs_ints {P : Program} {w : World} : ∀ (is : List (Int × Int)) (vs : List (Key × Value)) (es : List DictEntry), KV (is.map fun z => (Sum.inl z.1, V.int z.2)) vs → Pairs (mixKind P w) es vs →
    Paired (fun (i : Int) (u : Value) => ∃ t, u = Value.int i t) (is.map (·.1)) (es.map (·.key)) ∧ Paired (fun (i : Int) (u : Value) => ∃ t, u = Value.int i t) (is.map (·.2)) (es.map (·.val))
  | [], _, _, .nil, .nil => ⟨.nil, .nil⟩
  | z :: is, _, _, .cons hd tl, .cons k1 k2 k3 => by
    obtain ⟨h1, h2⟩ := pairs_ints is _ _ tl k3
    obtain ⟨e1, e2⟩ := hd
    rcases keyIs_shape k1 with ⟨i, t, q, e⟩ | ⟨x, t, q, e⟩
    · rw [q] at e1
      have e3 : z.1 = i := Sum.inl.inj e1
      obtain ⟨t2, e4⟩ := e2
      subst e3
      exact ⟨.cons ⟨t, e⟩ h1, .cons ⟨t2, k2.trans e4⟩ h2⟩
    · rw [q] at e1
      exact nomatch e1
section
variable {X : Cx} {pins : List (Addr × Obj)} {σ : L2.St} {H : Hp} {s : Shared}
theorem Dz.reads (I : Inv X pins σ H s) {v : V} {u : Value} {d : PyData} (z : Dz X.K H v d) (r : RelV v u) : ∃ as, Reads s.heap u d as ∧ (d.hasDict = true → sysModules ∉ as) := by
  cases z with
  | flat h n =>
    obtain ⟨as, q⟩ := Dp.reads I d v u h r
    exact ⟨as, q, fun y => by rw [n] at y; cases y⟩
  | @nums a is h =>
    cases r
    obtain ⟨_, lo, vs, kv, o, es, ep, g1, g2, g3, g4, g5, g6⟩ := dk_of I.hok h
    obtain ⟨p1, p2⟩ := pairs_ints is vs es.toList kv g5
    refine ⟨_, Reads.dict (as := []) (bs := []) g1 g2.1 g3 ?_ ?_, ?_⟩
    · have := rdAll_ints (h := s.heap) _ _ p1
      rw [List.map_map] at this ⊢
      exact this
    · have := rdAll_ints (h := s.heap) _ _ p2
      rw [List.map_map] at this ⊢
      exact this
    · intro _ m
      have lo' := beq_eq_false_iff_ne.mp lo
      rcases List.mem_append.mp m with m | m
      · rcases List.mem_cons.mp m with m | m
        · exact lo' m.symm
        · cases m
      · cases m
theorem Dz.all (I : Inv X pins σ H s) : ∀ {vs : List V} {ds : List PyData} {us : List Value}, Paired (Dz X.K H) vs ds → Vals vs us → PyData.showableAll ds = true → (∀ t ∈ PyData.shownAll ds, t.length ≤ sizeLine) →
    (∃ as, ReadsAll s.heap us ds as) ∧ ∃ bs, ReadAtMost s.heap (PyData.depthAll ds) bs ∧ ReprAllK X.prog X.w bs s.heap (PyData.depthAll ds) us (PyData.shownAll ds)
  | _, _, _, .nil, .nil, _, _ => ⟨⟨[], .nil⟩, [], (fun _ h => nomatch h), by simp only [PyData.shownAll]; exact .nil⟩
  | _, _, _, .cons (a := v) (b := d) z zs, .cons r rs, sh, le => by
    rename_i vs' ds' b' us'
    have sh' : d.showable = true ∧ PyData.showableAll ds' = true := by simpa [PyData.showableAll] using sh
    obtain ⟨as, q1, q2⟩ := z.reads I r
    have le1 := le _ (by simp only [PyData.shownAll]; exact List.mem_cons_self ..)
    obtain ⟨⟨as2, w1⟩, b2, w2, w3⟩ := Dz.all I zs rs sh'.2 fun t ht => le t (by simp only [PyData.shownAll]; exact List.mem_cons_of_mem _ ht)
    obtain ⟨b1, y1, y2⟩ := ReprK.of_reads (prog := X.prog) (w := X.w) q1 sh'.1 q2 le1
    refine ⟨⟨_, .cons q1 w1⟩, b1 ++ b2, ?_, ?_⟩
    · exact (y1.mono (by simp only [PyData.depthAll]; omega)).append (w2.mono (by simp only [PyData.depthAll]; omega))
    · simp only [PyData.shownAll]
      exact .cons ((y2.more fun b m => List.mem_append_left _ m).level_le (by simp only [PyData.depthAll]; omega)) (w3.more_le (fun b m => List.mem_append_right _ m) (by simp only [PyData.depthAll]; omega))
end
/-- repr(list) of at least one such item -/
def rReprZ (K : PySem.W.Frag) : List V → Hp → VK → Prop := fun xs H Q => ∃ (a : Addr) (v : V) (vs : List V) (ds : List PyData), xs = [.ref a] ∧ SqL K H a (v :: vs) ∧ Paired (Dz K H) (v :: vs) ds ∧ PyData.showableAll ds = true ∧ PyData.depthAll ds ≤ 60 ∧
  (listText (PyData.shownAll ds)).length ≤ sizeLine ∧ Q (.str (listText (PyData.shownAll ds))) H
theorem call_reprZ {X : Cx} (gd : X.A.guards = some []) (hu : X.A.units + 64 < cLine) : CallR X (.builtin "repr") (rReprZ X.K) := by
  intro pins s σ H xs us Q I r h
  obtain ⟨a, v, vs, ds, rfl, hs, hz, sh, dd, sz, q⟩ := h
  obtain ⟨u, rfl, ru⟩ : ∃ u, us = [u] ∧ RelV (.ref a) u := by
    cases r with
    | cons r1 r2 => cases r2; exact ⟨_, rfl, r1⟩
  cases ru
  obtain ⟨its, rv, ⟨o, n, ho, hc, _, hd⟩, _⟩ := I.list hs
  obtain ⟨⟨as, ra⟩, bs, b1, b2⟩ := Dz.all I hz rv sh fun t ht => Nat.le_trans (listText_mem_le ht) sz
  have rd : Reads s.heap (.ref a) (.list ds) (a :: as) := .list ho hc hd (by simpa using ra)
  have na : a ∉ bs := not_mem_of_deeper rd (by simp only [PyData.depth]; omega) b1
  cases its with
  | nil => cases rv
  | cons i its =>
    have nl := b2.length_eq
    have nit := b2.item
    refine call_repr_slot (by omega) ⟨o, ho, hc⟩ F.slot_list_repr.toG ?_
    refine call_list_reprK (d := PyData.depthAll ds) ho hc hd na (by simpa using nl) (fun i y e => nit i y (by simpa using e)) gd (fun b _ => Clear.nil b) ?_ (fun _ _ e => e) ?_ sz
    · show X.A.units + 1 + (PyData.depthAll ds + 1) < cLine
      omega
    · intro h' u tk k
      exact ⟨_, _, rfl, .str _, H, I.kept k, ⟨_, rfl⟩, q⟩
/-! the heap without two places -/
def cut (p q : Addr) (H : Hp) : Hp := fun b => if b = p ∨ b = q then none else H b
theorem cut_same (p q : Addr) (H : Hp) : Same (cut p q H) H := fun b o e => by
  unfold cut at e
  split at e
  · cases e
  · exact e
theorem cut_of {p q b : Addr} {H : Hp} {o : HO} (e : H b = some o) (h1 : b ≠ p) (h2 : b ≠ q) : cut p q H b = some o := by
  unfold cut
  rw [if_neg (by rintro (z | z) <;> contradiction)]
  exact e
theorem But.cut {p q : Addr} {H H' : Hp} (b : But p q H H') : Same (cut p q H) (cut p q H') := fun c o e => by
  unfold Cf.cut at e
  split at e
  · cases e
  · rename_i n
    exact cut_of (b c o e (fun z => n (.inl z)) (fun z => n (.inr z))) (fun z => n (.inl z)) fun z => n (.inr z)
theorem Same.cut {p q : Addr} {H H' : Hp} (b : Same H H') : Same (cut p q H) (cut p q H') := But.cut (But.of b)
theorem sql_keep {K : PySem.W.Frag} {H H' : Hp} {a : Addr} {xs : List V} (e : Same H H') (h : SqL K H a xs) : SqL K H' a xs := by
  rcases h with (h | ⟨o, h⟩) | h
  · exact .inl (.inl (e _ _ h))
  · exact .inl (.inr ⟨o, e _ _ h⟩)
  · exact .inr h
mutual
theorem Dp.keep {K : PySem.W.Frag} {H H' : Hp} (s : Same H H') : ∀ (d : PyData) (v : V), Dp K H v d → Dp K H' v d
  | .none, _, h => by cases h; exact .non
  | .bool _, _, h => by cases h; exact .bl _
  | .int _, _, h => by cases h; exact .int _
  | .str _, _, h => by cases h; exact .str _
  | .list ds, _, h => by cases h with | lst a b => exact .lst (sql_keep s a) (Dp.keepAll s ds _ b)
  | .tuple ds, _, h => by cases h with | tup a b => exact .tup (s.sqt a) (Dp.keepAll s ds _ b)
  | .dict _, _, h => by cases h
theorem Dp.keepAll {K : PySem.W.Frag} {H H' : Hp} (s : Same H H') : ∀ (ds : List PyData) (vs : List V), DpAll K H vs ds → DpAll K H' vs ds
  | [], _, h => by cases h; exact .nil
  | d :: ds, _, h => by cases h with | cons a b => exact .cons (Dp.keep s d _ a) (Dp.keepAll s ds _ b)
end
theorem Dz.keep {K : PySem.W.Frag} {H H' : Hp} (s : Same H H') {v : V} {d : PyData} (h : Dz K H v d) : Dz K H' v d := by
  cases h with
  | flat h n => exact .flat (Dp.keep s d v h) n
  | nums is h => exact .nums is (s _ _ h)
end
end Cf
namespace Cf
open PySem L2
def top (i : Nat) : Stmt := PySem.Challenge.pw_clockfolds_k05_errors_apart.main.body.getD i (.Pass ⟨0, 0, 0, 0⟩)
abbrev sClockerror : Stmt := top 1
abbrev sBadnumber : Stmt := top 2
abbrev sBaddate : Stmt := top 3
abbrev sBaddays : Stmt := top 4
abbrev sBadyearly : Stmt := top 5
abbrev sBadrow : Stmt := top 6
abbrev sBadorder : Stmt := top 7
abbrev sBadzone : Stmt := top 8
abbrev sBadword : Stmt := top 9
abbrev sToofew : Stmt := top 10
abbrev sBadlog : Stmt := top 11
abbrev sBadlimit : Stmt := top 12
abbrev sBadtext : Stmt := top 13
abbrev sLawBegun : Stmt := top 15
abbrev sLawMixed : Stmt := top 16
abbrev sLawTake : Stmt := top 17
abbrev sLawPick : Stmt := top 18
abbrev sLawOdd : Stmt := top 19
abbrev sLawMarks : Stmt := top 20
abbrev sLawKept : Stmt := top 21
abbrev sLawRight : Stmt := top 22
abbrev sLaw : Stmt := top 23
/-! ### the law's draws: a dict with the lists wide and cells and the numbers rest and turn -/
/-- the state of the draws at p: its lists at a and b, at most n numbers mixed so far -/
def stK (a b : Addr) (rest turn : Int) : List (Key × V) := [(Sum.inr "wide", V.ref a), (Sum.inr "cells", V.ref b), (Sum.inr "rest", V.int rest), (Sum.inr "turn", V.int turn)]
theorem kwc : ¬ (Sum.inr ("wide" : Str) : Key) = Sum.inr ("cells" : Str) := by decide +kernel
theorem kwr : ¬ (Sum.inr ("wide" : Str) : Key) = Sum.inr ("rest" : Str) := by decide +kernel
theorem kcr : ¬ (Sum.inr ("cells" : Str) : Key) = Sum.inr ("rest" : Str) := by decide +kernel
theorem kwt : ¬ (Sum.inr ("wide" : Str) : Key) = Sum.inr ("turn" : Str) := by decide +kernel
theorem kct : ¬ (Sum.inr ("cells" : Str) : Key) = Sum.inr ("turn" : Str) := by decide +kernel
theorem krt : ¬ (Sum.inr ("rest" : Str) : Key) = Sum.inr ("turn" : Str) := by decide +kernel
theorem ktr : ¬ (Sum.inr ("turn" : Str) : Key) = Sum.inr ("rest" : Str) := by decide +kernel
theorem stK_wide {a b : Addr} {r t : Int} : valV (stK a b r t) (Sum.inr ("wide" : Str) : Key) = some (V.ref a) := by
  unfold stK
  exact valV_pos rfl
theorem stK_cells {a b : Addr} {r t : Int} : valV (stK a b r t) (Sum.inr ("cells" : Str) : Key) = some (V.ref b) := by
  unfold stK
  rw [valV_neg kwc]
  exact valV_pos rfl
theorem stK_rest {a b : Addr} {r t : Int} : valV (stK a b r t) (Sum.inr ("rest" : Str) : Key) = some (V.int r) := by
  unfold stK
  rw [valV_neg kwr, valV_neg kcr]
  exact valV_pos rfl
theorem stK_turn {a b : Addr} {r t : Int} : valV (stK a b r t) (Sum.inr ("turn" : Str) : Key) = some (V.int t) := by
  unfold stK
  rw [valV_neg kwt, valV_neg kct, valV_neg krt]
  exact valV_pos rfl
theorem nkk {x y : Str} (h : (x == y) = false) : ¬ (Sum.inr x : Key) = Sum.inr y := fun e => by
  have e2 := Sum.inr.inj e
  rw [e2] at h
  simp at h
theorem stK_put_rest (a b : Addr) (r t z : Int) : putK (stK a b r t) (Sum.inr ("rest" : Str) : Key) (V.int z) = stK a b z t := by
  unfold putK
  rw [valV_any, stK_rest]
  rw [if_pos (by rfl)]
  unfold stK
  simp only [List.map_cons, List.map_nil, if_neg kwr, if_neg kcr, if_neg ktr, if_true]
theorem stK_put_turn (a b : Addr) (r t z : Int) : putK (stK a b r t) (Sum.inr ("turn" : Str) : Key) (V.int z) = stK a b r z := by
  unfold putK
  rw [valV_any, stK_turn]
  rw [if_pos (by rfl)]
  unfold stK
  simp only [List.map_cons, List.map_nil, if_neg kwt, if_neg kct, if_neg krt, if_true]
theorem stK_merge (a b : Addr) (r t : Int) : mergeK [] (stK a b r t) = stK a b r t := by
  unfold mergeK stK
  simp only [List.foldl_cons, List.foldl_nil]
  rw [putK_new (kvs := []) _ valV_nil, List.nil_append, putK_new, putK_new, putK_new]
  · rfl
  · rw [valV_neg kwc, valV_nil]
  · rw [valV_put, if_neg (fun e => kcr e.symm), valV_neg kwr, valV_nil]
  · rw [valV_put, if_neg (fun e => krt e.symm), valV_put, if_neg (fun e => kct e.symm), valV_neg kwt, valV_nil]
section
variable {H : Hp} {p a b : Addr} {r t z : Int}
theorem get_wide (h : H p = some (.dK (stK a b r t))) : DGet H p (.str "wide") (some (.ref a)) := by
  have q := DGet.k (k := Sum.inr ("wide" : Str)) h
  rw [stK_wide] at q
  exact q
theorem get_cells (h : H p = some (.dK (stK a b r t))) : DGet H p (.str "cells") (some (.ref b)) := by
  have q := DGet.k (k := Sum.inr ("cells" : Str)) h
  rw [stK_cells] at q
  exact q
theorem get_rest (h : H p = some (.dK (stK a b r t))) : DGet H p (.str "rest") (some (.int r)) := by
  have q := DGet.k (k := Sum.inr ("rest" : Str)) h
  rw [stK_rest] at q
  exact q
theorem get_turn (h : H p = some (.dK (stK a b r t))) : DGet H p (.str "turn") (some (.int t)) := by
  have q := DGet.k (k := Sum.inr ("turn" : Str)) h
  rw [stK_turn] at q
  exact q
theorem put_rest (z : Int) (h : H p = some (.dK (stK a b r t))) : DPut H p (.str "rest") (.int z) (upd H p (.dK (stK a b z t))) := by
  have q := DPut.k (k := Sum.inr ("rest" : Str)) (v := V.int z) h (by show 4 < sizeLine; decide)
  rw [stK_put_rest] at q
  exact q
theorem put_turn (z : Int) (h : H p = some (.dK (stK a b r t))) : DPut H p (.str "turn") (.int z) (upd H p (.dK (stK a b r z))) := by
  have q := DPut.k (k := Sum.inr ("turn" : Str)) (v := V.int z) h (by show 4 < sizeLine; decide)
  rw [stK_put_turn] at q
  exact q
end
structure Stt (p a b : Addr) (n : Nat) (H : Hp) : Prop where
  ex : ∃ (ws cs : List Int) (rest turn : Int), H p = some (.dK (stK a b rest turn)) ∧ H a = some (.lst (ws.map V.int)) ∧ H b = some (.lst (cs.map V.int)) ∧ 0 ≤ turn ∧ turn ≤ (n : Int) ∧ cs.length ≤ 63 ∧ ws.length ≤ 63
  ab : a ≠ b
theorem Stt.pa {p a b : Addr} {n : Nat} {H : Hp} (S : Stt p a b n H) : p ≠ a := by
  obtain ⟨ws, cs, rest, turn, h1, h2, _⟩ := S.ex
  exact ne_of h1 h2 (by intro z; cases z)
theorem Stt.pb {p a b : Addr} {n : Nat} {H : Hp} (S : Stt p a b n H) : p ≠ b := by
  obtain ⟨ws, cs, rest, turn, h1, _, h2, _⟩ := S.ex
  exact ne_of h1 h2 (by intro z; cases z)
theorem Stt.mono {p a b : Addr} {n m : Nat} {H : Hp} (S : Stt p a b n H) (h : n ≤ m) : Stt p a b m H := by
  obtain ⟨⟨ws, cs, rest, turn, h1, h2, h3, h4, h5, h6, h7⟩, h8⟩ := S
  exact ⟨⟨ws, cs, rest, turn, h1, h2, h3, h4, by omega, h6, h7⟩, h8⟩
theorem Stt.same {p a b : Addr} {n : Nat} {H H' : Hp} (S : Stt p a b n H) (h : Same H H') : Stt p a b n H' := by
  obtain ⟨⟨ws, cs, rest, turn, h1, h2, h3, h4⟩, h8⟩ := S
  exact ⟨⟨ws, cs, rest, turn, h _ _ h1, h _ _ h2, h _ _ h3, h4⟩, h8⟩
theorem Stt.there {p a b : Addr} {n : Nat} {H : Hp} (S : Stt p a b n H) : ∃ u v w, H p = some (.dK u) ∧ H a = some (.lst v) ∧ H b = some (.lst w) := by
  obtain ⟨⟨ws, cs, rest, turn, h1, h2, h3, _⟩, _⟩ := S
  exact ⟨_, _, _, h1, h2, h3⟩
theorem eqv_ints_nil (ws : List Int) : PyData.eqv (.list (ws.map PyData.int)) (.list []) = ws.isEmpty := by
  cases ws with
  | nil => rfl
  | cons w ws => simp [PyData.eqv, PyData.eqvAll]
theorem dpInts {K : PySem.W.Frag} {H : Hp} : ∀ ws : List Int, DpAll K H (ws.map V.int) (ws.map PyData.int)
  | [] => .nil
  | w :: ws => .cons (.int w) (dpInts ws)
theorem canLay_ints : ∀ ws : List Int, PyData.canLayAll0 (ws.map PyData.int) = true
  | [] => rfl
  | w :: ws => by simp [PyData.canLayAll0, PyData.canLay0, canLay_ints ws]
theorem depth_ints : ∀ ws : List Int, PyData.depthAll (ws.map PyData.int) ≤ 1
  | [] => by simp [PyData.depthAll]
  | w :: ws => by have := depth_ints ws; simp only [List.map_cons, PyData.depthAll, PyData.depth]; omega
theorem shaped_ints (ws : List Int) : SeqAt.shaped (.list (ws.map PyData.int)) = true := by
  unfold SeqAt.shaped
  rw [Bool.and_eq_true]
  refine ⟨?_, decide_eq_true ?_⟩
  · simp only [PyData.canLay0]; exact canLay_ints ws
  · have := depth_ints ws
    simp only [PyData.depth]; omega
theorem seq0 {y : Int} (xs : List V) : seqIndex? 0 (V.int y :: xs).length = some 0 := by
  unfold seqIndex?
  simp
/-! ### what the text's built-in names mean -/
structure Nm (mg : Str → Option Value) : Prop where
  abs : mg "abs" = none
  int : mg "int" = none
  bool : mg "bool" = none
  isinstance : mg "isinstance" = none
  sum : mg "sum" = none
  divmod : mg "divmod" = none
  min : mg "min" = none
  len : mg "len" = none
  range : mg "range" = none
  repr : mg "repr" = none
section
variable {P : Program} {w : World} {K : PySem.W.Frag} {mg : Str → Option Value} {base : Heap}
/-! ### _law_begun -/
def spBegun (K : PySem.W.Frag) : Sp := fun vs H Q _ => ∃ (l : Addr) (ns : List Int), vs = [.ref l] ∧ SqL K H l (ns.map V.int) ∧ ns.length ≤ 63 ∧
  ∀ (H' : Hp) (p a b : Addr), H p = none → H a = none → H b = none → Same H H' → Stt p a b 0 H' → Q (.ref p) H'
theorem scLawBegun : FnScope ["script", "wide", "cell"] ["script"] (defScope sLawBegun) := ⟨rfl, rfl, rfl, by decide +kernel, rfl, by decide +kernel, by decide +kernel⟩
theorem absI (z : Int) : (if z < 0 then -z else z) = (z.natAbs : Int) := by
  by_cases h : z < 0
  · rw [if_pos h]; omega
  · rw [if_neg h]; omega
theorem ok_begun {f : Addr} {fd : FuncData} (F : Fun K "_law_begun" "_law_begun" sLawBegun f fd) (T : Nm mg) : FnOk P w K mg base CX0 1 f fd ["script"] (spBegun K) := by
  refine F.ok scLawBegun (fun vs H Q E h => ?_) (fun cdv A outer s H vs Q E hr h => ?_)
  · obtain ⟨l, ns, rfl, _⟩ := h
    rfl
  · obtain ⟨l, ns, rfl, hS, hlen, k⟩ := h
    have nd := scLawBegun.nd
    refine ⟨_, pss_cons (ps_setLc (i := 1) (own := [("cell", 2)]) (g := gName 2) rfl nd rfl rfl (sw_true rfl rfl rfl (by decide +kernel)) (pi_list (pv 0))
        (blkOk_by (N := ["script", "wide", "cell"]) (sc := defScope sLawBegun) (by decide +kernel)) (fun _ _ _ _ _ => pg_name (i := 2) nd rfl (Or.inl rfl))
        (fun _ _ _ _ _ => pts_one (pt_cmpR op_ge (pe_callB call_abs (by rfl) T.abs (by decide +kernel) (pa_cons (pv 2) pa_nil)) (pe_op op_pow pe_int pe_int) (nomark _)))
        (fun _ _ _ _ _ => pe_op op_sub (pe_callB call_abs (by rfl) T.abs (by decide +kernel) (pa_cons (pv 2) pa_nil)) (pe_op op_pow pe_int pe_int)))
      (pss_one (ps_ret (pe_disp (pps_cons pe_str (pv 1) (pps_cons pe_str
        (pe_lc (own := [("cell", 2)]) (g := gName 2) (tt := tYes) rfl nd (pi_list (pv 0)) (blkOk_by (N := ["script", "wide", "cell"]) (sc := defScope sLawBegun) (by decide +kernel)) (fun _ _ _ _ _ => pg_name (i := 2) nd rfl (Or.inl rfl)) (fun _ _ _ _ _ => pts_nil)
          (fun _ _ _ _ _ => pe_op op_mod (pe_callTy call_int1 (by rfl) T.int (by decide +kernel) (pa_cons (pe_callB call_abs (by rfl) T.abs (by decide +kernel) (pa_cons (pv 2) pa_nil)) pa_nil)) pe_int))
        (pps_cons pe_str pe_int (pps_cons pe_str pe_int pps_nil)))) (by rfl) (by rfl) (fun z => by cases z) (by decide)))), ?_⟩
    have cp : CPow 10 18 := ⟨by decide, by decide, by decide⟩
    -- the first list
    refine ⟨_, rfl, l, rfl, ⟨_, hS⟩, fun D hD => lc_list (K := K) (a := l) (xs := ns.map V.int) (fun i H' => Same H H' ∧ ∃ acc : List Int, acc.length ≤ i ∧ H' D = some (.lst (acc.map V.int)))
      ⟨Same.new hD, [], Nat.le_refl _, upd_same⟩ (fun i H' _ ⟨s1, _⟩ => s1.seq hS) ?_ ?_⟩
    · rintro i y H' hi ⟨s1, acc, hacc, hDl⟩
      have hil := lt_of_get hi
      rw [List.length_map] at hil
      obtain ⟨z, hz, rfl⟩ := ints_get hi
      refine ⟨rfl, ?_⟩
      refine ⟨_, rfl, _, rfl, _, _, rfl, rfl, cp, _, _, rfl, rfl, _, rfl, ?_⟩
      refine ite2 (fun _ => ?_) (fun _ => ?_)
      · refine ⟨_, rfl, _, rfl, _, _, rfl, rfl, cp, _, _, rfl, rfl, acc.map V.int, hDl, ?_, ?_⟩
        · rw [List.length_map]
          exact small1000 (by omega)
        · refine ⟨s1.wr hD, acc ++ [(if z < 0 then -z else z) - 10 ^ 18], ?_, ?_⟩
          · rw [List.length_append, List.length_singleton]; omega
          · rw [upd_same, List.map_append]; rfl
      · exact ⟨s1, acc, by omega, hDl⟩
    · rintro H1 ⟨s1, acc, hacc, hDl⟩
      rw [List.length_map] at hacc
      -- the dict, empty; its pairs
      intro p hp
      have npD : D ≠ p := ne_of_none hDl hp
      have s2 : Same H (upd H1 p (.dK [])) := s1.step hp
      refine ⟨_, rfl, _, rfl, l, rfl, ⟨_, s2.seq hS⟩, fun B hB => lc_list (K := K) (a := l) (xs := ns.map V.int) (fun i H' => Same (upd H1 p (.dK [])) H' ∧ ∃ cs : List Int, cs.length ≤ i ∧ H' B = some (.lst (cs.map V.int)))
        ⟨Same.new hB, [], Nat.le_refl _, upd_same⟩ (fun i H' _ ⟨s3, _⟩ => (s2.trans s3).seq hS) ?_ ?_⟩
      · rintro i y H' hi ⟨s3, cs, hcs, hBl⟩
        have hil := lt_of_get hi
        rw [List.length_map] at hil
        obtain ⟨z, hz, rfl⟩ := ints_get hi
        refine ⟨rfl, ?_⟩
        dsimp only [tYes]
        rw [if_pos rfl]
        refine ⟨_, rfl, _, rfl, .inl ⟨_, rfl, _, _, rfl, rfl, (by show (0 : Int) < 2147483629; decide), cs.map V.int, hBl, ?_, ?_⟩⟩
        · rw [List.length_map]
          exact small1000 (by omega)
        · refine ⟨s3.wr hB, cs ++ [(if z < 0 then -z else z) % 2147483629], ?_, ?_⟩
          · rw [List.length_append, List.length_singleton]; omega
          · rw [upd_same, List.map_append]; rfl
      · rintro H2 ⟨s3, cs, hcs, hBl⟩
        rw [List.length_map] at hcs
        have hp2 : H2 p = some (.dK []) := s3 _ _ upd_same
        refine ⟨hp2, stK D B 0 0, rfl, (by show 4 ≤ 15; decide), ?_⟩
        have nBp : B ≠ p := ne_of hBl hp2 (by intro z; cases z)
        have hDl2 : H2 D = some (.lst (acc.map V.int)) := s3 _ _ (by rw [upd_ne npD]; exact hDl)
        have nDB : D ≠ B := ne_of_none (show (upd H1 p (.dK [])) D = some _ by rw [upd_ne npD]; exact hDl) hB
        refine k _ p D B (s1.free hp) hD (s1.free (by rw [upd_ne nBp] at hB; exact hB)) ?_ ⟨⟨acc, cs, 0, 0, ?_, ?_, ?_, by decide, by decide, by omega, by omega⟩, nDB⟩
        · exact (s2.trans s3).wr (s1.free hp)
        · rw [upd_same, stK_merge]
        · rw [upd_ne npD]; exact hDl2
        · rw [upd_ne nBp]; exact hBl
/-! ### _law_mixed -/
def spMixed : Sp := fun vs H Q _ => ∃ (p a b : Addr) (n : Nat), vs = [.ref p] ∧ Stt p a b n H ∧ n ≤ 1000000 ∧
  ∀ (z : Int) (H' : Hp), Stt p a b (n + 1) H' → But p a H H' → Q (.int z) H'
theorem scLawMixed : FnScope ["state", "turn", "found", "prime", "blend", "cell"] ["state"] (defScope sLawMixed) := ⟨rfl, rfl, rfl, by decide +kernel, rfl, by decide +kernel, by decide +kernel⟩
theorem ok_mixed {f : Addr} {fd : FuncData} (F : Fun K "_law_mixed" "_law_mixed" sLawMixed f fd) (T : Nm mg) : FnOk P w K mg base CX0 1 f fd ["state"] spMixed := by
  refine F.ok scLawMixed (fun vs H Q E h => ?_) (fun cdv A outer s H vs Q E hr h => ?_)
  · obtain ⟨p, a, b, n, rfl, _⟩ := h
    rfl
  · obtain ⟨p, a, b, n, rfl, S, hn, k⟩ := h
    have nd := scLawMixed.nd
    have hu := hu_of hr
    have npa := S.pa
    have npb := S.pb
    obtain ⟨⟨ws, cs, rest, turn, h1, h2, h3, t0, t1, hcs, hws⟩, nab⟩ := S
    refine ⟨_, pss_cons (ps_par (i := 1) (j := 2) (by rfl) nd rfl rfl (by decide) rfl rfl (pa_cons (pe_op op_add (pe_dget hu (pv 0) pe_str (fun _ _ => rfl)) pe_int) (pa_cons pe_int pa_nil)) (by rfl))
      (pss_cons (ps_dput hu (pv 0) pe_str (pv 1) rfl)
      (pss_cons (ps_for PassesOwn.never rfl (pi_list (pe_lst (pa_cons pe_int (pa_cons pe_int (pa_cons pe_int (pa_cons pe_int pa_nil)))))) (pg_name (i := 3) nd rfl (Or.inl rfl))
        (pss_cons (ps_set (i := 4) nd rfl (Or.inl rfl) (pe_op op_add (pe_op op_mul pe_int (pv 1)) (pe_op op_fdiv (pv 3) pe_int)))
        (pss_cons (ps_for PassesOwn.never rfl (pi_list (pe_dget hu (pv 0) pe_str (fun _ _ => rfl))) (pg_name (i := 5) nd rfl (Or.inl rfl))
          (pss_one (ps_set (i := 4) nd rfl (Or.inl rfl) (pe_op op_mod (pe_callTy call_int1 (by rfl) T.int (by decide +kernel) (pa_cons (pe_op op_add (pe_op op_add (pe_op op_mul (pv 4) pe_int) (pv 5)) (pv 1)) pa_nil)) (pv 3)))))
        (pss_one (ps_set (i := 2) nd rfl (Or.inl rfl) (pe_op op_add (pe_op op_mul (pv 2) pe_int) (pe_op op_mod (pe_callTy call_int1 (by rfl) T.int (by decide +kernel) (pa_cons (pe_op op_pow (pv 4) pe_int) pa_nil)) (pv 3))))))))
      (pss_one (ps_ret (pv 2))))), ?_⟩
    -- turn, found = state['turn'] + 1, 0; state['turn'] = turn
    refine ⟨_, rfl, p, V.int turn, rfl, get_turn h1, _, _, rfl, rfl, _, _, rfl, ?_⟩
    refine ⟨_, rfl, _, rfl, p, _, rfl, put_turn (turn + 1) h1, ?_⟩
    -- the primes
    refine ⟨by show 4 ≤ sizeLine; decide, fun D hD => ?_⟩
    have npD : p ≠ D := ne_of_none (upd_same) hD
    have naD : a ≠ D := ne_of_none (show upd H p _ a = some _ by rw [upd_ne npa.symm]; exact h2) hD
    have nbD : b ≠ D := ne_of_none (show upd H p _ b = some _ by rw [upd_ne npb.symm]; exact h3) hD
    have hp' : upd (upd H p (.dK (stK a b rest (turn + 1)))) D (.lst [V.int 2147483629, V.int 2147483587, V.int 2147483579, V.int 2147483563]) p = some (.dK (stK a b rest (turn + 1))) := by rw [upd_ne npD, upd_same]
    have ha' : upd (upd H p (.dK (stK a b rest (turn + 1)))) D (.lst [V.int 2147483629, V.int 2147483587, V.int 2147483579, V.int 2147483563]) a = some (.lst (ws.map V.int)) := by rw [upd_ne naD, upd_ne npa.symm]; exact h2
    have hb' : upd (upd H p (.dK (stK a b rest (turn + 1)))) D (.lst [V.int 2147483629, V.int 2147483587, V.int 2147483579, V.int 2147483563]) b = some (.lst (cs.map V.int)) := by rw [upd_ne nbD, upd_ne npb.symm]; exact h3
    have hB : But p a H (upd (upd H p (.dK (stK a b rest (turn + 1)))) D (.lst [V.int 2147483629, V.int 2147483587, V.int 2147483579, V.int 2147483563])) := fun c o e c1 c2 => by
      have e2 : upd H p (.dK (stK a b rest (turn + 1))) c = some o := by rw [upd_ne c1]; exact e
      rw [upd_ne (ne_of_none e2 hD)]
      exact e2
    generalize hH2 : upd (upd H p (.dK (stK a b rest (turn + 1)))) D (.lst [V.int 2147483629, V.int 2147483587, V.int 2147483579, V.int 2147483563]) = H2 at hp' ha' hb' hB
    have hDl : H2 D = some (.lst ([2147483629, 2147483587, 2147483579, 2147483563].map V.int)) := by rw [← hH2]; exact upd_same
    have tb : turn + 1 ≤ 1000001 := by omega
    refine ⟨D, rfl, ⟨_, SqL.of hDl⟩, for_list (K := K) (a := D) (xs := [2147483629, 2147483587, 2147483579, 2147483563].map V.int)
      (fun i σ H' => H' = H2 ∧ ∃ (fo : Int) (v4 v5 v6 : Option V), σ = [some (.ref p), some (.int (turn + 1)), some (.int fo), v4, v5, v6]) ⟨rfl, 0, none, none, none, rfl⟩ (fun i σ H' _ ⟨e, _⟩ => by subst e; exact SqL.of hDl) ?_ ?_⟩
    · rintro i y σ H' hi ⟨rfl, fo, v4, v5, v6, rfl⟩
      obtain ⟨pr, hpr, rfl⟩ := ints_get hi
      have hp1 : 1000 < pr ∧ pr < 2147483648 := by
        have hm := List.mem_of_getElem? hpr
        simp only [List.mem_cons, List.not_mem_nil, or_false] at hm
        omega
      refine ⟨_, rfl, _, _, rfl, rfl, .inl ⟨by decide, by decide⟩, _, rfl, _, _, rfl, rfl, ⟨by decide, by decide⟩, _, _, rfl, rfl, ?_⟩
      refine ⟨_, rfl, p, V.ref b, rfl, get_cells hp', b, rfl, ⟨_, SqL.of hb'⟩, for_list (K := K) (a := b) (xs := cs.map V.int)
        (fun j σ H'' => H'' = H' ∧ ∃ (bl : Int) (v6 : Option V), 0 ≤ bl ∧ bl < 2 ^ 63 ∧ σ = [some (.ref p), some (.int (turn + 1)), some (.int fo), some (.int pr), some (.int bl), v6]) ⟨rfl, 61441 * (turn + 1) + pr / 19, v6, ?_, ?_, rfl⟩ (fun i σ H' _ ⟨e, _⟩ => by subst e; exact SqL.of hb') ?_ ?_⟩
      · omega
      · omega
      · rintro j y σ H' hj ⟨rfl, bl, v6, b0, b1, rfl⟩
        obtain ⟨c, hc, rfl⟩ := ints_get hj
        refine ⟨_, rfl, _, _, rfl, rfl, .inr ⟨by decide, by decide⟩, _, rfl, _, _, rfl, rfl, _, rfl, _, _, rfl, rfl, .inl ⟨_, rfl, _, rfl, _, _, rfl, rfl, (by show 0 < pr; omega), ?_⟩⟩
        have m1 := Int.emod_nonneg (bl * 48271 + c + (turn + 1)) (show pr ≠ 0 by omega)
        have m2 := Int.emod_lt_of_pos (bl * 48271 + c + (turn + 1)) (show 0 < pr by omega)
        exact ⟨rfl, (bl * 48271 + c + (turn + 1)) % pr, _, m1, by omega, rfl⟩
      · rintro σ H' ⟨rfl, bl, v6, b0, b1, rfl⟩
        refine ⟨_, rfl, _, _, rfl, rfl, .inr ⟨by decide, by decide⟩, _, rfl, _, _, rfl, rfl, ⟨by decide, by decide, by omega⟩, .inl ⟨_, rfl, _, rfl, _, _, rfl, rfl, (by show 0 < pr; omega), _, _, rfl, rfl, ?_⟩⟩
        exact ⟨rfl, _, _, _, _, rfl⟩
    · rintro σ H' ⟨rfl, fo, v4, v5, v6, rfl⟩
      refine ⟨_, rfl, ?_⟩
      refine k fo H' ⟨⟨ws, cs, rest, turn + 1, hp', ha', hb', by omega, by omega, hcs, hws⟩, nab⟩ hB
/-! ### _law_take -/
def spTake : Sp := fun vs H Q _ => ∃ (p a b : Addr) (n : Nat) (size : Int), vs = [.ref p, .int size] ∧ Stt p a b n H ∧ n ≤ 1000000 ∧ 0 < size ∧ size ≤ 1000000000 ∧
  ∀ (z : Int) (H' : Hp), 0 ≤ z → z < size → Stt p a b (n + 1) H' → But p a H H' → Q (.int z) H'
theorem scLawTake : FnScope ["state", "size", "found"] ["state", "size"] (defScope sLawTake) := ⟨rfl, rfl, rfl, by decide +kernel, rfl, by decide +kernel, by decide +kernel⟩
theorem ok_take {f : Addr} {fd : FuncData} (F : Fun K "_law_take" "_law_take" sLawTake f fd) (T : Nm mg) (DM : Df P w K mg base 1 "_law_mixed" ["state"] [] spMixed) : FnOk P w K mg base CX0 2 f fd ["state", "size"] spTake := by
  refine F.ok scLawTake (fun vs H Q E h => ?_) (fun cdv A outer s H vs Q E hr h => ?_)
  · obtain ⟨p, a, b, n, size, rfl, _⟩ := h
    rfl
  · obtain ⟨p, a, b, n, size, rfl, S, hn, z0, z1, k⟩ := h
    have nd := scLawTake.nd
    have hu := hu_of hr
    refine ⟨_, pss_cons (ps_if (pt_cmpR op_eq (pe_dget hu (pv 0) pe_str (fun _ _ => rfl)) pe_int (nomark _))
        (pss_one (ps_dput hu (pv 0) pe_str (pe_ifExp (pt_cmpR (op_neD hr.units) (pe_dget hu (pv 0) pe_str (fun _ _ => rfl)) (pe_lst pa_nil) (nomark _))
            (pe_bm PySem.F.plainAttrs_list PySem.F.slot_list_pop PySem.F.type_list_pop mt_popAt (pe_dget hu (pv 0) pe_str (fun _ _ => rfl)) (pa_cons pe_int pa_nil))
            (pe_df DM hr (pa_cons (pv 0) pa_nil))) rfl)) pss_nil)
      (pss_cons (ps_set (i := 2) nd rfl (Or.inl rfl) (pe_op op_mod (pe_callTy call_int1 (by rfl) T.int (by decide +kernel) (pa_cons (pe_dget hu (pv 0) pe_str (fun _ _ => rfl)) pa_nil)) (pv 1)))
      (pss_cons (ps_dput hu (pv 0) pe_str (pe_op op_fdiv (pe_dget hu (pv 0) pe_str (fun _ _ => rfl)) (pv 1)) rfl)
      (pss_one (ps_ret (pv 2))))), ?_⟩
    have npa := S.pa
    have npb := S.pb
    have nab := S.ab
    obtain ⟨⟨ws, cs, rest, turn, h1, h2, h3, t0, t1, hcs, hws⟩, _⟩ := id S
    have fin : ∀ (H1 : Hp) (r1 : Int), (∃ (ws' cs' : List Int) (t' : Int), H1 p = some (.dK (stK a b r1 t')) ∧ H1 a = some (.lst (ws'.map V.int)) ∧ H1 b = some (.lst (cs'.map V.int)) ∧ 0 ≤ t' ∧ t' ≤ ((n + 1 : Nat) : Int) ∧ cs'.length ≤ 63 ∧ ws'.length ≤ 63) → But p a H H1 →
        tAsg (tOp (rI (fun _ j => 0 < j) fun i j => .int (i % j)) (tCB (fun xs H Q => (∃ i, xs = [.int i] ∧ Q (.int i) H) ∨ ∃ k, xs = [.bl k] ∧ Q (.int (if k = true then 1 else 0)) H) (tCons (tDGet (tVar 0) (tC (.str "rest"))) tNil)) (tVar 1)) (gName 2)
          { nx := fun σ1 H1 => sDPut (tVar 0) (tC (.str "rest")) (tOp (rI CDiv fun i j => .int (i / j)) (tDGet (tVar 0) (tC (.str "rest"))) (tVar 1)) { nx := fun σ2 H2 => tRet (tVar 2) { nx := fun _ H' => Q .non H', rt := Q } σ2 H2, rt := Q } σ1 H1, rt := Q } [some (.ref p), some (.int size), none] H1 := by
      intro H1 r1 hh bb
      obtain ⟨ws', cs', t', g1, g2, g3, g4⟩ := hh
      refine ⟨_, rfl, p, V.int r1, rfl, get_rest g1, .inl ⟨_, rfl, _, rfl, _, _, rfl, rfl, z0, ?_⟩⟩
      refine ⟨_, rfl, p, V.int r1, rfl, get_rest g1, _, rfl, _, _, rfl, rfl, ⟨z0, by omega⟩, _, rfl, p, _, rfl, put_rest _ g1, _, rfl, ?_⟩
      refine k _ _ (Int.emod_nonneg _ (by omega)) (Int.emod_lt_of_pos _ z0) ⟨⟨ws', cs', _, t', upd_same, ?_, ?_, g4⟩, nab⟩ ?_
      · rw [upd_ne npa.symm]; exact g2
      · rw [upd_ne npb.symm]; exact g3
      · exact fun c o e c1 c2 => by rw [upd_ne c1]; exact bb c o e c1 c2
    refine ⟨_, rfl, p, V.int rest, rfl, get_rest h1, rfl, _, rfl, ?_⟩
    refine ite2 (fun _ => ?_) (fun _ => ?_)
    · -- rest is 0
      refine ⟨_, rfl, p, V.ref a, rfl, get_wide h1, Nat.zero_le _, fun D hD => ?_⟩
      have n1 : p ≠ D := ne_of_none h1 hD
      have n2 : a ≠ D := ne_of_none h2 hD
      have n3 : b ≠ D := ne_of_none h3 hD
      have d1 : upd H D (.lst []) p = some (.dK (stK a b rest turn)) := by rw [upd_ne n1]; exact h1
      have d2 : upd H D (.lst []) a = some (.lst (ws.map V.int)) := by rw [upd_ne n2]; exact h2
      have d3 : upd H D (.lst []) b = some (.lst (cs.map V.int)) := by rw [upd_ne n3]; exact h3
      have d4 : But p a H (upd H D (.lst [])) := But.of (Same.new hD)
      refine ⟨.list (ws.map PyData.int), .list [], .lst (SqL.of d2) (dpInts ws), .lst (SqL.of upd_same) .nil, shaped_ints ws, by decide, _, rfl, ?_⟩
      rw [eqv_ints_nil]
      cases ws with
      | nil =>
        refine iteFF rfl ?_
        refine ⟨_, rfl, p, a, b, n, rfl, ⟨⟨[], cs, rest, turn, d1, d2, d3, t0, t1, hcs, hws⟩, nab⟩, hn, fun y H2 S2 B2 => ?_⟩
        obtain ⟨⟨ws2, cs2, r2, t2, e1, e2, e3, e4⟩, _⟩ := S2
        refine ⟨_, rfl, p, _, rfl, put_rest _ e1, ?_⟩
        refine fin _ y ⟨ws2, cs2, t2, upd_same, ?_, ?_, e4⟩ ?_
        · rw [upd_ne npa.symm]; exact e2
        · rw [upd_ne npb.symm]; exact e3
        · exact fun c o e c1 c2 => by rw [upd_ne c1]; exact B2 c o (d4 c o e c1 c2) c1 c2
      | cons y ws =>
        refine iteTT rfl ?_
        refine ⟨_, rfl, p, V.ref a, rfl, get_wide d1, .inl ⟨rfl, _, SqL.of d2⟩, a, _, 0, 0, V.int y, rfl, rfl, d2, by decide, by decide, seq0 _, rfl, ?_⟩
        have e1 : upd (upd H D (.lst [])) a (.lst (((y :: ws).map V.int).eraseIdx 0)) p = some (.dK (stK a b rest turn)) := by rw [upd_ne npa]; exact d1
        refine ⟨_, rfl, p, _, rfl, put_rest y e1, ?_⟩
        refine fin _ y ⟨ws, cs, turn, upd_same, ?_, ?_, t0, by omega, hcs, ?_⟩ ?_
        · rw [upd_ne npa.symm, upd_same]; rfl
        · rw [upd_ne npb.symm, upd_ne nab.symm]; exact d3
        · rw [List.length_cons] at hws; omega
        · exact fun c o e c1 c2 => by rw [upd_ne c1, upd_ne c2]; exact d4 c o e c1 c2
    · exact fin H rest ⟨ws, cs, turn, h1, h2, h3, t0, by omega, hcs, hws⟩ But.refl
end
end Cf
namespace Cf
open PySem L2
def inner (s : Stmt) : Stmt := match s with
  | .ClassDef _ _ _ b _ _ _ _ _ _ _ => b.getD 0 (.Pass ⟨0, 0, 0, 0⟩)
  | _ => .Pass ⟨0, 0, 0, 0⟩
section
variable {P : Program} {w : World} {K : PySem.W.Frag} {mg : Str → Option Value} {base : Heap} {C f : Addr} {fd : FuncData}

def mk0 : List V → List (Str × V) := fun us => [("value", us.getD 0 .non)]
theorem sc0 : FnScope ["self", "value"] ["self", "value"] (defScope (inner sBadnumber)) := ⟨rfl, rfl, rfl, by decide +kernel, rfl, by decide +kernel, by decide +kernel⟩
theorem ok0 (F : Fun K "__init__" "BadNumber.__init__" (inner sBadnumber) f fd) (O : OexC K C) (h0 : PySem.W.findIn K (.ref C) "value" = some none) : FnOk P w K mg base CX0 1 f fd ["self", "value"] (spE C 1 mk0) := by
  refine F.ok sc0 (fun vs H Q E h => ?_) (fun cdv A outer s H vs Q E hr h => ?_)
  · obtain ⟨a, us, rfl, l, _⟩ := h
    match us, l with
    | [_], _ => rfl
  · obtain ⟨a, us, rfl, l, ha, go⟩ := h
    match us, l, go with
    | [v], _, go =>
      refine ⟨_, pss_one (ps_ost (pv 0) (pv 1)), ?_⟩
      refine ⟨_, rfl, _, rfl, a, C, rfl, O, h0, .inl ⟨ha, fun dx hx ne => ?_⟩⟩
      exact go _ (fun b o e nb => by rw [upd_ne nb, upd_ne (ne_of_none e hx)]; exact e) ⟨dx, upd_same, by rw [upd_ne ne]; exact upd_same⟩
def mk1 : List V → List (Str × V) := fun us => [("value", us.getD 0 .non)]
theorem sc1 : FnScope ["self", "value"] ["self", "value"] (defScope (inner sBaddate)) := ⟨rfl, rfl, rfl, by decide +kernel, rfl, by decide +kernel, by decide +kernel⟩
theorem ok1 (F : Fun K "__init__" "BadDate.__init__" (inner sBaddate) f fd) (O : OexC K C) (h0 : PySem.W.findIn K (.ref C) "value" = some none) : FnOk P w K mg base CX0 1 f fd ["self", "value"] (spE C 1 mk1) := by
  refine F.ok sc1 (fun vs H Q E h => ?_) (fun cdv A outer s H vs Q E hr h => ?_)
  · obtain ⟨a, us, rfl, l, _⟩ := h
    match us, l with
    | [_], _ => rfl
  · obtain ⟨a, us, rfl, l, ha, go⟩ := h
    match us, l, go with
    | [v], _, go =>
      refine ⟨_, pss_one (ps_ost (pv 0) (pv 1)), ?_⟩
      refine ⟨_, rfl, _, rfl, a, C, rfl, O, h0, .inl ⟨ha, fun dx hx ne => ?_⟩⟩
      exact go _ (fun b o e nb => by rw [upd_ne nb, upd_ne (ne_of_none e hx)]; exact e) ⟨dx, upd_same, by rw [upd_ne ne]; exact upd_same⟩
def mk2 : List V → List (Str × V) := fun us => [("value", us.getD 0 .non)]
theorem sc2 : FnScope ["self", "value"] ["self", "value"] (defScope (inner sBaddays)) := ⟨rfl, rfl, rfl, by decide +kernel, rfl, by decide +kernel, by decide +kernel⟩
theorem ok2 (F : Fun K "__init__" "BadDays.__init__" (inner sBaddays) f fd) (O : OexC K C) (h0 : PySem.W.findIn K (.ref C) "value" = some none) : FnOk P w K mg base CX0 1 f fd ["self", "value"] (spE C 1 mk2) := by
  refine F.ok sc2 (fun vs H Q E h => ?_) (fun cdv A outer s H vs Q E hr h => ?_)
  · obtain ⟨a, us, rfl, l, _⟩ := h
    match us, l with
    | [_], _ => rfl
  · obtain ⟨a, us, rfl, l, ha, go⟩ := h
    match us, l, go with
    | [v], _, go =>
      refine ⟨_, pss_one (ps_ost (pv 0) (pv 1)), ?_⟩
      refine ⟨_, rfl, _, rfl, a, C, rfl, O, h0, .inl ⟨ha, fun dx hx ne => ?_⟩⟩
      exact go _ (fun b o e nb => by rw [upd_ne nb, upd_ne (ne_of_none e hx)]; exact e) ⟨dx, upd_same, by rw [upd_ne ne]; exact upd_same⟩
def mk3 : List V → List (Str × V) := fun us => [("value", us.getD 0 .non)]
theorem sc3 : FnScope ["self", "value"] ["self", "value"] (defScope (inner sBadyearly)) := ⟨rfl, rfl, rfl, by decide +kernel, rfl, by decide +kernel, by decide +kernel⟩
theorem ok3 (F : Fun K "__init__" "BadYearly.__init__" (inner sBadyearly) f fd) (O : OexC K C) (h0 : PySem.W.findIn K (.ref C) "value" = some none) : FnOk P w K mg base CX0 1 f fd ["self", "value"] (spE C 1 mk3) := by
  refine F.ok sc3 (fun vs H Q E h => ?_) (fun cdv A outer s H vs Q E hr h => ?_)
  · obtain ⟨a, us, rfl, l, _⟩ := h
    match us, l with
    | [_], _ => rfl
  · obtain ⟨a, us, rfl, l, ha, go⟩ := h
    match us, l, go with
    | [v], _, go =>
      refine ⟨_, pss_one (ps_ost (pv 0) (pv 1)), ?_⟩
      refine ⟨_, rfl, _, rfl, a, C, rfl, O, h0, .inl ⟨ha, fun dx hx ne => ?_⟩⟩
      exact go _ (fun b o e nb => by rw [upd_ne nb, upd_ne (ne_of_none e hx)]; exact e) ⟨dx, upd_same, by rw [upd_ne ne]; exact upd_same⟩
def mk4 : List V → List (Str × V) := fun us => [("index", us.getD 0 .non)]
theorem sc4 : FnScope ["self", "index"] ["self", "index"] (defScope (inner sBadrow)) := ⟨rfl, rfl, rfl, by decide +kernel, rfl, by decide +kernel, by decide +kernel⟩
theorem ok4 (F : Fun K "__init__" "BadRow.__init__" (inner sBadrow) f fd) (O : OexC K C) (h0 : PySem.W.findIn K (.ref C) "index" = some none) : FnOk P w K mg base CX0 1 f fd ["self", "index"] (spE C 1 mk4) := by
  refine F.ok sc4 (fun vs H Q E h => ?_) (fun cdv A outer s H vs Q E hr h => ?_)
  · obtain ⟨a, us, rfl, l, _⟩ := h
    match us, l with
    | [_], _ => rfl
  · obtain ⟨a, us, rfl, l, ha, go⟩ := h
    match us, l, go with
    | [v], _, go =>
      refine ⟨_, pss_one (ps_ost (pv 0) (pv 1)), ?_⟩
      refine ⟨_, rfl, _, rfl, a, C, rfl, O, h0, .inl ⟨ha, fun dx hx ne => ?_⟩⟩
      exact go _ (fun b o e nb => by rw [upd_ne nb, upd_ne (ne_of_none e hx)]; exact e) ⟨dx, upd_same, by rw [upd_ne ne]; exact upd_same⟩
def mk5 : List V → List (Str × V) := fun us => [("index", us.getD 1 .non), ("year", us.getD 0 .non)]
theorem sc5 : FnScope ["self", "year", "index"] ["self", "year", "index"] (defScope (inner sBadorder)) := ⟨rfl, rfl, rfl, by decide +kernel, rfl, by decide +kernel, by decide +kernel⟩
theorem ok5 (F : Fun K "__init__" "BadOrder.__init__" (inner sBadorder) f fd) (O : OexC K C) (h0 : PySem.W.findIn K (.ref C) "year" = some none) (h1 : PySem.W.findIn K (.ref C) "index" = some none) : FnOk P w K mg base CX0 1 f fd ["self", "year", "index"] (spE C 2 mk5) := by
  refine F.ok sc5 (fun vs H Q E h => ?_) (fun cdv A outer s H vs Q E hr h => ?_)
  · obtain ⟨a, us, rfl, l, _⟩ := h
    match us, l with
    | [_, _], _ => rfl
  · obtain ⟨a, us, rfl, l, ha, go⟩ := h
    match us, l, go with
    | [v, u], _, go =>
      refine ⟨_, pss_cons (ps_ost (pv 0) (pv 1)) (pss_one (ps_ost (pv 0) (pv 2))), ?_⟩
      refine ⟨_, rfl, _, rfl, a, C, rfl, O, h0, .inl ⟨ha, fun dx hx ne => ?_⟩⟩
      refine ⟨_, rfl, _, rfl, a, C, rfl, O, h1, .inr ⟨dx, _, upd_same, by rw [upd_ne ne]; exact upd_same, by show (1 : Nat) ≤ 900; decide, ?_⟩⟩
      exact go _ (fun b o e nb => by rw [upd_ne (ne_of_none e hx), upd_ne nb, upd_ne (ne_of_none e hx)]; exact e) ⟨dx, by rw [upd_ne (Ne.symm ne)]; exact upd_same, upd_same⟩
def mk6 : List V → List (Str × V) := fun us => [("index", us.getD 0 .non)]
theorem sc6 : FnScope ["self", "index"] ["self", "index"] (defScope (inner sBadzone)) := ⟨rfl, rfl, rfl, by decide +kernel, rfl, by decide +kernel, by decide +kernel⟩
theorem ok6 (F : Fun K "__init__" "BadZone.__init__" (inner sBadzone) f fd) (O : OexC K C) (h0 : PySem.W.findIn K (.ref C) "index" = some none) : FnOk P w K mg base CX0 1 f fd ["self", "index"] (spE C 1 mk6) := by
  refine F.ok sc6 (fun vs H Q E h => ?_) (fun cdv A outer s H vs Q E hr h => ?_)
  · obtain ⟨a, us, rfl, l, _⟩ := h
    match us, l with
    | [_], _ => rfl
  · obtain ⟨a, us, rfl, l, ha, go⟩ := h
    match us, l, go with
    | [v], _, go =>
      refine ⟨_, pss_one (ps_ost (pv 0) (pv 1)), ?_⟩
      refine ⟨_, rfl, _, rfl, a, C, rfl, O, h0, .inl ⟨ha, fun dx hx ne => ?_⟩⟩
      exact go _ (fun b o e nb => by rw [upd_ne nb, upd_ne (ne_of_none e hx)]; exact e) ⟨dx, upd_same, by rw [upd_ne ne]; exact upd_same⟩
def mk7 : List V → List (Str × V) := fun us => [("value", us.getD 0 .non)]
theorem sc7 : FnScope ["self", "value"] ["self", "value"] (defScope (inner sBadword)) := ⟨rfl, rfl, rfl, by decide +kernel, rfl, by decide +kernel, by decide +kernel⟩
theorem ok7 (F : Fun K "__init__" "BadWord.__init__" (inner sBadword) f fd) (O : OexC K C) (h0 : PySem.W.findIn K (.ref C) "value" = some none) : FnOk P w K mg base CX0 1 f fd ["self", "value"] (spE C 1 mk7) := by
  refine F.ok sc7 (fun vs H Q E h => ?_) (fun cdv A outer s H vs Q E hr h => ?_)
  · obtain ⟨a, us, rfl, l, _⟩ := h
    match us, l with
    | [_], _ => rfl
  · obtain ⟨a, us, rfl, l, ha, go⟩ := h
    match us, l, go with
    | [v], _, go =>
      refine ⟨_, pss_one (ps_ost (pv 0) (pv 1)), ?_⟩
      refine ⟨_, rfl, _, rfl, a, C, rfl, O, h0, .inl ⟨ha, fun dx hx ne => ?_⟩⟩
      exact go _ (fun b o e nb => by rw [upd_ne nb, upd_ne (ne_of_none e hx)]; exact e) ⟨dx, upd_same, by rw [upd_ne ne]; exact upd_same⟩
def mk8 : List V → List (Str × V) := fun us => [("number", us.getD 0 .non)]
theorem sc8 : FnScope ["self", "number"] ["self", "number"] (defScope (inner sToofew)) := ⟨rfl, rfl, rfl, by decide +kernel, rfl, by decide +kernel, by decide +kernel⟩
theorem ok8 (F : Fun K "__init__" "TooFew.__init__" (inner sToofew) f fd) (O : OexC K C) (h0 : PySem.W.findIn K (.ref C) "number" = some none) : FnOk P w K mg base CX0 1 f fd ["self", "number"] (spE C 1 mk8) := by
  refine F.ok sc8 (fun vs H Q E h => ?_) (fun cdv A outer s H vs Q E hr h => ?_)
  · obtain ⟨a, us, rfl, l, _⟩ := h
    match us, l with
    | [_], _ => rfl
  · obtain ⟨a, us, rfl, l, ha, go⟩ := h
    match us, l, go with
    | [v], _, go =>
      refine ⟨_, pss_one (ps_ost (pv 0) (pv 1)), ?_⟩
      refine ⟨_, rfl, _, rfl, a, C, rfl, O, h0, .inl ⟨ha, fun dx hx ne => ?_⟩⟩
      exact go _ (fun b o e nb => by rw [upd_ne nb, upd_ne (ne_of_none e hx)]; exact e) ⟨dx, upd_same, by rw [upd_ne ne]; exact upd_same⟩
def mk9 : List V → List (Str × V) := fun us => [("index", us.getD 0 .non)]
theorem sc9 : FnScope ["self", "index"] ["self", "index"] (defScope (inner sBadlog)) := ⟨rfl, rfl, rfl, by decide +kernel, rfl, by decide +kernel, by decide +kernel⟩
theorem ok9 (F : Fun K "__init__" "BadLog.__init__" (inner sBadlog) f fd) (O : OexC K C) (h0 : PySem.W.findIn K (.ref C) "index" = some none) : FnOk P w K mg base CX0 1 f fd ["self", "index"] (spE C 1 mk9) := by
  refine F.ok sc9 (fun vs H Q E h => ?_) (fun cdv A outer s H vs Q E hr h => ?_)
  · obtain ⟨a, us, rfl, l, _⟩ := h
    match us, l with
    | [_], _ => rfl
  · obtain ⟨a, us, rfl, l, ha, go⟩ := h
    match us, l, go with
    | [v], _, go =>
      refine ⟨_, pss_one (ps_ost (pv 0) (pv 1)), ?_⟩
      refine ⟨_, rfl, _, rfl, a, C, rfl, O, h0, .inl ⟨ha, fun dx hx ne => ?_⟩⟩
      exact go _ (fun b o e nb => by rw [upd_ne nb, upd_ne (ne_of_none e hx)]; exact e) ⟨dx, upd_same, by rw [upd_ne ne]; exact upd_same⟩
def mk10 : List V → List (Str × V) := fun us => [("index", us.getD 0 .non)]
theorem sc10 : FnScope ["self", "index"] ["self", "index"] (defScope (inner sBadlimit)) := ⟨rfl, rfl, rfl, by decide +kernel, rfl, by decide +kernel, by decide +kernel⟩
theorem ok10 (F : Fun K "__init__" "BadLimit.__init__" (inner sBadlimit) f fd) (O : OexC K C) (h0 : PySem.W.findIn K (.ref C) "index" = some none) : FnOk P w K mg base CX0 1 f fd ["self", "index"] (spE C 1 mk10) := by
  refine F.ok sc10 (fun vs H Q E h => ?_) (fun cdv A outer s H vs Q E hr h => ?_)
  · obtain ⟨a, us, rfl, l, _⟩ := h
    match us, l with
    | [_], _ => rfl
  · obtain ⟨a, us, rfl, l, ha, go⟩ := h
    match us, l, go with
    | [v], _, go =>
      refine ⟨_, pss_one (ps_ost (pv 0) (pv 1)), ?_⟩
      refine ⟨_, rfl, _, rfl, a, C, rfl, O, h0, .inl ⟨ha, fun dx hx ne => ?_⟩⟩
      exact go _ (fun b o e nb => by rw [upd_ne nb, upd_ne (ne_of_none e hx)]; exact e) ⟨dx, upd_same, by rw [upd_ne ne]; exact upd_same⟩
def mk11 : List V → List (Str × V) := fun us => [("line", us.getD 0 .non)]
theorem sc11 : FnScope ["self", "line"] ["self", "line"] (defScope (inner sBadtext)) := ⟨rfl, rfl, rfl, by decide +kernel, rfl, by decide +kernel, by decide +kernel⟩
theorem ok11 (F : Fun K "__init__" "BadText.__init__" (inner sBadtext) f fd) (O : OexC K C) (h0 : PySem.W.findIn K (.ref C) "line" = some none) : FnOk P w K mg base CX0 1 f fd ["self", "line"] (spE C 1 mk11) := by
  refine F.ok sc11 (fun vs H Q E h => ?_) (fun cdv A outer s H vs Q E hr h => ?_)
  · obtain ⟨a, us, rfl, l, _⟩ := h
    match us, l with
    | [_], _ => rfl
  · obtain ⟨a, us, rfl, l, ha, go⟩ := h
    match us, l, go with
    | [v], _, go =>
      refine ⟨_, pss_one (ps_ost (pv 0) (pv 1)), ?_⟩
      refine ⟨_, rfl, _, rfl, a, C, rfl, O, h0, .inl ⟨ha, fun dx hx ne => ?_⟩⟩
      exact go _ (fun b o e nb => by rw [upd_ne nb, upd_ne (ne_of_none e hx)]; exact e) ⟨dx, upd_same, by rw [upd_ne ne]; exact upd_same⟩
end
end Cf
namespace Cf
open PySem L2
section
variable {P : Program} {w : World} {K : PySem.W.Frag} {mg : Str → Option Value} {base : Heap}
/-! ### what stands written of the classes -/
/-- an error class at C, above it the classes at up -/
structure Kl (K : PySem.W.Frag) (up : List Value) (C : Addr) : Prop where
  there : ∃ nm q N bs sn sub ab col dd k0 k1 k2 k3 k5, K.lookup C = some (excClassObj nm q C N bs up true sn sub ab col dd k0 k1 k2 k3 k5 "ValueError.__new__")
  sa : PySem.W.findIn K (.ref C) "__setattr__" = some (some (.builtin "object.__setattr__"))
  ga : PySem.W.findIn K (.ref C) "__getattribute__" = some (some (.builtin "BaseException.__getattribute__"))
  gg : PySem.W.findIn K (.ref C) "__getattr__" = some none
  cl : PySem.W.findIn K (.ref C) "__class__" = some (some (.builtin "object.__class__"))
  kp : PySem.W.keepIn K (.ref C) = true
/-- what stands written of object's __class__ -/
structure Ko (K : PySem.W.Frag) : Prop where
  hn : PySem.W.specialIn K (.builtin "object.__class__") "__get__" = some (some (.builtin "getset_descriptor.__get__"))
  ht : PySem.W.takesIn K (.builtin "object.__class__") = some true
def veL : List Value := [.type "ValueError", .type "Exception", .type "BaseException", .type "object"]
section
variable {up : List Value} {C D : Addr}
theorem Kl.cls (k : Kl K up C) : ∃ cd, PySem.W.clsIn K C = some cd ∧ cd.mro = .ref C :: up ∧ cd.hasDict = true ∧ PySem.W.typeIn K (.ref C) = some (.type "type") := by
  obtain ⟨nm, q, N, bs, sn, sub, ab, col, dd, k0, k1, k2, k3, k5, h⟩ := k.there
  refine ⟨_, by unfold PySem.W.clsIn; rw [h], rfl, rfl, ?_⟩
  show (K.lookup C).map (·.cls) = _
  rw [h]
  rfl
theorem Kl.sub (k : Kl K up C) (v : Value) : PySem.W.subIn K (.ref C) v = some ((Value.ref C :: up).contains v) := by
  obtain ⟨cd, h1, h2, _⟩ := k.cls
  show (PySem.W.clsIn K C).bind _ = _
  rw [h1, Option.bind_some, h2]
  rfl
theorem Kl.hd (k : Kl K up C) : PySem.W.hasDictIn K C = true := by
  obtain ⟨cd, h1, _, h3, _⟩ := k.cls
  unfold PySem.W.hasDictIn
  rw [h1]
  exact h3
theorem Kl.mro (k : Kl K up C) (v : Value) : PySem.W.mroIn K C v = some ((Value.ref C :: up).contains v) := k.sub v
/-- the classes above end as ValueError's do -/
structure Up (up : List Value) : Prop where
  be : up.contains (.type "BaseException") = true
  ob : up.contains (.type "object") = true
  ve : up.contains (.type "ValueError") = true
  re : PySem.HandSPX.refsVE up = true
theorem Kl.oex (k : Kl K up C) (u : Up up) : OexC K C where
  cls := by
    obtain ⟨nm, q, N, bs, sn, sub, ab, col, dd, k0, k1, k2, k3, k5, h⟩ := k.there
    exact ⟨nm, q, N, bs, up, sn, sub, ab, col, dd, k0, k1, k2, k3, k5, h, u.re⟩
  sa := k.sa
  exC := by rw [k.sub, List.contains_cons, u.be, Bool.or_true]
  tyC := by obtain ⟨cd, _, _, _, h⟩ := k.cls; exact h
  kC := k.kp
theorem Kl.xf (k : Kl K up C) (u : Up up) : XfC K C := ⟨k.ga, k.gg, by rw [k.sub, List.contains_cons, u.be, Bool.or_true], k.hd⟩
theorem Kl.exc (k : Kl K up C) (u : Up up) (o : Ko K) : ExcC K C := ⟨k.ga, k.gg, by rw [k.sub, List.contains_cons, u.be, Bool.or_true], k.hd, k.cl, o.hn, o.ht, by rw [k.mro, List.contains_cons, u.ob, Bool.or_true]⟩
theorem kit_ref (kC : Kl K up C) {upD : List Value} (kD : Kl K upD D) : PySem.W.kitOne K (.ref D) (.ref C) = some ((Value.ref D :: upD).contains (.ref C)) := by
  obtain ⟨cd, h1, _, _, h4⟩ := kC.cls
  unfold PySem.W.kitOne
  by_cases e : Value.ref D = Value.ref C
  · rw [e, beq_self_eq_true, if_pos rfl, List.contains_cons, beq_self_eq_true, Bool.true_or]
  · rw [beq_eq_false_iff_ne.mpr e, if_neg Bool.false_ne_true]
    show (if ((PySem.W.clsIn K C).isSome && PySem.W.typeIn K (.ref C) == some (.type "type")) = true then PySem.W.subIn K (.ref D) (.ref C) else none) = _
    rw [h1, h4, kD.sub]
    rfl
theorem kit_ve {upD : List Value} (kD : Kl K upD D) (u : Up upD) : PySem.W.kitOne K (.ref D) (.type "ValueError") = some true := by
  unfold PySem.W.kitOne
  rw [show ((Value.ref D : Value) == .type "ValueError") = false from beq_eq_false_iff_ne.mpr (fun z => nomatch z), if_neg Bool.false_ne_true]
  show (if PySem.W.kitMeta "ValueError" = true then PySem.W.subIn K (.ref D) (.type "ValueError") else none) = _
  rw [if_pos (by decide +kernel), kD.sub, List.contains_cons, u.ve, Bool.or_true]
end
/-! ### isinstance of an error -/
/-- an error of the class at D stands at a -/
def ErrV (H : Hp) (a D : Addr) : Prop := (∃ fl, ExAt H a D fl) ∨ H a = some (ExO (.ref D) a)
def rIsX (K : PySem.W.Frag) : List V → Hp → VK → Prop := fun xs H Q => ∃ (a D : Addr) (c : V) (cv : Value) (b : Bool), xs = [.ref a, c] ∧ ClsV c cv ∧ ErrV H a D ∧ ExcC K D ∧ PySem.W.kitOne K (.ref D) cv = some b ∧ Q (.bl b) H
theorem call_isX {X : Cx} : CallR X (.builtin "isinstance") (rIsX X.K) := by
  intro pins s σ H xs us Q I r h
  obtain ⟨a, D, c, cv, b, rfl, k, er, E, e, q⟩ := h
  obtain ⟨u1, u2, rfl, r1, r2⟩ := vals2 r
  cases (show u1 = Value.ref a from r1)
  have e2 := k.eq r2
  subst e2
  have cl : (PySem.W.clsIn X.K D).isSome = true := by
    obtain ⟨cd, h1, _⟩ := PySem.W.any_some E.hd
    rw [h1]
    rfl
  have go : ∀ (oe : Obj) (od : Option Obj), PySem.W.InstAt s.heap a oe D od → PySem.wpAny (PySem.model X.prog X.w) X.A (PySem.call (.builtin "isinstance") [.ref a, u2]) (EP X pins σ Q) X.xe s := fun oe od J =>
    PySem.W.kia_one (PySem.W.kitx_exc cl E.hg E.hk E.hs E.ha E.hn E.ht E.hm) I.kIn J e (fun z => nomatch z) fun tk => ⟨.bl b, H, I.tok tk, rfl, q⟩
  rcases er with ⟨fl, dx, ea, ed⟩ | ea
  · obtain ⟨t1, ho⟩ := exo_at I.hok ea
    obtain ⟨mA, hns, hr⟩ := exd_at I.hok ed
    obtain ⟨od, hod, hl⟩ := lookIn_ns hns
    exact go _ (some od) ⟨ho, rfl, rfl, hod⟩
  · obtain ⟨⟨oe, vs, ho, hz, hd, _⟩, _, _⟩ := I.hok a _ ea
    obtain ⟨oc, od, dt, sl⟩ := oe
    obtain ⟨z1, z2⟩ := hz
    dsimp only at z1 z2 hd
    subst z1 z2 hd
    exact go _ none ⟨ho, rfl, rfl, trivial⟩
theorem ErrV.same {H H' : Hp} {a D : Addr} (e : ErrV H a D) (s : Same H H') : ErrV H' a D := by
  rcases e with ⟨fl, e⟩ | e
  · exact .inl ⟨fl, e.same s⟩
  · exact .inr (s _ _ e)
end
end Cf
namespace Cf
open PySem L2
section
variable {P : Program} {w : World} {K : PySem.W.Frag} {mg : Str → Option Value} {base : Heap}
/-! ### _law_pick -/
def spPick : Sp := fun vs H Q _ => ∃ (p a b l : Addr) (n : Nat) (xs : List V), vs = [.ref p, .ref l] ∧ Stt p a b n H ∧ n ≤ 1000000 ∧ H l = some (.lst xs) ∧ l ≠ p ∧ l ≠ a ∧ 0 < xs.length ∧ xs.length ≤ 1000 ∧
  ∀ (i : Nat) (v : V) (H' : Hp), xs[i]? = some v → Stt p a b (n + 1) H' → But p a H H' → Q v H'
theorem scLawPick : FnScope ["state", "some"] ["state", "some"] (defScope sLawPick) := ⟨rfl, rfl, rfl, by decide +kernel, rfl, by decide +kernel, by decide +kernel⟩
theorem ok_pick {f : Addr} {fd : FuncData} (F : Fun K "_law_pick" "_law_pick" sLawPick f fd) (T : Nm mg) (DT : Df P w K mg base 2 "_law_take" ["state", "size"] [] spTake) : FnOk P w K mg base CX0 3 f fd ["state", "some"] spPick := by
  refine F.ok scLawPick (fun vs H Q E h => ?_) (fun cdv A outer s H vs Q E hr h => ?_)
  · obtain ⟨p, a, b, l, n, xs, rfl, _⟩ := h
    rfl
  · obtain ⟨p, a, b, l, n, xs, rfl, S, hn, hl, n1, n2, l0, l1, k⟩ := h
    refine ⟨_, pss_one (ps_ret (pe_ix ix_list (pv 1) (pe_df DT hr (pa_cons (pv 0) (pa_cons (pe_callB call_len_seq (by rfl) T.len PySem.boot_len (pa_cons (pv 1) pa_nil)) pa_nil))) (fun _ _ => rfl))), ?_⟩
    refine ⟨_, rfl, _, rfl, _, rfl, l, xs, rfl, .inl (SqL.of hl), p, a, b, n, _, rfl, S, hn, by omega, by omega, fun z H' z0 z1 S' B' => ?_⟩
    have hlt : z.toNat < xs.length := by omega
    refine ⟨l, xs, z, xs[z.toNat], rfl, rfl, SqL.of (B' _ _ hl n1 n2), at_of (j := z.toNat) (by omega) (by simp [hlt]), ?_⟩
    exact k z.toNat _ H' (by simp [hlt]) S' B'

/-- the twelve classes and the one above them -/
structure Cls (K : PySem.W.Frag) (mg : Str → Option Value) (cE c0 c1 c2 c3 c4 c5 c6 c7 c8 c9 c10 c11 : Addr) : Prop where
  kE : Kl K veL cE
  mE : mg "ClockError" = some (.ref cE)
  o : Ko K
  nd : [cE, c0, c1, c2, c3, c4, c5, c6, c7, c8, c9, c10, c11].Nodup
  k0 : Kl K (.ref cE :: veL) c0
  m0 : mg "BadNumber" = some (.ref c0)
  k1 : Kl K (.ref cE :: veL) c1
  m1 : mg "BadDate" = some (.ref c1)
  k2 : Kl K (.ref cE :: veL) c2
  m2 : mg "BadDays" = some (.ref c2)
  k3 : Kl K (.ref cE :: veL) c3
  m3 : mg "BadYearly" = some (.ref c3)
  k4 : Kl K (.ref cE :: veL) c4
  m4 : mg "BadRow" = some (.ref c4)
  k5 : Kl K (.ref cE :: veL) c5
  m5 : mg "BadOrder" = some (.ref c5)
  k6 : Kl K (.ref cE :: veL) c6
  m6 : mg "BadZone" = some (.ref c6)
  k7 : Kl K (.ref cE :: veL) c7
  m7 : mg "BadWord" = some (.ref c7)
  k8 : Kl K (.ref cE :: veL) c8
  m8 : mg "TooFew" = some (.ref c8)
  k9 : Kl K (.ref cE :: veL) c9
  m9 : mg "BadLog" = some (.ref c9)
  k10 : Kl K (.ref cE :: veL) c10
  m10 : mg "BadLimit" = some (.ref c10)
  k11 : Kl K (.ref cE :: veL) c11
  m11 : mg "BadText" = some (.ref c11)
theorem up1 : Up veL := ⟨by decide +kernel, by decide +kernel, by decide +kernel, by decide +kernel⟩
theorem veL_ref (a : Addr) : veL.contains (.ref a) = false := by
  unfold veL
  simp
theorem up2 (cE : Addr) : Up (.ref cE :: veL) := by
  refine ⟨?_, ?_, ?_, ?_⟩
  · rw [List.contains_cons, up1.be, Bool.or_true]
  · rw [List.contains_cons, up1.ob, Bool.or_true]
  · rw [List.contains_cons, up1.ve, Bool.or_true]
  · exact up1.re
/-- a class as the law meets it -/
structure Ed (K : PySem.W.Frag) (cE D : Addr) : Prop where
  ex : ∃ up, Kl K up D ∧ (up = veL ∧ D = cE ∨ up = .ref cE :: veL)
theorem beq_ref (a b : Addr) : ((Value.ref a : Value) == .ref b) = decide (a = b) := by
  by_cases h : a = b
  · subst h
    rw [decide_eq_true rfl, beq_self_eq_true]
  · rw [decide_eq_false h]
    exact beq_eq_false_iff_ne.mpr fun z => h (Value.ref.inj z)
section
variable {cE D C : Addr}
theorem Ed.up (d : Ed K cE D) : ∃ up, Kl K up D ∧ Up up := by
  obtain ⟨up, k, h⟩ := d.ex
  rcases h with ⟨rfl, _⟩ | rfl
  · exact ⟨_, k, up1⟩
  · exact ⟨_, k, up2 cE⟩
theorem Ed.exc (d : Ed K cE D) (o : Ko K) : ExcC K D := by
  obtain ⟨up, k, u⟩ := d.up
  exact k.exc u o
theorem Ed.ve (d : Ed K cE D) : PySem.W.kitOne K (.ref D) (.type "ValueError") = some true := by
  obtain ⟨up, k, u⟩ := d.up
  exact kit_ve k u
theorem Ed.ce (d : Ed K cE D) (kE : Kl K veL cE) : PySem.W.kitOne K (.ref D) (.ref cE) = some true := by
  obtain ⟨up, k, h⟩ := d.ex
  rw [kit_ref kE k]
  rcases h with ⟨rfl, rfl⟩ | rfl
  · rw [List.contains_cons, beq_self_eq_true, Bool.true_or]
  · rw [List.contains_cons, List.contains_cons, beq_self_eq_true, Bool.true_or, Bool.or_true]
theorem Ed.kit (d : Ed K cE D) (kC : Kl K (.ref cE :: veL) C) (ne : C ≠ cE) : PySem.W.kitOne K (.ref D) (.ref C) = some (decide (D = C)) := by
  obtain ⟨up, k, h⟩ := d.ex
  rw [kit_ref kC k]
  rcases h with ⟨rfl, rfl⟩ | rfl
  · rw [List.contains_cons, veL_ref, Bool.or_false, beq_ref, decide_eq_decide.mpr (Iff.intro (fun z => z.symm) fun z => z.symm)]
  · rw [List.contains_cons, List.contains_cons, veL_ref, Bool.or_false, beq_ref, beq_ref, decide_eq_false ne, Bool.or_false, decide_eq_decide.mpr (Iff.intro (fun z => z.symm) fun z => z.symm)]
end

section
variable {cE c0 c1 c2 c3 c4 c5 c6 c7 c8 c9 c10 c11 : Addr}
theorem Cls.ne (L : Cls K mg cE c0 c1 c2 c3 c4 c5 c6 c7 c8 c9 c10 c11) {c : Addr} (h : c ∈ [c0, c1, c2, c3, c4, c5, c6, c7, c8, c9, c10, c11]) : c ≠ cE := fun z => by
  have := List.nodup_cons.mp L.nd
  rw [z] at h
  exact this.1 h
/-! ### _law_marks -/
def spMarks (K : PySem.W.Frag) (cE c0 c1 c2 c3 c4 c5 c6 c7 c8 c9 c10 c11 : Addr) : Sp := fun vs H Q _ => ∃ a D : Addr, vs = [.ref a] ∧ Ed K cE D ∧ ErrV H a D ∧ ∀ (l : Addr) (H' : Hp), Same H H' → H l = none → H' l = some (.lst [.bl (decide (D = c0)), .bl (decide (D = c1)), .bl (decide (D = c2)), .bl (decide (D = c3)), .bl (decide (D = c4)), .bl (decide (D = c5)), .bl (decide (D = c6)), .bl (decide (D = c7)), .bl (decide (D = c8)), .bl (decide (D = c9)), .bl (decide (D = c10)), .bl (decide (D = c11))]) → Q (.ref l) H'
theorem scLawMarks : FnScope ["error", "marks"] ["error"] (defScope sLawMarks) := ⟨rfl, rfl, rfl, by decide +kernel, rfl, by decide +kernel, by decide +kernel⟩
theorem ok_marks {f : Addr} {fd : FuncData} (F : Fun K "_law_marks" "_law_marks" sLawMarks f fd) (T : Nm mg) (L : Cls K mg cE c0 c1 c2 c3 c4 c5 c6 c7 c8 c9 c10 c11) : FnOk P w K mg base CX0 1 f fd ["error"] (spMarks K cE c0 c1 c2 c3 c4 c5 c6 c7 c8 c9 c10 c11) := by
  refine F.ok scLawMarks (fun vs H Q E h => ?_) (fun cdv A outer s H vs Q E hr h => ?_)
  · obtain ⟨a, D, rfl, _⟩ := h
    rfl
  · obtain ⟨a, D, rfl, d, er, k⟩ := h
    have nd := scLawMarks.nd
    have pI : bootBuiltins "isinstance" = some (.builtin "isinstance") := by decide +kernel
    have ee := d.exc L.o
    have e0 := d.kit L.k0 (L.ne (by simp))
    have e1 := d.kit L.k1 (L.ne (by simp))
    have e2 := d.kit L.k2 (L.ne (by simp))
    have e3 := d.kit L.k3 (L.ne (by simp))
    have e4 := d.kit L.k4 (L.ne (by simp))
    have e5 := d.kit L.k5 (L.ne (by simp))
    have e6 := d.kit L.k6 (L.ne (by simp))
    have e7 := d.kit L.k7 (L.ne (by simp))
    have e8 := d.kit L.k8 (L.ne (by simp))
    have e9 := d.kit L.k9 (L.ne (by simp))
    have e10 := d.kit L.k10 (L.ne (by simp))
    have e11 := d.kit L.k11 (L.ne (by simp))
    refine ⟨_, pss_cons (ps_set (i := 1) nd rfl (Or.inl rfl) (pe_lst (pa_cons (pe_callB call_isX (by rfl) T.isinstance pI (pa_cons (pv 0) (pa_cons (pe_glob (v := .ref c0) rfl L.m0 rfl) pa_nil))) (pa_cons (pe_callB call_isX (by rfl) T.isinstance pI (pa_cons (pv 0) (pa_cons (pe_glob (v := .ref c1) rfl L.m1 rfl) pa_nil))) (pa_cons (pe_callB call_isX (by rfl) T.isinstance pI (pa_cons (pv 0) (pa_cons (pe_glob (v := .ref c2) rfl L.m2 rfl) pa_nil))) pa_nil)))))
      (pss_cons (ps_set (i := 1) nd rfl (Or.inl rfl) (pe_op op_cat (pv 1) (pe_lst (pa_cons (pe_callB call_isX (by rfl) T.isinstance pI (pa_cons (pv 0) (pa_cons (pe_glob (v := .ref c3) rfl L.m3 rfl) pa_nil))) (pa_cons (pe_callB call_isX (by rfl) T.isinstance pI (pa_cons (pv 0) (pa_cons (pe_glob (v := .ref c4) rfl L.m4 rfl) pa_nil))) (pa_cons (pe_callB call_isX (by rfl) T.isinstance pI (pa_cons (pv 0) (pa_cons (pe_glob (v := .ref c5) rfl L.m5 rfl) pa_nil))) pa_nil))))))
      (pss_cons (ps_set (i := 1) nd rfl (Or.inl rfl) (pe_op op_cat (pv 1) (pe_lst (pa_cons (pe_callB call_isX (by rfl) T.isinstance pI (pa_cons (pv 0) (pa_cons (pe_glob (v := .ref c6) rfl L.m6 rfl) pa_nil))) (pa_cons (pe_callB call_isX (by rfl) T.isinstance pI (pa_cons (pv 0) (pa_cons (pe_glob (v := .ref c7) rfl L.m7 rfl) pa_nil))) (pa_cons (pe_callB call_isX (by rfl) T.isinstance pI (pa_cons (pv 0) (pa_cons (pe_glob (v := .ref c8) rfl L.m8 rfl) pa_nil))) pa_nil))))))
      (pss_one (ps_ret (pe_op op_cat (pv 1) (pe_lst (pa_cons (pe_callB call_isX (by rfl) T.isinstance pI (pa_cons (pv 0) (pa_cons (pe_glob (v := .ref c9) rfl L.m9 rfl) pa_nil))) (pa_cons (pe_callB call_isX (by rfl) T.isinstance pI (pa_cons (pv 0) (pa_cons (pe_glob (v := .ref c10) rfl L.m10 rfl) pa_nil))) (pa_cons (pe_callB call_isX (by rfl) T.isinstance pI (pa_cons (pv 0) (pa_cons (pe_glob (v := .ref c11) rfl L.m11 rfl) pa_nil))) pa_nil))))))))), ?_⟩
    refine ⟨_, rfl, a, D, _, _, _, rfl, .own c0, er, ee, e0, _, rfl, a, D, _, _, _, rfl, .own c1, er, ee, e1, _, rfl, a, D, _, _, _, rfl, .own c2, er, ee, e2, (by show 3 ≤ sizeLine; decide), fun q1 n1 => ?_⟩
    have s1 := Same.new (o := .lst [.bl (decide (D = c0)), .bl (decide (D = c1)), .bl (decide (D = c2))]) n1
    refine ⟨_, rfl, _, rfl, a, D, _, _, _, rfl, .own c3, er.same s1, ee, e3, _, rfl, a, D, _, _, _, rfl, .own c4, er.same s1, ee, e4, _, rfl, a, D, _, _, _, rfl, .own c5, er.same s1, ee, e5, (by show 3 ≤ sizeLine; decide), fun q2 n2 => ?_⟩
    have s2 := s1.step (o := .lst [.bl (decide (D = c3)), .bl (decide (D = c4)), .bl (decide (D = c5))]) n2
    refine ⟨q1, q2, _, _, rfl, rfl, Same.new n2 _ _ upd_same, upd_same, (by show 6 ≤ sizeLine; decide), fun q3 n3 => ?_⟩
    have s3 := s2.step (o := .lst [.bl (decide (D = c0)), .bl (decide (D = c1)), .bl (decide (D = c2)), .bl (decide (D = c3)), .bl (decide (D = c4)), .bl (decide (D = c5))]) n3
    refine ⟨_, rfl, _, rfl, a, D, _, _, _, rfl, .own c6, er.same s3, ee, e6, _, rfl, a, D, _, _, _, rfl, .own c7, er.same s3, ee, e7, _, rfl, a, D, _, _, _, rfl, .own c8, er.same s3, ee, e8, (by show 3 ≤ sizeLine; decide), fun q4 n4 => ?_⟩
    have s4 := s3.step (o := .lst [.bl (decide (D = c6)), .bl (decide (D = c7)), .bl (decide (D = c8))]) n4
    refine ⟨q3, q4, _, _, rfl, rfl, Same.new n4 _ _ upd_same, upd_same, (by show 9 ≤ sizeLine; decide), fun q5 n5 => ?_⟩
    have s5 := s4.step (o := .lst [.bl (decide (D = c0)), .bl (decide (D = c1)), .bl (decide (D = c2)), .bl (decide (D = c3)), .bl (decide (D = c4)), .bl (decide (D = c5)), .bl (decide (D = c6)), .bl (decide (D = c7)), .bl (decide (D = c8))]) n5
    refine ⟨_, rfl, _, rfl, a, D, _, _, _, rfl, .own c9, er.same s5, ee, e9, _, rfl, a, D, _, _, _, rfl, .own c10, er.same s5, ee, e10, _, rfl, a, D, _, _, _, rfl, .own c11, er.same s5, ee, e11, (by show 3 ≤ sizeLine; decide), fun q6 n6 => ?_⟩
    have s6 := s5.step (o := .lst [.bl (decide (D = c9)), .bl (decide (D = c10)), .bl (decide (D = c11))]) n6
    refine ⟨q5, q6, _, _, rfl, rfl, Same.new n6 _ _ upd_same, upd_same, (by show 12 ≤ sizeLine; decide), fun q7 n7 => ?_⟩
    exact k q7 _ (s6.step n7) (s6.free n7) upd_same
/-! ### _law_kept -/
/-- the twelve errors in the list at l, their attributes the thirteen values -/
def Twelve (K : PySem.W.Frag) (c0 c1 c2 c3 c4 c5 c6 c7 c8 c9 c10 c11 : Addr) (v0 v1 v2 v3 v4 v5 v6 v7 v8 v9 v10 v11 v12 : V) (H : Hp) (l : Addr) : Prop := ∃ e0 e1 e2 e3 e4 e5 e6 e7 e8 e9 e10 e11 : Addr, SqL K H l [.ref e0, .ref e1, .ref e2, .ref e3, .ref e4, .ref e5, .ref e6, .ref e7, .ref e8, .ref e9, .ref e10, .ref e11] ∧ ExAt H e0 c0 (mk0 [v0]) ∧ ExAt H e1 c1 (mk1 [v1]) ∧ ExAt H e2 c2 (mk2 [v2]) ∧ ExAt H e3 c3 (mk3 [v3]) ∧ ExAt H e4 c4 (mk4 [v4]) ∧ ExAt H e5 c5 (mk5 [v5, v6]) ∧ ExAt H e6 c6 (mk6 [v7]) ∧ ExAt H e7 c7 (mk7 [v8]) ∧ ExAt H e8 c8 (mk8 [v9]) ∧ ExAt H e9 c9 (mk9 [v10]) ∧ ExAt H e10 c10 (mk10 [v11]) ∧ ExAt H e11 c11 (mk11 [v12])
theorem Twelve.same {v0 v1 v2 v3 v4 v5 v6 v7 v8 v9 v10 v11 v12 : V} {H H' : Hp} {l : Addr} (t : Twelve K c0 c1 c2 c3 c4 c5 c6 c7 c8 c9 c10 c11 v0 v1 v2 v3 v4 v5 v6 v7 v8 v9 v10 v11 v12 H l) (s : Same H H') : Twelve K c0 c1 c2 c3 c4 c5 c6 c7 c8 c9 c10 c11 v0 v1 v2 v3 v4 v5 v6 v7 v8 v9 v10 v11 v12 H' l := by
  obtain ⟨e0, e1, e2, e3, e4, e5, e6, e7, e8, e9, e10, e11, hl, h0, h1, h2, h3, h4, h5, h6, h7, h8, h9, h10, h11⟩ := t
  exact ⟨e0, e1, e2, e3, e4, e5, e6, e7, e8, e9, e10, e11, sql_keep s hl, h0.same s, h1.same s, h2.same s, h3.same s, h4.same s, h5.same s, h6.same s, h7.same s, h8.same s, h9.same s, h10.same s, h11.same s⟩
def spKept (K : PySem.W.Frag) (c0 c1 c2 c3 c4 c5 c6 c7 c8 c9 c10 c11 : Addr) : Sp := fun vs H Q _ => ∃ (l : Addr) (v0 v1 v2 v3 v4 v5 v6 v7 v8 v9 v10 v11 v12 : V), vs = [.ref l] ∧ Twelve K c0 c1 c2 c3 c4 c5 c6 c7 c8 c9 c10 c11 v0 v1 v2 v3 v4 v5 v6 v7 v8 v9 v10 v11 v12 H l ∧ ∀ (q : Addr) (H' : Hp), Same H H' → H q = none → H' q = some (.lst [v0, v1, v2, v3, v4, v5, v6, v7, v8, v9, v10, v11, v12]) → Q (.ref q) H'
theorem scLawKept : FnScope ["errors", "found"] ["errors"] (defScope sLawKept) := ⟨rfl, rfl, rfl, by decide +kernel, rfl, by decide +kernel, by decide +kernel⟩
theorem ok_kept {f : Addr} {fd : FuncData} (F : Fun K "_law_kept" "_law_kept" sLawKept f fd) (T : Nm mg) (L : Cls K mg cE c0 c1 c2 c3 c4 c5 c6 c7 c8 c9 c10 c11)
    (g0 : PySem.W.findIn K (.ref c0) "value" = some none)
    (g1 : PySem.W.findIn K (.ref c1) "value" = some none)
    (g2 : PySem.W.findIn K (.ref c2) "value" = some none)
    (g3 : PySem.W.findIn K (.ref c3) "value" = some none)
    (g4 : PySem.W.findIn K (.ref c4) "index" = some none)
    (g5 : PySem.W.findIn K (.ref c5) "year" = some none)
    (g6 : PySem.W.findIn K (.ref c5) "index" = some none)
    (g7 : PySem.W.findIn K (.ref c6) "index" = some none)
    (g8 : PySem.W.findIn K (.ref c7) "value" = some none)
    (g9 : PySem.W.findIn K (.ref c8) "number" = some none)
    (g10 : PySem.W.findIn K (.ref c9) "index" = some none)
    (g11 : PySem.W.findIn K (.ref c10) "index" = some none)
    (g12 : PySem.W.findIn K (.ref c11) "line" = some none)
    : FnOk P w K mg base CX0 1 f fd ["errors"] (spKept K c0 c1 c2 c3 c4 c5 c6 c7 c8 c9 c10 c11) := by
  refine F.ok scLawKept (fun vs H Q E h => ?_) (fun cdv A outer s H vs Q E hr h => ?_)
  · obtain ⟨l, v0, v1, v2, v3, v4, v5, v6, v7, v8, v9, v10, v11, v12, rfl, _⟩ := h
    rfl
  · obtain ⟨l, v0, v1, v2, v3, v4, v5, v6, v7, v8, v9, v10, v11, v12, rfl, t, k⟩ := h
    have nd := scLawKept.nd
    obtain ⟨e0, e1, e2, e3, e4, e5, e6, e7, e8, e9, e10, e11, hl, h0, h1, h2, h3, h4, h5, h6, h7, h8, h9, h10, h11⟩ := t
    have x0 := L.k0.xf (up2 cE)
    have x1 := L.k1.xf (up2 cE)
    have x2 := L.k2.xf (up2 cE)
    have x3 := L.k3.xf (up2 cE)
    have x4 := L.k4.xf (up2 cE)
    have x5 := L.k5.xf (up2 cE)
    have x6 := L.k6.xf (up2 cE)
    have x7 := L.k7.xf (up2 cE)
    have x8 := L.k8.xf (up2 cE)
    have x9 := L.k9.xf (up2 cE)
    have x10 := L.k10.xf (up2 cE)
    have x11 := L.k11.xf (up2 cE)
    refine ⟨_, pss_cons (ps_set (i := 1) nd rfl (Or.inl rfl) (pe_lst (pa_cons (pe_exf (pe_ix ix_list (pv 0) pe_int (fun _ _ => rfl))) (pa_cons (pe_exf (pe_ix ix_list (pv 0) pe_int (fun _ _ => rfl))) (pa_cons (pe_exf (pe_ix ix_list (pv 0) pe_int (fun _ _ => rfl))) (pa_cons (pe_exf (pe_ix ix_list (pv 0) pe_int (fun _ _ => rfl))) (pa_cons (pe_exf (pe_ix ix_list (pv 0) pe_int (fun _ _ => rfl))) pa_nil)))))))
      (pss_cons (ps_set (i := 1) nd rfl (Or.inl rfl) (pe_op op_cat (pv 1) (pe_lst (pa_cons (pe_exf (pe_ix ix_list (pv 0) pe_int (fun _ _ => rfl))) (pa_cons (pe_exf (pe_ix ix_list (pv 0) pe_int (fun _ _ => rfl))) (pa_cons (pe_exf (pe_ix ix_list (pv 0) pe_int (fun _ _ => rfl))) (pa_cons (pe_exf (pe_ix ix_list (pv 0) pe_int (fun _ _ => rfl))) (pa_cons (pe_exf (pe_ix ix_list (pv 0) pe_int (fun _ _ => rfl))) pa_nil))))))))
      (pss_one (ps_ret (pe_op op_cat (pv 1) (pe_lst (pa_cons (pe_exf (pe_ix ix_list (pv 0) pe_int (fun _ _ => rfl))) (pa_cons (pe_exf (pe_ix ix_list (pv 0) pe_int (fun _ _ => rfl))) (pa_cons (pe_exf (pe_ix ix_list (pv 0) pe_int (fun _ _ => rfl))) pa_nil)))))))), ?_⟩
    refine ⟨_, rfl, l, _, _, .ref e0, rfl, rfl, hl, rfl, e0, c0, _, v0, rfl, h0, x0, g0, rfl, _, rfl, l, _, _, .ref e1, rfl, rfl, hl, rfl, e1, c1, _, v1, rfl, h1, x1, g1, rfl, _, rfl, l, _, _, .ref e2, rfl, rfl, hl, rfl, e2, c2, _, v2, rfl, h2, x2, g2, rfl, _, rfl, l, _, _, .ref e3, rfl, rfl, hl, rfl, e3, c3, _, v3, rfl, h3, x3, g3, rfl, _, rfl, l, _, _, .ref e4, rfl, rfl, hl, rfl, e4, c4, _, v4, rfl, h4, x4, g4, rfl, (by show 5 ≤ sizeLine; decide), fun q1 n1 => ?_⟩
    have s1 := Same.new (o := .lst [v0, v1, v2, v3, v4]) n1
    refine ⟨_, rfl, _, rfl, l, _, _, .ref e5, rfl, rfl, sql_keep s1 hl, rfl, e5, c5, _, v5, rfl, h5.same s1, x5, g5, rfl, _, rfl, l, _, _, .ref e5, rfl, rfl, sql_keep s1 hl, rfl, e5, c5, _, v6, rfl, h5.same s1, x5, g6, rfl, _, rfl, l, _, _, .ref e6, rfl, rfl, sql_keep s1 hl, rfl, e6, c6, _, v7, rfl, h6.same s1, x6, g7, rfl, _, rfl, l, _, _, .ref e7, rfl, rfl, sql_keep s1 hl, rfl, e7, c7, _, v8, rfl, h7.same s1, x7, g8, rfl, _, rfl, l, _, _, .ref e8, rfl, rfl, sql_keep s1 hl, rfl, e8, c8, _, v9, rfl, h8.same s1, x8, g9, rfl, (by show 5 ≤ sizeLine; decide), fun q2 n2 => ?_⟩
    have s2 := s1.step (o := .lst [v5, v6, v7, v8, v9]) n2
    refine ⟨q1, q2, _, _, rfl, rfl, Same.new n2 _ _ upd_same, upd_same, (by show 10 ≤ sizeLine; decide), fun q3 n3 => ?_⟩
    have s3 := s2.step (o := .lst [v0, v1, v2, v3, v4, v5, v6, v7, v8, v9]) n3
    refine ⟨_, rfl, _, rfl, l, _, _, .ref e9, rfl, rfl, sql_keep s3 hl, rfl, e9, c9, _, v10, rfl, h9.same s3, x9, g10, rfl, _, rfl, l, _, _, .ref e10, rfl, rfl, sql_keep s3 hl, rfl, e10, c10, _, v11, rfl, h10.same s3, x10, g11, rfl, _, rfl, l, _, _, .ref e11, rfl, rfl, sql_keep s3 hl, rfl, e11, c11, _, v12, rfl, h11.same s3, x11, g12, rfl, (by show 3 ≤ sizeLine; decide), fun q4 n4 => ?_⟩
    have s4 := s3.step (o := .lst [v10, v11, v12]) n4
    refine ⟨q3, q4, _, _, rfl, rfl, Same.new n4 _ _ upd_same, upd_same, (by show 13 ≤ sizeLine; decide), fun q5 n5 => ?_⟩
    exact k q5 _ (s4.step n5) (s4.free n5) upd_same
end
end
end Cf
namespace Cf
open PySem L2
section
variable {P : Program} {w : World} {K : PySem.W.Frag} {mg : Str → Option Value} {base : Heap}
/-! ### _law_odd -/
/-- a value that can be shown, of a few signs -/
def Itm (K : PySem.W.Frag) (H : Hp) (v : V) (d : PyData) : Prop := Dz K H v d ∧ d.showable = true ∧ d.depth ≤ 50 ∧ d.shown.length ≤ 2000
theorem Itm.keep {K : PySem.W.Frag} {H H' : Hp} {v : V} {d : PyData} (i : Itm K H v d) (s : Same H H') : Itm K H' v d := ⟨i.1.keep s, i.2⟩
theorem itm_at {K : PySem.W.Frag} {H : Hp} : ∀ {xs : List V} {ds : List PyData}, Paired (Itm K H) xs ds → ∀ (i : Nat) (v : V), xs[i]? = some v → ∃ d, Itm K H v d
  | _, _, .nil, i, v, h => by simp at h
  | _, _, .cons a _, 0, v, h => by
    rw [List.getElem?_cons_zero] at h
    cases h
    exact ⟨_, a⟩
  | _, _, .cons _ t, i + 1, v, h => by
    rw [List.getElem?_cons_succ] at h
    exact itm_at t i v h
theorem itm_int (H : Hp) {z : Int} (h0 : 0 ≤ z) (h1 : z < 1000) : Itm K H (.int z) (.int z) := by
  have l : z.natAbs.log2 < 1920 := by
    by_cases e : z.natAbs = 0
    · rw [e]
      decide
    · exact Nat.lt_trans ((Nat.log2_lt e).mpr (show z.natAbs < 2 ^ 10 by omega)) (show 10 < 1920 by decide)
  refine ⟨.flat (.int z) rfl, ?_, by simp [PyData.depth], ?_⟩
  · unfold PyData.showable
    exact decide_eq_true l
  · show (Str.ofString (toString z)).length ≤ 2000
    rw [ofString_length]
    have e : (toString z).length ≤ 1921 := int_text_length_le (by decide) l
    omega
/-- what H' has beyond H -/
def fr (H H' : Hp) : Hp := fun b => match H b with
  | none => H' b
  | some _ => none
theorem fr_of {H H' : Hp} {b : Addr} {o : HO} (h : H b = none) (e : H' b = some o) : fr H H' b = some o := by
  unfold fr
  rw [h]
  exact e
theorem fr_at {H H' : Hp} {b : Addr} {o : HO} (e : fr H H' b = some o) : H b = none ∧ H' b = some o := by
  unfold fr at e
  cases h : H b with
  | none => rw [h] at e; exact ⟨rfl, e⟩
  | some u => rw [h] at e; cases e
theorem fr_same (H H' : Hp) : Same (fr H H') H' := fun b o e => (fr_at e).2
theorem fr_step {H H' H'' : Hp} (s : ∀ b o, H' b = some o → H b = none → H'' b = some o) : Same (fr H H') (fr H H'') := fun b o e => fr_of (fr_at e).1 (s b o (fr_at e).2 (fr_at e).1)
theorem fr_less {H0 H H' : Hp} (d : ∀ b, H0 b ≠ none → H b ≠ none) : Same (fr H H') (fr H0 H') := fun b o e => by
  obtain ⟨h1, h2⟩ := fr_at e
  refine fr_of ?_ h2
  cases q : H0 b with
  | none => rfl
  | some u => exact absurd h1 (d b (by rw [q]; exact fun z => nomatch z))
theorem fr_but {p q : Addr} {H H' H'' : Hp} (b : But p q H' H'') (hp : H p ≠ none) (hq : H q ≠ none) : Same (fr H H') (fr H H'') :=
  fr_step fun c o e n => b c o e (fun z => hp (z ▸ n)) fun z => hq (z ▸ n)
def spOdd (K : PySem.W.Frag) : Sp := fun vs H Q _ => ∃ (p a b : Addr) (n : Nat), vs = [.ref p] ∧ Stt p a b n H ∧ n ≤ 1000000 ∧
  ∀ (v : V) (d : PyData) (H' : Hp), Itm K (fr H H') v d → Stt p a b (n + 1) H' → But p a H H' → Q v H'
theorem scLawOdd : FnScope ["state", "odd"] ["state"] (defScope sLawOdd) := ⟨rfl, rfl, rfl, by decide +kernel, rfl, by decide +kernel, by decide +kernel⟩
theorem ok_odd {f : Addr} {fd : FuncData} (F : Fun K "_law_odd" "_law_odd" sLawOdd f fd) (T : Nm mg) (DP : Df P w K mg base 3 "_law_pick" ["state", "some"] [] spPick) : FnOk P w K mg base CX0 4 f fd ["state"] (spOdd K) := by
  refine F.ok scLawOdd (fun vs H Q E h => ?_) (fun cdv A outer s H vs Q E hr h => ?_)
  · obtain ⟨p, a, b, n, rfl, _⟩ := h
    rfl
  · obtain ⟨p, a, b, n, rfl, S, hn, k⟩ := h
    have nd := scLawOdd.nd
    refine ⟨_, pss_cons (ps_set (i := 1) nd rfl (Or.inl rfl) (pe_lst (pa_cons pe_non (pa_cons pe_bl (pa_cons pe_bl (pa_cons pe_str (pa_cons pe_str (pa_cons pe_str (pa_cons (pe_lst pa_nil) (pa_cons (pe_lst (pa_cons pe_int pa_nil)) (pa_cons (pe_tup pa_nil) (pa_cons (pe_tup (pa_cons pe_int (pa_cons pe_int pa_nil))) (pa_cons pe_dnewK (pa_cons (pe_disp (pps_cons pe_int pe_int pps_nil) (by rfl) (by rfl) (fun z => by cases z) (by decide)) (pa_cons (pe_lst (pa_cons (pe_lst (pa_cons (pe_tup pa_nil) pa_nil)) pa_nil)) (pa_cons (pe_tup (pa_cons pe_str (pa_cons pe_int (pa_cons pe_int (pa_cons pe_int pa_nil))))) pa_nil)))))))))))))))) (pss_one (ps_ret (pe_df DP hr (pa_cons (pv 0) (pa_cons (pv 1) pa_nil))))), ?_⟩
    obtain ⟨u1, u2, u3, w1, w2, w3⟩ := S.there
    have s0 : Same H H := Same.refl H
    refine ⟨by show 0 ≤ sizeLine; decide, fun a1 n1 => ?_⟩
    have p1 : a1 ≠ p := (ne_of_none (s0 _ _ w1) n1).symm
    have r1 : a1 ≠ a := (ne_of_none (s0 _ _ w2) n1).symm
    have s1 := s0.step (o := .lst []) n1
    refine ⟨by show 1 ≤ sizeLine; decide, fun a2 n2 => ?_⟩
    have p2 : a2 ≠ p := (ne_of_none (s1 _ _ w1) n2).symm
    have r2 : a2 ≠ a := (ne_of_none (s1 _ _ w2) n2).symm
    have s2 := s1.step (o := .lst [.int 1]) n2
    refine ⟨by show 0 ≤ sizeLine; decide, fun a3 n3 => ?_⟩
    have p3 : a3 ≠ p := (ne_of_none (s2 _ _ w1) n3).symm
    have r3 : a3 ≠ a := (ne_of_none (s2 _ _ w2) n3).symm
    have s3 := s2.step (o := .tup []) n3
    refine ⟨by show 2 ≤ sizeLine; decide, fun a4 n4 => ?_⟩
    have p4 : a4 ≠ p := (ne_of_none (s3 _ _ w1) n4).symm
    have r4 : a4 ≠ a := (ne_of_none (s3 _ _ w2) n4).symm
    have s4 := s3.step (o := .tup [.int 1, .int 2]) n4
    refine fun a5 n5 => ?_
    have p5 : a5 ≠ p := (ne_of_none (s4 _ _ w1) n5).symm
    have r5 : a5 ≠ a := (ne_of_none (s4 _ _ w2) n5).symm
    have s5 := s4.step (o := .dK []) n5
    refine fun a6 n6 => ?_
    have p6 : a6 ≠ p := (ne_of_none (s5 _ _ w1) n6).symm
    have r6 : a6 ≠ a := (ne_of_none (s5 _ _ w2) n6).symm
    refine ⟨upd_same, [(Sum.inl 1, .int 2)], rfl, by decide, ?_⟩
    have s6 := (s5.step (o := .dK []) n6).wr (o := .dK [(Sum.inl 1, .int 2)]) (s5.free n6)
    refine ⟨by show 0 ≤ sizeLine; decide, fun a7 n7 => ?_⟩
    have p7 : a7 ≠ p := (ne_of_none (s6 _ _ w1) n7).symm
    have r7 : a7 ≠ a := (ne_of_none (s6 _ _ w2) n7).symm
    have s7 := s6.step (o := .tup []) n7
    refine ⟨by show 1 ≤ sizeLine; decide, fun a8 n8 => ?_⟩
    have p8 : a8 ≠ p := (ne_of_none (s7 _ _ w1) n8).symm
    have r8 : a8 ≠ a := (ne_of_none (s7 _ _ w2) n8).symm
    have s8 := s7.step (o := .lst [.ref a7]) n8
    refine ⟨by show 1 ≤ sizeLine; decide, fun a9 n9 => ?_⟩
    have p9 : a9 ≠ p := (ne_of_none (s8 _ _ w1) n9).symm
    have r9 : a9 ≠ a := (ne_of_none (s8 _ _ w2) n9).symm
    have s9 := s8.step (o := .lst [.ref a8]) n9
    refine ⟨by show 4 ≤ sizeLine; decide, fun a10 n10 => ?_⟩
    have p10 : a10 ≠ p := (ne_of_none (s9 _ _ w1) n10).symm
    have r10 : a10 ≠ a := (ne_of_none (s9 _ _ w2) n10).symm
    have s10 := s9.step (o := .tup [.str "nth", .int 1, .int 1, .int 1]) n10
    refine ⟨by show 14 ≤ sizeLine; decide, fun q nq => ?_⟩
    have pq : q ≠ p := (ne_of_none (s10 _ _ w1) nq).symm
    have rq : q ≠ a := (ne_of_none (s10 _ _ w2) nq).symm
    have s11 := s10.step (o := .lst [.non, .bl true, .bl false, .str "", .str "1", .str "a", .ref a1, .ref a2, .ref a3, .ref a4, .ref a5, .ref a6, .ref a9, .ref a10]) nq
    have t10 := Same.new (o := .lst [.non, .bl true, .bl false, .str "", .str "1", .str "a", .ref a1, .ref a2, .ref a3, .ref a4, .ref a5, .ref a6, .ref a9, .ref a10]) nq
    have t9 := (Same.new n10).trans t10
    have t8 := (Same.new n9).trans t9
    have t7 := (Same.new n8).trans t8
    have t6 := (Same.new n7).trans t7
    have t5 := ((Same.new (o := .dK []) n6).wr (o := .dK [(Sum.inl 1, .int 2)]) n6).trans t6
    have t4 := (Same.new n5).trans t5
    have t3 := (Same.new n4).trans t4
    have t2 := (Same.new n3).trans t3
    have t1 := (Same.new n2).trans t2
    have y1 := fr_of (s0.free n1) (t1 _ _ upd_same)
    have y2 := fr_of (s1.free n2) (t2 _ _ upd_same)
    have y3 := fr_of (s2.free n3) (t3 _ _ upd_same)
    have y4 := fr_of (s3.free n4) (t4 _ _ upd_same)
    have y5 := fr_of (s4.free n5) (t5 _ _ upd_same)
    have y6 := fr_of (s5.free n6) (t6 _ _ upd_same)
    have y7 := fr_of (s6.free n7) (t7 _ _ upd_same)
    have y8 := fr_of (s7.free n8) (t8 _ _ upd_same)
    have y9 := fr_of (s8.free n9) (t9 _ _ upd_same)
    have y10 := fr_of (s9.free n10) (t10 _ _ upd_same)
    have all : Paired (Itm K (fr H _)) [.non, .bl true, .bl false, .str "", .str "1", .str "a", .ref a1, .ref a2, .ref a3, .ref a4, .ref a5, .ref a6, .ref a9, .ref a10] [.none, .bool true, .bool false, .str "", .str "1", .str "a", .list [], .list [.int 1], .tuple [], .tuple [.int 1, .int 2], .dict [], .dict [(.int 1, .int 2)], .list [.list [.tuple []]], .tuple [.str "nth", .int 1, .int 1, .int 1]] :=
      .cons ⟨.flat (.non) rfl, by decide +kernel, by decide +kernel, by decide +kernel⟩ (.cons ⟨.flat (.bl true) rfl, by decide +kernel, by decide +kernel, by decide +kernel⟩ (.cons ⟨.flat (.bl false) rfl, by decide +kernel, by decide +kernel, by decide +kernel⟩ (.cons ⟨.flat (.str _) rfl, by decide +kernel, by decide +kernel, by decide +kernel⟩ (.cons ⟨.flat (.str _) rfl, by decide +kernel, by decide +kernel, by decide +kernel⟩ (.cons ⟨.flat (.str _) rfl, by decide +kernel, by decide +kernel, by decide +kernel⟩ (.cons ⟨.flat (.lst (SqL.of y1) .nil) rfl, by decide +kernel, by decide +kernel, by decide +kernel⟩ (.cons ⟨.flat (.lst (SqL.of y2) (.cons (.int 1) .nil)) rfl, by decide +kernel, by decide +kernel, by decide +kernel⟩ (.cons ⟨.flat (.tup (SqT.of y3) .nil) rfl, by decide +kernel, by decide +kernel, by decide +kernel⟩ (.cons ⟨.flat (.tup (SqT.of y4) (.cons (.int 1) (.cons (.int 2) .nil))) rfl, by decide +kernel, by decide +kernel, by decide +kernel⟩ (.cons ⟨.nums [] y5, by decide +kernel, by decide +kernel, by decide +kernel⟩ (.cons ⟨.nums [(1, 2)] y6, by decide +kernel, by decide +kernel, by decide +kernel⟩ (.cons ⟨.flat (.lst (SqL.of y9) (.cons (.lst (SqL.of y8) (.cons (.tup (SqT.of y7) .nil) .nil)) .nil)) rfl, by decide +kernel, by decide +kernel, by decide +kernel⟩ (.cons ⟨.flat (.tup (SqT.of y10) (.cons (.str _) (.cons (.int 1) (.cons (.int 1) (.cons (.int 1) .nil))))) rfl, by decide +kernel, by decide +kernel, by decide +kernel⟩ (.nil))))))))))))))
    refine ⟨_, rfl, _, rfl, p, a, b, q, n, _, rfl, S.same s11, hn, upd_same, pq, rq, by show 0 < 14; decide, by show 14 ≤ 1000; decide, fun i v H' hv S' B' => ?_⟩
    obtain ⟨d, z⟩ := itm_at all i v hv
    exact k v d H' (z.keep (fr_but B' (by rw [w1]; exact fun z => nomatch z) (by rw [w2]; exact fun z => nomatch z))) S' ((But.of s11).trans B')
end
end Cf
namespace Cf
open PySem L2
section
variable {P : Program} {w : World} {K : PySem.W.Frag} {mg : Str → Option Value} {base : Heap} {cE c0 c1 c2 c3 c4 c5 c6 c7 c8 c9 c10 c11 : Addr}
/-! ### _law_right -/
def sw2 : List V → List V := fun l => [l.getD 1 .non, l.getD 0 .non]
def spRight (K : PySem.W.Frag) : Sp := fun vs H Q _ => ∃ (s : Addr) (v0 v1 v2 v3 v4 v5 v6 v7 v8 v9 v10 v11 v12 : V) (ds : List PyData), vs = [.ref s] ∧ SqL K H s [v0, v1, v2, v3, v4, v5, v6, v7, v8, v9, v10, v11, v12] ∧ Paired (Itm K H) [v0, v1, v2, v3, v4, v5, v6, v7, v8, v9, v10, v11, v12] ds ∧ ∀ H' : Hp, Same H H' → Q (.bl true) H'
theorem ne_same {x : V} : (!decide (x = x)) = false := by rw [decide_eq_true rfl]; rfl
theorem itms_all {H : Hp} : ∀ {xs : List V} {ds : List PyData}, Paired (Itm K H) xs ds → Paired (Dz K H) xs ds ∧ PyData.showableAll ds = true ∧ PyData.depthAll ds ≤ 50 ∧ ((PyData.shownAll ds).map (·.length)).sum ≤ 2000 * xs.length ∧ ds.length = xs.length
  | _, _, .nil => ⟨.nil, rfl, by decide, by decide, rfl⟩
  | _, _, .cons (a := x) (b := d) i t => by
    obtain ⟨h1, h2, h3, h4, h5⟩ := itms_all t
    obtain ⟨i1, i2, i3, i4⟩ := i
    refine ⟨.cons i1 h1, ?_, ?_, ?_, ?_⟩
    · simp only [PyData.showableAll, i2, h2, Bool.and_self]
    · simp only [PyData.depthAll]; omega
    · simp only [PyData.shownAll, List.map_cons, List.sum_cons, List.length_cons]; omega
    · simp only [List.length_cons, h5]
theorem shownAll_len : ∀ ds : List PyData, (PyData.shownAll ds).length = ds.length
  | [] => rfl
  | d :: ds => by simp only [PyData.shownAll, List.length_cons, shownAll_len ds]
theorem itms_text {H : Hp} {xs : List V} {ds : List PyData} (h : Paired (Itm K H) xs ds) (n : xs.length = 13) : (listText (PyData.shownAll ds)).length ≤ sizeLine := by
  obtain ⟨_, _, _, h4, h5⟩ := itms_all h
  have := listText_len_le (PyData.shownAll ds)
  have l : 1000000 ≤ sizeLine := by rw [sizeLine_eq]; decide
  rw [shownAll_len] at this
  omega
theorem itms_same {H H' : Hp} (s : Same H H') : ∀ {xs : List V} {ds : List PyData}, Paired (Itm K H) xs ds → Paired (Itm K H') xs ds
  | _, _, .nil => .nil
  | _, _, .cons i t => .cons (i.keep s) (itms_same s t)
theorem eqv_bools : ∀ bs : List Bool, PyData.eqvAll (bs.map PyData.bool) (bs.map PyData.bool) = true
  | [] => by simp [PyData.eqvAll]
  | b :: bs => by
    have := eqv_bools bs
    cases b <;> simp [PyData.eqvAll, PyData.eqv, this]
theorem dpBools {H : Hp} : ∀ bs : List Bool, DpAll K H (bs.map V.bl) (bs.map PyData.bool)
  | [] => .nil
  | b :: bs => .cons (.bl b) (dpBools bs)
theorem lay_bools : ∀ bs : List Bool, PyData.canLayAll0 (bs.map PyData.bool) = true
  | [] => rfl
  | b :: bs => by simp [PyData.canLayAll0, PyData.canLay0, lay_bools bs]
theorem depth_bools : ∀ bs : List Bool, PyData.depthAll (bs.map PyData.bool) ≤ 1
  | [] => by simp [PyData.depthAll]
  | b :: bs => by have := depth_bools bs; simp only [List.map_cons, PyData.depthAll, PyData.depth]; omega
theorem shaped_bools (bs : List Bool) : SeqAt.shaped (.list (bs.map PyData.bool)) = true := by
  unfold SeqAt.shaped
  rw [Bool.and_eq_true]
  refine ⟨?_, decide_eq_true ?_⟩
  · simp only [PyData.canLay0]; exact lay_bools bs
  · have := depth_bools bs
    simp only [PyData.depth]; omega
theorem Twelve.at {v0 v1 v2 v3 v4 v5 v6 v7 v8 v9 v10 v11 v12 : V} {H : Hp} {l : Addr} (L : Cls K mg cE c0 c1 c2 c3 c4 c5 c6 c7 c8 c9 c10 c11) (t : Twelve K c0 c1 c2 c3 c4 c5 c6 c7 c8 c9 c10 c11 v0 v1 v2 v3 v4 v5 v6 v7 v8 v9 v10 v11 v12 H l) : ∃ xs : List V, SqL K H l xs ∧ xs.length = 12 ∧
    ∀ (i : Nat) (y : V), xs[i]? = some y → ∃ e c : Addr, y = .ref e ∧ ErrV H e c ∧ Ed K cE c ∧ [.bl (decide (c = c0)), .bl (decide (c = c1)), .bl (decide (c = c2)), .bl (decide (c = c3)), .bl (decide (c = c4)), .bl (decide (c = c5)), .bl (decide (c = c6)), .bl (decide (c = c7)), .bl (decide (c = c8)), .bl (decide (c = c9)), .bl (decide (c = c10)), .bl (decide (c = c11))] = ((List.range 12).map fun j => decide (j = i)).map V.bl := by
  obtain ⟨e0, e1, e2, e3, e4, e5, e6, e7, e8, e9, e10, e11, hl, h0, h1, h2, h3, h4, h5, h6, h7, h8, h9, h10, h11⟩ := t
  refine ⟨_, hl, rfl, fun i y hy => ?_⟩
  have nd := (List.nodup_cons.mp L.nd).2
  simp only [List.nodup_cons, List.mem_cons, List.not_mem_nil, not_or, List.nodup_nil, or_false, not_false_eq_true, and_true] at nd
  obtain ⟨⟨n0_1, n0_2, n0_3, n0_4, n0_5, n0_6, n0_7, n0_8, n0_9, n0_10, n0_11⟩, ⟨n1_2, n1_3, n1_4, n1_5, n1_6, n1_7, n1_8, n1_9, n1_10, n1_11⟩, ⟨n2_3, n2_4, n2_5, n2_6, n2_7, n2_8, n2_9, n2_10, n2_11⟩, ⟨n3_4, n3_5, n3_6, n3_7, n3_8, n3_9, n3_10, n3_11⟩, ⟨n4_5, n4_6, n4_7, n4_8, n4_9, n4_10, n4_11⟩, ⟨n5_6, n5_7, n5_8, n5_9, n5_10, n5_11⟩, ⟨n6_7, n6_8, n6_9, n6_10, n6_11⟩, ⟨n7_8, n7_9, n7_10, n7_11⟩, ⟨n8_9, n8_10, n8_11⟩, ⟨n9_10, n9_11⟩, n10_11⟩ := nd
  match i, hy with
  | 0, hy =>
    cases hy
    refine ⟨e0, c0, rfl, .inl ⟨_, h0⟩, ⟨_, L.k0, .inr rfl⟩, ?_⟩
    rw [decide_eq_true (rfl : c0 = c0), decide_eq_false n0_1, decide_eq_false n0_2, decide_eq_false n0_3, decide_eq_false n0_4, decide_eq_false n0_5, decide_eq_false n0_6, decide_eq_false n0_7, decide_eq_false n0_8, decide_eq_false n0_9, decide_eq_false n0_10, decide_eq_false n0_11]
    rfl
  | 1, hy =>
    cases hy
    refine ⟨e1, c1, rfl, .inl ⟨_, h1⟩, ⟨_, L.k1, .inr rfl⟩, ?_⟩
    rw [decide_eq_false (Ne.symm n0_1), decide_eq_true (rfl : c1 = c1), decide_eq_false n1_2, decide_eq_false n1_3, decide_eq_false n1_4, decide_eq_false n1_5, decide_eq_false n1_6, decide_eq_false n1_7, decide_eq_false n1_8, decide_eq_false n1_9, decide_eq_false n1_10, decide_eq_false n1_11]
    rfl
  | 2, hy =>
    cases hy
    refine ⟨e2, c2, rfl, .inl ⟨_, h2⟩, ⟨_, L.k2, .inr rfl⟩, ?_⟩
    rw [decide_eq_false (Ne.symm n0_2), decide_eq_false (Ne.symm n1_2), decide_eq_true (rfl : c2 = c2), decide_eq_false n2_3, decide_eq_false n2_4, decide_eq_false n2_5, decide_eq_false n2_6, decide_eq_false n2_7, decide_eq_false n2_8, decide_eq_false n2_9, decide_eq_false n2_10, decide_eq_false n2_11]
    rfl
  | 3, hy =>
    cases hy
    refine ⟨e3, c3, rfl, .inl ⟨_, h3⟩, ⟨_, L.k3, .inr rfl⟩, ?_⟩
    rw [decide_eq_false (Ne.symm n0_3), decide_eq_false (Ne.symm n1_3), decide_eq_false (Ne.symm n2_3), decide_eq_true (rfl : c3 = c3), decide_eq_false n3_4, decide_eq_false n3_5, decide_eq_false n3_6, decide_eq_false n3_7, decide_eq_false n3_8, decide_eq_false n3_9, decide_eq_false n3_10, decide_eq_false n3_11]
    rfl
  | 4, hy =>
    cases hy
    refine ⟨e4, c4, rfl, .inl ⟨_, h4⟩, ⟨_, L.k4, .inr rfl⟩, ?_⟩
    rw [decide_eq_false (Ne.symm n0_4), decide_eq_false (Ne.symm n1_4), decide_eq_false (Ne.symm n2_4), decide_eq_false (Ne.symm n3_4), decide_eq_true (rfl : c4 = c4), decide_eq_false n4_5, decide_eq_false n4_6, decide_eq_false n4_7, decide_eq_false n4_8, decide_eq_false n4_9, decide_eq_false n4_10, decide_eq_false n4_11]
    rfl
  | 5, hy =>
    cases hy
    refine ⟨e5, c5, rfl, .inl ⟨_, h5⟩, ⟨_, L.k5, .inr rfl⟩, ?_⟩
    rw [decide_eq_false (Ne.symm n0_5), decide_eq_false (Ne.symm n1_5), decide_eq_false (Ne.symm n2_5), decide_eq_false (Ne.symm n3_5), decide_eq_false (Ne.symm n4_5), decide_eq_true (rfl : c5 = c5), decide_eq_false n5_6, decide_eq_false n5_7, decide_eq_false n5_8, decide_eq_false n5_9, decide_eq_false n5_10, decide_eq_false n5_11]
    rfl
  | 6, hy =>
    cases hy
    refine ⟨e6, c6, rfl, .inl ⟨_, h6⟩, ⟨_, L.k6, .inr rfl⟩, ?_⟩
    rw [decide_eq_false (Ne.symm n0_6), decide_eq_false (Ne.symm n1_6), decide_eq_false (Ne.symm n2_6), decide_eq_false (Ne.symm n3_6), decide_eq_false (Ne.symm n4_6), decide_eq_false (Ne.symm n5_6), decide_eq_true (rfl : c6 = c6), decide_eq_false n6_7, decide_eq_false n6_8, decide_eq_false n6_9, decide_eq_false n6_10, decide_eq_false n6_11]
    rfl
  | 7, hy =>
    cases hy
    refine ⟨e7, c7, rfl, .inl ⟨_, h7⟩, ⟨_, L.k7, .inr rfl⟩, ?_⟩
    rw [decide_eq_false (Ne.symm n0_7), decide_eq_false (Ne.symm n1_7), decide_eq_false (Ne.symm n2_7), decide_eq_false (Ne.symm n3_7), decide_eq_false (Ne.symm n4_7), decide_eq_false (Ne.symm n5_7), decide_eq_false (Ne.symm n6_7), decide_eq_true (rfl : c7 = c7), decide_eq_false n7_8, decide_eq_false n7_9, decide_eq_false n7_10, decide_eq_false n7_11]
    rfl
  | 8, hy =>
    cases hy
    refine ⟨e8, c8, rfl, .inl ⟨_, h8⟩, ⟨_, L.k8, .inr rfl⟩, ?_⟩
    rw [decide_eq_false (Ne.symm n0_8), decide_eq_false (Ne.symm n1_8), decide_eq_false (Ne.symm n2_8), decide_eq_false (Ne.symm n3_8), decide_eq_false (Ne.symm n4_8), decide_eq_false (Ne.symm n5_8), decide_eq_false (Ne.symm n6_8), decide_eq_false (Ne.symm n7_8), decide_eq_true (rfl : c8 = c8), decide_eq_false n8_9, decide_eq_false n8_10, decide_eq_false n8_11]
    rfl
  | 9, hy =>
    cases hy
    refine ⟨e9, c9, rfl, .inl ⟨_, h9⟩, ⟨_, L.k9, .inr rfl⟩, ?_⟩
    rw [decide_eq_false (Ne.symm n0_9), decide_eq_false (Ne.symm n1_9), decide_eq_false (Ne.symm n2_9), decide_eq_false (Ne.symm n3_9), decide_eq_false (Ne.symm n4_9), decide_eq_false (Ne.symm n5_9), decide_eq_false (Ne.symm n6_9), decide_eq_false (Ne.symm n7_9), decide_eq_false (Ne.symm n8_9), decide_eq_true (rfl : c9 = c9), decide_eq_false n9_10, decide_eq_false n9_11]
    rfl
  | 10, hy =>
    cases hy
    refine ⟨e10, c10, rfl, .inl ⟨_, h10⟩, ⟨_, L.k10, .inr rfl⟩, ?_⟩
    rw [decide_eq_false (Ne.symm n0_10), decide_eq_false (Ne.symm n1_10), decide_eq_false (Ne.symm n2_10), decide_eq_false (Ne.symm n3_10), decide_eq_false (Ne.symm n4_10), decide_eq_false (Ne.symm n5_10), decide_eq_false (Ne.symm n6_10), decide_eq_false (Ne.symm n7_10), decide_eq_false (Ne.symm n8_10), decide_eq_false (Ne.symm n9_10), decide_eq_true (rfl : c10 = c10), decide_eq_false n10_11]
    rfl
  | 11, hy =>
    cases hy
    refine ⟨e11, c11, rfl, .inl ⟨_, h11⟩, ⟨_, L.k11, .inr rfl⟩, ?_⟩
    rw [decide_eq_false (Ne.symm n0_11), decide_eq_false (Ne.symm n1_11), decide_eq_false (Ne.symm n2_11), decide_eq_false (Ne.symm n3_11), decide_eq_false (Ne.symm n4_11), decide_eq_false (Ne.symm n5_11), decide_eq_false (Ne.symm n6_11), decide_eq_false (Ne.symm n7_11), decide_eq_false (Ne.symm n8_11), decide_eq_false (Ne.symm n9_11), decide_eq_false (Ne.symm n10_11), decide_eq_true (rfl : c11 = c11)]
    rfl
  | i + 12, hy => simp at hy
end
end Cf
namespace Cf
open PySem L2
section
variable {P : Program} {w : World} {K : PySem.W.Frag} {mg : Str → Option Value} {base : Heap} {cE c0 c1 c2 c3 c4 c5 c6 c7 c8 c9 c10 c11 : Addr}
theorem scLawRight : FnScope ["some", "one", "two", "errors", "at", "error", "place"] ["some"] (defScope sLawRight) := ⟨rfl, rfl, rfl, by decide +kernel, rfl, by decide +kernel, by decide +kernel⟩
theorem ok_right {f : Addr} {fd : FuncData} (F : Fun K "_law_right" "_law_right" sLawRight f fd) (T : Nm mg) (te : mg "enumerate" = none) (tv : mg "ValueError" = none) (L : Cls K mg cE c0 c1 c2 c3 c4 c5 c6 c7 c8 c9 c10 c11)
    (D0 : Ec P w K mg base "BadNumber" c0 1 ["value"] id mk0) (D1 : Ec P w K mg base "BadDate" c1 1 ["value"] id mk1) (D2 : Ec P w K mg base "BadDays" c2 1 ["value"] id mk2) (D3 : Ec P w K mg base "BadYearly" c3 1 ["value"] id mk3) (D4 : Ec P w K mg base "BadRow" c4 1 ["index"] id mk4) (D5 : Ec P w K mg base "BadOrder" c5 2 ["index", "year"] sw2 mk5) (D6 : Ec P w K mg base "BadZone" c6 1 ["index"] id mk6) (D7 : Ec P w K mg base "BadWord" c7 1 ["value"] id mk7) (D8 : Ec P w K mg base "TooFew" c8 1 ["number"] id mk8) (D9 : Ec P w K mg base "BadLog" c9 1 ["index"] id mk9) (D10 : Ec P w K mg base "BadLimit" c10 1 ["index"] id mk10) (D11 : Ec P w K mg base "BadText" c11 1 ["line"] id mk11)
    (DK : Df P w K mg base 1 "_law_kept" ["errors"] [] (spKept K c0 c1 c2 c3 c4 c5 c6 c7 c8 c9 c10 c11)) (DM : Df P w K mg base 1 "_law_marks" ["error"] [] (spMarks K cE c0 c1 c2 c3 c4 c5 c6 c7 c8 c9 c10 c11)) : FnG P w K mg base CX0 4 f fd ["some"] (spRight K) := by
  refine funG F scLawRight (fun vs H Q E h => ?_) (fun cdv A gd outer s H vs Q E hr h => ?_)
  · obtain ⟨s, v0, v1, v2, v3, v4, v5, v6, v7, v8, v9, v10, v11, v12, ds, rfl, _⟩ := h
    rfl
  · obtain ⟨p, v0, v1, v2, v3, v4, v5, v6, v7, v8, v9, v10, v11, v12, ds, rfl, hs, all, k⟩ := h
    have nd := scLawRight.nd
    have hr1 : Room 1 _ := hr.mono (by decide)
    have hr2 : Room 2 _ := hr.mono (by decide)
    have hu := hr.units
    have pT : bootBuiltins "repr" = some (.builtin "repr") := by decide +kernel
    have pI : bootBuiltins "isinstance" = some (.builtin "isinstance") := by decide +kernel
    refine ⟨_, pss_cons (ps_set (i := 1) nd rfl (Or.inl rfl) (pe_lst (pa_cons (pe_ec D0 hr2 (pa_cons (pe_ix ix_list (pv 0) pe_int (fun _ _ => rfl)) pa_nil)) (pa_cons (pe_ec D1 hr2 (pa_cons (pe_ix ix_list (pv 0) pe_int (fun _ _ => rfl)) pa_nil)) (pa_cons (pe_ec D2 hr2 (pa_cons (pe_ix ix_list (pv 0) pe_int (fun _ _ => rfl)) pa_nil)) (pa_cons (pe_ec D3 hr2 (pa_cons (pe_ix ix_list (pv 0) pe_int (fun _ _ => rfl)) pa_nil)) (pa_cons (pe_ec D4 hr2 (pa_cons (pe_ix ix_list (pv 0) pe_int (fun _ _ => rfl)) pa_nil)) pa_nil)))))))
      (pss_cons (ps_set (i := 1) nd rfl (Or.inl rfl) (pe_op op_cat (pv 1) (pe_lst (pa_cons (pe_ec D5 hr2 (pa_cons (pe_ix ix_list (pv 0) pe_int (fun _ _ => rfl)) (pa_cons (pe_ix ix_list (pv 0) pe_int (fun _ _ => rfl)) pa_nil))) (pa_cons (pe_ec D6 hr2 (pa_cons (pe_ix ix_list (pv 0) pe_int (fun _ _ => rfl)) pa_nil)) (pa_cons (pe_ec D7 hr2 (pa_cons (pe_ix ix_list (pv 0) pe_int (fun _ _ => rfl)) pa_nil)) (pa_cons (pe_ec D8 hr2 (pa_cons (pe_ix ix_list (pv 0) pe_int (fun _ _ => rfl)) pa_nil)) (pa_cons (pe_ec D9 hr2 (pa_cons (pe_ix ix_list (pv 0) pe_int (fun _ _ => rfl)) pa_nil)) pa_nil))))))))
      (pss_cons (ps_set (i := 1) nd rfl (Or.inl rfl) (pe_op op_cat (pv 1) (pe_lst (pa_cons (pe_ec D10 hr2 (pa_cons (pe_ix ix_list (pv 0) pe_int (fun _ _ => rfl)) pa_nil)) (pa_cons (pe_ec D11 hr2 (pa_cons (pe_ix ix_list (pv 0) pe_int (fun _ _ => rfl)) pa_nil)) pa_nil)))))
      (pss_cons (ps_set (i := 2) nd rfl (Or.inl rfl) (pe_lst (pa_cons (pe_eck D0 hr2 (pk_cons (pe_ix ix_list (pv 0) pe_int (fun _ _ => rfl)) pk_nil)) (pa_cons (pe_eck D1 hr2 (pk_cons (pe_ix ix_list (pv 0) pe_int (fun _ _ => rfl)) pk_nil)) (pa_cons (pe_eck D2 hr2 (pk_cons (pe_ix ix_list (pv 0) pe_int (fun _ _ => rfl)) pk_nil)) (pa_cons (pe_eck D3 hr2 (pk_cons (pe_ix ix_list (pv 0) pe_int (fun _ _ => rfl)) pk_nil)) pa_nil))))))
      (pss_cons (ps_set (i := 2) nd rfl (Or.inl rfl) (pe_op op_cat (pv 2) (pe_lst (pa_cons (pe_eck D4 hr2 (pk_cons (pe_ix ix_list (pv 0) pe_int (fun _ _ => rfl)) pk_nil)) (pa_cons (pe_eck D5 hr2 (pk_cons (pe_ix ix_list (pv 0) pe_int (fun _ _ => rfl)) (pk_cons (pe_ix ix_list (pv 0) pe_int (fun _ _ => rfl)) pk_nil))) (pa_cons (pe_eck D6 hr2 (pk_cons (pe_ix ix_list (pv 0) pe_int (fun _ _ => rfl)) pk_nil)) pa_nil))))))
      (pss_cons (ps_set (i := 2) nd rfl (Or.inl rfl) (pe_op op_cat (pv 2) (pe_lst (pa_cons (pe_eck D7 hr2 (pk_cons (pe_ix ix_list (pv 0) pe_int (fun _ _ => rfl)) pk_nil)) (pa_cons (pe_eck D8 hr2 (pk_cons (pe_ix ix_list (pv 0) pe_int (fun _ _ => rfl)) pk_nil)) (pa_cons (pe_eck D9 hr2 (pk_cons (pe_ix ix_list (pv 0) pe_int (fun _ _ => rfl)) pk_nil)) (pa_cons (pe_eck D10 hr2 (pk_cons (pe_ix ix_list (pv 0) pe_int (fun _ _ => rfl)) pk_nil)) pa_nil)))))))
      (pss_cons (ps_set (i := 2) nd rfl (Or.inl rfl) (pe_op op_cat (pv 2) (pe_lst (pa_cons (pe_eck D11 hr2 (pk_cons (pe_ix ix_list (pv 0) pe_int (fun _ _ => rfl)) pk_nil)) pa_nil))))
      (pss_cons (ps_for PassesOwn.never rfl (pi_list (pe_lst (pa_cons (pv 1) (pa_cons (pv 2) pa_nil)))) (pg_name (i := 3) nd rfl (Or.inl rfl))
        (pss_cons (ps_if (pt_cmpR op_ne (pe_callB (call_reprZ gd hu) (by rfl) T.repr pT (pa_cons (pe_df DK hr1 (pa_cons (pv 3) pa_nil)) pa_nil)) (pe_callB (call_reprZ gd hu) (by rfl) T.repr pT (pa_cons (pv 0) pa_nil)) (nomark _)) (pss_one (ps_ret pe_bl)) pss_nil)
        (pss_one (ps_for PassesOwn.never rfl (pi_enum (by rfl) te (pa_cons (pv 3) pa_nil)) (pg_tup (by rfl) (pgs_cons (pg_name (i := 4) nd rfl (Or.inr rfl)) (pgs_cons (pg_name (i := 5) nd rfl (Or.inl rfl)) pgs_nil)))
          (pss_cons (ps_if (PW.pt (pw_or (pt_not (pt_val (pe_callB call_isX (by rfl) T.isinstance pI (pa_cons (pv 5) (pa_cons (pe_glob (v := .ref cE) rfl L.mE rfl) pa_nil))))) (pw_or1 (pt_not (pt_val (pe_callB call_isX (by rfl) T.isinstance pI (pa_cons (pv 5) (pa_cons (pe_bltn (v := .ty "ValueError") (u := .type "ValueError") rfl tv (by decide +kernel) rfl) pa_nil)))))))) (pss_one (ps_ret pe_bl)) pss_nil)
          (pss_one (ps_if (pt_cmpR (op_neD hu) (pe_df DM hr1 (pa_cons (pv 5) pa_nil)) (pe_lc (own := [("place", 6)]) (g := gName 6) (tt := tYes) rfl nd (pi_range1 rfl T.range (pa_cons pe_int pa_nil)) (blkOk_by (N := ["some", "one", "two", "errors", "at", "error", "place"]) (sc := defScope sLawRight) (by decide +kernel)) (fun _ _ _ _ _ => pg_name (i := 6) nd rfl (Or.inl rfl)) (fun _ _ _ _ _ => pts_nil) (fun _ _ _ _ _ => pe_cmpR op_eq (pv 6) (pv 4) (nomark _))) (nomark _)) (pss_one (ps_ret pe_bl)) pss_nil)))))))
      (pss_one (ps_ret pe_bl))))))))), ?_⟩
    have S0 : Same H H := Same.refl H
    refine ⟨_, rfl, p, _, _, v0, rfl, rfl, sql_keep S0 hs, rfl, rfl, (by show 1 ≤ 1000; decide), fun e0_0 G1 _ t1 x1 => ?_⟩
    have U1 := S0.trans t1
    refine ⟨_, rfl, p, _, _, v1, rfl, rfl, sql_keep U1 hs, rfl, rfl, (by show 1 ≤ 1000; decide), fun e0_1 G2 _ t2 x2 => ?_⟩
    have U2 := U1.trans t2
    refine ⟨_, rfl, p, _, _, v2, rfl, rfl, sql_keep U2 hs, rfl, rfl, (by show 1 ≤ 1000; decide), fun e0_2 G3 _ t3 x3 => ?_⟩
    have U3 := U2.trans t3
    refine ⟨_, rfl, p, _, _, v3, rfl, rfl, sql_keep U3 hs, rfl, rfl, (by show 1 ≤ 1000; decide), fun e0_3 G4 _ t4 x4 => ?_⟩
    have U4 := U3.trans t4
    refine ⟨_, rfl, p, _, _, v4, rfl, rfl, sql_keep U4 hs, rfl, rfl, (by show 1 ≤ 1000; decide), fun e0_4 G5 _ t5 x5 => ?_⟩
    have U5 := U4.trans t5
    refine ⟨by show 5 ≤ sizeLine; decide, fun q6 n6 => ?_⟩
    have U6 := U5.step (o := .lst [.ref e0_0, .ref e0_1, .ref e0_2, .ref e0_3, .ref e0_4]) n6
    refine ⟨_, rfl, _, rfl, p, _, _, v5, rfl, rfl, sql_keep U6 hs, rfl, _, rfl, p, _, _, v6, rfl, rfl, sql_keep U6 hs, rfl, rfl, (by show 2 ≤ 1000; decide), fun e0_5 G7 _ t7 x7 => ?_⟩
    have U7 := U6.trans t7
    have k7 := t7 _ _ upd_same
    refine ⟨_, rfl, p, _, _, v7, rfl, rfl, sql_keep U7 hs, rfl, rfl, (by show 1 ≤ 1000; decide), fun e0_6 G8 _ t8 x8 => ?_⟩
    have U8 := U7.trans t8
    have k8 := t8 _ _ k7
    refine ⟨_, rfl, p, _, _, v8, rfl, rfl, sql_keep U8 hs, rfl, rfl, (by show 1 ≤ 1000; decide), fun e0_7 G9 _ t9 x9 => ?_⟩
    have U9 := U8.trans t9
    have k9 := t9 _ _ k8
    refine ⟨_, rfl, p, _, _, v9, rfl, rfl, sql_keep U9 hs, rfl, rfl, (by show 1 ≤ 1000; decide), fun e0_8 G10 _ t10 x10 => ?_⟩
    have U10 := U9.trans t10
    have k10 := t10 _ _ k9
    refine ⟨_, rfl, p, _, _, v10, rfl, rfl, sql_keep U10 hs, rfl, rfl, (by show 1 ≤ 1000; decide), fun e0_9 G11 _ t11 x11 => ?_⟩
    have U11 := U10.trans t11
    have k11 := t11 _ _ k10
    refine ⟨by show 5 ≤ sizeLine; decide, fun q12 n12 => ?_⟩
    have U12 := U11.step (o := .lst [.ref e0_5, .ref e0_6, .ref e0_7, .ref e0_8, .ref e0_9]) n12
    have k12 := Same.new (o := .lst [.ref e0_5, .ref e0_6, .ref e0_7, .ref e0_8, .ref e0_9]) n12 _ _ k11
    refine ⟨q6, q12, _, _, rfl, rfl, k12, upd_same, (by show 10 ≤ sizeLine; decide), fun q13 n13 => ?_⟩
    have U13 := U12.step (o := .lst [.ref e0_0, .ref e0_1, .ref e0_2, .ref e0_3, .ref e0_4, .ref e0_5, .ref e0_6, .ref e0_7, .ref e0_8, .ref e0_9]) n13
    refine ⟨_, rfl, _, rfl, p, _, _, v11, rfl, rfl, sql_keep U13 hs, rfl, rfl, (by show 1 ≤ 1000; decide), fun e0_10 G14 _ t14 x14 => ?_⟩
    have U14 := U13.trans t14
    have k14 := t14 _ _ upd_same
    refine ⟨_, rfl, p, _, _, v12, rfl, rfl, sql_keep U14 hs, rfl, rfl, (by show 1 ≤ 1000; decide), fun e0_11 G15 _ t15 x15 => ?_⟩
    have U15 := U14.trans t15
    have k15 := t15 _ _ k14
    refine ⟨by show 2 ≤ sizeLine; decide, fun q16 n16 => ?_⟩
    have U16 := U15.step (o := .lst [.ref e0_10, .ref e0_11]) n16
    have k16 := Same.new (o := .lst [.ref e0_10, .ref e0_11]) n16 _ _ k15
    refine ⟨q13, q16, _, _, rfl, rfl, k16, upd_same, (by show 12 ≤ sizeLine; decide), fun q17 n17 => ?_⟩
    have U17 := U16.step (o := .lst [.ref e0_0, .ref e0_1, .ref e0_2, .ref e0_3, .ref e0_4, .ref e0_5, .ref e0_6, .ref e0_7, .ref e0_8, .ref e0_9, .ref e0_10, .ref e0_11]) n17
    have bA_16 := (Same.new (o := .lst [.ref e0_0, .ref e0_1, .ref e0_2, .ref e0_3, .ref e0_4, .ref e0_5, .ref e0_6, .ref e0_7, .ref e0_8, .ref e0_9, .ref e0_10, .ref e0_11]) n17)
    have bA_15 := (Same.new (o := .lst [.ref e0_10, .ref e0_11]) n16).trans bA_16
    have bA_14 := t15.trans bA_15
    have bA_13 := t14.trans bA_14
    have bA_12 := (Same.new (o := .lst [.ref e0_0, .ref e0_1, .ref e0_2, .ref e0_3, .ref e0_4, .ref e0_5, .ref e0_6, .ref e0_7, .ref e0_8, .ref e0_9]) n13).trans bA_13
    have bA_11 := (Same.new (o := .lst [.ref e0_5, .ref e0_6, .ref e0_7, .ref e0_8, .ref e0_9]) n12).trans bA_12
    have bA_10 := t11.trans bA_11
    have bA_9 := t10.trans bA_10
    have bA_8 := t9.trans bA_9
    have bA_7 := t8.trans bA_8
    have bA_6 := t7.trans bA_7
    have bA_5 := (Same.new (o := .lst [.ref e0_0, .ref e0_1, .ref e0_2, .ref e0_3, .ref e0_4]) n6).trans bA_6
    have bA_4 := t5.trans bA_5
    have bA_3 := t4.trans bA_4
    have bA_2 := t3.trans bA_3
    have bA_1 := t2.trans bA_2
    have bA_0 := t1.trans bA_1
    have TA : Twelve K c0 c1 c2 c3 c4 c5 c6 c7 c8 c9 c10 c11 v0 v1 v2 v3 v4 v5 v6 v7 v8 v9 v10 v11 v12 _ q17 := ⟨e0_0, e0_1, e0_2, e0_3, e0_4, e0_5, e0_6, e0_7, e0_8, e0_9, e0_10, e0_11, SqL.of upd_same, x1.same bA_1, x2.same bA_2, x3.same bA_3, x4.same bA_4, x5.same bA_5, x7.same bA_7, x8.same bA_8, x9.same bA_9, x10.same bA_10, x11.same bA_11, x14.same bA_14, x15.same bA_15⟩
    refine ⟨_, rfl, p, _, _, v0, rfl, rfl, sql_keep U17 hs, rfl, rfl, fun e1_0 G18 _ t18 x18 => ?_⟩
    have U18 := U17.trans t18
    refine ⟨_, rfl, p, _, _, v1, rfl, rfl, sql_keep U18 hs, rfl, rfl, fun e1_1 G19 _ t19 x19 => ?_⟩
    have U19 := U18.trans t19
    refine ⟨_, rfl, p, _, _, v2, rfl, rfl, sql_keep U19 hs, rfl, rfl, fun e1_2 G20 _ t20 x20 => ?_⟩
    have U20 := U19.trans t20
    refine ⟨_, rfl, p, _, _, v3, rfl, rfl, sql_keep U20 hs, rfl, rfl, fun e1_3 G21 _ t21 x21 => ?_⟩
    have U21 := U20.trans t21
    refine ⟨by show 4 ≤ sizeLine; decide, fun q22 n22 => ?_⟩
    have U22 := U21.step (o := .lst [.ref e1_0, .ref e1_1, .ref e1_2, .ref e1_3]) n22
    refine ⟨_, rfl, _, rfl, p, _, _, v4, rfl, rfl, sql_keep U22 hs, rfl, rfl, fun e1_4 G23 _ t23 x23 => ?_⟩
    have U23 := U22.trans t23
    have k23 := t23 _ _ upd_same
    refine ⟨_, rfl, p, _, _, v6, rfl, rfl, sql_keep U23 hs, rfl, _, rfl, p, _, _, v5, rfl, rfl, sql_keep U23 hs, rfl, rfl, fun e1_5 G24 _ t24 x24 => ?_⟩
    have U24 := U23.trans t24
    have k24 := t24 _ _ k23
    refine ⟨_, rfl, p, _, _, v7, rfl, rfl, sql_keep U24 hs, rfl, rfl, fun e1_6 G25 _ t25 x25 => ?_⟩
    have U25 := U24.trans t25
    have k25 := t25 _ _ k24
    refine ⟨by show 3 ≤ sizeLine; decide, fun q26 n26 => ?_⟩
    have U26 := U25.step (o := .lst [.ref e1_4, .ref e1_5, .ref e1_6]) n26
    have k26 := Same.new (o := .lst [.ref e1_4, .ref e1_5, .ref e1_6]) n26 _ _ k25
    refine ⟨q22, q26, _, _, rfl, rfl, k26, upd_same, (by show 7 ≤ sizeLine; decide), fun q27 n27 => ?_⟩
    have U27 := U26.step (o := .lst [.ref e1_0, .ref e1_1, .ref e1_2, .ref e1_3, .ref e1_4, .ref e1_5, .ref e1_6]) n27
    refine ⟨_, rfl, _, rfl, p, _, _, v8, rfl, rfl, sql_keep U27 hs, rfl, rfl, fun e1_7 G28 _ t28 x28 => ?_⟩
    have U28 := U27.trans t28
    have k28 := t28 _ _ upd_same
    refine ⟨_, rfl, p, _, _, v9, rfl, rfl, sql_keep U28 hs, rfl, rfl, fun e1_8 G29 _ t29 x29 => ?_⟩
    have U29 := U28.trans t29
    have k29 := t29 _ _ k28
    refine ⟨_, rfl, p, _, _, v10, rfl, rfl, sql_keep U29 hs, rfl, rfl, fun e1_9 G30 _ t30 x30 => ?_⟩
    have U30 := U29.trans t30
    have k30 := t30 _ _ k29
    refine ⟨_, rfl, p, _, _, v11, rfl, rfl, sql_keep U30 hs, rfl, rfl, fun e1_10 G31 _ t31 x31 => ?_⟩
    have U31 := U30.trans t31
    have k31 := t31 _ _ k30
    refine ⟨by show 4 ≤ sizeLine; decide, fun q32 n32 => ?_⟩
    have U32 := U31.step (o := .lst [.ref e1_7, .ref e1_8, .ref e1_9, .ref e1_10]) n32
    have k32 := Same.new (o := .lst [.ref e1_7, .ref e1_8, .ref e1_9, .ref e1_10]) n32 _ _ k31
    refine ⟨q27, q32, _, _, rfl, rfl, k32, upd_same, (by show 11 ≤ sizeLine; decide), fun q33 n33 => ?_⟩
    have U33 := U32.step (o := .lst [.ref e1_0, .ref e1_1, .ref e1_2, .ref e1_3, .ref e1_4, .ref e1_5, .ref e1_6, .ref e1_7, .ref e1_8, .ref e1_9, .ref e1_10]) n33
    refine ⟨_, rfl, _, rfl, p, _, _, v12, rfl, rfl, sql_keep U33 hs, rfl, rfl, fun e1_11 G34 _ t34 x34 => ?_⟩
    have U34 := U33.trans t34
    have k34 := t34 _ _ upd_same
    refine ⟨by show 1 ≤ sizeLine; decide, fun q35 n35 => ?_⟩
    have U35 := U34.step (o := .lst [.ref e1_11]) n35
    have k35 := Same.new (o := .lst [.ref e1_11]) n35 _ _ k34
    refine ⟨q33, q35, _, _, rfl, rfl, k35, upd_same, (by show 12 ≤ sizeLine; decide), fun q36 n36 => ?_⟩
    have U36 := U35.step (o := .lst [.ref e1_0, .ref e1_1, .ref e1_2, .ref e1_3, .ref e1_4, .ref e1_5, .ref e1_6, .ref e1_7, .ref e1_8, .ref e1_9, .ref e1_10, .ref e1_11]) n36
    have bB_18 := (Same.new (o := .lst [.ref e1_0, .ref e1_1, .ref e1_2, .ref e1_3, .ref e1_4, .ref e1_5, .ref e1_6, .ref e1_7, .ref e1_8, .ref e1_9, .ref e1_10, .ref e1_11]) n36)
    have bB_17 := (Same.new (o := .lst [.ref e1_11]) n35).trans bB_18
    have bB_16 := t34.trans bB_17
    have bB_15 := (Same.new (o := .lst [.ref e1_0, .ref e1_1, .ref e1_2, .ref e1_3, .ref e1_4, .ref e1_5, .ref e1_6, .ref e1_7, .ref e1_8, .ref e1_9, .ref e1_10]) n33).trans bB_16
    have bB_14 := (Same.new (o := .lst [.ref e1_7, .ref e1_8, .ref e1_9, .ref e1_10]) n32).trans bB_15
    have bB_13 := t31.trans bB_14
    have bB_12 := t30.trans bB_13
    have bB_11 := t29.trans bB_12
    have bB_10 := t28.trans bB_11
    have bB_9 := (Same.new (o := .lst [.ref e1_0, .ref e1_1, .ref e1_2, .ref e1_3, .ref e1_4, .ref e1_5, .ref e1_6]) n27).trans bB_10
    have bB_8 := (Same.new (o := .lst [.ref e1_4, .ref e1_5, .ref e1_6]) n26).trans bB_9
    have bB_7 := t25.trans bB_8
    have bB_6 := t24.trans bB_7
    have bB_5 := t23.trans bB_6
    have bB_4 := (Same.new (o := .lst [.ref e1_0, .ref e1_1, .ref e1_2, .ref e1_3]) n22).trans bB_5
    have bB_3 := t21.trans bB_4
    have bB_2 := t20.trans bB_3
    have bB_1 := t19.trans bB_2
    have bB_0 := t18.trans bB_1
    have TB : Twelve K c0 c1 c2 c3 c4 c5 c6 c7 c8 c9 c10 c11 v0 v1 v2 v3 v4 v5 v6 v7 v8 v9 v10 v11 v12 _ q36 := ⟨e1_0, e1_1, e1_2, e1_3, e1_4, e1_5, e1_6, e1_7, e1_8, e1_9, e1_10, e1_11, SqL.of upd_same, x18.same bB_1, x19.same bB_2, x20.same bB_3, x21.same bB_4, x23.same bB_6, x24.same bB_7, x25.same bB_8, x28.same bB_11, x29.same bB_12, x30.same bB_13, x31.same bB_14, x34.same bB_17⟩
    have TA2 := TA.same bB_0
    refine ⟨_, rfl, _, rfl, (by show 2 ≤ sizeLine; decide), fun qq nq => ?_⟩
    have Uz := U36.step (o := .lst [.ref q17, .ref q36]) nq
    have TA3z := TA2.same (Same.new (o := .lst [.ref q17, .ref q36]) nq)
    have TB3z := TB.same (Same.new (o := .lst [.ref q17, .ref q36]) nq)
    generalize hZ : upd _ qq (HO.lst [.ref q17, .ref q36]) = Z
    have U : Same H Z := by rw [← hZ]; exact Uz
    have TA3 : Twelve K c0 c1 c2 c3 c4 c5 c6 c7 c8 c9 c10 c11 v0 v1 v2 v3 v4 v5 v6 v7 v8 v9 v10 v11 v12 Z q17 := by rw [← hZ]; exact TA3z
    have TB3 : Twelve K c0 c1 c2 c3 c4 c5 c6 c7 c8 c9 c10 c11 v0 v1 v2 v3 v4 v5 v6 v7 v8 v9 v10 v11 v12 Z q36 := by rw [← hZ]; exact TB3z
    have zq : Z qq = some (.lst [.ref q17, .ref q36]) := by rw [← hZ]; exact upd_same
    refine ⟨qq, rfl, ⟨_, SqL.of zq⟩, for_list (K := K) (a := qq) (xs := [.ref q17, .ref q36])
      (fun i σ H' => Same Z H' ∧ ∃ y3 y4 y5 y6 : Option V, σ = [some (.ref p), some (.ref q17), some (.ref q36), y3, y4, y5, y6]) ⟨Same.refl Z, none, none, none, none, rfl⟩ (fun i σ H' _ ⟨e, _⟩ => sql_keep e (SqL.of zq)) ?_ ?_⟩
    · rintro i y σ H1 hi ⟨V1, y3, y4, y5, y6, rfl⟩
      have tw : ∃ l, y = .ref l ∧ Twelve K c0 c1 c2 c3 c4 c5 c6 c7 c8 c9 c10 c11 v0 v1 v2 v3 v4 v5 v6 v7 v8 v9 v10 v11 v12 H1 l := by
        match i, hi with
        | 0, hi => cases hi; exact ⟨_, rfl, TA3.same V1⟩
        | 1, hi => cases hi; exact ⟨_, rfl, TB3.same V1⟩
        | i + 2, hi => simp at hi
      obtain ⟨l, rfl, tw⟩ := tw
      have U1 := U.trans V1
      refine ⟨_, rfl, l, v0, v1, v2, v3, v4, v5, v6, v7, v8, v9, v10, v11, v12, rfl, tw, fun q1 H2 V2 n1 h1 => ?_⟩
      have U2 := U1.trans V2
      have all2 := itms_same U2 all
      obtain ⟨z1, z2, z3, _, _⟩ := itms_all all2
      have z4 := itms_text all2 rfl
      refine ⟨q1, _, _, ds, rfl, SqL.of h1, z1, z2, by omega, z4, _, rfl, p, _, _, ds, rfl, sql_keep U2 hs, z1, z2, by omega, z4, rfl, false, congrArg V.bl ne_same, iteF ?_⟩
      have tw2 := tw.same V2
      obtain ⟨xs, hl, ln, each⟩ := tw2.at L
      refine ⟨_, rfl, l, xs, rfl, hl, for_it walk_enum (fun i σ H' => Same H2 H' ∧ ∃ y4 y5 y6 : Option V, σ = [some (.ref p), some (.ref q17), some (.ref q36), some (.ref l), y4, y5, y6]) ⟨Same.refl H2, _, _, _, rfl⟩ (fun i σ H' _ ⟨e, _⟩ => sql_keep e hl) ?_ ?_⟩
      · rintro j y σ H3 H4 hj ⟨V3, y4, y5, y6, rfl⟩ ⟨tp, x, y, rfl, nt, rfl, ex, ey⟩
        cases ex
        obtain ⟨e, c, rfl, er, ed, eb⟩ := each j y ey
        have er4 := (er.same V3).same (Same.new (o := .tup [.int (j : Nat), .ref e]) nt)
        refine ⟨tp, _, rfl, SqT.of upd_same, rfl, _, _, rfl, _, _, rfl, rfl, ?_⟩
        refine ⟨_, rfl, e, c, _, _, true, rfl, .own cE, er4, ed.exc L.o, ed.ce L.kE, true, rfl, iteF ?_⟩
        refine ⟨_, rfl, e, c, _, _, true, rfl, .ty "ValueError", er4, ed.exc L.o, ed.ve, true, rfl, iteF ?_⟩
        refine ⟨_, rfl, e, c, rfl, ed, er4, fun l5 H5 V5 n5 h5 => ?_⟩
        refine ⟨12, rfl, by decide, by decide, fun d6 n6 => ?_⟩
        refine lc_range (n := 12) (fun i H' => Same H5 H' ∧ H' d6 = some (.lst (((List.range i).map fun t => decide (t = j)).map V.bl))) ⟨Same.new n6, upd_same⟩ ?_ ?_
        · rintro i H6 hi ⟨V6, h6⟩
          refine ⟨rfl, ?_⟩
          dsimp only [tYes]
          rw [if_pos rfl]
          refine ⟨_, rfl, _, rfl, rfl, _, h6, ?_, V6.wr n6, ?_⟩
          · rw [List.length_map, List.length_map, List.length_range]
            exact small1000 (by omega)
          · rw [upd_same, List.range_succ, List.map_append, List.map_append]
            simp only [List.map_cons, List.map_nil]
            rw [show decide (V.int (0 + (i : Int)) = V.int ((j : Nat) : Int)) = decide (i = j) from ?_]
            rw [Int.zero_add]
            rw [dec_int]
            by_cases e : i = j
            · subst e; simp
            · rw [decide_eq_false e]; simpa using fun z => e (by omega)
        · rintro H7 ⟨V7, h7⟩
          have V57 := V7
          refine ⟨_, _, .lst (SqL.of (V57 _ _ (by rw [h5, eb]))) (dpBools _), .lst (SqL.of h7) (dpBools _), shaped_bools _, shaped_bools _, false, ?_, iteF ?_⟩
          · rw [PyData.eqv, eqv_bools]; rfl
          · exact ⟨V3.trans ((Same.new nt).trans (V5.trans V7)), _, _, _, rfl⟩
      · rintro σ H3 ⟨V3, y4, y5, y6, rfl⟩
        exact ⟨V1.trans (V2.trans V3), _, _, _, _, rfl⟩
    · rintro σ H1 ⟨V1, y3, y4, y5, y6, rfl⟩
      exact k H1 (U.trans V1)
end
end Cf
namespace Cf
open PySem L2
section
variable {P : Program} {w : World} {K : PySem.W.Frag} {mg : Str → Option Value} {base : Heap} {cE c0 c1 c2 c3 c4 c5 c6 c7 c8 c9 c10 c11 : Addr}
/-! ### law -/
def spLaw (K : PySem.W.Frag) : Sp := fun vs H Q _ => ∃ (l : Addr) (ns : List Int), vs = [.ref l] ∧ SqL K H l (ns.map V.int) ∧ ns.length ≤ 63 ∧ ∀ H', Q (.bl true) H'
theorem scLaw : FnScope ["script", "state", "turn", "place"] ["script"] (defScope sLaw) := ⟨rfl, rfl, rfl, by decide +kernel, rfl, by decide +kernel, by decide +kernel⟩
theorem Stt.put {p a b D : Addr} {n : Nat} {H : Hp} {o : HO} (S : Stt p a b n H) (h1 : D ≠ p) (h2 : D ≠ a) (h3 : D ≠ b) : Stt p a b n (upd H D o) := by
  obtain ⟨⟨ws, cs, rest, turn, g1, g2, g3, g4⟩, g5⟩ := S
  exact ⟨⟨ws, cs, rest, turn, by rw [upd_ne h1.symm]; exact g1, by rw [upd_ne h2.symm]; exact g2, by rw [upd_ne h3.symm]; exact g3, g4⟩, g5⟩
theorem paired_end {F : V → PyData → Prop} : ∀ {xs : List V} {ds : List PyData} {v : V} {d : PyData}, Paired F xs ds → F v d → Paired F (xs ++ [v]) (ds ++ [d])
  | _, _, _, _, .nil, h => .cons h .nil
  | _, _, _, _, .cons a t, h => .cons a (paired_end t h)
theorem ok_law {f : Addr} {fd : FuncData} (F : Fun K "law" "law" sLaw f fd) (T : Nm mg) (tv : mg "ValueError" = none) (L : Cls K mg cE c0 c1 c2 c3 c4 c5 c6 c7 c8 c9 c10 c11) (xE : PySem.W.excIn K cE [.type "ValueError", .type "Exception", .type "BaseException", .type "object"] "ValueError.__new__" = true)
    (DB : Df P w K mg base 1 "_law_begun" ["script"] [] (spBegun K)) (DT : Df P w K mg base 2 "_law_take" ["state", "size"] [] spTake) (DP : Df P w K mg base 3 "_law_pick" ["state", "some"] [] spPick) (DO : Df P w K mg base 4 "_law_odd" ["state"] [] (spOdd K))
    (DM : Df P w K mg base 1 "_law_marks" ["error"] [] (spMarks K cE c0 c1 c2 c3 c4 c5 c6 c7 c8 c9 c10 c11)) (DR : Dg P w K mg base 4 "_law_right" ["some"] [] (spRight K)) : FnG P w K mg base CX0 6 f fd ["script"] (spLaw K) := by
  refine funG F scLaw (fun vs H Q E h => ?_) (fun cdv A gd outer s H vs Q E hr h => ?_)
  · obtain ⟨l, ns, rfl, _⟩ := h
    rfl
  · obtain ⟨l, ns, rfl, hS, hlen, k⟩ := h
    have nd := scLaw.nd
    have hr1 : Room 1 _ := hr.mono (by decide)
    have hr2 : Room 2 _ := hr.mono (by decide)
    have hr3 : Room 3 _ := hr.mono (by decide)
    have hr4 : Room 4 _ := hr.mono (by decide)
    have pI : bootBuiltins "isinstance" = some (.builtin "isinstance") := by decide +kernel
    have dE : Ed K cE cE := ⟨_, L.kE, .inl ⟨rfl, rfl⟩⟩
    refine ⟨_, pss_cons (ps_set (i := 1) nd rfl (Or.inr rfl) (pe_df DB hr1 (pa_cons (pv 0) pa_nil)))
      (pss_cons (ps_if (PW.pt (pw_or (pt_cmpR op_in_seq pe_bl (pe_df DM hr1 (pa_cons (pe_exc1 PySem.F.excBase_ValueError xE L.mE L.kE.kp rfl pe_str) pa_nil)) (by rfl))
          (pw_or1 (pt_not (pt_val (pe_callB call_isX (by rfl) T.isinstance pI (pa_cons (pe_exc1 PySem.F.excBase_ValueError xE L.mE L.kE.kp rfl pe_str) (pa_cons (pe_bltn (v := .ty "ValueError") (u := .type "ValueError") rfl tv (by decide +kernel) rfl) pa_nil)))))))) (pss_one (ps_ret pe_bl)) pss_nil)
      (pss_cons (ps_for PassesOwn.never rfl (pi_range1 rfl T.range (pa_cons (pe_op op_add pe_int (pe_callB (call_min2 rfl) (by rfl) T.min (by decide +kernel) (pa_cons (pe_callB call_len_seq (by rfl) T.len PySem.boot_len (pa_cons (pv 0) pa_nil)) (pa_cons pe_int pa_nil)))) pa_nil)) (pg_name (i := 2) nd rfl (Or.inl rfl))
        (pss_one (ps_if (pt_not (pt_val (pe_dg DR gd hr4 (pa_cons
            (pe_lc (own := [("place", 3)]) (g := gName 3) (tt := tYes) rfl nd (pi_range1 rfl T.range (pa_cons pe_int pa_nil)) (blkOk_by (N := ["script", "state", "turn", "place"]) (sc := defScope sLaw) (by decide +kernel)) (fun _ _ _ _ _ => pg_name (i := 3) nd rfl (Or.inl rfl)) (fun _ _ _ _ _ => pts_nil)
              (fun _ _ _ _ _ => pe_df DP hr3 (pa_cons (pv 1) (pa_cons (pe_lst (pa_cons (pe_df DO hr4 (pa_cons (pv 1) pa_nil)) (pa_cons (pe_df DT hr2 (pa_cons (pv 1) (pa_cons pe_int pa_nil))) pa_nil))) pa_nil)))) pa_nil)))) (pss_one (ps_ret pe_bl)) pss_nil)))
      (pss_one (ps_ret pe_bl)))), ?_⟩
    refine ⟨_, rfl, l, ns, rfl, hS, hlen, fun H1 p a b p0 a0 b0 S1 St1 => ?_⟩
    refine fun e1 g1 => ⟨e1, cE, rfl, dE, .inr upd_same, fun q1 H2 S2 n2 h2 => ?_⟩
    rw [decide_eq_false (L.ne (c := c0) (by simp)).symm, decide_eq_false (L.ne (c := c1) (by simp)).symm, decide_eq_false (L.ne (c := c2) (by simp)).symm, decide_eq_false (L.ne (c := c3) (by simp)).symm, decide_eq_false (L.ne (c := c4) (by simp)).symm, decide_eq_false (L.ne (c := c5) (by simp)).symm, decide_eq_false (L.ne (c := c6) (by simp)).symm, decide_eq_false (L.ne (c := c7) (by simp)).symm, decide_eq_false (L.ne (c := c8) (by simp)).symm, decide_eq_false (L.ne (c := c9) (by simp)).symm, decide_eq_false (L.ne (c := c10) (by simp)).symm, decide_eq_false (L.ne (c := c11) (by simp)).symm] at h2
    refine ⟨q1, _, rfl, .inl (SqL.of h2), rfl, rfl, false, rfl, iteF ?_⟩
    refine fun e2 g2 => ⟨e2, cE, _, _, true, rfl, .ty "ValueError", .inr upd_same, dE.exc L.o, dE.ve, true, rfl, iteF ?_⟩
    have S3 := ((Same.new (o := ExO (.ref cE) e1) g1).trans S2).step (o := ExO (.ref cE) e2) g2
    have St3 := St1.same S3
    have hS3 := (S1.trans S3).seq hS
    refine ⟨_, rfl, l, _, rfl, .inl hS3, _, _, rfl, _, _, rfl, rfl, _, rfl, ?_, ?_, ?_⟩
    · rw [List.length_map]
      split <;> omega
    · rw [List.length_map]
      split <;> omega
    · refine for_range (fun i σ H' => Stt p a b (40 * i) H' ∧ ∃ v u : Option V, σ = [some (.ref l), some (.ref p), v, u]) ⟨St3, none, none, rfl⟩ ?_ ?_
      · rintro i σ H4 hi ⟨St4, v, u, rfl⟩
        have hi2 : i ≤ 100 := by
          rw [List.length_map] at hi
          split at hi <;> omega
        refine ⟨13, rfl, by decide, by decide, fun D hD => ?_⟩
        obtain ⟨u1, u2, u3, w1, w2, w3⟩ := St4.there
        have Dp : D ≠ p := (ne_of_none w1 hD).symm
        have Da : D ≠ a := (ne_of_none w2 hD).symm
        have Db : D ≠ b := (ne_of_none w3 hD).symm
        have hP : ∀ {H' : Hp} {n : Nat}, Stt p a b n H' → H' p ≠ none ∧ H' a ≠ none := fun q => by
          obtain ⟨u1, u2, u3, w1, w2, _⟩ := q.there
          exact ⟨(by rw [w1]; exact fun z => nomatch z), by rw [w2]; exact fun z => nomatch z⟩
        obtain ⟨HD, hHD⟩ : ∃ HD, HD = upd H4 D (HO.lst []) := ⟨_, rfl⟩
        have StD : Stt p a b (40 * i) HD := by rw [hHD]; exact St4.same (Same.new (o := .lst []) hD)
        have hDD : HD D = some (.lst []) := by rw [hHD]; exact upd_same
        have hDn : HD D ≠ none := by rw [hDD]; exact fun z => nomatch z
        refine lc_range (H1 := H4) (n := 13) (fun j H' => Stt p a b (40 * i + 3 * j) H' ∧ (∀ c, HD c ≠ none → H' c ≠ none) ∧ ∃ (acc : List V) (ds : List PyData), acc.length = j ∧ H' D = some (.lst acc) ∧ Paired (Itm K (fr HD H')) acc ds)
          (by rw [← hHD]; exact ⟨StD, fun c z => z, [], [], rfl, hDD, .nil⟩) ?_ ?_
        · rintro j H5 hj ⟨St5, dom, acc, ds, hl, h5, all⟩
          refine ⟨rfl, ?_⟩
          dsimp only [tYes]
          rw [if_pos rfl]
          refine ⟨_, rfl, _, rfl, p, a, b, _, rfl, St5, by omega, fun v1 d1 H6 i1 St6 B6 => ?_⟩
          refine ⟨_, rfl, p, a, b, _, 1000, rfl, St6, by omega, by decide, by decide, fun z H7 z0 z1 St7 B7 => ?_⟩
          refine ⟨by show 2 ≤ sizeLine; decide, fun q nq => ?_⟩
          obtain ⟨x1, x2, x3, y1, y2, y3⟩ := St7.there
          have S8 := Same.new (o := .lst [v1, .int z]) nq
          have h7 := B7 D _ (B6 D _ h5 Dp Da) Dp Da
          refine ⟨p, a, b, q, _, _, rfl, St7.same S8, by omega, upd_same, (ne_of_none y1 nq).symm, (ne_of_none y2 nq).symm, by show 0 < 2; decide, by show 2 ≤ 1000; decide, fun t y H9 hy St9 B9 => ?_⟩
          have h9 := B9 D _ (S8 _ _ h7) Dp Da
          have B79 : But p a H7 H9 := (But.of S8).trans B9
          have B59 : But p a H5 H9 := (B6.trans B7).trans B79
          have F59 : Same (fr HD H5) (fr HD H9) := fr_but B59 (hP StD).1 (hP StD).2
          have F9 : Same (fr HD H9) (fr HD (upd H9 D (.lst (acc ++ [y])))) := fr_step fun c o e n => by
            have nc : c ≠ D := fun z => hDn (by rw [← z]; exact n)
            rw [upd_ne nc]
            exact e
          have it : ∃ d, Itm K (fr HD H9) y d := by
            match t, hy with
            | 0, hy => cases hy; exact ⟨d1, (i1.keep (fr_but (B7.trans B79) (hP St5).1 (hP St5).2)).keep (fr_less dom)⟩
            | 1, hy => cases hy; exact ⟨_, itm_int _ z0 z1⟩
            | t + 2, hy => simp at hy
          obtain ⟨d, it⟩ := it
          refine ⟨acc, h9, by rw [hl]; exact small1000 (by omega), (St9.mono (by omega)).put Dp Da Db, fun c z => ?_, acc ++ [y], ds ++ [d], by rw [List.length_append, hl]; rfl, upd_same, paired_end (itms_same (F59.trans F9) all) (it.keep F9)⟩
          · by_cases e : c = D
            · rw [e, upd_same]; exact fun z => nomatch z
            · rw [upd_ne e]
              have z5 := dom c z
              by_cases e1 : c = p
              · rw [e1]; exact (hP St9).1
              · by_cases e2 : c = a
                · rw [e2]; exact (hP St9).2
                · cases q : H5 c with
                  | none => exact absurd q z5
                  | some o => rw [B59 c o q e1 e2]; exact fun z => nomatch z
        · rintro H5 ⟨St5, dom, acc, ds, hl, h5, all⟩
          have all5 := itms_same (fr_same HD H5) all
          match acc, hl, h5, all5 with
          | [v0, v1, v2, v3, v4, v5, v6, v7, v8, v9, v10, v11, v12], _, h5, all5 =>
            refine ⟨D, v0, v1, v2, v3, v4, v5, v6, v7, v8, v9, v10, v11, v12, ds, rfl, SqL.of h5, all5, fun H6 S6 => ⟨true, rfl, iteF ?_⟩⟩
            exact ⟨(St5.same S6).mono (by omega), _, _, rfl⟩
      · rintro σ H' ⟨_, v, u, rfl⟩
        exact k H'
end
end Cf
/-! The end of a law whose def is promised where no repr is under way. -/
namespace Cf
open PySem PySem.Spec PyProof.Rows L2
section
variable {P : Program} {w : World} {K : PySem.W.Frag} {mg mb : Str → Option Value} {k : Nat} {fa a : Addr} {fd : FuncData} {x : Str} {sp : Sp} {st : Shared} {vs : List Value} {ns : List Int}
/-- the script's own object -/
def scrO (vs : List Value) : Obj := { cls := .type "list", data := .seq vs.toArray }
/-- nothing is tracked but the script, where it is none of the module's own objects -/
noncomputable def scrH (K : PySem.W.Frag) (a : Addr) (vs : List Value) (ns : List Int) : Hp := fun b =>
  open Classical in if b = a ∧ K.lookup a = none then some (.frz (scrO vs) (.lst (ns.map V.int))) else none
theorem scrH_some {b : Addr} {u : HO} (h : scrH K a vs ns b = some u) : b = a ∧ K.lookup a = none ∧ u = .frz (scrO vs) (.lst (ns.map V.int)) := by
  unfold scrH at h
  split at h
  · rename_i c
    exact ⟨c.1, c.2, (Option.some.inj h).symm⟩
  · cases h
theorem scrH_at (h : K.lookup a = none) : scrH K a vs ns a = some (.frz (scrO vs) (.lst (ns.map V.int))) := by
  unfold scrH
  exact if_pos ⟨rfl, h⟩
theorem scrH_no (h : ∀ o, K.lookup a = some o → True) {b : Addr} (hb : b ≠ a ∨ K.lookup a ≠ none) : scrH K a vs ns b = none := by
  unfold scrH
  refine if_neg fun c => ?_
  rcases hb with z | z
  · exact z c.1
  · exact z c.2
theorem law_g (KX : K.In st.heap) (hns : st.heap.Ns mainGlobals mg) (hb : st.heap.Ns builtinsNs mb) (hbb : ∀ x : Str, x ≠ "__name__" → mb x = bootBuiltins x) (lim : st.heap.NoLimit) (hg : st.gens = #[])
    (ha : st.heap.get? a = some (scrO vs)) (hi : IntsAre vs ns) (hl : ns.length ≤ sizeLine) (room : Room k callerA)
    (F : ∀ base : Heap, K.In base → base.Ns mainGlobals mg → FnG P w K mg base CX0 k fa fd [x] sp) (hbind : ∀ (s : Shared) (u : Value), BindsTo s fd ⟨[u], []⟩ [(x, u)])
    (hsp : ∀ H : Hp, SqL K H a (ns.map V.int) → sp [.ref a] H (fun v _ => v = .bl true) fun _ _ _ => False) :
    codeAny (model P w) callerA (.call (.ref fa) ⟨[.ref a], []⟩) (fun r s' => r = .ok (.ret (.bool true)) ∧ OldK st.heap s'.heap ∧ s'.os = st.os ∧ AllBare s'.gens) st := by
  have vals := vals_ints hi
  have len := hi.length
  have inH : SqL K (scrH K a vs ns) a (ns.map V.int) := by
    cases q : K.lookup a with
    | none => exact Or.inl (Or.inr ⟨_, scrH_at q⟩)
    | some o =>
      have e := KX a o q
      rw [ha] at e
      cases e
      refine Or.inr ⟨_, vs.toArray, _, q, rfl, rfl, rfl, ?_, ?_⟩
      · rw [List.size_toArray]; omega
      · simpa using vals
  have held : HOk P w (scrH K a vs ns) st.heap := by
    intro b u e
    obtain ⟨rfl, _, rfl⟩ := scrH_some e
    refine ⟨ha, ?_, vs, _, vals, ha⟩
    rw [List.length_map]
    exact hl
  -- what is not the script stands in the base
  have put : ∀ {b : Addr} {o : Obj}, st.heap.get? b = some o → scrH K a vs ns b = none → (hidT st.heap (scrH K a vs ns)).get? b = some o := fun e n => hidT_get e n
  have names : ∀ {b : Addr} {m : Str → Option Value}, st.heap.Ns b m → (hidT st.heap (scrH K a vs ns)).Ns b m := by
    rintro b m ⟨o, es, ep, e, d, r⟩
    refine ⟨o, es, ep, put e ?_, d, r⟩
    cases q : scrH K a vs ns b with
    | none => rfl
    | some u =>
      obtain ⟨rfl, _, _⟩ := scrH_some q
      rw [ha] at e
      cases e
      cases (show Data.seq vs.toArray _ = Data.dict es ep from d)
  have inB : K.In (hidT st.heap (scrH K a vs ns)) := by
    intro b o e
    refine put (KX b o e) ?_
    cases q : scrH K a vs ns b with
    | none => rfl
    | some u =>
      obtain ⟨rfl, z, _⟩ := scrH_some q
      rw [z] at e
      cases e
  have md : Mod K mg (hidT st.heap (scrH K a vs ns)) := by
    obtain ⟨mc, l1, l2⟩ := lim
    exact { kin := inB, glob := names hns, blt := ⟨mb, names hb, hbb⟩, nolimit := ⟨mc, names l1, l2⟩ }
  have env : Env0 P w K mg (hidT st.heap (scrH K a vs ns)) callerA [] st (scrH K a vs ns) :=
    { frames := rfl, mod := md, bs := fun _ _ e => of_hidT e, bsz := Nat.le_of_eq (hidT_size _ _), funs := trivial, frf := fun b hb => (by cases hb), hok := held, bare := .of_eq hg }
  refine codeAny_mono ((F _ inB (names hns)).go callerA rfl [] st (scrH K a vs ns) ⟨[.ref a], []⟩ [.ref a] [.ref a] _ _ room env (hbind st (.ref a)) (.cons rfl .nil) (hsp _ inH)) ?_
  intro r s' h
  match r, h with
  | .error e, h => exact (h : False).elim
  | .ok .next, h => exact (h : False).elim
  | .ok .brk, h => exact (h : False).elim
  | .ok .cont, h => exact (h : False).elim
  | .ok (.ret u), ⟨v, H', os, bare, un, hok', rv, q⟩ =>
    subst q
    cases (show u = Value.bool true from rv)
    refine ⟨rfl, OldK.of_keep fun b o e => ?_, os, bare⟩
    cases q : scrH K a vs ns b with
    | none => exact un.keep b o e q (by intro z; cases z) (by intro z; cases z)
    | some u =>
      obtain ⟨rfl, _, rfl⟩ := scrH_some q
      have z := un.frzs b _ _ q
      obtain ⟨e2, _⟩ := hok' b _ z
      rw [ha] at e
      cases e
      exact e2
end
theorem walk_g {l : PySem.W.OpenLaw} {n k : Nat} {q : Program} {loose : List Str} {XP : (Str → Option Value) → Heap → Prop} {YP : World → Heap → Prop} {d : DefRec} {K : Params → PySem.W.Frag} {sp : PySem.W.Frag → Sp} {x : Str}
    (most : l.most = some n) (n2 : n ≤ sizeLine) (dflt : d.params.defaults = []) (room : Room k callerA) (hY : ∀ (w : World) (h : Heap), YP w h → (K w.params).In h)
    (F : ∀ (w : World) (mg : Str → Option Value) (fa : Addr) (h : Heap), (K w.params).In h → h.Ns mainGlobals mg → mg d.name = some (.ref fa) →
      ∃ fd : FuncData, (∀ (s : Shared) (u : Value), BindsTo s fd ⟨[u], []⟩ [(x, u)]) ∧ ∀ base : Heap, (K w.params).In base → base.Ns mainGlobals mg → FnG l.prog w (K w.params) mg base CX0 k fa fd [x] (sp (K w.params)))
    (hsp : ∀ (K : PySem.W.Frag) (H : Hp) (a : Addr) (ns : List Int), ns.length ≤ n → SqL K H a (ns.map V.int) → sp K [.ref a] H (fun v _ => v = .bl true) fun _ _ _ => False) :
    PySem.W.WalkO q loose XP YP l.row.toRowW d [] (fun f vs => PySem.call f vs) := by
  apply Att.attach_call most dflt
  intro w s0 s1 mg mb fa o pm cd doc a vs ns G Y ho hd hcd hmg hobj hints hlen hg
  have inK := hY w _ Y
  obtain ⟨fd, hb, hF⟩ := F w mg fa _ inK G.T.g hmg
  exact law_g inK G.T.g G.T.b G.T.builtins G.T.nolimit hg hobj hints (Nat.le_trans hlen n2) room hF hb fun H hS => hsp _ H a ns hlen hS
end Cf
namespace Cf
open PySem L2
theorem getD_rel : ∀ {vs : List V} {us : List Value} (i : Nat), Vals vs us → RelV (vs.getD i .non) (us.getD i .none)
  | _, _, _, .nil => rfl
  | _, _, 0, .cons r _ => r
  | _, _, i + 1, .cons _ t => getD_rel i t

set_option maxHeartbeats 4000000 in
theorem all_mk {l : PySem.W.OpenLaw} {w : World} {K : PySem.W.Frag} {h : Heap} {mg : Str → Option Value} {fa : Addr} (X : K.In h) (G : h.Ns mainGlobals mg) (hfa : mg "law" = some (.ref fa))
    {f0 : Addr} {od0 an0 : Option Addr} {sl0 : Array (Option Value)} {oc0 kV0 dc0 pm0 cd0 ct0 : Value}
    {f1 : Addr} {od1 an1 : Option Addr} {sl1 : Array (Option Value)} {oc1 kV1 dc1 pm1 cd1 ct1 : Value}
    {f2 : Addr} {od2 an2 : Option Addr} {sl2 : Array (Option Value)} {oc2 kV2 dc2 pm2 cd2 ct2 : Value}
    {f3 : Addr} {od3 an3 : Option Addr} {sl3 : Array (Option Value)} {oc3 kV3 dc3 pm3 cd3 ct3 : Value}
    {f4 : Addr} {od4 an4 : Option Addr} {sl4 : Array (Option Value)} {oc4 kV4 dc4 pm4 cd4 ct4 : Value}
    {f5 : Addr} {od5 an5 : Option Addr} {sl5 : Array (Option Value)} {oc5 kV5 dc5 pm5 cd5 ct5 : Value}
    {f6 : Addr} {od6 an6 : Option Addr} {sl6 : Array (Option Value)} {oc6 kV6 dc6 pm6 cd6 ct6 : Value}
    {f7 : Addr} {od7 an7 : Option Addr} {sl7 : Array (Option Value)} {oc7 kV7 dc7 pm7 cd7 ct7 : Value}
    {f8 : Addr} {od8 an8 : Option Addr} {sl8 : Array (Option Value)} {oc8 kV8 dc8 pm8 cd8 ct8 : Value}
    {cE y0 y1 y2 y3 y4 y5 y6 y7 y8 y9 y10 y11 : Addr}
    {nmE qE : Str} {NE : Addr} {bsE : List Value} {snE : List Str} {subE : List Value} {abE : Bool} {colE : Option Bool} {ddE : Option Addr} {kaE kbE kcE kdE keE : Option Value}
    {i0 i1 i2 i3 i4 i5 i6 i7 i8 i9 i10 i11 : Addr}
    {nm0 q0 : Str} {N0 : Addr} {bs0 : List Value} {sn0 : List Str} {sub0 : List Value} {ab0 : Bool} {col0 : Option Bool} {dd0 : Option Addr} {ka0 kb0 kc0 kd0 ke0 : Option Value}
    {ic0 ik0 id0 ip0 ie0 it0 : Value} {io0 ia0 : Option Addr} {is0 : Array (Option Value)}
    {nm1 q1 : Str} {N1 : Addr} {bs1 : List Value} {sn1 : List Str} {sub1 : List Value} {ab1 : Bool} {col1 : Option Bool} {dd1 : Option Addr} {ka1 kb1 kc1 kd1 ke1 : Option Value}
    {ic1 ik1 id1 ip1 ie1 it1 : Value} {io1 ia1 : Option Addr} {is1 : Array (Option Value)}
    {nm2 q2 : Str} {N2 : Addr} {bs2 : List Value} {sn2 : List Str} {sub2 : List Value} {ab2 : Bool} {col2 : Option Bool} {dd2 : Option Addr} {ka2 kb2 kc2 kd2 ke2 : Option Value}
    {ic2 ik2 id2 ip2 ie2 it2 : Value} {io2 ia2 : Option Addr} {is2 : Array (Option Value)}
    {nm3 q3 : Str} {N3 : Addr} {bs3 : List Value} {sn3 : List Str} {sub3 : List Value} {ab3 : Bool} {col3 : Option Bool} {dd3 : Option Addr} {ka3 kb3 kc3 kd3 ke3 : Option Value}
    {ic3 ik3 id3 ip3 ie3 it3 : Value} {io3 ia3 : Option Addr} {is3 : Array (Option Value)}
    {nm4 q4 : Str} {N4 : Addr} {bs4 : List Value} {sn4 : List Str} {sub4 : List Value} {ab4 : Bool} {col4 : Option Bool} {dd4 : Option Addr} {ka4 kb4 kc4 kd4 ke4 : Option Value}
    {ic4 ik4 id4 ip4 ie4 it4 : Value} {io4 ia4 : Option Addr} {is4 : Array (Option Value)}
    {nm5 q5 : Str} {N5 : Addr} {bs5 : List Value} {sn5 : List Str} {sub5 : List Value} {ab5 : Bool} {col5 : Option Bool} {dd5 : Option Addr} {ka5 kb5 kc5 kd5 ke5 : Option Value}
    {ic5 ik5 id5 ip5 ie5 it5 : Value} {io5 ia5 : Option Addr} {is5 : Array (Option Value)}
    {nm6 q6 : Str} {N6 : Addr} {bs6 : List Value} {sn6 : List Str} {sub6 : List Value} {ab6 : Bool} {col6 : Option Bool} {dd6 : Option Addr} {ka6 kb6 kc6 kd6 ke6 : Option Value}
    {ic6 ik6 id6 ip6 ie6 it6 : Value} {io6 ia6 : Option Addr} {is6 : Array (Option Value)}
    {nm7 q7 : Str} {N7 : Addr} {bs7 : List Value} {sn7 : List Str} {sub7 : List Value} {ab7 : Bool} {col7 : Option Bool} {dd7 : Option Addr} {ka7 kb7 kc7 kd7 ke7 : Option Value}
    {ic7 ik7 id7 ip7 ie7 it7 : Value} {io7 ia7 : Option Addr} {is7 : Array (Option Value)}
    {nm8 q8 : Str} {N8 : Addr} {bs8 : List Value} {sn8 : List Str} {sub8 : List Value} {ab8 : Bool} {col8 : Option Bool} {dd8 : Option Addr} {ka8 kb8 kc8 kd8 ke8 : Option Value}
    {ic8 ik8 id8 ip8 ie8 it8 : Value} {io8 ia8 : Option Addr} {is8 : Array (Option Value)}
    {nm9 q9 : Str} {N9 : Addr} {bs9 : List Value} {sn9 : List Str} {sub9 : List Value} {ab9 : Bool} {col9 : Option Bool} {dd9 : Option Addr} {ka9 kb9 kc9 kd9 ke9 : Option Value}
    {ic9 ik9 id9 ip9 ie9 it9 : Value} {io9 ia9 : Option Addr} {is9 : Array (Option Value)}
    {nm10 q10 : Str} {N10 : Addr} {bs10 : List Value} {sn10 : List Str} {sub10 : List Value} {ab10 : Bool} {col10 : Option Bool} {dd10 : Option Addr} {ka10 kb10 kc10 kd10 ke10 : Option Value}
    {ic10 ik10 id10 ip10 ie10 it10 : Value} {io10 ia10 : Option Addr} {is10 : Array (Option Value)}
    {nm11 q11 : Str} {N11 : Addr} {bs11 : List Value} {sn11 : List Str} {sub11 : List Value} {ab11 : Bool} {col11 : Option Bool} {dd11 : Option Addr} {ka11 kb11 kc11 kd11 ke11 : Option Value}
    {ic11 ik11 id11 ip11 ie11 it11 : Value} {io11 ia11 : Option Addr} {is11 : Array (Option Value)}
    (a0 : PySem.W.nsIn K mainGlobals "_law_begun" = some (some (.ref f0)))
    (l0 : K.lookup f0 = some ⟨oc0, od0, .func (PySem.W.fnOf "_law_begun" "_law_begun" (defArgs sLawBegun) (defBody sLawBegun) (defScope sLawBegun) .none kV0 dc0 pm0 an0 cd0 ct0), sl0⟩)
    (c0 : PySem.W.codeIn K cd0 "_law_begun" = true)
    (k0 : PySem.W.keepIn K (.ref f0) = true)
    (a1 : PySem.W.nsIn K mainGlobals "_law_mixed" = some (some (.ref f1)))
    (l1 : K.lookup f1 = some ⟨oc1, od1, .func (PySem.W.fnOf "_law_mixed" "_law_mixed" (defArgs sLawMixed) (defBody sLawMixed) (defScope sLawMixed) .none kV1 dc1 pm1 an1 cd1 ct1), sl1⟩)
    (c1 : PySem.W.codeIn K cd1 "_law_mixed" = true)
    (k1 : PySem.W.keepIn K (.ref f1) = true)
    (a2 : PySem.W.nsIn K mainGlobals "_law_take" = some (some (.ref f2)))
    (l2 : K.lookup f2 = some ⟨oc2, od2, .func (PySem.W.fnOf "_law_take" "_law_take" (defArgs sLawTake) (defBody sLawTake) (defScope sLawTake) .none kV2 dc2 pm2 an2 cd2 ct2), sl2⟩)
    (c2 : PySem.W.codeIn K cd2 "_law_take" = true)
    (k2 : PySem.W.keepIn K (.ref f2) = true)
    (a3 : PySem.W.nsIn K mainGlobals "_law_pick" = some (some (.ref f3)))
    (l3 : K.lookup f3 = some ⟨oc3, od3, .func (PySem.W.fnOf "_law_pick" "_law_pick" (defArgs sLawPick) (defBody sLawPick) (defScope sLawPick) .none kV3 dc3 pm3 an3 cd3 ct3), sl3⟩)
    (c3 : PySem.W.codeIn K cd3 "_law_pick" = true)
    (k3 : PySem.W.keepIn K (.ref f3) = true)
    (a4 : PySem.W.nsIn K mainGlobals "_law_odd" = some (some (.ref f4)))
    (l4 : K.lookup f4 = some ⟨oc4, od4, .func (PySem.W.fnOf "_law_odd" "_law_odd" (defArgs sLawOdd) (defBody sLawOdd) (defScope sLawOdd) .none kV4 dc4 pm4 an4 cd4 ct4), sl4⟩)
    (c4 : PySem.W.codeIn K cd4 "_law_odd" = true)
    (k4 : PySem.W.keepIn K (.ref f4) = true)
    (a5 : PySem.W.nsIn K mainGlobals "_law_marks" = some (some (.ref f5)))
    (l5 : K.lookup f5 = some ⟨oc5, od5, .func (PySem.W.fnOf "_law_marks" "_law_marks" (defArgs sLawMarks) (defBody sLawMarks) (defScope sLawMarks) .none kV5 dc5 pm5 an5 cd5 ct5), sl5⟩)
    (c5 : PySem.W.codeIn K cd5 "_law_marks" = true)
    (k5 : PySem.W.keepIn K (.ref f5) = true)
    (a6 : PySem.W.nsIn K mainGlobals "_law_kept" = some (some (.ref f6)))
    (l6 : K.lookup f6 = some ⟨oc6, od6, .func (PySem.W.fnOf "_law_kept" "_law_kept" (defArgs sLawKept) (defBody sLawKept) (defScope sLawKept) .none kV6 dc6 pm6 an6 cd6 ct6), sl6⟩)
    (c6 : PySem.W.codeIn K cd6 "_law_kept" = true)
    (k6 : PySem.W.keepIn K (.ref f6) = true)
    (a7 : PySem.W.nsIn K mainGlobals "_law_right" = some (some (.ref f7)))
    (l7 : K.lookup f7 = some ⟨oc7, od7, .func (PySem.W.fnOf "_law_right" "_law_right" (defArgs sLawRight) (defBody sLawRight) (defScope sLawRight) .none kV7 dc7 pm7 an7 cd7 ct7), sl7⟩)
    (c7 : PySem.W.codeIn K cd7 "_law_right" = true)
    (k7 : PySem.W.keepIn K (.ref f7) = true)
    (a8 : PySem.W.nsIn K mainGlobals "law" = some (some (.ref f8)))
    (l8 : K.lookup f8 = some ⟨oc8, od8, .func (PySem.W.fnOf "law" "law" (defArgs sLaw) (defBody sLaw) (defScope sLaw) .none kV8 dc8 pm8 an8 cd8 ct8), sl8⟩)
    (c8 : PySem.W.codeIn K cd8 "law" = true)
    (k8 : PySem.W.keepIn K (.ref f8) = true)
    (z_abs : PySem.W.nsIn K mainGlobals "abs" = some none)
    (z_int : PySem.W.nsIn K mainGlobals "int" = some none)
    (z_bool : PySem.W.nsIn K mainGlobals "bool" = some none)
    (z_isinstance : PySem.W.nsIn K mainGlobals "isinstance" = some none)
    (z_sum : PySem.W.nsIn K mainGlobals "sum" = some none)
    (z_divmod : PySem.W.nsIn K mainGlobals "divmod" = some none)
    (z_min : PySem.W.nsIn K mainGlobals "min" = some none)
    (z_len : PySem.W.nsIn K mainGlobals "len" = some none)
    (z_range : PySem.W.nsIn K mainGlobals "range" = some none)
    (z_repr : PySem.W.nsIn K mainGlobals "repr" = some none)
    (mE : PySem.W.nsIn K mainGlobals "ClockError" = some (some (.ref cE)))
    (m0 : PySem.W.nsIn K mainGlobals "BadNumber" = some (some (.ref y0)))
    (m1 : PySem.W.nsIn K mainGlobals "BadDate" = some (some (.ref y1)))
    (m2 : PySem.W.nsIn K mainGlobals "BadDays" = some (some (.ref y2)))
    (m3 : PySem.W.nsIn K mainGlobals "BadYearly" = some (some (.ref y3)))
    (m4 : PySem.W.nsIn K mainGlobals "BadRow" = some (some (.ref y4)))
    (m5 : PySem.W.nsIn K mainGlobals "BadOrder" = some (some (.ref y5)))
    (m6 : PySem.W.nsIn K mainGlobals "BadZone" = some (some (.ref y6)))
    (m7 : PySem.W.nsIn K mainGlobals "BadWord" = some (some (.ref y7)))
    (m8 : PySem.W.nsIn K mainGlobals "TooFew" = some (some (.ref y8)))
    (m9 : PySem.W.nsIn K mainGlobals "BadLog" = some (some (.ref y9)))
    (m10 : PySem.W.nsIn K mainGlobals "BadLimit" = some (some (.ref y10)))
    (m11 : PySem.W.nsIn K mainGlobals "BadText" = some (some (.ref y11)))
    (hn : PySem.W.specialIn K (.builtin "object.__class__") "__get__" = some (some (.builtin "getset_descriptor.__get__")))
    (ht : PySem.W.takesIn K (.builtin "object.__class__") = some true)
    (thE : K.lookup cE = some (excClassObj nmE qE cE NE bsE [.type "ValueError", .type "Exception", .type "BaseException", .type "object"] true snE subE abE colE ddE kaE kbE kcE kdE keE "ValueError.__new__"))
    (saE : PySem.W.findIn K (.ref cE) "__setattr__" = some (some (.builtin "object.__setattr__")))
    (gaE : PySem.W.findIn K (.ref cE) "__getattribute__" = some (some (.builtin "BaseException.__getattribute__")))
    (ggE : PySem.W.findIn K (.ref cE) "__getattr__" = some none)
    (clE : PySem.W.findIn K (.ref cE) "__class__" = some (some (.builtin "object.__class__")))
    (kpE : PySem.W.keepIn K (.ref cE) = true)
    (xE : PySem.W.excIn K cE [.type "ValueError", .type "Exception", .type "BaseException", .type "object"] "ValueError.__new__" = true)
    (nD : [cE, y0, y1, y2, y3, y4, y5, y6, y7, y8, y9, y10, y11].Nodup)
    (tE : PySem.W.nsIn K mainGlobals "enumerate" = some none)
    (tV : PySem.W.nsIn K mainGlobals "ValueError" = some none)
    (th0 : K.lookup y0 = some (excClassObj nm0 q0 y0 N0 bs0 (.ref cE :: [.type "ValueError", .type "Exception", .type "BaseException", .type "object"]) true sn0 sub0 ab0 col0 dd0 ka0 kb0 kc0 kd0 ke0 "ValueError.__new__"))
    (sa0 : PySem.W.findIn K (.ref y0) "__setattr__" = some (some (.builtin "object.__setattr__")))
    (ga0 : PySem.W.findIn K (.ref y0) "__getattribute__" = some (some (.builtin "BaseException.__getattribute__")))
    (gg0 : PySem.W.findIn K (.ref y0) "__getattr__" = some none)
    (cl0 : PySem.W.findIn K (.ref y0) "__class__" = some (some (.builtin "object.__class__")))
    (kp0 : PySem.W.keepIn K (.ref y0) = true)
    (in0 : PySem.W.findIn K (.ref y0) "__init__" = some (some (.ref i0)))
    (il0 : K.lookup i0 = some ⟨ic0, io0, .func (PySem.W.fnOf "__init__" "BadNumber.__init__" (defArgs (inner sBadnumber)) (defBody (inner sBadnumber)) (defScope (inner sBadnumber)) .none ik0 id0 ip0 ia0 ie0 it0), is0⟩)
    (io_0 : PySem.W.codeIn K ie0 "BadNumber.__init__" = true)
    (ik_0 : PySem.W.keepIn K (.ref i0) = true)
    (ity0 : PySem.W.typeIn K (.ref i0) = some (.type "function"))
    (f0_0 : PySem.W.findIn K (.ref y0) "value" = some none)
    (th1 : K.lookup y1 = some (excClassObj nm1 q1 y1 N1 bs1 (.ref cE :: [.type "ValueError", .type "Exception", .type "BaseException", .type "object"]) true sn1 sub1 ab1 col1 dd1 ka1 kb1 kc1 kd1 ke1 "ValueError.__new__"))
    (sa1 : PySem.W.findIn K (.ref y1) "__setattr__" = some (some (.builtin "object.__setattr__")))
    (ga1 : PySem.W.findIn K (.ref y1) "__getattribute__" = some (some (.builtin "BaseException.__getattribute__")))
    (gg1 : PySem.W.findIn K (.ref y1) "__getattr__" = some none)
    (cl1 : PySem.W.findIn K (.ref y1) "__class__" = some (some (.builtin "object.__class__")))
    (kp1 : PySem.W.keepIn K (.ref y1) = true)
    (in1 : PySem.W.findIn K (.ref y1) "__init__" = some (some (.ref i1)))
    (il1 : K.lookup i1 = some ⟨ic1, io1, .func (PySem.W.fnOf "__init__" "BadDate.__init__" (defArgs (inner sBaddate)) (defBody (inner sBaddate)) (defScope (inner sBaddate)) .none ik1 id1 ip1 ia1 ie1 it1), is1⟩)
    (io_1 : PySem.W.codeIn K ie1 "BadDate.__init__" = true)
    (ik_1 : PySem.W.keepIn K (.ref i1) = true)
    (ity1 : PySem.W.typeIn K (.ref i1) = some (.type "function"))
    (f1_0 : PySem.W.findIn K (.ref y1) "value" = some none)
    (th2 : K.lookup y2 = some (excClassObj nm2 q2 y2 N2 bs2 (.ref cE :: [.type "ValueError", .type "Exception", .type "BaseException", .type "object"]) true sn2 sub2 ab2 col2 dd2 ka2 kb2 kc2 kd2 ke2 "ValueError.__new__"))
    (sa2 : PySem.W.findIn K (.ref y2) "__setattr__" = some (some (.builtin "object.__setattr__")))
    (ga2 : PySem.W.findIn K (.ref y2) "__getattribute__" = some (some (.builtin "BaseException.__getattribute__")))
    (gg2 : PySem.W.findIn K (.ref y2) "__getattr__" = some none)
    (cl2 : PySem.W.findIn K (.ref y2) "__class__" = some (some (.builtin "object.__class__")))
    (kp2 : PySem.W.keepIn K (.ref y2) = true)
    (in2 : PySem.W.findIn K (.ref y2) "__init__" = some (some (.ref i2)))
    (il2 : K.lookup i2 = some ⟨ic2, io2, .func (PySem.W.fnOf "__init__" "BadDays.__init__" (defArgs (inner sBaddays)) (defBody (inner sBaddays)) (defScope (inner sBaddays)) .none ik2 id2 ip2 ia2 ie2 it2), is2⟩)
    (io_2 : PySem.W.codeIn K ie2 "BadDays.__init__" = true)
    (ik_2 : PySem.W.keepIn K (.ref i2) = true)
    (ity2 : PySem.W.typeIn K (.ref i2) = some (.type "function"))
    (f2_0 : PySem.W.findIn K (.ref y2) "value" = some none)
    (th3 : K.lookup y3 = some (excClassObj nm3 q3 y3 N3 bs3 (.ref cE :: [.type "ValueError", .type "Exception", .type "BaseException", .type "object"]) true sn3 sub3 ab3 col3 dd3 ka3 kb3 kc3 kd3 ke3 "ValueError.__new__"))
    (sa3 : PySem.W.findIn K (.ref y3) "__setattr__" = some (some (.builtin "object.__setattr__")))
    (ga3 : PySem.W.findIn K (.ref y3) "__getattribute__" = some (some (.builtin "BaseException.__getattribute__")))
    (gg3 : PySem.W.findIn K (.ref y3) "__getattr__" = some none)
    (cl3 : PySem.W.findIn K (.ref y3) "__class__" = some (some (.builtin "object.__class__")))
    (kp3 : PySem.W.keepIn K (.ref y3) = true)
    (in3 : PySem.W.findIn K (.ref y3) "__init__" = some (some (.ref i3)))
    (il3 : K.lookup i3 = some ⟨ic3, io3, .func (PySem.W.fnOf "__init__" "BadYearly.__init__" (defArgs (inner sBadyearly)) (defBody (inner sBadyearly)) (defScope (inner sBadyearly)) .none ik3 id3 ip3 ia3 ie3 it3), is3⟩)
    (io_3 : PySem.W.codeIn K ie3 "BadYearly.__init__" = true)
    (ik_3 : PySem.W.keepIn K (.ref i3) = true)
    (ity3 : PySem.W.typeIn K (.ref i3) = some (.type "function"))
    (f3_0 : PySem.W.findIn K (.ref y3) "value" = some none)
    (th4 : K.lookup y4 = some (excClassObj nm4 q4 y4 N4 bs4 (.ref cE :: [.type "ValueError", .type "Exception", .type "BaseException", .type "object"]) true sn4 sub4 ab4 col4 dd4 ka4 kb4 kc4 kd4 ke4 "ValueError.__new__"))
    (sa4 : PySem.W.findIn K (.ref y4) "__setattr__" = some (some (.builtin "object.__setattr__")))
    (ga4 : PySem.W.findIn K (.ref y4) "__getattribute__" = some (some (.builtin "BaseException.__getattribute__")))
    (gg4 : PySem.W.findIn K (.ref y4) "__getattr__" = some none)
    (cl4 : PySem.W.findIn K (.ref y4) "__class__" = some (some (.builtin "object.__class__")))
    (kp4 : PySem.W.keepIn K (.ref y4) = true)
    (in4 : PySem.W.findIn K (.ref y4) "__init__" = some (some (.ref i4)))
    (il4 : K.lookup i4 = some ⟨ic4, io4, .func (PySem.W.fnOf "__init__" "BadRow.__init__" (defArgs (inner sBadrow)) (defBody (inner sBadrow)) (defScope (inner sBadrow)) .none ik4 id4 ip4 ia4 ie4 it4), is4⟩)
    (io_4 : PySem.W.codeIn K ie4 "BadRow.__init__" = true)
    (ik_4 : PySem.W.keepIn K (.ref i4) = true)
    (ity4 : PySem.W.typeIn K (.ref i4) = some (.type "function"))
    (f4_0 : PySem.W.findIn K (.ref y4) "index" = some none)
    (th5 : K.lookup y5 = some (excClassObj nm5 q5 y5 N5 bs5 (.ref cE :: [.type "ValueError", .type "Exception", .type "BaseException", .type "object"]) true sn5 sub5 ab5 col5 dd5 ka5 kb5 kc5 kd5 ke5 "ValueError.__new__"))
    (sa5 : PySem.W.findIn K (.ref y5) "__setattr__" = some (some (.builtin "object.__setattr__")))
    (ga5 : PySem.W.findIn K (.ref y5) "__getattribute__" = some (some (.builtin "BaseException.__getattribute__")))
    (gg5 : PySem.W.findIn K (.ref y5) "__getattr__" = some none)
    (cl5 : PySem.W.findIn K (.ref y5) "__class__" = some (some (.builtin "object.__class__")))
    (kp5 : PySem.W.keepIn K (.ref y5) = true)
    (in5 : PySem.W.findIn K (.ref y5) "__init__" = some (some (.ref i5)))
    (il5 : K.lookup i5 = some ⟨ic5, io5, .func (PySem.W.fnOf "__init__" "BadOrder.__init__" (defArgs (inner sBadorder)) (defBody (inner sBadorder)) (defScope (inner sBadorder)) .none ik5 id5 ip5 ia5 ie5 it5), is5⟩)
    (io_5 : PySem.W.codeIn K ie5 "BadOrder.__init__" = true)
    (ik_5 : PySem.W.keepIn K (.ref i5) = true)
    (ity5 : PySem.W.typeIn K (.ref i5) = some (.type "function"))
    (f5_0 : PySem.W.findIn K (.ref y5) "year" = some none)
    (f5_1 : PySem.W.findIn K (.ref y5) "index" = some none)
    (th6 : K.lookup y6 = some (excClassObj nm6 q6 y6 N6 bs6 (.ref cE :: [.type "ValueError", .type "Exception", .type "BaseException", .type "object"]) true sn6 sub6 ab6 col6 dd6 ka6 kb6 kc6 kd6 ke6 "ValueError.__new__"))
    (sa6 : PySem.W.findIn K (.ref y6) "__setattr__" = some (some (.builtin "object.__setattr__")))
    (ga6 : PySem.W.findIn K (.ref y6) "__getattribute__" = some (some (.builtin "BaseException.__getattribute__")))
    (gg6 : PySem.W.findIn K (.ref y6) "__getattr__" = some none)
    (cl6 : PySem.W.findIn K (.ref y6) "__class__" = some (some (.builtin "object.__class__")))
    (kp6 : PySem.W.keepIn K (.ref y6) = true)
    (in6 : PySem.W.findIn K (.ref y6) "__init__" = some (some (.ref i6)))
    (il6 : K.lookup i6 = some ⟨ic6, io6, .func (PySem.W.fnOf "__init__" "BadZone.__init__" (defArgs (inner sBadzone)) (defBody (inner sBadzone)) (defScope (inner sBadzone)) .none ik6 id6 ip6 ia6 ie6 it6), is6⟩)
    (io_6 : PySem.W.codeIn K ie6 "BadZone.__init__" = true)
    (ik_6 : PySem.W.keepIn K (.ref i6) = true)
    (ity6 : PySem.W.typeIn K (.ref i6) = some (.type "function"))
    (f6_0 : PySem.W.findIn K (.ref y6) "index" = some none)
    (th7 : K.lookup y7 = some (excClassObj nm7 q7 y7 N7 bs7 (.ref cE :: [.type "ValueError", .type "Exception", .type "BaseException", .type "object"]) true sn7 sub7 ab7 col7 dd7 ka7 kb7 kc7 kd7 ke7 "ValueError.__new__"))
    (sa7 : PySem.W.findIn K (.ref y7) "__setattr__" = some (some (.builtin "object.__setattr__")))
    (ga7 : PySem.W.findIn K (.ref y7) "__getattribute__" = some (some (.builtin "BaseException.__getattribute__")))
    (gg7 : PySem.W.findIn K (.ref y7) "__getattr__" = some none)
    (cl7 : PySem.W.findIn K (.ref y7) "__class__" = some (some (.builtin "object.__class__")))
    (kp7 : PySem.W.keepIn K (.ref y7) = true)
    (in7 : PySem.W.findIn K (.ref y7) "__init__" = some (some (.ref i7)))
    (il7 : K.lookup i7 = some ⟨ic7, io7, .func (PySem.W.fnOf "__init__" "BadWord.__init__" (defArgs (inner sBadword)) (defBody (inner sBadword)) (defScope (inner sBadword)) .none ik7 id7 ip7 ia7 ie7 it7), is7⟩)
    (io_7 : PySem.W.codeIn K ie7 "BadWord.__init__" = true)
    (ik_7 : PySem.W.keepIn K (.ref i7) = true)
    (ity7 : PySem.W.typeIn K (.ref i7) = some (.type "function"))
    (f7_0 : PySem.W.findIn K (.ref y7) "value" = some none)
    (th8 : K.lookup y8 = some (excClassObj nm8 q8 y8 N8 bs8 (.ref cE :: [.type "ValueError", .type "Exception", .type "BaseException", .type "object"]) true sn8 sub8 ab8 col8 dd8 ka8 kb8 kc8 kd8 ke8 "ValueError.__new__"))
    (sa8 : PySem.W.findIn K (.ref y8) "__setattr__" = some (some (.builtin "object.__setattr__")))
    (ga8 : PySem.W.findIn K (.ref y8) "__getattribute__" = some (some (.builtin "BaseException.__getattribute__")))
    (gg8 : PySem.W.findIn K (.ref y8) "__getattr__" = some none)
    (cl8 : PySem.W.findIn K (.ref y8) "__class__" = some (some (.builtin "object.__class__")))
    (kp8 : PySem.W.keepIn K (.ref y8) = true)
    (in8 : PySem.W.findIn K (.ref y8) "__init__" = some (some (.ref i8)))
    (il8 : K.lookup i8 = some ⟨ic8, io8, .func (PySem.W.fnOf "__init__" "TooFew.__init__" (defArgs (inner sToofew)) (defBody (inner sToofew)) (defScope (inner sToofew)) .none ik8 id8 ip8 ia8 ie8 it8), is8⟩)
    (io_8 : PySem.W.codeIn K ie8 "TooFew.__init__" = true)
    (ik_8 : PySem.W.keepIn K (.ref i8) = true)
    (ity8 : PySem.W.typeIn K (.ref i8) = some (.type "function"))
    (f8_0 : PySem.W.findIn K (.ref y8) "number" = some none)
    (th9 : K.lookup y9 = some (excClassObj nm9 q9 y9 N9 bs9 (.ref cE :: [.type "ValueError", .type "Exception", .type "BaseException", .type "object"]) true sn9 sub9 ab9 col9 dd9 ka9 kb9 kc9 kd9 ke9 "ValueError.__new__"))
    (sa9 : PySem.W.findIn K (.ref y9) "__setattr__" = some (some (.builtin "object.__setattr__")))
    (ga9 : PySem.W.findIn K (.ref y9) "__getattribute__" = some (some (.builtin "BaseException.__getattribute__")))
    (gg9 : PySem.W.findIn K (.ref y9) "__getattr__" = some none)
    (cl9 : PySem.W.findIn K (.ref y9) "__class__" = some (some (.builtin "object.__class__")))
    (kp9 : PySem.W.keepIn K (.ref y9) = true)
    (in9 : PySem.W.findIn K (.ref y9) "__init__" = some (some (.ref i9)))
    (il9 : K.lookup i9 = some ⟨ic9, io9, .func (PySem.W.fnOf "__init__" "BadLog.__init__" (defArgs (inner sBadlog)) (defBody (inner sBadlog)) (defScope (inner sBadlog)) .none ik9 id9 ip9 ia9 ie9 it9), is9⟩)
    (io_9 : PySem.W.codeIn K ie9 "BadLog.__init__" = true)
    (ik_9 : PySem.W.keepIn K (.ref i9) = true)
    (ity9 : PySem.W.typeIn K (.ref i9) = some (.type "function"))
    (f9_0 : PySem.W.findIn K (.ref y9) "index" = some none)
    (th10 : K.lookup y10 = some (excClassObj nm10 q10 y10 N10 bs10 (.ref cE :: [.type "ValueError", .type "Exception", .type "BaseException", .type "object"]) true sn10 sub10 ab10 col10 dd10 ka10 kb10 kc10 kd10 ke10 "ValueError.__new__"))
    (sa10 : PySem.W.findIn K (.ref y10) "__setattr__" = some (some (.builtin "object.__setattr__")))
    (ga10 : PySem.W.findIn K (.ref y10) "__getattribute__" = some (some (.builtin "BaseException.__getattribute__")))
    (gg10 : PySem.W.findIn K (.ref y10) "__getattr__" = some none)
    (cl10 : PySem.W.findIn K (.ref y10) "__class__" = some (some (.builtin "object.__class__")))
    (kp10 : PySem.W.keepIn K (.ref y10) = true)
    (in10 : PySem.W.findIn K (.ref y10) "__init__" = some (some (.ref i10)))
    (il10 : K.lookup i10 = some ⟨ic10, io10, .func (PySem.W.fnOf "__init__" "BadLimit.__init__" (defArgs (inner sBadlimit)) (defBody (inner sBadlimit)) (defScope (inner sBadlimit)) .none ik10 id10 ip10 ia10 ie10 it10), is10⟩)
    (io_10 : PySem.W.codeIn K ie10 "BadLimit.__init__" = true)
    (ik_10 : PySem.W.keepIn K (.ref i10) = true)
    (ity10 : PySem.W.typeIn K (.ref i10) = some (.type "function"))
    (f10_0 : PySem.W.findIn K (.ref y10) "index" = some none)
    (th11 : K.lookup y11 = some (excClassObj nm11 q11 y11 N11 bs11 (.ref cE :: [.type "ValueError", .type "Exception", .type "BaseException", .type "object"]) true sn11 sub11 ab11 col11 dd11 ka11 kb11 kc11 kd11 ke11 "ValueError.__new__"))
    (sa11 : PySem.W.findIn K (.ref y11) "__setattr__" = some (some (.builtin "object.__setattr__")))
    (ga11 : PySem.W.findIn K (.ref y11) "__getattribute__" = some (some (.builtin "BaseException.__getattribute__")))
    (gg11 : PySem.W.findIn K (.ref y11) "__getattr__" = some none)
    (cl11 : PySem.W.findIn K (.ref y11) "__class__" = some (some (.builtin "object.__class__")))
    (kp11 : PySem.W.keepIn K (.ref y11) = true)
    (in11 : PySem.W.findIn K (.ref y11) "__init__" = some (some (.ref i11)))
    (il11 : K.lookup i11 = some ⟨ic11, io11, .func (PySem.W.fnOf "__init__" "BadText.__init__" (defArgs (inner sBadtext)) (defBody (inner sBadtext)) (defScope (inner sBadtext)) .none ik11 id11 ip11 ia11 ie11 it11), is11⟩)
    (io_11 : PySem.W.codeIn K ie11 "BadText.__init__" = true)
    (ik_11 : PySem.W.keepIn K (.ref i11) = true)
    (ity11 : PySem.W.typeIn K (.ref i11) = some (.type "function"))
    (f11_0 : PySem.W.findIn K (.ref y11) "line" = some none)
    : ∃ fd : FuncData, (∀ (s : Shared) (v : Value), BindsTo s fd ⟨[v], []⟩ [("script", v)]) ∧ ∀ base : Heap, K.In base → base.Ns mainGlobals mg → FnG l.prog w K mg base CX0 6 fa fd ["script"] (spLaw K) := by
  have e := hfa.symm.trans (PySem.W.mg_of X G a8)
  cases e
  have T : Nm mg := { abs := PySem.W.mg_none_of X G z_abs, int := PySem.W.mg_none_of X G z_int, bool := PySem.W.mg_none_of X G z_bool, isinstance := PySem.W.mg_none_of X G z_isinstance, sum := PySem.W.mg_none_of X G z_sum, divmod := PySem.W.mg_none_of X G z_divmod, min := PySem.W.mg_none_of X G z_min, len := PySem.W.mg_none_of X G z_len, range := PySem.W.mg_none_of X G z_range, repr := PySem.W.mg_none_of X G z_repr }
  refine ⟨PySem.W.fnOf "law" "law" (defArgs sLaw) (defBody sLaw) (defScope sLaw) .none kV8 dc8 pm8 an8 cd8 ct8, fun s v => .of_eq rfl, fun base _ _ => ?_⟩
  have te := PySem.W.mg_none_of X G tE
  have tv := PySem.W.mg_none_of X G tV
  have L : Cls K mg cE y0 y1 y2 y3 y4 y5 y6 y7 y8 y9 y10 y11 := { kE := ⟨⟨nmE, qE, NE, bsE, snE, subE, abE, colE, ddE, kaE, kbE, kcE, kdE, keE, thE⟩, saE, gaE, ggE, clE, kpE⟩, mE := PySem.W.mg_of X G mE, o := ⟨hn, ht⟩, nd := nD, k0 := ⟨⟨nm0, q0, N0, bs0, sn0, sub0, ab0, col0, dd0, ka0, kb0, kc0, kd0, ke0, th0⟩, sa0, ga0, gg0, cl0, kp0⟩, m0 := PySem.W.mg_of X G m0, k1 := ⟨⟨nm1, q1, N1, bs1, sn1, sub1, ab1, col1, dd1, ka1, kb1, kc1, kd1, ke1, th1⟩, sa1, ga1, gg1, cl1, kp1⟩, m1 := PySem.W.mg_of X G m1, k2 := ⟨⟨nm2, q2, N2, bs2, sn2, sub2, ab2, col2, dd2, ka2, kb2, kc2, kd2, ke2, th2⟩, sa2, ga2, gg2, cl2, kp2⟩, m2 := PySem.W.mg_of X G m2, k3 := ⟨⟨nm3, q3, N3, bs3, sn3, sub3, ab3, col3, dd3, ka3, kb3, kc3, kd3, ke3, th3⟩, sa3, ga3, gg3, cl3, kp3⟩, m3 := PySem.W.mg_of X G m3, k4 := ⟨⟨nm4, q4, N4, bs4, sn4, sub4, ab4, col4, dd4, ka4, kb4, kc4, kd4, ke4, th4⟩, sa4, ga4, gg4, cl4, kp4⟩, m4 := PySem.W.mg_of X G m4, k5 := ⟨⟨nm5, q5, N5, bs5, sn5, sub5, ab5, col5, dd5, ka5, kb5, kc5, kd5, ke5, th5⟩, sa5, ga5, gg5, cl5, kp5⟩, m5 := PySem.W.mg_of X G m5, k6 := ⟨⟨nm6, q6, N6, bs6, sn6, sub6, ab6, col6, dd6, ka6, kb6, kc6, kd6, ke6, th6⟩, sa6, ga6, gg6, cl6, kp6⟩, m6 := PySem.W.mg_of X G m6, k7 := ⟨⟨nm7, q7, N7, bs7, sn7, sub7, ab7, col7, dd7, ka7, kb7, kc7, kd7, ke7, th7⟩, sa7, ga7, gg7, cl7, kp7⟩, m7 := PySem.W.mg_of X G m7, k8 := ⟨⟨nm8, q8, N8, bs8, sn8, sub8, ab8, col8, dd8, ka8, kb8, kc8, kd8, ke8, th8⟩, sa8, ga8, gg8, cl8, kp8⟩, m8 := PySem.W.mg_of X G m8, k9 := ⟨⟨nm9, q9, N9, bs9, sn9, sub9, ab9, col9, dd9, ka9, kb9, kc9, kd9, ke9, th9⟩, sa9, ga9, gg9, cl9, kp9⟩, m9 := PySem.W.mg_of X G m9, k10 := ⟨⟨nm10, q10, N10, bs10, sn10, sub10, ab10, col10, dd10, ka10, kb10, kc10, kd10, ke10, th10⟩, sa10, ga10, gg10, cl10, kp10⟩, m10 := PySem.W.mg_of X G m10, k11 := ⟨⟨nm11, q11, N11, bs11, sn11, sub11, ab11, col11, dd11, ka11, kb11, kc11, kd11, ke11, th11⟩, sa11, ga11, gg11, cl11, kp11⟩, m11 := PySem.W.mg_of X G m11 }
  have Fi0 := fun_mk (st := (inner sBadnumber)) il0 io_0 ik_0
  have Bi0 := Fi0.binds (ps := ["self", "value"]) fun _ _ _ _ _ _ us hl => match us, hl with | [_, _], _ => rfl
  have E0 : Ec l.prog w K mg base "BadNumber" y0 1 ["value"] id mk0 := ⟨L.k0.oex (up2 cE), L.m0, i0, _, ["self", "value"], id, in0, ity0, ok0 Fi0 (L.k0.oex (up2 cE)) f0_0, Bi0, fun r => r, fun _ h => h, fun s self ws _ hl => match ws, hl with | [_], _ => .of_eq rfl⟩
  have Fi1 := fun_mk (st := (inner sBaddate)) il1 io_1 ik_1
  have Bi1 := Fi1.binds (ps := ["self", "value"]) fun _ _ _ _ _ _ us hl => match us, hl with | [_, _], _ => rfl
  have E1 : Ec l.prog w K mg base "BadDate" y1 1 ["value"] id mk1 := ⟨L.k1.oex (up2 cE), L.m1, i1, _, ["self", "value"], id, in1, ity1, ok1 Fi1 (L.k1.oex (up2 cE)) f1_0, Bi1, fun r => r, fun _ h => h, fun s self ws _ hl => match ws, hl with | [_], _ => .of_eq rfl⟩
  have Fi2 := fun_mk (st := (inner sBaddays)) il2 io_2 ik_2
  have Bi2 := Fi2.binds (ps := ["self", "value"]) fun _ _ _ _ _ _ us hl => match us, hl with | [_, _], _ => rfl
  have E2 : Ec l.prog w K mg base "BadDays" y2 1 ["value"] id mk2 := ⟨L.k2.oex (up2 cE), L.m2, i2, _, ["self", "value"], id, in2, ity2, ok2 Fi2 (L.k2.oex (up2 cE)) f2_0, Bi2, fun r => r, fun _ h => h, fun s self ws _ hl => match ws, hl with | [_], _ => .of_eq rfl⟩
  have Fi3 := fun_mk (st := (inner sBadyearly)) il3 io_3 ik_3
  have Bi3 := Fi3.binds (ps := ["self", "value"]) fun _ _ _ _ _ _ us hl => match us, hl with | [_, _], _ => rfl
  have E3 : Ec l.prog w K mg base "BadYearly" y3 1 ["value"] id mk3 := ⟨L.k3.oex (up2 cE), L.m3, i3, _, ["self", "value"], id, in3, ity3, ok3 Fi3 (L.k3.oex (up2 cE)) f3_0, Bi3, fun r => r, fun _ h => h, fun s self ws _ hl => match ws, hl with | [_], _ => .of_eq rfl⟩
  have Fi4 := fun_mk (st := (inner sBadrow)) il4 io_4 ik_4
  have Bi4 := Fi4.binds (ps := ["self", "index"]) fun _ _ _ _ _ _ us hl => match us, hl with | [_, _], _ => rfl
  have E4 : Ec l.prog w K mg base "BadRow" y4 1 ["index"] id mk4 := ⟨L.k4.oex (up2 cE), L.m4, i4, _, ["self", "index"], id, in4, ity4, ok4 Fi4 (L.k4.oex (up2 cE)) f4_0, Bi4, fun r => r, fun _ h => h, fun s self ws _ hl => match ws, hl with | [_], _ => .of_eq rfl⟩
  have Fi5 := fun_mk (st := (inner sBadorder)) il5 io_5 ik_5
  have Bi5 := Fi5.binds (ps := ["self", "year", "index"]) fun _ _ _ _ _ _ us hl => match us, hl with | [_, _, _], _ => rfl
  have E5 : Ec l.prog w K mg base "BadOrder" y5 2 ["index", "year"] sw2 mk5 := ⟨L.k5.oex (up2 cE), L.m5, i5, _, ["self", "year", "index"], (fun us => [us.getD 1 .none, us.getD 0 .none]), in5, ity5, ok5 Fi5 (L.k5.oex (up2 cE)) f5_0 f5_1, Bi5, fun r => .cons (getD_rel 1 r) (.cons (getD_rel 0 r) .nil), fun _ _ => rfl, fun s self ws _ hl => match ws, hl with | [_, _], _ => .of_eq rfl⟩
  have Fi6 := fun_mk (st := (inner sBadzone)) il6 io_6 ik_6
  have Bi6 := Fi6.binds (ps := ["self", "index"]) fun _ _ _ _ _ _ us hl => match us, hl with | [_, _], _ => rfl
  have E6 : Ec l.prog w K mg base "BadZone" y6 1 ["index"] id mk6 := ⟨L.k6.oex (up2 cE), L.m6, i6, _, ["self", "index"], id, in6, ity6, ok6 Fi6 (L.k6.oex (up2 cE)) f6_0, Bi6, fun r => r, fun _ h => h, fun s self ws _ hl => match ws, hl with | [_], _ => .of_eq rfl⟩
  have Fi7 := fun_mk (st := (inner sBadword)) il7 io_7 ik_7
  have Bi7 := Fi7.binds (ps := ["self", "value"]) fun _ _ _ _ _ _ us hl => match us, hl with | [_, _], _ => rfl
  have E7 : Ec l.prog w K mg base "BadWord" y7 1 ["value"] id mk7 := ⟨L.k7.oex (up2 cE), L.m7, i7, _, ["self", "value"], id, in7, ity7, ok7 Fi7 (L.k7.oex (up2 cE)) f7_0, Bi7, fun r => r, fun _ h => h, fun s self ws _ hl => match ws, hl with | [_], _ => .of_eq rfl⟩
  have Fi8 := fun_mk (st := (inner sToofew)) il8 io_8 ik_8
  have Bi8 := Fi8.binds (ps := ["self", "number"]) fun _ _ _ _ _ _ us hl => match us, hl with | [_, _], _ => rfl
  have E8 : Ec l.prog w K mg base "TooFew" y8 1 ["number"] id mk8 := ⟨L.k8.oex (up2 cE), L.m8, i8, _, ["self", "number"], id, in8, ity8, ok8 Fi8 (L.k8.oex (up2 cE)) f8_0, Bi8, fun r => r, fun _ h => h, fun s self ws _ hl => match ws, hl with | [_], _ => .of_eq rfl⟩
  have Fi9 := fun_mk (st := (inner sBadlog)) il9 io_9 ik_9
  have Bi9 := Fi9.binds (ps := ["self", "index"]) fun _ _ _ _ _ _ us hl => match us, hl with | [_, _], _ => rfl
  have E9 : Ec l.prog w K mg base "BadLog" y9 1 ["index"] id mk9 := ⟨L.k9.oex (up2 cE), L.m9, i9, _, ["self", "index"], id, in9, ity9, ok9 Fi9 (L.k9.oex (up2 cE)) f9_0, Bi9, fun r => r, fun _ h => h, fun s self ws _ hl => match ws, hl with | [_], _ => .of_eq rfl⟩
  have Fi10 := fun_mk (st := (inner sBadlimit)) il10 io_10 ik_10
  have Bi10 := Fi10.binds (ps := ["self", "index"]) fun _ _ _ _ _ _ us hl => match us, hl with | [_, _], _ => rfl
  have E10 : Ec l.prog w K mg base "BadLimit" y10 1 ["index"] id mk10 := ⟨L.k10.oex (up2 cE), L.m10, i10, _, ["self", "index"], id, in10, ity10, ok10 Fi10 (L.k10.oex (up2 cE)) f10_0, Bi10, fun r => r, fun _ h => h, fun s self ws _ hl => match ws, hl with | [_], _ => .of_eq rfl⟩
  have Fi11 := fun_mk (st := (inner sBadtext)) il11 io_11 ik_11
  have Bi11 := Fi11.binds (ps := ["self", "line"]) fun _ _ _ _ _ _ us hl => match us, hl with | [_, _], _ => rfl
  have E11 : Ec l.prog w K mg base "BadText" y11 1 ["line"] id mk11 := ⟨L.k11.oex (up2 cE), L.m11, i11, _, ["self", "line"], id, in11, ity11, ok11 Fi11 (L.k11.oex (up2 cE)) f11_0, Bi11, fun r => r, fun _ h => h, fun s self ws _ hl => match ws, hl with | [_], _ => .of_eq rfl⟩
  have F_law_begun := fun_mk (st := sLawBegun) l0 c0 k0
  have b_law_begun := F_law_begun.binds (ps := ["script"]) fun _ _ _ _ _ _ us hl => match us, hl with | [_], _ => rfl
  have G_law_begun : FnOk l.prog w K mg base CX0 1 f0 _ ["script"] (spBegun K) := ok_begun F_law_begun T
  have D_law_begun : Df l.prog w K mg base 1 "_law_begun" ["script"] [] (spBegun K) := ⟨⟨_, _, [], G_law_begun, PySem.W.mg_of X G a0, k0, .nil, b_law_begun⟩⟩
  have F_law_mixed := fun_mk (st := sLawMixed) l1 c1 k1
  have b_law_mixed := F_law_mixed.binds (ps := ["state"]) fun _ _ _ _ _ _ us hl => match us, hl with | [_], _ => rfl
  have G_law_mixed : FnOk l.prog w K mg base CX0 1 f1 _ ["state"] spMixed := ok_mixed F_law_mixed T
  have D_law_mixed : Df l.prog w K mg base 1 "_law_mixed" ["state"] [] spMixed := ⟨⟨_, _, [], G_law_mixed, PySem.W.mg_of X G a1, k1, .nil, b_law_mixed⟩⟩
  have F_law_take := fun_mk (st := sLawTake) l2 c2 k2
  have b_law_take := F_law_take.binds (ps := ["state", "size"]) fun _ _ _ _ _ _ us hl => match us, hl with | [_, _], _ => rfl
  have G_law_take : FnOk l.prog w K mg base CX0 2 f2 _ ["state", "size"] spTake := ok_take F_law_take T D_law_mixed
  have D_law_take : Df l.prog w K mg base 2 "_law_take" ["state", "size"] [] spTake := ⟨⟨_, _, [], G_law_take, PySem.W.mg_of X G a2, k2, .nil, b_law_take⟩⟩
  have F_law_pick := fun_mk (st := sLawPick) l3 c3 k3
  have b_law_pick := F_law_pick.binds (ps := ["state", "some"]) fun _ _ _ _ _ _ us hl => match us, hl with | [_, _], _ => rfl
  have G_law_pick : FnOk l.prog w K mg base CX0 3 f3 _ ["state", "some"] spPick := ok_pick F_law_pick T D_law_take
  have D_law_pick : Df l.prog w K mg base 3 "_law_pick" ["state", "some"] [] spPick := ⟨⟨_, _, [], G_law_pick, PySem.W.mg_of X G a3, k3, .nil, b_law_pick⟩⟩
  have F_law_odd := fun_mk (st := sLawOdd) l4 c4 k4
  have b_law_odd := F_law_odd.binds (ps := ["state"]) fun _ _ _ _ _ _ us hl => match us, hl with | [_], _ => rfl
  have G_law_odd : FnOk l.prog w K mg base CX0 4 f4 _ ["state"] (spOdd K) := ok_odd F_law_odd T D_law_pick
  have D_law_odd : Df l.prog w K mg base 4 "_law_odd" ["state"] [] (spOdd K) := ⟨⟨_, _, [], G_law_odd, PySem.W.mg_of X G a4, k4, .nil, b_law_odd⟩⟩
  have F_law_marks := fun_mk (st := sLawMarks) l5 c5 k5
  have b_law_marks := F_law_marks.binds (ps := ["error"]) fun _ _ _ _ _ _ us hl => match us, hl with | [_], _ => rfl
  have G_law_marks : FnOk l.prog w K mg base CX0 1 f5 _ ["error"] (spMarks K cE y0 y1 y2 y3 y4 y5 y6 y7 y8 y9 y10 y11) := ok_marks F_law_marks T L
  have D_law_marks : Df l.prog w K mg base 1 "_law_marks" ["error"] [] (spMarks K cE y0 y1 y2 y3 y4 y5 y6 y7 y8 y9 y10 y11) := ⟨⟨_, _, [], G_law_marks, PySem.W.mg_of X G a5, k5, .nil, b_law_marks⟩⟩
  have F_law_kept := fun_mk (st := sLawKept) l6 c6 k6
  have b_law_kept := F_law_kept.binds (ps := ["errors"]) fun _ _ _ _ _ _ us hl => match us, hl with | [_], _ => rfl
  have G_law_kept : FnOk l.prog w K mg base CX0 1 f6 _ ["errors"] (spKept K y0 y1 y2 y3 y4 y5 y6 y7 y8 y9 y10 y11) := ok_kept F_law_kept T L f0_0 f1_0 f2_0 f3_0 f4_0 f5_0 f5_1 f6_0 f7_0 f8_0 f9_0 f10_0 f11_0
  have D_law_kept : Df l.prog w K mg base 1 "_law_kept" ["errors"] [] (spKept K y0 y1 y2 y3 y4 y5 y6 y7 y8 y9 y10 y11) := ⟨⟨_, _, [], G_law_kept, PySem.W.mg_of X G a6, k6, .nil, b_law_kept⟩⟩
  have F_law_right := fun_mk (st := sLawRight) l7 c7 k7
  have b_law_right := F_law_right.binds (ps := ["some"]) fun _ _ _ _ _ _ us hl => match us, hl with | [_], _ => rfl
  have G_law_right : FnG l.prog w K mg base CX0 4 f7 _ ["some"] (spRight K) := ok_right F_law_right T te tv L E0 E1 E2 E3 E4 E5 E6 E7 E8 E9 E10 E11 D_law_kept D_law_marks
  have D_law_right : Dg l.prog w K mg base 4 "_law_right" ["some"] [] (spRight K) := ⟨⟨_, _, [], G_law_right, PySem.W.mg_of X G a7, k7, .nil, b_law_right⟩⟩
  have F_law := fun_mk (st := sLaw) l8 c8 k8
  exact ok_law F_law T tv L xE D_law_begun D_law_take D_law_pick D_law_odd D_law_marks D_law_right
end Cf
open PySem PySem.W PyProof.Rows
set_option maxRecDepth 100000 in
set_option maxHeartbeats 0 in
theorem PySem.Challenge.cw_clockfolds_k05_errors_apart_holds : PySem.Challenge.rw_clockfolds_k05_errors_apart.Holds := by
  w_on; o_law; k_head; (case hw => w_witness2)
  k_fill
  refine Cf.walk_g (l := PySem.Challenge.rw_clockfolds_k05_errors_apart) (n := 63) (k := 6) (sp := Cf.spLaw) (x := "script") rfl (by decide) rfl ⟨rfl, by decide, by decide⟩ (fun w h Y => PySem.W.kIn_of Y) ?F (fun K H a ns hl hS => ⟨a, ns, rfl, hS, hl, fun _ => rfl⟩)
  case F =>
    intro w mg fa h KX G hmg
    refine' Cf.all_mk KX G hmg ?a0 ?l0 ?c0 ?k0 ?a1 ?l1 ?c1 ?k1 ?a2 ?l2 ?c2 ?k2 ?a3 ?l3 ?c3 ?k3 ?a4 ?l4 ?c4 ?k4 ?a5 ?l5 ?c5 ?k5 ?a6 ?l6 ?c6 ?k6 ?a7 ?l7 ?c7 ?k7 ?a8 ?l8 ?c8 ?k8 ?z_abs ?z_int ?z_bool ?z_isinstance ?z_sum ?z_divmod ?z_min ?z_len ?z_range ?z_repr ?mE ?m0 ?m1 ?m2 ?m3 ?m4 ?m5 ?m6 ?m7 ?m8 ?m9 ?m10 ?m11 ?hn ?ht ?thE ?saE ?gaE ?ggE ?clE ?kpE ?xE ?nD ?tE ?tV ?th0 ?sa0 ?ga0 ?gg0 ?cl0 ?kp0 ?in0 ?il0 ?io_0 ?ik_0 ?ity0 ?f0_0 ?th1 ?sa1 ?ga1 ?gg1 ?cl1 ?kp1 ?in1 ?il1 ?io_1 ?ik_1 ?ity1 ?f1_0 ?th2 ?sa2 ?ga2 ?gg2 ?cl2 ?kp2 ?in2 ?il2 ?io_2 ?ik_2 ?ity2 ?f2_0 ?th3 ?sa3 ?ga3 ?gg3 ?cl3 ?kp3 ?in3 ?il3 ?io_3 ?ik_3 ?ity3 ?f3_0 ?th4 ?sa4 ?ga4 ?gg4 ?cl4 ?kp4 ?in4 ?il4 ?io_4 ?ik_4 ?ity4 ?f4_0 ?th5 ?sa5 ?ga5 ?gg5 ?cl5 ?kp5 ?in5 ?il5 ?io_5 ?ik_5 ?ity5 ?f5_0 ?f5_1 ?th6 ?sa6 ?ga6 ?gg6 ?cl6 ?kp6 ?in6 ?il6 ?io_6 ?ik_6 ?ity6 ?f6_0 ?th7 ?sa7 ?ga7 ?gg7 ?cl7 ?kp7 ?in7 ?il7 ?io_7 ?ik_7 ?ity7 ?f7_0 ?th8 ?sa8 ?ga8 ?gg8 ?cl8 ?kp8 ?in8 ?il8 ?io_8 ?ik_8 ?ity8 ?f8_0 ?th9 ?sa9 ?ga9 ?gg9 ?cl9 ?kp9 ?in9 ?il9 ?io_9 ?ik_9 ?ity9 ?f9_0 ?th10 ?sa10 ?ga10 ?gg10 ?cl10 ?kp10 ?in10 ?il10 ?io_10 ?ik_10 ?ity10 ?f10_0 ?th11 ?sa11 ?ga11 ?gg11 ?cl11 ?kp11 ?in11 ?il11 ?io_11 ?ik_11 ?ity11 ?f11_0
    (case a0 => k_is)
    (case l0 => k_is)
    (case c0 => k_is)
    (case k0 => k_is)
    (case a1 => k_is)
    (case l1 => k_is)
    (case c1 => k_is)
    (case k1 => k_is)
    (case a2 => k_is)
    (case l2 => k_is)
    (case c2 => k_is)
    (case k2 => k_is)
    (case a3 => k_is)
    (case l3 => k_is)
    (case c3 => k_is)
    (case k3 => k_is)
    (case a4 => k_is)
    (case l4 => k_is)
    (case c4 => k_is)
    (case k4 => k_is)
    (case a5 => k_is)
    (case l5 => k_is)
    (case c5 => k_is)
    (case k5 => k_is)
    (case a6 => k_is)
    (case l6 => k_is)
    (case c6 => k_is)
    (case k6 => k_is)
    (case a7 => k_is)
    (case l7 => k_is)
    (case c7 => k_is)
    (case k7 => k_is)
    (case a8 => k_is)
    (case l8 => k_is)
    (case c8 => k_is)
    (case k8 => k_is)
    (case z_abs => k_is)
    (case z_int => k_is)
    (case z_bool => k_is)
    (case z_isinstance => k_is)
    (case z_sum => k_is)
    (case z_divmod => k_is)
    (case z_min => k_is)
    (case z_len => k_is)
    (case z_range => k_is)
    (case z_repr => k_is)
    (case mE => k_is)
    (case m0 => k_is)
    (case m1 => k_is)
    (case m2 => k_is)
    (case m3 => k_is)
    (case m4 => k_is)
    (case m5 => k_is)
    (case m6 => k_is)
    (case m7 => k_is)
    (case m8 => k_is)
    (case m9 => k_is)
    (case m10 => k_is)
    (case m11 => k_is)
    (case hn => k_is)
    (case ht => k_is)
    (case thE => k_is)
    (case saE => k_is)
    (case gaE => k_is)
    (case ggE => k_is)
    (case clE => k_is)
    (case kpE => k_is)
    (case xE => k_exc)
    (case nD => decide)
    (case tE => k_is)
    (case tV => k_is)
    (case th0 => k_is)
    (case sa0 => k_is)
    (case ga0 => k_is)
    (case gg0 => k_is)
    (case cl0 => k_is)
    (case kp0 => k_is)
    (case in0 => k_is)
    (case il0 => k_is)
    (case io_0 => k_is)
    (case ik_0 => k_is)
    (case ity0 => k_is)
    (case f0_0 => k_is)
    (case th1 => k_is)
    (case sa1 => k_is)
    (case ga1 => k_is)
    (case gg1 => k_is)
    (case cl1 => k_is)
    (case kp1 => k_is)
    (case in1 => k_is)
    (case il1 => k_is)
    (case io_1 => k_is)
    (case ik_1 => k_is)
    (case ity1 => k_is)
    (case f1_0 => k_is)
    (case th2 => k_is)
    (case sa2 => k_is)
    (case ga2 => k_is)
    (case gg2 => k_is)
    (case cl2 => k_is)
    (case kp2 => k_is)
    (case in2 => k_is)
    (case il2 => k_is)
    (case io_2 => k_is)
    (case ik_2 => k_is)
    (case ity2 => k_is)
    (case f2_0 => k_is)
    (case th3 => k_is)
    (case sa3 => k_is)
    (case ga3 => k_is)
    (case gg3 => k_is)
    (case cl3 => k_is)
    (case kp3 => k_is)
    (case in3 => k_is)
    (case il3 => k_is)
    (case io_3 => k_is)
    (case ik_3 => k_is)
    (case ity3 => k_is)
    (case f3_0 => k_is)
    (case th4 => k_is)
    (case sa4 => k_is)
    (case ga4 => k_is)
    (case gg4 => k_is)
    (case cl4 => k_is)
    (case kp4 => k_is)
    (case in4 => k_is)
    (case il4 => k_is)
    (case io_4 => k_is)
    (case ik_4 => k_is)
    (case ity4 => k_is)
    (case f4_0 => k_is)
    (case th5 => k_is)
    (case sa5 => k_is)
    (case ga5 => k_is)
    (case gg5 => k_is)
    (case cl5 => k_is)
    (case kp5 => k_is)
    (case in5 => k_is)
    (case il5 => k_is)
    (case io_5 => k_is)
    (case ik_5 => k_is)
    (case ity5 => k_is)
    (case f5_0 => k_is)
    (case f5_1 => k_is)
    (case th6 => k_is)
    (case sa6 => k_is)
    (case ga6 => k_is)
    (case gg6 => k_is)
    (case cl6 => k_is)
    (case kp6 => k_is)
    (case in6 => k_is)
    (case il6 => k_is)
    (case io_6 => k_is)
    (case ik_6 => k_is)
    (case ity6 => k_is)
    (case f6_0 => k_is)
    (case th7 => k_is)
    (case sa7 => k_is)
    (case ga7 => k_is)
    (case gg7 => k_is)
    (case cl7 => k_is)
    (case kp7 => k_is)
    (case in7 => k_is)
    (case il7 => k_is)
    (case io_7 => k_is)
    (case ik_7 => k_is)
    (case ity7 => k_is)
    (case f7_0 => k_is)
    (case th8 => k_is)
    (case sa8 => k_is)
    (case ga8 => k_is)
    (case gg8 => k_is)
    (case cl8 => k_is)
    (case kp8 => k_is)
    (case in8 => k_is)
    (case il8 => k_is)
    (case io_8 => k_is)
    (case ik_8 => k_is)
    (case ity8 => k_is)
    (case f8_0 => k_is)
    (case th9 => k_is)
    (case sa9 => k_is)
    (case ga9 => k_is)
    (case gg9 => k_is)
    (case cl9 => k_is)
    (case kp9 => k_is)
    (case in9 => k_is)
    (case il9 => k_is)
    (case io_9 => k_is)
    (case ik_9 => k_is)
    (case ity9 => k_is)
    (case f9_0 => k_is)
    (case th10 => k_is)
    (case sa10 => k_is)
    (case ga10 => k_is)
    (case gg10 => k_is)
    (case cl10 => k_is)
    (case kp10 => k_is)
    (case in10 => k_is)
    (case il10 => k_is)
    (case io_10 => k_is)
    (case ik_10 => k_is)
    (case ity10 => k_is)
    (case f10_0 => k_is)
    (case th11 => k_is)
    (case sa11 => k_is)
    (case ga11 => k_is)
    (case gg11 => k_is)
    (case cl11 => k_is)
    (case kp11 => k_is)
    (case in11 => k_is)
    (case il11 => k_is)
    (case io_11 => k_is)
    (case ik_11 => k_is)
    (case ity11 => k_is)
    (case f11_0 => k_is)
