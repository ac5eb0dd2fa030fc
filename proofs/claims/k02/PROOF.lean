import PyProof.Rows.All
import Wide.All
import OpenK.AllK
import Wide.FinOn
import PyProof.ReprRoads
import KE.KTupSum
import HandS.ForMost
import HandS.IsInst
import HandS.Defaults
import HandS.TupAny
import HandS.Sort
import HandS.Style
import PySem.Challenge.RW_clockfolds_k02_whole_calendar_walked
set_option Elab.async false
set_option linter.all false
set_option maxRecDepth 100000
/-! Own layer over HandS: promises that hold where no repr is under way (guards = some []), repr of data, sum of a tuple. -/
namespace Cf
open PySem PySem.Spec PyProof.Rows L2

/-- as FnOk, but asked only where no repr is under way -/
structure FnG (P : Program) (w : World) (K : PySem.W.Frag) (mg : Str → Option Value) (base : Heap) (CX : CXT) (k : Nat) (f : Addr) (fd : FuncData) (ps : List Str) (sp : Sp) : Prop where
  many : ∀ vs H Q E, sp vs H Q E → vs.length = ps.length
  go : ∀ (A : Around), A.guards = some [] → ∀ (outer : List Env) (s : Shared) (H : Hp) (args : Args) (us : List Value) (vs : List V) (Q : VK) (E : XK),
    Room k A → Env0 P w K mg base A outer s H → BindsTo s fd args (ps.zip us) → Vals vs us → sp vs H Q E →
      codeAny (model P w) A (.call (.ref f) args) (CR CX outer P w H s Q E) s

section
variable {P : Program} {w : World} {K : PySem.W.Frag} {mg : Str → Option Value} {base : Heap} {CX : CXT}

theorem FnG.of {k : Nat} {f : Addr} {fd : FuncData} {ps : List Str} {sp : Sp} (F : FnOk P w K mg base CX k f fd ps sp) : FnG P w K mg base CX k f fd ps sp :=
  { many := F.len, go := fun A _ => F.run A }

/-- a def keeps its promise, its body walked where no repr is under way -/
theorem fn_g {k : Nat} {f : Addr} {name qual : Str} {params : Arguments} {body : List Stmt} {scope : Scope} {dV kV doc pm cdv ct oc : Value} {an od : Option Addr} {osl : Array (Option Value)} {N ps : List Str} {sp : Sp}
    (there : K.lookup f = some ⟨oc, od, .func (PySem.W.fnOf name qual params body scope dV kV doc pm an cdv ct), osl⟩)
    (code : PySem.W.codeIn K cdv qual = true) (sc : FnScope N ps scope) (many : ∀ vs H Q E, sp vs H Q E → vs.length = ps.length)
    (walk : ∀ (A : Around), A.guards = some [] → ∀ (outer : List Env) (s : Shared) (H : Hp) (vs : List V) (Q : VK) (E : XK),
      Room k (A.deeper (envOfC qual scope s.heap.objs.size f cdv)) → sp vs H Q E →
        ∃ t, PSs (cxOf CX P w K mg base N qual scope f cdv A outer s H E) body t ∧ t { nx := fun _ H' => Q .non H', rt := Q } (start N vs) H) :
    FnG P w K mg base CX (k + 1) f (PySem.W.fnOf name qual params body scope dV kV doc pm an cdv ct) ps sp := by
  constructor
  · exact many
  intro A gd outer s H args us vs Q E room env bind vals asked
  have n := many vs H Q E asked
  have inK : K.In s.heap := env.mod.kin.keeps fun b o h => (env.bs b o h).1
  have noLim : s.heap.NoLimit := env.mod.nolimit.keeps fun b o h => (env.bs b o h).1
  have kinds : ∀ y ∈ ps.zip us, scope.names.lookup y.1 = some .local ∨
      (scope.names.lookup y.1 = some .cell ∧ ((cellsFrom (s.heap.objs.size + 1) scope.names []).lookup y.1).isSome = true) := by
    rintro ⟨z, v⟩ hz
    have hz1 := (List.of_mem_zip hz).1
    cases sc.par z hz1 with
    | inl l => exact Or.inl l
    | inr c => exact Or.inr ⟨c, PySem.W.cellsFrom_some _ _ _ (Or.inl c)⟩
  apply codeAny_call_function room.depth (inK _ _ there) rfl sc.co sc.gen rfl (PySem.W.codeRec_of inK code)
  apply bind
  apply wpAny_newFunctionEnv_cells sc.kind kinds
  intro env' he s1 x
  cases he
  refine And.intro (noLim.keeps x.toInCall.keep) (codeAny_func ?_)
  rcases walk A gd outer s H vs Q E (room.deeper _) asked with ⟨t, ht, hq⟩
  have I0 := inv_start (CX := CX) (E := E) (f := f) (qual := qual) (cd := cdv) sc room.hd env n vals x
  apply wpAny_mono (ht.run [] s1 (start N vs) H _ I0 hq)
  · intro fl s' hs
    cases fl with
    | ret u =>
      rcases hs with ⟨v, _, H', J, rv, q⟩
      exact ⟨v, H', J.os, J.bare, J.base, J.hok, rv, q⟩
    | next =>
      rcases hs with ⟨_, H', J, q⟩
      exact ⟨V.non, H', J.os, J.bare, J.base, J.hok, rfl, q⟩
    | brk =>
      rcases hs with ⟨_, _, _, q⟩
      exact q.elim
    | cont =>
      rcases hs with ⟨_, _, _, q⟩
      exact q.elim
  · intro e s' hs
    exact hs

/-- .. of the text's def, none let out -/
theorem funG {x qual : Str} {st : Stmt} {f : Addr} {fd : FuncData} {N ps : List Str} {k : Nat} {sp : Sp} (F : Fun K x qual st f fd) (sc : FnScope N ps (defScope st))
    (many : ∀ vs H Q E, sp vs H Q E → vs.length = ps.length)
    (walk : ∀ (cdv : Value) (A : Around), A.guards = some [] → ∀ (outer : List Env) (s : Shared) (H : Hp) (vs : List V) (Q : VK) (E : XK),
      Room k (A.deeper (envOfC qual (defScope st) s.heap.objs.size f cdv)) → sp vs H Q E →
        ∃ t, PSs (cxOf CX0 P w K mg base N qual (defScope st) f cdv A outer s H E).nox (defBody st) t ∧ t { nx := fun _ H' => Q .non H', rt := Q } (start N vs) H) :
    FnG P w K mg base CX0 (k + 1) f fd ps sp := by
  rcases F.ex with ⟨_, _, _, _, _, _, cdv, _, _, rfl, there, code⟩
  exact fn_g there code sc many fun A gd outer s H vs Q E room asked =>
    let ⟨t, h, q⟩ := walk cdv A gd outer s H vs Q E room asked
    ⟨t, h.nox, q⟩
end

section
variable {X : Cx} {CX : CXT} {k : Nat} {f : Addr} {fd : FuncData} {ps : List Str} {sp : Sp} {dvs : List V} {ds : List Value} {E : XK} {x : Str} {p pos : Pos} {e : Expr} {es : List Expr} {t : TA}
theorem goG {pins : List (Addr × Obj)} {σ : L2.St} {H : Hp} {s : Shared} {Q : VK} {us : List Value} {vs : List V} (F : FnG X.prog X.w X.K X.mg X.base CX k f fd ps sp) (gd : X.A.guards = some []) (room : Room k X.A)
    (hb : Binds X.K fd ps ds) (hd : Vals dvs ds) (out : Passes CX X E) (I : Inv X pins σ H s) (r : Vals vs us) (asked : sp (vs ++ dvs) H Q E) :
    wpAny (model X.prog X.w) X.A (call (.ref f) us) (EP X pins σ Q) X.xe s := by
  have rr : Vals (vs ++ dvs) (us ++ ds) := r.append hd
  have ll : (us ++ ds).length = ps.length := rr.length.symm.trans (F.many _ _ _ _ asked)
  apply wpAny_call
  refine codeAny_mono (F.go X.A gd X.stack s H ⟨us, []⟩ (us ++ ds) (vs ++ dvs) Q E room I.env0 (hb s us I.kIn ll) rr asked) ?_
  intro res s' got
  match res, got with
  | .error e, got => exact out pins σ H s e s' I got
  | .ok (.ret u), got => exact I.after got
  | .ok .next, got => exact got.elim
  | .ok .brk, got => exact got.elim
  | .ok .cont, got => exact got.elim
/-- f(e, ..), f a def of the program that may show containers -/
theorem pe_callG (F : FnG X.prog X.w X.K X.mg X.base CX k f fd ps sp) (gd : X.A.guards = some []) (room : Room k X.A) (hg : Gl X x) (hm : X.mg x = some (.ref f)) (hk : PySem.W.keepIn X.K (.ref f) = true)
    (hb : Binds X.K fd ps ds) (hd : Vals dvs ds) (out : Passes CX X E) (args : PA X (e :: es) t) (hdb : (x == ("__debug__" : Str)) = false := by decide)
    (he : starEach (e :: es) X.env = (false, eval e X.env) :: starEach es X.env := by rfl) (hpl : (backTo pos (starEach es X.env)).any (·.1) = false := by rfl) :
    PE X (.Call (.Name x p) (e :: es) [] pos) (tCall sp dvs E t) := by
  constructor
  intro pins s σ H Q I h
  apply wpAny_Call_Name_kw (ld_glob I hg hm ?_ hdb)
  apply PySem.W.callWith_K (h₀ := X.base) I.ok.mod.kin hk _ he hpl
  apply thn (args.run pos pins s σ H _ I h)
  rintro us s1 ⟨vs, H1, I1, r, q⟩
  exact ⟨I1.kIn, goG F gd room hb hd out I1 r q⟩
end

/-! ### repr -/
/-- data as they lie in the heap: as Dp of the hand layer, and dicts of ints -/
theorem call_reprD {X : Cx} (gd : X.A.guards = some []) (hu : X.A.units + 64 < cLine) : CallR X (.builtin "repr") (fun xs H Q => ∃ (a : Addr) (d : PyData), xs = [.ref a] ∧ Dp X.K H (.ref a) d ∧ d.showable = true ∧ d.hasDict = false ∧ d.depth ≤ 60 ∧ d.shown.length ≤ sizeLine ∧ Q (.str d.shown) H) := by
  intro pins s σ H xs us Q I r h
  obtain ⟨a, d, rfl, hd, sh, nd, dd, sz, q⟩ := h
  obtain ⟨u, rfl, ru⟩ : ∃ u, us = [u] ∧ RelV (.ref a) u := by
    cases r with
    | cons r1 r2 => cases r2; exact ⟨_, rfl, r1⟩
  cases ru
  obtain ⟨as, rd⟩ := Dp.reads I d _ _ hd rfl
  refine repr_of_reads' rd sh (fun z => by rw [nd] at z; cases z) gd (by omega) (fun _ _ e => e) (fun h' u tk k => ?_) sz
  exact ⟨.str _, H, I.kept k, ⟨_, rfl⟩, q⟩
theorem call_repr_bl {X : Cx} : CallR X (.builtin "repr") (fun xs H Q => ∃ b, xs = [.bl b] ∧ Q (.str (if b then "True" else "False")) H) := by
  intro pins s σ H xs us Q I r h
  obtain ⟨b, rfl, q⟩ := h
  obtain ⟨u, rfl, ru⟩ : ∃ u, us = [u] ∧ RelV (.bl b) u := by
    cases r with
    | cons r1 r2 => cases r2; exact ⟨_, rfl, r1⟩
  cases ru
  exact PySem.P.repr_of_bool ⟨.str _, H, I.tok _, ⟨_, rfl⟩, q⟩
theorem call_repr_i {X : Cx} : CallR X (.builtin "repr") (fun xs H Q => ∃ i, xs = [.int i] ∧ i.natAbs.log2 < 1920 ∧ Q (.str (toString i)) H) := by
  intro pins s σ H xs us Q I r h
  obtain ⟨i, rfl, hz, q⟩ := h
  obtain ⟨u, rfl, t, rfl⟩ := vals1 r
  exact PySem.P.repr_of_int hz ⟨.str _, H, I.tok _, ⟨_, rfl⟩, q⟩
/-! ### sum of a tuple of ints -/
def rSumT (K : PySem.W.Frag) : List V → Hp → VK → Prop := fun vs H Q => ∃ (a : Addr) (ns : List Int), vs = [V.ref a] ∧ SqT K H a (ns.map V.int) ∧ Q (.int ns.sum) H
theorem cr_sumT {X : Cx} (hc : X.calm = true) : CallR X (.builtin "sum") (rSumT X.K) := by
  intro pins s σ H vs us Q I r h
  obtain ⟨a, ns, rfl, hs, q⟩ := h
  obtain ⟨its, rv, hl, _⟩ := I.tuple hs
  rw [Vals.ref1 r]
  have hi := rv.ints
  obtain ⟨xs, e⟩ := hi.allInts.items
  have hn : numsOf (intItems xs).toList = ns := by rw [← e]; exact hi.numsOf
  rw [nums_intItems] at hn
  have hl' : s.heap.IsTuple a its.toArray := hl
  rw [e] at hl'
  refine PySem.W.ktm_sumG (I.ok.hd hc) hl' fun h' tk t' hk => ?_
  have e2 : PySem.preSum (numAt xs) xs.size = ns.sum := by
    rw [preSum_eq, List.take_of_length_le (by simp), hn]
  rw [e2]
  exact ⟨.int _, H, I.kept hk, ⟨_, rfl⟩, q⟩
/-! ### a def of the program as its callers see it -/
structure Df (P : Program) (w : World) (K : PySem.W.Frag) (mg : Str → Option Value) (base : Heap) (k : Nat) (x : Str) (ps : List Str) (dvs : List V) (sp : Sp) : Prop where
  ex : ∃ (f : Addr) (fd : FuncData) (ds : List Value), FnOk P w K mg base CX0 k f fd ps sp ∧ mg x = some (.ref f) ∧ PySem.W.keepIn K (.ref f) = true ∧ Vals dvs ds ∧ Binds K fd ps ds
structure Dg (P : Program) (w : World) (K : PySem.W.Frag) (mg : Str → Option Value) (base : Heap) (k : Nat) (x : Str) (ps : List Str) (dvs : List V) (sp : Sp) : Prop where
  ex : ∃ (f : Addr) (fd : FuncData) (ds : List Value), FnG P w K mg base CX0 k f fd ps sp ∧ mg x = some (.ref f) ∧ PySem.W.keepIn K (.ref f) = true ∧ Vals dvs ds ∧ Binds K fd ps ds
/-- called by names alone, ks in the text's order -/
structure Dk (P : Program) (w : World) (K : PySem.W.Frag) (mg : Str → Option Value) (base : Heap) (k : Nat) (x : Str) (ps ks : List Str) (gV : List V → List V) (sp : Sp) : Prop where
  ex : ∃ (f : Addr) (fd : FuncData) (g : List Value → List Value), FnOk P w K mg base CX0 k f fd ps sp ∧ mg x = some (.ref f) ∧ PySem.W.keepIn K (.ref f) = true ∧
    (∀ {vs : List V} {us : List Value}, Vals vs us → Vals (gV vs) (g us)) ∧
    ∀ (s : Shared) (ws : List Value), K.In s.heap → ws.length = ks.length → BindsTo s fd ⟨[], ks.zip ws⟩ (ps.zip (g ws))
def tCallN0 (n : Nat) (sp : Sp) (gV : List V → List V) (tk : TA) : TE := fun σ H Q => tk σ H fun zs H2 => zs.length = n ∧ sp (gV zs) H2 Q E0
section
variable {X : Cx} {k : Nat} {x : Str} {ps ks : List Str} {sp : Sp} {dvs : List V} {p pos : Pos} {e : Expr} {es : List Expr} {t tk : TA} {kws : List Keyword} {gV : List V → List V}
theorem pe_df (D : Df X.prog X.w X.K X.mg X.base k x ps dvs sp) (hr : Room k X.A) (ha : PA X (e :: es) t) (hg : Gl X x := by rfl) (hdb : (x == ("__debug__" : Str)) = false := by decide)
    (he : starEach (e :: es) X.env = (false, eval e X.env) :: starEach es X.env := by rfl) (hpl : (backTo pos (starEach es X.env)).any (·.1) = false := by rfl) :
    PE X (.Call (.Name x p) (e :: es) [] pos) (tCall sp dvs E0 t) := by
  obtain ⟨f, fd, ds, F, m, kp, hv, b⟩ := D.ex
  exact pe_call F hr hg m kp b hv pass0 ha hdb he hpl
theorem pe_dg (D : Dg X.prog X.w X.K X.mg X.base k x ps dvs sp) (gd : X.A.guards = some []) (hr : Room k X.A) (ha : PA X (e :: es) t) (hg : Gl X x := by rfl) (hdb : (x == ("__debug__" : Str)) = false := by decide)
    (he : starEach (e :: es) X.env = (false, eval e X.env) :: starEach es X.env := by rfl) (hpl : (backTo pos (starEach es X.env)).any (·.1) = false := by rfl) :
    PE X (.Call (.Name x p) (e :: es) [] pos) (tCall sp dvs E0 t) := by
  obtain ⟨f, fd, ds, F, m, kp, hv, b⟩ := D.ex
  exact pe_callG F gd hr hg m kp b hv pass0 ha hdb he hpl
theorem pe_dk (D : Dk X.prog X.w X.K X.mg X.base k x ps ks gV sp) (hr : Room k X.A) (hkw : PK X kws tk) (hg : Gl X x := by rfl)
    (hall : (backToKw pos (keywordEach kws X.env)).all (·.1.isSome) = true := by rfl) (hks : (backToKw pos (keywordEach kws X.env)).filterMap (·.1) = ks := by rfl) (hdb : (x == ("__debug__" : Str)) = false := by decide)
    (hpl : ((backTo pos (starEach [] X.env)).any (·.1) || (backToKw pos (keywordEach kws X.env)).any (·.1.isNone)) = false := by rfl) :
    PE X (.Call (.Name x p) [] kws pos) (tCallN0 ks.length sp gV tk) := by
  obtain ⟨f, fd, g, F, m, kp, rel, b⟩ := D.ex
  constructor
  intro pins s σ H Q I h
  apply wpAny_Call_Name_kw (ld_glob I hg m ?_ hdb)
  apply PySem.W.callWith_KW0 (h₀ := X.base) I.ok.mod.kin kp hall ?_ hpl
  apply thn (hkw.run pos pins s σ H _ I h)
  rintro ws s2 ⟨zs, H2, I2, rz, ln, asked⟩
  refine ⟨I2.kIn, ?_⟩
  rw [hks]
  have ll : ws.length = ks.length := rz.length.symm.trans ln
  have rr := rel rz
  apply wpAny_call
  refine codeAny_mono (F.run X.A X.stack s2 H2 ⟨[], ks.zip ws⟩ (g ws) (gV zs) Q E0 hr I2.env0 (b s2 ws I2.kIn ll) rr asked) ?_
  intro res s' got
  match res, got with
  | .error e, got => exact (got : False).elim
  | .ok (.ret u), got => exact I2.after got
  | .ok .next, got => exact got.elim
  | .ok .brk, got => exact got.elim
  | .ok .cont, got => exact got.elim
end
/-! ### small things -/
theorem _root_.L2.Same.sqt {K : PySem.W.Frag} {H H' : Hp} {a : Addr} {xs : List V} (e : Same H H') (h : SqT K H a xs) : SqT K H' a xs := by
  rcases h with (h | ⟨o, h⟩) | h
  · exact .inl (.inl (e _ _ h))
  · exact .inl (.inr ⟨o, e _ _ h⟩)
  · exact .inr h
theorem _root_.L2.Same.new {H : Hp} {p : Addr} {o : HO} (h : H p = none) : Same H (upd H p o) := fun b u e => by rw [upd_ne (ne_of_none e h)]; exact e
theorem _root_.L2.Same.step {H0 H : Hp} {p : Addr} {o : HO} (s : Same H0 H) (h : H p = none) : Same H0 (upd H p o) := s.trans (Same.new h)
theorem _root_.L2.Same.wr {H0 H : Hp} {p : Addr} {o : HO} (s : Same H0 H) (h : H0 p = none) : Same H0 (upd H p o) := fun b u e => by rw [upd_ne (ne_of_none e h)]; exact s b u e
/-- all but the objects at p and q is as it was -/
def But (p q : Addr) (H H' : Hp) : Prop := ∀ b o, H b = some o → b ≠ p → b ≠ q → H' b = some o
theorem But.refl {p q : Addr} {H : Hp} : But p q H H := fun _ _ h _ _ => h
theorem But.trans {p q : Addr} {H H1 H2 : Hp} (a : But p q H H1) (b : But p q H1 H2) : But p q H H2 := fun c o h h1 h2 => b c o (a c o h h1 h2) h1 h2
theorem But.of {p q : Addr} {H H' : Hp} (a : Same H H') : But p q H H' := fun c o h _ _ => a c o h
theorem _root_.L2.Same.but {p q : Addr} {H0 H H' : Hp} (a : Same H0 H) (b : But p q H H') (hp : H0 p = none) (hq : H0 q = none) : Same H0 H' := fun c o h => b c o (a c o h) (ne_of_none h hp) (ne_of_none h hq)
theorem ints_get {ns : List Int} {i : Nat} {y : V} (h : (ns.map V.int)[i]? = some y) : ∃ z, ns[i]? = some z ∧ y = V.int z := by
  rw [List.getElem?_map] at h
  cases e : ns[i]? with
  | none => rw [e] at h; cases h
  | some z => rw [e] at h; exact ⟨z, rfl, (Option.some.inj h).symm⟩
theorem lt_of_get {α : Type} {l : List α} {i : Nat} {y : α} (h : l[i]? = some y) : i < l.length := (List.getElem?_eq_some_iff.mp h).1
theorem iteFF {A B : Prop} {b : Bool} (e : b = false) (h : B) : if b = true then A else B := by subst e; exact iteF h
theorem iteTT {A B : Prop} {b : Bool} (e : b = true) (h : A) : if b = true then A else B := by subst e; exact iteT h
end Cf
/-! The mathematics of the calendar, plain. -/
namespace Cf
def leapB (y : Int) : Bool := decide (y % 4 = 0) && (decide (y % 100 ≠ 0) || decide (y % 400 = 0))
def lyb (y : Int) : Int := (y - 1) / 4 - (y - 1) / 100 + (y - 1) / 400
def ysOf (y : Int) : Int := 365 * (y - 2000) + lyb y - lyb 2000
theorem leapB_iff (y : Int) : leapB y = true ↔ (y % 4 = 0 ∧ (y % 100 ≠ 0 ∨ y % 400 = 0)) := by
  unfold leapB
  simp only [Bool.and_eq_true, Bool.or_eq_true, decide_eq_true_eq]
def leapI (y : Int) : Int := if leapB y = true then 1 else 0
theorem ys_succ (y : Int) : ysOf (y + 1) = ysOf y + 365 + leapI y := by
  unfold ysOf lyb leapI
  have := leapB_iff y
  by_cases h : leapB y = true
  · rw [if_pos h]
    have h2 := this.mp h
    omega
  · rw [if_neg h]
    have h2 : ¬ (y % 4 = 0 ∧ (y % 100 ≠ 0 ∨ y % 400 = 0)) := fun z => h (this.mpr z)
    omega
theorem leapI_01 (y : Int) : leapI y = 0 ∨ leapI y = 1 := by
  unfold leapI
  by_cases h : leapB y = true
  · rw [if_pos h]; exact Or.inr rfl
  · rw [if_neg h]; exact Or.inl rfl
theorem ys_step (y : Int) : ysOf y + 365 ≤ ysOf (y + 1) ∧ ysOf (y + 1) ≤ ysOf y + 366 := by
  have := ys_succ y
  have := leapI_01 y
  omega
theorem ys_mono_nat (y : Int) : ∀ n : Nat, ysOf y + 365 * (n : Int) ≤ ysOf (y + n)
  | 0 => by simp
  | n + 1 => by
    have h1 := ys_mono_nat y n
    have h2 := (ys_step (y + n)).1
    have e : y + ((n + 1 : Nat) : Int) = y + (n : Int) + 1 := by omega
    rw [e]
    omega
theorem ys_lt {y z : Int} (h : y < z) : ysOf y < ysOf z := by
  have h1 := ys_mono_nat y (z - y).toNat
  have e : y + ((z - y).toNat : Int) = z := by omega
  rw [e] at h1
  omega
theorem ys_le {y z : Int} (h : y ≤ z) : ysOf y ≤ ysOf z := by
  by_cases e : y = z
  · rw [e]; exact Int.le_refl _
  · exact Int.le_of_lt (ys_lt (by omega))
theorem ys_le_iff {y z : Int} (h : ysOf y < ysOf (z + 1)) : y ≤ z := by
  by_cases q : y ≤ z
  · exact q
  · have := ys_le (y := z + 1) (z := y) (by omega)
    omega
/-- the law's own first day of a year -/
def lawNY (y : Int) : Int := 365 * (y - 2000) + (y - 2000 + 3) / 4 - (y - 2000 + 99) / 100 + (y - 2000 + 399) / 400
theorem lawNY_eq (y : Int) : lawNY y = ysOf y := by
  unfold lawNY ysOf lyb
  omega
/-- the first try of year_of is never too late -/
theorem first_try {d y : Int} (h1 : ysOf y ≤ d) (h2 : d < ysOf (y + 1)) : 2000 + 400 * (d / 146097) + (d % 146097) / 366 ≤ y := by
  refine ys_le_iff (z := y) ?_
  have : ysOf (2000 + 400 * (d / 146097) + (d % 146097) / 366) ≤ d := by
    unfold ysOf lyb
    omega
  omega
def ml (m : Int) : Int := match m with
  | 1 => 31 | 2 => 28 | 3 => 31 | 4 => 30 | 5 => 31 | 6 => 30 | 7 => 31 | 8 => 31 | 9 => 30 | 10 => 31 | 11 => 30 | 12 => 31 | _ => 0
def mlen (m : Int) (l : Bool) : Int := if m = 2 ∧ l = true then 29 else ml m
def MLs : List Int := [31, 28, 31, 30, 31, 30, 31, 31, 30, 31, 30, 31]
def mst (m : Int) (l : Bool) : Int := (MLs.take (m - 1).toNat).sum + (if l = true ∧ 2 < m then 1 else 0)
theorem m12 {m : Int} (h1 : 1 ≤ m) (h2 : m ≤ 12) : m = 1 ∨ m = 2 ∨ m = 3 ∨ m = 4 ∨ m = 5 ∨ m = 6 ∨ m = 7 ∨ m = 8 ∨ m = 9 ∨ m = 10 ∨ m = 11 ∨ m = 12 := by omega
theorem mst_succ {m : Int} (h1 : 1 ≤ m) (h2 : m ≤ 12) (l : Bool) : mst (m + 1) l = mst m l + mlen m l := by
  rcases m12 h1 h2 with rfl | rfl | rfl | rfl | rfl | rfl | rfl | rfl | rfl | rfl | rfl | rfl <;> cases l <;> decide
theorem mst_1 (l : Bool) : mst 1 l = 0 := by cases l <;> decide
theorem mst_13 (l : Bool) : mst 13 l = 365 + (if l = true then 1 else 0) := by cases l <;> decide
theorem mlen_bd {m : Int} (h1 : 1 ≤ m) (h2 : m ≤ 12) (l : Bool) : 28 ≤ mlen m l ∧ mlen m l ≤ 31 := by
  rcases m12 h1 h2 with rfl | rfl | rfl | rfl | rfl | rfl | rfl | rfl | rfl | rfl | rfl | rfl <;> cases l <;> decide
theorem mst_bd {m : Int} (h1 : 1 ≤ m) (h2 : m ≤ 13) (l : Bool) : 0 ≤ mst m l ∧ mst m l ≤ 366 := by
  have : m = 13 ∨ m ≤ 12 := by omega
  rcases this with rfl | h
  · cases l <;> decide
  · rcases m12 h1 h with rfl | rfl | rfl | rfl | rfl | rfl | rfl | rfl | rfl | rfl | rfl | rfl <;> cases l <;> decide
theorem mst_mono_nat (l : Bool) (m : Int) (h1 : 1 ≤ m) : ∀ n : Nat, m + n ≤ 13 → mst m l + 28 * (n : Int) ≤ mst (m + n) l
  | 0, _ => by simp
  | n + 1, h => by
    have h3 := mst_mono_nat l m h1 n (by omega)
    have h4 := mst_succ (m := m + n) (by omega) (by omega) l
    have h5 := mlen_bd (m := m + n) (by omega) (by omega) l
    have e : m + ((n + 1 : Nat) : Int) = m + (n : Int) + 1 := by omega
    rw [e, h4]
    omega
theorem mst_le {a b : Int} (h1 : 1 ≤ a) (h : a ≤ b) (h2 : b ≤ 13) (l : Bool) : mst a l ≤ mst b l := by
  have h3 := mst_mono_nat l a h1 (b - a).toNat (by omega)
  have e : a + ((b - a).toNat : Int) = b := by omega
  rw [e] at h3
  omega
/-- a date that exists -/
structure IsDate (y m d : Int) : Prop where
  m1 : 1 ≤ m
  m2 : m ≤ 12
  d1 : 1 ≤ d
  d2 : d ≤ mlen m (leapB y)
def dayOf (y m d : Int) : Int := ysOf y + mst m (leapB y) + d - 1
theorem IsDate.year {y m d : Int} (D : IsDate y m d) : ysOf y ≤ dayOf y m d ∧ dayOf y m d < ysOf (y + 1) := by
  have h1 := mst_bd D.m1 (by have := D.m2; omega) (leapB y)
  have h2 := mst_succ D.m1 D.m2 (leapB y)
  have h3 := mst_le (a := m + 1) (b := 13) (by have := D.m1; omega) (by have := D.m2; omega) (by omega) (leapB y)
  have h4 := mst_13 (leapB y)
  have h5 := ys_succ y
  have h6 : leapI y = (if leapB y = true then 1 else 0) := rfl
  have := D.d1
  have := D.d2
  unfold dayOf
  omega
theorem IsDate.month {y m d : Int} (D : IsDate y m d) : mst m (leapB y) ≤ dayOf y m d - ysOf y ∧ dayOf y m d - ysOf y < mst (m + 1) (leapB y) := by
  have h2 := mst_succ D.m1 D.m2 (leapB y)
  have := D.d1
  have := D.d2
  unfold dayOf
  omega
theorem dayOf_first (y m : Int) : dayOf y m 1 = ysOf y + mst m (leapB y) := by unfold dayOf; omega
theorem ys_as_day (y : Int) : ysOf y = dayOf y 1 1 := by rw [dayOf_first, mst_1]; omega
theorem ys_last (y : Int) : ysOf (y + 1) - 1 = dayOf y 12 31 := by
  have h5 := ys_succ y
  have h6 : leapI y = (if leapB y = true then 1 else 0) := rfl
  have h4 := mst_13 (leapB y)
  have h2 := mst_succ (m := 12) (by omega) (by omega) (leapB y)
  have h3 : mlen 12 (leapB y) = 31 := by cases leapB y <;> decide
  unfold dayOf
  have e : (12 : Int) + 1 = 13 := by omega
  rw [e] at h2
  omega
/-- the law's leap year -/
def isLong (y : Int) : Bool := decide (y % 400 = 0) || (decide (y % 4 = 0) && decide (y % 100 ≠ 0))
theorem isLong_eq (y : Int) : isLong y = leapB y := by
  have h1 := leapB_iff y
  have h2 : isLong y = true ↔ (y % 400 = 0 ∨ (y % 4 = 0 ∧ y % 100 ≠ 0)) := by
    unfold isLong
    simp only [Bool.and_eq_true, Bool.or_eq_true, decide_eq_true_eq]
  have h3 : isLong y = true ↔ leapB y = true := by rw [h1, h2]; omega
  cases a : isLong y <;> cases b : leapB y <;> simp_all
def lawSizes (l : Bool) : List Int := [31, if l = true then 29 else 28, 31, 30, 31, 30, 31, 31, 30, 31, 30, 31]
theorem lawSizes_get {m : Int} (h1 : 1 ≤ m) (h2 : m ≤ 12) (l : Bool) : (lawSizes l)[(m - 1).toNat]? = some (mlen m l) := by
  rcases m12 h1 h2 with rfl | rfl | rfl | rfl | rfl | rfl | rfl | rfl | rfl | rfl | rfl | rfl <;> cases l <;> decide
theorem MLs_get {m : Int} (h1 : 1 ≤ m) (h2 : m ≤ 12) : MLs[(m - 1).toNat]? = some (ml m) := by
  rcases m12 h1 h2 with rfl | rfl | rfl | rfl | rfl | rfl | rfl | rfl | rfl | rfl | rfl | rfl <;> decide
/-- the law's first day of a month -/
theorem lawMonth_eq {y m : Int} (h1 : 1 ≤ m) (h2 : m ≤ 12) :
    lawNY y + (([31, 28 + (lawNY (y + 1) - lawNY y - 365), 31, 30, 31, 30, 31, 31, 30, 31, 30, 31] : List Int).take (m - 1).toNat).sum = ysOf y + mst m (leapB y) := by
  rw [lawNY_eq, lawNY_eq]
  have e : ysOf (y + 1) - ysOf y - 365 = leapI y := by have := ys_succ y; omega
  rw [e]
  have h6 : leapI y = (if leapB y = true then 1 else 0) := rfl
  rw [h6]
  rcases m12 h1 h2 with rfl | rfl | rfl | rfl | rfl | rfl | rfl | rfl | rfl | rfl | rfl | rfl <;> cases leapB y <;> simp [mst, MLs] <;> omega
theorem prev_month {m : Int} (h1 : 2 ≤ m) (h2 : m ≤ 12) : (m + 10) % 12 + 1 = m - 1 := by omega
/-- bounds -/
theorem ys_bd {y B : Int} (h1 : -B ≤ y) (h2 : y ≤ B) (hB : 10000 ≤ B) : -(800 * B) ≤ ysOf y ∧ ysOf y ≤ 800 * B := by
  unfold ysOf lyb
  omega
end Cf
/-! Weeks. -/
namespace Cf
def thu (d : Int) : Int := d - (d + 5) % 7 + 3
structure WeekOk (d wy wn : Int) : Prop where
  lo : ysOf wy ≤ thu d
  hi : thu d < ysOf (wy + 1)
  nr : wn = (thu d - ysOf wy) / 7 + 1
/-- the Monday of the week with 4 January -/
def fst (y : Int) : Int := ysOf y + 3 - (ysOf y + 3 + 5) % 7
theorem fst_bd (y : Int) : ysOf y - 3 ≤ fst y ∧ fst y ≤ ysOf y + 3 := by unfold fst; omega
/-- the day behind -/
theorem next_day {y m n : Int} (D : IsDate y m n) (h : n < mlen m (leapB y)) : IsDate y m (n + 1) ∧ dayOf y m (n + 1) = dayOf y m n + 1 := by
  have h1 := D.d1
  exact ⟨⟨D.m1, D.m2, by omega, by omega⟩, by unfold dayOf; omega⟩
theorem next_month {y m n : Int} (D : IsDate y m n) (h : ¬ n < mlen m (leapB y)) (h2 : m < 12) : IsDate y (m + 1) 1 ∧ dayOf y (m + 1) 1 = dayOf y m n + 1 := by
  have h1 := D.d2
  have h3 := D.m1
  have h4 := mst_succ D.m1 D.m2 (leapB y)
  have h5 := mlen_bd (m := m + 1) (by omega) (by omega) (leapB y)
  exact ⟨⟨by omega, by omega, by omega, by omega⟩, by unfold dayOf; omega⟩
theorem next_year {y m n : Int} (D : IsDate y m n) (h : ¬ n < mlen m (leapB y)) (h2 : ¬ m < 12) : IsDate (y + 1) 1 1 ∧ dayOf (y + 1) 1 1 = dayOf y m n + 1 := by
  have h1 := D.d2
  have h3 := D.m2
  have e : m = 12 := by omega
  subst e
  have h4 := ys_last y
  have h6 : mlen 12 (leapB y) = 31 := by cases leapB y <;> decide
  have e2 : n = 31 := by omega
  subst e2
  have h5 := mlen_bd (m := 1) (by omega) (by omega) (leapB (y + 1))
  refine ⟨⟨by omega, by omega, by omega, by omega⟩, ?_⟩
  rw [← ys_as_day]
  omega
theorem week_next_new {d wy wn z : Int} (W : WeekOk (d - 1) wy wn) (mon : (d + 5) % 7 = 0) (h1 : ysOf z ≤ d + 3) (h2 : d + 3 < ysOf (z + 1)) (ne : ¬ z = wy) : WeekOk d z 1 := by
  have a := W.lo
  have b := W.hi
  have e1 : thu (d - 1) = d - 4 := by unfold thu; omega
  have e2 : thu d = d + 3 := by unfold thu; omega
  have q1 : wy ≤ z := ys_le_iff (by omega)
  have q2 := ys_le (y := wy + 1) (z := z) (by omega)
  exact ⟨by omega, by omega, by omega⟩
theorem week_next_same {d wy wn : Int} (W : WeekOk (d - 1) wy wn) (mon : (d + 5) % 7 = 0) (h1 : ysOf wy ≤ d + 3) (h2 : d + 3 < ysOf (wy + 1)) : WeekOk d wy (wn + 1) := by
  have a := W.lo
  have b := W.hi
  have c := W.nr
  have e1 : thu (d - 1) = d - 4 := by unfold thu; omega
  have e2 : thu d = d + 3 := by unfold thu; omega
  exact ⟨by omega, by omega, by omega⟩
theorem week_stay {d wy wn : Int} (W : WeekOk (d - 1) wy wn) (mon : ¬ (d + 5) % 7 = 0) : WeekOk d wy wn := by
  have a := W.lo
  have b := W.hi
  have c := W.nr
  have e1 : thu (d - 1) = thu d := by unfold thu; omega
  exact ⟨by omega, by omega, by omega⟩
theorem week_at {d y : Int} (h1 : fst y ≤ d - (d + 5) % 7) (h2 : d - (d + 5) % 7 < fst (y + 1)) : WeekOk d y ((d - (d + 5) % 7 - fst y) / 7 + 1) := by
  unfold fst at *
  refine ⟨?_, ?_, ?_⟩ <;> unfold thu <;> omega
theorem week_far {d y : Int} (h1 : ysOf y ≤ d) (h2 : d < ysOf (y + 1)) : d - (d + 5) % 7 < fst (y + 1 + 1) ∧ fst (y - 1) ≤ d - (d + 5) % 7 := by
  have a := ys_step (y + 1)
  have b := ys_step (y - 1)
  have e : y - 1 + 1 = y := by omega
  rw [e] at b
  have c := fst_bd (y + 1 + 1)
  have f := fst_bd (y - 1)
  omega
theorem week_53 {d wy wn : Int} (W : WeekOk d wy wn) : 1 ≤ wn ∧ wn < 54 := by
  have a := W.lo
  have b := W.hi
  have c := W.nr
  have e := ys_step wy
  omega
theorem week_jan4 {y wy wn : Int} (W : WeekOk (dayOf y 1 4) wy wn) : wy = y ∧ wn = 1 := by
  have a := W.lo
  have b := W.hi
  have c := W.nr
  have e : dayOf y 1 4 = ysOf y + 3 := by
    unfold dayOf
    rw [mst_1]
    omega
  rw [e] at a b c
  have e3 := ys_step y
  have t : ysOf y ≤ thu (ysOf y + 3) ∧ thu (ysOf y + 3) ≤ ysOf y + 6 := by unfold thu; omega
  have q1 : wy ≤ y := ys_le_iff (by omega)
  have q2 : y ≤ wy := ys_le_iff (by omega)
  have q : wy = y := by omega
  subst q
  omega
end Cf
namespace Cf
open PySem L2
def top (i : Nat) : Stmt := PySem.Challenge.pw_clockfolds_k02_whole_calendar_walked.main.body.getD i (.Pass ⟨0, 0, 0, 0⟩)
abbrev sClockerror : Stmt := top 1
abbrev sBadnumber : Stmt := top 2
abbrev sBaddate : Stmt := top 3
abbrev sIsNumber : Stmt := top 8
abbrev sCheckNumber : Stmt := top 9
abbrev sIsLeap : Stmt := top 10
abbrev sLeapYearsBefore : Stmt := top 11
abbrev sYearStart : Stmt := top 12
abbrev sMonthLength : Stmt := top 13
abbrev sMonthStart : Stmt := top 14
abbrev sDayOf : Stmt := top 15
abbrev sYearOf : Stmt := top 16
abbrev sDateOf : Stmt := top 17
abbrev sWeekday : Stmt := top 18
abbrev sWeekOf : Stmt := top 19
abbrev sLawBegun : Stmt := top 21
abbrev sLawMixed : Stmt := top 22
abbrev sLawTake : Stmt := top 23
abbrev sLawPick : Stmt := top 24
abbrev sLawNewYear : Stmt := top 25
abbrev sLawMonth : Stmt := top 26
abbrev sLawIsLong : Stmt := top 27
abbrev sLawSize : Stmt := top 28
abbrev sLawSomeYear : Stmt := top 29
abbrev sLawNextDate : Stmt := top 30
abbrev sLawNextWeek : Stmt := top 31
abbrev sLawFirstWeek : Stmt := top 32
abbrev sLawDayRight : Stmt := top 33
abbrev sLaw : Stmt := top 34
/-! ### the law's draws: a dict with the lists wide and cells and the numbers rest and turn -/
/-- the state of the draws at p: its lists at a and b, at most n numbers mixed so far -/
def stK (a b : Addr) (rest turn : Int) : List (Key × V) := [(Sum.inr "wide", V.ref a), (Sum.inr "cells", V.ref b), (Sum.inr "rest", V.int rest), (Sum.inr "turn", V.int turn)]
theorem kwc : ¬ (Sum.inr ("wide" : Str) : Key) = Sum.inr ("cells" : Str) := by decide +kernel
theorem kwr : ¬ (Sum.inr ("wide" : Str) : Key) = Sum.inr ("rest" : Str) := by decide +kernel
theorem kcr : ¬ (Sum.inr ("cells" : Str) : Key) = Sum.inr ("rest" : Str) := by decide +kernel
theorem kwt : ¬ (Sum.inr ("wide" : Str) : Key) = Sum.inr ("turn" : Str) := by decide +kernel
theorem kct : ¬ (Sum.inr ("cells" : Str) : Key) = Sum.inr ("turn" : Str) := by decide +kernel
theorem krt : ¬ (Sum.inr ("rest" : Str) : Key) = Sum.inr ("turn" : Str) := by decide +kernel
theorem ktr : ¬ (Sum.inr ("turn" : Str) : Key) = Sum.inr ("rest" : Str) := by decide +kernel
theorem stK_wide {a b : Addr} {r t : Int} : valV (stK a b r t) (Sum.inr ("wide" : Str) : Key) = some (V.ref a) := by
  unfold stK
  exact valV_pos rfl
theorem stK_cells {a b : Addr} {r t : Int} : valV (stK a b r t) (Sum.inr ("cells" : Str) : Key) = some (V.ref b) := by
  unfold stK
  rw [valV_neg kwc]
  exact valV_pos rfl
theorem stK_rest {a b : Addr} {r t : Int} : valV (stK a b r t) (Sum.inr ("rest" : Str) : Key) = some (V.int r) := by
  unfold stK
  rw [valV_neg kwr, valV_neg kcr]
  exact valV_pos rfl
theorem stK_turn {a b : Addr} {r t : Int} : valV (stK a b r t) (Sum.inr ("turn" : Str) : Key) = some (V.int t) := by
  unfold stK
  rw [valV_neg kwt, valV_neg kct, valV_neg krt]
  exact valV_pos rfl
theorem nkk {x y : Str} (h : (x == y) = false) : ¬ (Sum.inr x : Key) = Sum.inr y := fun e => by
  have e2 := Sum.inr.inj e
  rw [e2] at h
  simp at h
theorem stK_put_rest (a b : Addr) (r t z : Int) : putK (stK a b r t) (Sum.inr ("rest" : Str) : Key) (V.int z) = stK a b z t := by
  unfold putK
  rw [valV_any, stK_rest]
  rw [if_pos (by rfl)]
  unfold stK
  simp only [List.map_cons, List.map_nil, if_neg kwr, if_neg kcr, if_neg ktr, if_true]
theorem stK_put_turn (a b : Addr) (r t z : Int) : putK (stK a b r t) (Sum.inr ("turn" : Str) : Key) (V.int z) = stK a b r z := by
  unfold putK
  rw [valV_any, stK_turn]
  rw [if_pos (by rfl)]
  unfold stK
  simp only [List.map_cons, List.map_nil, if_neg kwt, if_neg kct, if_neg krt, if_true]
theorem stK_merge (a b : Addr) (r t : Int) : mergeK [] (stK a b r t) = stK a b r t := by
  unfold mergeK stK
  simp only [List.foldl_cons, List.foldl_nil]
  rw [putK_new (kvs := []) _ valV_nil, List.nil_append, putK_new, putK_new, putK_new]
  · rfl
  · rw [valV_neg kwc, valV_nil]
  · rw [valV_put, if_neg (fun e => kcr e.symm), valV_neg kwr, valV_nil]
  · rw [valV_put, if_neg (fun e => krt e.symm), valV_put, if_neg (fun e => kct e.symm), valV_neg kwt, valV_nil]
section
variable {H : Hp} {p a b : Addr} {r t z : Int}
theorem get_wide (h : H p = some (.dK (stK a b r t))) : DGet H p (.str "wide") (some (.ref a)) := by
  have q := DGet.k (k := Sum.inr ("wide" : Str)) h
  rw [stK_wide] at q
  exact q
theorem get_cells (h : H p = some (.dK (stK a b r t))) : DGet H p (.str "cells") (some (.ref b)) := by
  have q := DGet.k (k := Sum.inr ("cells" : Str)) h
  rw [stK_cells] at q
  exact q
theorem get_rest (h : H p = some (.dK (stK a b r t))) : DGet H p (.str "rest") (some (.int r)) := by
  have q := DGet.k (k := Sum.inr ("rest" : Str)) h
  rw [stK_rest] at q
  exact q
theorem get_turn (h : H p = some (.dK (stK a b r t))) : DGet H p (.str "turn") (some (.int t)) := by
  have q := DGet.k (k := Sum.inr ("turn" : Str)) h
  rw [stK_turn] at q
  exact q
theorem put_rest (z : Int) (h : H p = some (.dK (stK a b r t))) : DPut H p (.str "rest") (.int z) (upd H p (.dK (stK a b z t))) := by
  have q := DPut.k (k := Sum.inr ("rest" : Str)) (v := V.int z) h (by show 4 < sizeLine; decide)
  rw [stK_put_rest] at q
  exact q
theorem put_turn (z : Int) (h : H p = some (.dK (stK a b r t))) : DPut H p (.str "turn") (.int z) (upd H p (.dK (stK a b r z))) := by
  have q := DPut.k (k := Sum.inr ("turn" : Str)) (v := V.int z) h (by show 4 < sizeLine; decide)
  rw [stK_put_turn] at q
  exact q
end
structure Stt (p a b : Addr) (n : Nat) (H : Hp) : Prop where
  ex : ∃ (ws cs : List Int) (rest turn : Int), H p = some (.dK (stK a b rest turn)) ∧ H a = some (.lst (ws.map V.int)) ∧ H b = some (.lst (cs.map V.int)) ∧ 0 ≤ turn ∧ turn ≤ (n : Int) ∧ cs.length ≤ 63 ∧ ws.length ≤ 63
  ab : a ≠ b
theorem Stt.pa {p a b : Addr} {n : Nat} {H : Hp} (S : Stt p a b n H) : p ≠ a := by
  obtain ⟨ws, cs, rest, turn, h1, h2, _⟩ := S.ex
  exact ne_of h1 h2 (by intro z; cases z)
theorem Stt.pb {p a b : Addr} {n : Nat} {H : Hp} (S : Stt p a b n H) : p ≠ b := by
  obtain ⟨ws, cs, rest, turn, h1, _, h2, _⟩ := S.ex
  exact ne_of h1 h2 (by intro z; cases z)
theorem Stt.mono {p a b : Addr} {n m : Nat} {H : Hp} (S : Stt p a b n H) (h : n ≤ m) : Stt p a b m H := by
  obtain ⟨⟨ws, cs, rest, turn, h1, h2, h3, h4, h5, h6, h7⟩, h8⟩ := S
  exact ⟨⟨ws, cs, rest, turn, h1, h2, h3, h4, by omega, h6, h7⟩, h8⟩
theorem Stt.same {p a b : Addr} {n : Nat} {H H' : Hp} (S : Stt p a b n H) (h : Same H H') : Stt p a b n H' := by
  obtain ⟨⟨ws, cs, rest, turn, h1, h2, h3, h4⟩, h8⟩ := S
  exact ⟨⟨ws, cs, rest, turn, h _ _ h1, h _ _ h2, h _ _ h3, h4⟩, h8⟩
theorem Stt.there {p a b : Addr} {n : Nat} {H : Hp} (S : Stt p a b n H) : ∃ u v w, H p = some (.dK u) ∧ H a = some (.lst v) ∧ H b = some (.lst w) := by
  obtain ⟨⟨ws, cs, rest, turn, h1, h2, h3, _⟩, _⟩ := S
  exact ⟨_, _, _, h1, h2, h3⟩
theorem eqv_ints_nil (ws : List Int) : PyData.eqv (.list (ws.map PyData.int)) (.list []) = ws.isEmpty := by
  cases ws with
  | nil => rfl
  | cons w ws => simp [PyData.eqv, PyData.eqvAll]
theorem dpInts {K : PySem.W.Frag} {H : Hp} : ∀ ws : List Int, DpAll K H (ws.map V.int) (ws.map PyData.int)
  | [] => .nil
  | w :: ws => .cons (.int w) (dpInts ws)
theorem canLay_ints : ∀ ws : List Int, PyData.canLayAll0 (ws.map PyData.int) = true
  | [] => rfl
  | w :: ws => by simp [PyData.canLayAll0, PyData.canLay0, canLay_ints ws]
theorem depth_ints : ∀ ws : List Int, PyData.depthAll (ws.map PyData.int) ≤ 1
  | [] => by simp [PyData.depthAll]
  | w :: ws => by have := depth_ints ws; simp only [List.map_cons, PyData.depthAll, PyData.depth]; omega
theorem shaped_ints (ws : List Int) : SeqAt.shaped (.list (ws.map PyData.int)) = true := by
  unfold SeqAt.shaped
  rw [Bool.and_eq_true]
  refine ⟨?_, decide_eq_true ?_⟩
  · simp only [PyData.canLay0]; exact canLay_ints ws
  · have := depth_ints ws
    simp only [PyData.depth]; omega
theorem seq0 {y : Int} (xs : List V) : seqIndex? 0 (V.int y :: xs).length = some 0 := by
  unfold seqIndex?
  simp
/-! ### what the text's built-in names mean -/
structure Nm (mg : Str → Option Value) : Prop where
  abs : mg "abs" = none
  int : mg "int" = none
  bool : mg "bool" = none
  isinstance : mg "isinstance" = none
  sum : mg "sum" = none
  divmod : mg "divmod" = none
  min : mg "min" = none
  len : mg "len" = none
  range : mg "range" = none
  repr : mg "repr" = none
section
variable {P : Program} {w : World} {K : PySem.W.Frag} {mg : Str → Option Value} {base : Heap}
/-! ### _law_begun -/
def spBegun (K : PySem.W.Frag) : Sp := fun vs H Q _ => ∃ (l : Addr) (ns : List Int), vs = [.ref l] ∧ SqL K H l (ns.map V.int) ∧ ns.length ≤ 63 ∧
  ∀ (H' : Hp) (p a b : Addr), H p = none → H a = none → H b = none → Same H H' → Stt p a b 0 H' → Q (.ref p) H'
theorem scLawBegun : FnScope ["script", "wide", "cell"] ["script"] (defScope sLawBegun) := ⟨rfl, rfl, rfl, by decide +kernel, rfl, by decide +kernel, by decide +kernel⟩
theorem absI (z : Int) : (if z < 0 then -z else z) = (z.natAbs : Int) := by
  by_cases h : z < 0
  · rw [if_pos h]; omega
  · rw [if_neg h]; omega
theorem ok_begun {f : Addr} {fd : FuncData} (F : Fun K "_law_begun" "_law_begun" sLawBegun f fd) (T : Nm mg) : FnOk P w K mg base CX0 1 f fd ["script"] (spBegun K) := by
  refine F.ok scLawBegun (fun vs H Q E h => ?_) (fun cdv A outer s H vs Q E hr h => ?_)
  · obtain ⟨l, ns, rfl, _⟩ := h
    rfl
  · obtain ⟨l, ns, rfl, hS, hlen, k⟩ := h
    have nd := scLawBegun.nd
    refine ⟨_, pss_cons (ps_setLc (i := 1) (own := [("cell", 2)]) (g := gName 2) rfl nd rfl rfl (sw_true rfl rfl rfl (by decide +kernel)) (pi_list (pv 0))
        (blkOk_by (N := ["script", "wide", "cell"]) (sc := defScope sLawBegun) (by decide +kernel)) (fun _ _ _ _ _ => pg_name (i := 2) nd rfl (Or.inl rfl))
        (fun _ _ _ _ _ => pts_one (pt_cmpR op_ge (pe_callB call_abs (by rfl) T.abs (by decide +kernel) (pa_cons (pv 2) pa_nil)) (pe_op op_pow pe_int pe_int) (nomark _)))
        (fun _ _ _ _ _ => pe_op op_sub (pe_callB call_abs (by rfl) T.abs (by decide +kernel) (pa_cons (pv 2) pa_nil)) (pe_op op_pow pe_int pe_int)))
      (pss_one (ps_ret (pe_disp (pps_cons pe_str (pv 1) (pps_cons pe_str
        (pe_lc (own := [("cell", 2)]) (g := gName 2) (tt := tYes) rfl nd (pi_list (pv 0)) (blkOk_by (N := ["script", "wide", "cell"]) (sc := defScope sLawBegun) (by decide +kernel)) (fun _ _ _ _ _ => pg_name (i := 2) nd rfl (Or.inl rfl)) (fun _ _ _ _ _ => pts_nil)
          (fun _ _ _ _ _ => pe_op op_mod (pe_callTy call_int1 (by rfl) T.int (by decide +kernel) (pa_cons (pe_callB call_abs (by rfl) T.abs (by decide +kernel) (pa_cons (pv 2) pa_nil)) pa_nil)) pe_int))
        (pps_cons pe_str pe_int (pps_cons pe_str pe_int pps_nil)))) (by rfl) (by rfl) (fun z => by cases z) (by decide)))), ?_⟩
    have cp : CPow 10 18 := ⟨by decide, by decide, by decide⟩
    -- the first list
    refine ⟨_, rfl, l, rfl, ⟨_, hS⟩, fun D hD => lc_list (K := K) (a := l) (xs := ns.map V.int) (fun i H' => Same H H' ∧ ∃ acc : List Int, acc.length ≤ i ∧ H' D = some (.lst (acc.map V.int)))
      ⟨Same.new hD, [], Nat.le_refl _, upd_same⟩ (fun i H' _ ⟨s1, _⟩ => s1.seq hS) ?_ ?_⟩
    · rintro i y H' hi ⟨s1, acc, hacc, hDl⟩
      have hil := lt_of_get hi
      rw [List.length_map] at hil
      obtain ⟨z, hz, rfl⟩ := ints_get hi
      refine ⟨rfl, ?_⟩
      refine ⟨_, rfl, _, rfl, _, _, rfl, rfl, cp, _, _, rfl, rfl, _, rfl, ?_⟩
      refine ite2 (fun _ => ?_) (fun _ => ?_)
      · refine ⟨_, rfl, _, rfl, _, _, rfl, rfl, cp, _, _, rfl, rfl, acc.map V.int, hDl, ?_, ?_⟩
        · rw [List.length_map]
          exact small1000 (by omega)
        · refine ⟨s1.wr hD, acc ++ [(if z < 0 then -z else z) - 10 ^ 18], ?_, ?_⟩
          · rw [List.length_append, List.length_singleton]; omega
          · rw [upd_same, List.map_append]; rfl
      · exact ⟨s1, acc, by omega, hDl⟩
    · rintro H1 ⟨s1, acc, hacc, hDl⟩
      rw [List.length_map] at hacc
      -- the dict, empty; its pairs
      intro p hp
      have npD : D ≠ p := ne_of_none hDl hp
      have s2 : Same H (upd H1 p (.dK [])) := s1.step hp
      refine ⟨_, rfl, _, rfl, l, rfl, ⟨_, s2.seq hS⟩, fun B hB => lc_list (K := K) (a := l) (xs := ns.map V.int) (fun i H' => Same (upd H1 p (.dK [])) H' ∧ ∃ cs : List Int, cs.length ≤ i ∧ H' B = some (.lst (cs.map V.int)))
        ⟨Same.new hB, [], Nat.le_refl _, upd_same⟩ (fun i H' _ ⟨s3, _⟩ => (s2.trans s3).seq hS) ?_ ?_⟩
      · rintro i y H' hi ⟨s3, cs, hcs, hBl⟩
        have hil := lt_of_get hi
        rw [List.length_map] at hil
        obtain ⟨z, hz, rfl⟩ := ints_get hi
        refine ⟨rfl, ?_⟩
        dsimp only [tYes]
        rw [if_pos rfl]
        refine ⟨_, rfl, _, rfl, .inl ⟨_, rfl, _, _, rfl, rfl, (by show (0 : Int) < 2147483629; decide), cs.map V.int, hBl, ?_, ?_⟩⟩
        · rw [List.length_map]
          exact small1000 (by omega)
        · refine ⟨s3.wr hB, cs ++ [(if z < 0 then -z else z) % 2147483629], ?_, ?_⟩
          · rw [List.length_append, List.length_singleton]; omega
          · rw [upd_same, List.map_append]; rfl
      · rintro H2 ⟨s3, cs, hcs, hBl⟩
        rw [List.length_map] at hcs
        have hp2 : H2 p = some (.dK []) := s3 _ _ upd_same
        refine ⟨hp2, stK D B 0 0, rfl, (by show 4 ≤ 15; decide), ?_⟩
        have nBp : B ≠ p := ne_of hBl hp2 (by intro z; cases z)
        have hDl2 : H2 D = some (.lst (acc.map V.int)) := s3 _ _ (by rw [upd_ne npD]; exact hDl)
        have nDB : D ≠ B := ne_of_none (show (upd H1 p (.dK [])) D = some _ by rw [upd_ne npD]; exact hDl) hB
        refine k _ p D B (s1.free hp) hD (s1.free (by rw [upd_ne nBp] at hB; exact hB)) ?_ ⟨⟨acc, cs, 0, 0, ?_, ?_, ?_, by decide, by decide, by omega, by omega⟩, nDB⟩
        · exact (s2.trans s3).wr (s1.free hp)
        · rw [upd_same, stK_merge]
        · rw [upd_ne npD]; exact hDl2
        · rw [upd_ne nBp]; exact hBl
/-! ### _law_mixed -/
def spMixed : Sp := fun vs H Q _ => ∃ (p a b : Addr) (n : Nat), vs = [.ref p] ∧ Stt p a b n H ∧ n ≤ 1000000 ∧
  ∀ (z : Int) (H' : Hp), Stt p a b (n + 1) H' → But p a H H' → Q (.int z) H'
theorem scLawMixed : FnScope ["state", "turn", "found", "prime", "blend", "cell"] ["state"] (defScope sLawMixed) := ⟨rfl, rfl, rfl, by decide +kernel, rfl, by decide +kernel, by decide +kernel⟩
theorem ok_mixed {f : Addr} {fd : FuncData} (F : Fun K "_law_mixed" "_law_mixed" sLawMixed f fd) (T : Nm mg) : FnOk P w K mg base CX0 1 f fd ["state"] spMixed := by
  refine F.ok scLawMixed (fun vs H Q E h => ?_) (fun cdv A outer s H vs Q E hr h => ?_)
  · obtain ⟨p, a, b, n, rfl, _⟩ := h
    rfl
  · obtain ⟨p, a, b, n, rfl, S, hn, k⟩ := h
    have nd := scLawMixed.nd
    have hu := hu_of hr
    have npa := S.pa
    have npb := S.pb
    obtain ⟨⟨ws, cs, rest, turn, h1, h2, h3, t0, t1, hcs, hws⟩, nab⟩ := S
    refine ⟨_, pss_cons (ps_par (i := 1) (j := 2) (by rfl) nd rfl rfl (by decide) rfl rfl (pa_cons (pe_op op_add (pe_dget hu (pv 0) pe_str (fun _ _ => rfl)) pe_int) (pa_cons pe_int pa_nil)) (by rfl))
      (pss_cons (ps_dput hu (pv 0) pe_str (pv 1) rfl)
      (pss_cons (ps_for PassesOwn.never rfl (pi_list (pe_lst (pa_cons pe_int (pa_cons pe_int (pa_cons pe_int (pa_cons pe_int pa_nil)))))) (pg_name (i := 3) nd rfl (Or.inl rfl))
        (pss_cons (ps_set (i := 4) nd rfl (Or.inl rfl) (pe_op op_add (pe_op op_mul pe_int (pv 1)) (pe_op op_fdiv (pv 3) pe_int)))
        (pss_cons (ps_for PassesOwn.never rfl (pi_list (pe_dget hu (pv 0) pe_str (fun _ _ => rfl))) (pg_name (i := 5) nd rfl (Or.inl rfl))
          (pss_one (ps_set (i := 4) nd rfl (Or.inl rfl) (pe_op op_mod (pe_callTy call_int1 (by rfl) T.int (by decide +kernel) (pa_cons (pe_op op_add (pe_op op_add (pe_op op_mul (pv 4) pe_int) (pv 5)) (pv 1)) pa_nil)) (pv 3)))))
        (pss_one (ps_set (i := 2) nd rfl (Or.inl rfl) (pe_op op_add (pe_op op_mul (pv 2) pe_int) (pe_op op_mod (pe_callTy call_int1 (by rfl) T.int (by decide +kernel) (pa_cons (pe_op op_pow (pv 4) pe_int) pa_nil)) (pv 3))))))))
      (pss_one (ps_ret (pv 2))))), ?_⟩
    -- turn, found = state['turn'] + 1, 0; state['turn'] = turn
    refine ⟨_, rfl, p, V.int turn, rfl, get_turn h1, _, _, rfl, rfl, _, _, rfl, ?_⟩
    refine ⟨_, rfl, _, rfl, p, _, rfl, put_turn (turn + 1) h1, ?_⟩
    -- the primes
    refine ⟨by show 4 ≤ sizeLine; decide, fun D hD => ?_⟩
    have npD : p ≠ D := ne_of_none (upd_same) hD
    have naD : a ≠ D := ne_of_none (show upd H p _ a = some _ by rw [upd_ne npa.symm]; exact h2) hD
    have nbD : b ≠ D := ne_of_none (show upd H p _ b = some _ by rw [upd_ne npb.symm]; exact h3) hD
    have hp' : upd (upd H p (.dK (stK a b rest (turn + 1)))) D (.lst [V.int 2147483629, V.int 2147483587, V.int 2147483579, V.int 2147483563]) p = some (.dK (stK a b rest (turn + 1))) := by rw [upd_ne npD, upd_same]
    have ha' : upd (upd H p (.dK (stK a b rest (turn + 1)))) D (.lst [V.int 2147483629, V.int 2147483587, V.int 2147483579, V.int 2147483563]) a = some (.lst (ws.map V.int)) := by rw [upd_ne naD, upd_ne npa.symm]; exact h2
    have hb' : upd (upd H p (.dK (stK a b rest (turn + 1)))) D (.lst [V.int 2147483629, V.int 2147483587, V.int 2147483579, V.int 2147483563]) b = some (.lst (cs.map V.int)) := by rw [upd_ne nbD, upd_ne npb.symm]; exact h3
    have hB : But p a H (upd (upd H p (.dK (stK a b rest (turn + 1)))) D (.lst [V.int 2147483629, V.int 2147483587, V.int 2147483579, V.int 2147483563])) := fun c o e c1 c2 => by
      have e2 : upd H p (.dK (stK a b rest (turn + 1))) c = some o := by rw [upd_ne c1]; exact e
      rw [upd_ne (ne_of_none e2 hD)]
      exact e2
    generalize hH2 : upd (upd H p (.dK (stK a b rest (turn + 1)))) D (.lst [V.int 2147483629, V.int 2147483587, V.int 2147483579, V.int 2147483563]) = H2 at hp' ha' hb' hB
    have hDl : H2 D = some (.lst ([2147483629, 2147483587, 2147483579, 2147483563].map V.int)) := by rw [← hH2]; exact upd_same
    have tb : turn + 1 ≤ 1000001 := by omega
    refine ⟨D, rfl, ⟨_, SqL.of hDl⟩, for_list (K := K) (a := D) (xs := [2147483629, 2147483587, 2147483579, 2147483563].map V.int)
      (fun i σ H' => H' = H2 ∧ ∃ (fo : Int) (v4 v5 v6 : Option V), σ = [some (.ref p), some (.int (turn + 1)), some (.int fo), v4, v5, v6]) ⟨rfl, 0, none, none, none, rfl⟩ (fun i σ H' _ ⟨e, _⟩ => by subst e; exact SqL.of hDl) ?_ ?_⟩
    · rintro i y σ H' hi ⟨rfl, fo, v4, v5, v6, rfl⟩
      obtain ⟨pr, hpr, rfl⟩ := ints_get hi
      have hp1 : 1000 < pr ∧ pr < 2147483648 := by
        have hm := List.mem_of_getElem? hpr
        simp only [List.mem_cons, List.not_mem_nil, or_false] at hm
        omega
      refine ⟨_, rfl, _, _, rfl, rfl, .inl ⟨by decide, by decide⟩, _, rfl, _, _, rfl, rfl, ⟨by decide, by decide⟩, _, _, rfl, rfl, ?_⟩
      refine ⟨_, rfl, p, V.ref b, rfl, get_cells hp', b, rfl, ⟨_, SqL.of hb'⟩, for_list (K := K) (a := b) (xs := cs.map V.int)
        (fun j σ H'' => H'' = H' ∧ ∃ (bl : Int) (v6 : Option V), 0 ≤ bl ∧ bl < 2 ^ 63 ∧ σ = [some (.ref p), some (.int (turn + 1)), some (.int fo), some (.int pr), some (.int bl), v6]) ⟨rfl, 61441 * (turn + 1) + pr / 19, v6, ?_, ?_, rfl⟩ (fun i σ H' _ ⟨e, _⟩ => by subst e; exact SqL.of hb') ?_ ?_⟩
      · omega
      · omega
      · rintro j y σ H' hj ⟨rfl, bl, v6, b0, b1, rfl⟩
        obtain ⟨c, hc, rfl⟩ := ints_get hj
        refine ⟨_, rfl, _, _, rfl, rfl, .inr ⟨by decide, by decide⟩, _, rfl, _, _, rfl, rfl, _, rfl, _, _, rfl, rfl, .inl ⟨_, rfl, _, rfl, _, _, rfl, rfl, (by show 0 < pr; omega), ?_⟩⟩
        have m1 := Int.emod_nonneg (bl * 48271 + c + (turn + 1)) (show pr ≠ 0 by omega)
        have m2 := Int.emod_lt_of_pos (bl * 48271 + c + (turn + 1)) (show 0 < pr by omega)
        exact ⟨rfl, (bl * 48271 + c + (turn + 1)) % pr, _, m1, by omega, rfl⟩
      · rintro σ H' ⟨rfl, bl, v6, b0, b1, rfl⟩
        refine ⟨_, rfl, _, _, rfl, rfl, .inr ⟨by decide, by decide⟩, _, rfl, _, _, rfl, rfl, ⟨by decide, by decide, by omega⟩, .inl ⟨_, rfl, _, rfl, _, _, rfl, rfl, (by show 0 < pr; omega), _, _, rfl, rfl, ?_⟩⟩
        exact ⟨rfl, _, _, _, _, rfl⟩
    · rintro σ H' ⟨rfl, fo, v4, v5, v6, rfl⟩
      refine ⟨_, rfl, ?_⟩
      refine k fo H' ⟨⟨ws, cs, rest, turn + 1, hp', ha', hb', by omega, by omega, hcs, hws⟩, nab⟩ hB
/-! ### _law_take -/
def spTake : Sp := fun vs H Q _ => ∃ (p a b : Addr) (n : Nat) (size : Int), vs = [.ref p, .int size] ∧ Stt p a b n H ∧ n ≤ 1000000 ∧ 0 < size ∧ size ≤ 1000000000 ∧
  ∀ (z : Int) (H' : Hp), 0 ≤ z → z < size → Stt p a b (n + 1) H' → But p a H H' → Q (.int z) H'
theorem scLawTake : FnScope ["state", "size", "found"] ["state", "size"] (defScope sLawTake) := ⟨rfl, rfl, rfl, by decide +kernel, rfl, by decide +kernel, by decide +kernel⟩
theorem ok_take {f : Addr} {fd : FuncData} (F : Fun K "_law_take" "_law_take" sLawTake f fd) (T : Nm mg) (DM : Df P w K mg base 1 "_law_mixed" ["state"] [] spMixed) : FnOk P w K mg base CX0 2 f fd ["state", "size"] spTake := by
  refine F.ok scLawTake (fun vs H Q E h => ?_) (fun cdv A outer s H vs Q E hr h => ?_)
  · obtain ⟨p, a, b, n, size, rfl, _⟩ := h
    rfl
  · obtain ⟨p, a, b, n, size, rfl, S, hn, z0, z1, k⟩ := h
    have nd := scLawTake.nd
    have hu := hu_of hr
    refine ⟨_, pss_cons (ps_if (pt_cmpR op_eq (pe_dget hu (pv 0) pe_str (fun _ _ => rfl)) pe_int (nomark _))
        (pss_one (ps_dput hu (pv 0) pe_str (pe_ifExp (pt_cmpR (op_neD hr.units) (pe_dget hu (pv 0) pe_str (fun _ _ => rfl)) (pe_lst pa_nil) (nomark _))
            (pe_bm PySem.F.plainAttrs_list PySem.F.slot_list_pop PySem.F.type_list_pop mt_popAt (pe_dget hu (pv 0) pe_str (fun _ _ => rfl)) (pa_cons pe_int pa_nil))
            (pe_df DM hr (pa_cons (pv 0) pa_nil))) rfl)) pss_nil)
      (pss_cons (ps_set (i := 2) nd rfl (Or.inl rfl) (pe_op op_mod (pe_callTy call_int1 (by rfl) T.int (by decide +kernel) (pa_cons (pe_dget hu (pv 0) pe_str (fun _ _ => rfl)) pa_nil)) (pv 1)))
      (pss_cons (ps_dput hu (pv 0) pe_str (pe_op op_fdiv (pe_dget hu (pv 0) pe_str (fun _ _ => rfl)) (pv 1)) rfl)
      (pss_one (ps_ret (pv 2))))), ?_⟩
    have npa := S.pa
    have npb := S.pb
    have nab := S.ab
    obtain ⟨⟨ws, cs, rest, turn, h1, h2, h3, t0, t1, hcs, hws⟩, _⟩ := id S
    have fin : ∀ (H1 : Hp) (r1 : Int), (∃ (ws' cs' : List Int) (t' : Int), H1 p = some (.dK (stK a b r1 t')) ∧ H1 a = some (.lst (ws'.map V.int)) ∧ H1 b = some (.lst (cs'.map V.int)) ∧ 0 ≤ t' ∧ t' ≤ ((n + 1 : Nat) : Int) ∧ cs'.length ≤ 63 ∧ ws'.length ≤ 63) → But p a H H1 →
        tAsg (tOp (rI (fun _ j => 0 < j) fun i j => .int (i % j)) (tCB (fun xs H Q => (∃ i, xs = [.int i] ∧ Q (.int i) H) ∨ ∃ k, xs = [.bl k] ∧ Q (.int (if k = true then 1 else 0)) H) (tCons (tDGet (tVar 0) (tC (.str "rest"))) tNil)) (tVar 1)) (gName 2)
          { nx := fun σ1 H1 => sDPut (tVar 0) (tC (.str "rest")) (tOp (rI CDiv fun i j => .int (i / j)) (tDGet (tVar 0) (tC (.str "rest"))) (tVar 1)) { nx := fun σ2 H2 => tRet (tVar 2) { nx := fun _ H' => Q .non H', rt := Q } σ2 H2, rt := Q } σ1 H1, rt := Q } [some (.ref p), some (.int size), none] H1 := by
      intro H1 r1 hh bb
      obtain ⟨ws', cs', t', g1, g2, g3, g4⟩ := hh
      refine ⟨_, rfl, p, V.int r1, rfl, get_rest g1, .inl ⟨_, rfl, _, rfl, _, _, rfl, rfl, z0, ?_⟩⟩
      refine ⟨_, rfl, p, V.int r1, rfl, get_rest g1, _, rfl, _, _, rfl, rfl, ⟨z0, by omega⟩, _, rfl, p, _, rfl, put_rest _ g1, _, rfl, ?_⟩
      refine k _ _ (Int.emod_nonneg _ (by omega)) (Int.emod_lt_of_pos _ z0) ⟨⟨ws', cs', _, t', upd_same, ?_, ?_, g4⟩, nab⟩ ?_
      · rw [upd_ne npa.symm]; exact g2
      · rw [upd_ne npb.symm]; exact g3
      · exact fun c o e c1 c2 => by rw [upd_ne c1]; exact bb c o e c1 c2
    refine ⟨_, rfl, p, V.int rest, rfl, get_rest h1, rfl, _, rfl, ?_⟩
    refine ite2 (fun _ => ?_) (fun _ => ?_)
    · -- rest is 0
      refine ⟨_, rfl, p, V.ref a, rfl, get_wide h1, Nat.zero_le _, fun D hD => ?_⟩
      have n1 : p ≠ D := ne_of_none h1 hD
      have n2 : a ≠ D := ne_of_none h2 hD
      have n3 : b ≠ D := ne_of_none h3 hD
      have d1 : upd H D (.lst []) p = some (.dK (stK a b rest turn)) := by rw [upd_ne n1]; exact h1
      have d2 : upd H D (.lst []) a = some (.lst (ws.map V.int)) := by rw [upd_ne n2]; exact h2
      have d3 : upd H D (.lst []) b = some (.lst (cs.map V.int)) := by rw [upd_ne n3]; exact h3
      have d4 : But p a H (upd H D (.lst [])) := But.of (Same.new hD)
      refine ⟨.list (ws.map PyData.int), .list [], .lst (SqL.of d2) (dpInts ws), .lst (SqL.of upd_same) .nil, shaped_ints ws, by decide, _, rfl, ?_⟩
      rw [eqv_ints_nil]
      cases ws with
      | nil =>
        refine iteFF rfl ?_
        refine ⟨_, rfl, p, a, b, n, rfl, ⟨⟨[], cs, rest, turn, d1, d2, d3, t0, t1, hcs, hws⟩, nab⟩, hn, fun y H2 S2 B2 => ?_⟩
        obtain ⟨⟨ws2, cs2, r2, t2, e1, e2, e3, e4⟩, _⟩ := S2
        refine ⟨_, rfl, p, _, rfl, put_rest _ e1, ?_⟩
        refine fin _ y ⟨ws2, cs2, t2, upd_same, ?_, ?_, e4⟩ ?_
        · rw [upd_ne npa.symm]; exact e2
        · rw [upd_ne npb.symm]; exact e3
        · exact fun c o e c1 c2 => by rw [upd_ne c1]; exact B2 c o (d4 c o e c1 c2) c1 c2
      | cons y ws =>
        refine iteTT rfl ?_
        refine ⟨_, rfl, p, V.ref a, rfl, get_wide d1, .inl ⟨rfl, _, SqL.of d2⟩, a, _, 0, 0, V.int y, rfl, rfl, d2, by decide, by decide, seq0 _, rfl, ?_⟩
        have e1 : upd (upd H D (.lst [])) a (.lst (((y :: ws).map V.int).eraseIdx 0)) p = some (.dK (stK a b rest turn)) := by rw [upd_ne npa]; exact d1
        refine ⟨_, rfl, p, _, rfl, put_rest y e1, ?_⟩
        refine fin _ y ⟨ws, cs, turn, upd_same, ?_, ?_, t0, by omega, hcs, ?_⟩ ?_
        · rw [upd_ne npa.symm, upd_same]; rfl
        · rw [upd_ne npb.symm, upd_ne nab.symm]; exact d3
        · rw [List.length_cons] at hws; omega
        · exact fun c o e c1 c2 => by rw [upd_ne c1, upd_ne c2]; exact d4 c o e c1 c2
    · exact fin H rest ⟨ws, cs, turn, h1, h2, h3, t0, by omega, hcs, hws⟩ But.refl
end
end Cf
namespace Cf
open PySem L2
section
variable {P : Program} {w : World} {K : PySem.W.Frag} {mg : Str → Option Value} {base : Heap}
/-! ### the program's constants -/
structure Cn (K : PySem.W.Frag) (mg : Str → Option Value) : Prop where
  cy : ∃ t, mg "CYCLE_YEARS" = some (.int 400 t)
  cd : ∃ t, mg "CYCLE_DAYS" = some (.int 146097 t)
structure Cm (K : PySem.W.Frag) (mg : Str → Option Value) (tp : Addr) : Prop where
  ml : mg "MONTH_LENGTHS" = some (.ref tp)
  sq : ∀ H : Hp, SqT K H tp (MLs.map V.int)
/-! ### is_number, check_number -/
def spIsNum : Sp := fun vs H Q _ => ∃ n : Int, vs = [.int n] ∧ Q (.bl true) H
theorem scIsNumber : FnScope ["value"] ["value"] (defScope sIsNumber) := ⟨rfl, rfl, rfl, by decide +kernel, rfl, by decide +kernel, by decide +kernel⟩
theorem ok_isnum {f : Addr} {fd : FuncData} (F : Fun K "is_number" "is_number" sIsNumber f fd) (T : Nm mg) : FnOk P w K mg base CX0 1 f fd ["value"] spIsNum := by
  refine F.ok scIsNumber (fun vs H Q E h => ?_) (fun cdv A outer s H vs Q E hr h => ?_)
  · obtain ⟨n, rfl, _⟩ := h
    rfl
  · obtain ⟨n, rfl, k⟩ := h
    refine ⟨_, pss_one (ps_ret (pe_and (pe_callB call_isi (by rfl) T.isinstance (by decide +kernel) (pa_cons (pv 0) (pa_cons (pe_bltn (v := .ty "int") (by rfl) T.int (by decide +kernel) rfl) pa_nil)))
      (pe_one (pe_not (pe_callB call_isi (by rfl) T.isinstance (by decide +kernel) (pa_cons (pv 0) (pa_cons (pe_bltn (v := .ty "bool") (by rfl) T.bool (by decide +kernel) rfl) pa_nil))))))), ?_⟩
    refine ⟨_, rfl, _, _, _, _, true, rfl, .ty "int", .base (.int _), kit_ty (by decide +kernel), true, rfl, iteT ?_⟩
    exact ⟨_, rfl, _, _, _, _, false, rfl, .ty "bool", .base (.int _), kit_ty (by decide +kernel), false, rfl, k⟩
def spCheck : Sp := fun vs H Q _ => ∃ n : Int, vs = [.int n, .non] ∧ Q .non H
theorem scCheckNumber : FnScope ["value", "least"] ["value", "least"] (defScope sCheckNumber) := ⟨rfl, rfl, rfl, by decide +kernel, rfl, by decide +kernel, by decide +kernel⟩
theorem ok_check {dV : List V} {f : Addr} {fd : FuncData} (F : FunD K "check_number" "check_number" (defArgs sCheckNumber) (defBody sCheckNumber) (defScope sCheckNumber) dV [] f fd) (DN : Df P w K mg base 1 "is_number" ["value"] [] spIsNum) :
    FnOk P w K mg base CX0 2 f fd ["value", "least"] spCheck := by
  refine F.ok scCheckNumber (fun vs H Q E h => ?_) (fun cdv A outer s H vs Q E hr h => ?_)
  · obtain ⟨n, rfl, _⟩ := h
    rfl
  · obtain ⟨n, rfl, k⟩ := h
    refine ⟨_, PSs.nox (pss_one (ps_if (PW.pt (pw_or (pt_not (pt_val (pe_df DN hr (pa_cons (pv 0) pa_nil)))) (pw_or1 (PW.pt (pw_and (pt_cmpR op_notN (pv 1) pe_non (nomark _)) (pw_and1 (pt_cmpR op_lt (pv 0) (pv 1) (nomark _))))))))
      (pss_one ps_never) pss_nil)), ?_⟩
    refine ⟨_, rfl, n, rfl, true, rfl, iteF ?_⟩
    exact ⟨_, rfl, rfl, false, rfl, iteF (iteF k)⟩
/-! ### is_leap, leap_years_before, year_start -/
def spLeap : Sp := fun vs H Q _ => ∃ y : Int, vs = [.int y] ∧ Q (.bl (leapB y)) H
theorem scIsLeap : FnScope ["year"] ["year"] (defScope sIsLeap) := ⟨rfl, rfl, rfl, by decide +kernel, rfl, by decide +kernel, by decide +kernel⟩
theorem ok_leap {f : Addr} {fd : FuncData} (F : Fun K "is_leap" "is_leap" sIsLeap f fd) (DC : Df P w K mg base 2 "check_number" ["value", "least"] [.non] spCheck) : FnOk P w K mg base CX0 3 f fd ["year"] spLeap := by
  refine F.ok scIsLeap (fun vs H Q E h => ?_) (fun cdv A outer s H vs Q E hr h => ?_)
  · obtain ⟨n, rfl, _⟩ := h
    rfl
  · obtain ⟨y, rfl, k⟩ := h
    refine ⟨_, pss_cons (ps_expr (pe_df DC hr (pa_cons (pv 0) pa_nil))) (pss_one (ps_ret (pe_and (pe_cmpR op_eq (pe_op op_mod (pv 0) pe_int) pe_int (nomark _))
      (pe_one (pe_or (pe_cmpR op_ne (pe_op op_mod (pv 0) pe_int) pe_int (nomark _)) (pe_one (pe_cmpR op_eq (pe_op op_mod (pv 0) pe_int) pe_int (nomark _)))))))), ?_⟩
    refine ⟨_, rfl, y, rfl, _, rfl, _, _, rfl, rfl, (by show (0 : Int) < 4; decide), rfl, _, rfl, ?_⟩
    have k' := k
    unfold leapB at k'
    rw [dec_int]
    by_cases c4 : y % 4 = 0
    · refine iteTT (by simpa using c4) ?_
      rw [decide_eq_true c4, Bool.true_and] at k'
      refine ⟨_, rfl, _, _, rfl, rfl, (by show (0 : Int) < 100; decide), rfl, _, rfl, ?_⟩
      by_cases c1 : y % 100 = 0
      · refine iteFF ?_ ?_
        · rw [dec_int]; simpa using c1
        · refine ⟨_, rfl, _, _, rfl, rfl, (by show (0 : Int) < 400; decide), rfl, ?_⟩
          rw [decide_eq_false (by simpa using c1), Bool.false_or] at k'
          rw [show decide (V.int (y % 400) = V.int 0) = decide (y % 400 = 0) by rw [dec_int]; rfl]
          exact k'
      · refine iteTT ?_ ?_
        · rw [dec_int]; simpa using c1
        · rw [decide_eq_true (by simpa using c1), Bool.true_or] at k'
          exact k'
    · refine iteFF (by simpa using c4) ?_
      rw [decide_eq_false c4, Bool.false_and] at k'
      exact k'
def spLyb : Sp := fun vs H Q _ => ∃ y : Int, vs = [.int y] ∧ Q (.int (lyb y)) H
theorem scLeapYearsBefore : FnScope ["year", "last"] ["year"] (defScope sLeapYearsBefore) := ⟨rfl, rfl, rfl, by decide +kernel, rfl, by decide +kernel, by decide +kernel⟩
theorem ok_lyb {f : Addr} {fd : FuncData} (F : Fun K "leap_years_before" "leap_years_before" sLeapYearsBefore f fd) : FnOk P w K mg base CX0 1 f fd ["year"] spLyb := by
  refine F.ok scLeapYearsBefore (fun vs H Q E h => ?_) (fun cdv A outer s H vs Q E hr h => ?_)
  · obtain ⟨n, rfl, _⟩ := h
    rfl
  · obtain ⟨y, rfl, k⟩ := h
    refine ⟨_, pss_cons (ps_set (i := 1) scLeapYearsBefore.nd rfl (Or.inl rfl) (pe_op op_sub (pv 0) pe_int)) (pss_one (ps_ret (pe_op op_add (pe_op op_sub (pe_op op_fdiv (pv 1) pe_int) (pe_op op_fdiv (pv 1) pe_int)) (pe_op op_fdiv (pv 1) pe_int)))), ?_⟩
    refine ⟨_, rfl, _, _, rfl, rfl, _, rfl, _, _, rfl, rfl, ⟨by decide, by decide⟩, _, rfl, _, _, rfl, rfl, ⟨by decide, by decide⟩, _, _, rfl, rfl, _, rfl, _, _, rfl, rfl, ⟨by decide, by decide⟩, _, _, rfl, rfl, k⟩
def spYs : Sp := fun vs H Q _ => ∃ y : Int, vs = [.int y] ∧ Q (.int (ysOf y)) H
theorem scYearStart : FnScope ["year"] ["year"] (defScope sYearStart) := ⟨rfl, rfl, rfl, by decide +kernel, rfl, by decide +kernel, by decide +kernel⟩
theorem ok_ys {f : Addr} {fd : FuncData} (F : Fun K "year_start" "year_start" sYearStart f fd) (DC : Df P w K mg base 2 "check_number" ["value", "least"] [.non] spCheck) (DL : Df P w K mg base 1 "leap_years_before" ["year"] [] spLyb) :
    FnOk P w K mg base CX0 3 f fd ["year"] spYs := by
  refine F.ok scYearStart (fun vs H Q E h => ?_) (fun cdv A outer s H vs Q E hr h => ?_)
  · obtain ⟨n, rfl, _⟩ := h
    rfl
  · obtain ⟨y, rfl, k⟩ := h
    have hr1 : Room 1 _ := hr.mono (by decide)
    refine ⟨_, pss_cons (ps_expr (pe_df DC hr (pa_cons (pv 0) pa_nil))) (pss_one (ps_ret (pe_op op_sub (pe_op op_add (pe_op op_mul pe_int (pe_op op_sub (pv 0) pe_int)) (pe_df DL hr1 (pa_cons (pv 0) pa_nil))) (pe_df DL hr1 (pa_cons pe_int pa_nil))))), ?_⟩
    refine ⟨_, rfl, y, rfl, _, rfl, _, _, rfl, rfl, _, _, rfl, rfl, .inl ⟨by decide, by decide⟩, _, rfl, y, rfl, _, _, rfl, rfl, 2000, rfl, _, _, rfl, rfl, k⟩
/-! ### months -/
def spMlen : Sp := fun vs H Q _ => ∃ (m : Int) (l : Bool), vs = [.int m, .bl l] ∧ 1 ≤ m ∧ m ≤ 12 ∧ Q (.int (mlen m l)) H
theorem scMonthLength : FnScope ["month", "leap"] ["month", "leap"] (defScope sMonthLength) := ⟨rfl, rfl, rfl, by decide +kernel, rfl, by decide +kernel, by decide +kernel⟩
theorem ok_mlen {f tp : Addr} {fd : FuncData} (F : Fun K "month_length" "month_length" sMonthLength f fd) (M : Cm K mg tp) : FnOk P w K mg base CX0 1 f fd ["month", "leap"] spMlen := by
  refine F.ok scMonthLength (fun vs H Q E h => ?_) (fun cdv A outer s H vs Q E hr h => ?_)
  · obtain ⟨m, l, rfl, _⟩ := h
    rfl
  · obtain ⟨m, l, rfl, m1, m2, k⟩ := h
    refine ⟨_, pss_one (ps_ret (pe_ifExp (PW.pt (pw_and (pt_cmpR op_eq (pv 0) pe_int (nomark _)) (pw_and1 (pt_val (pv 1))))) pe_int (pe_ix ix_tup (pe_glob (v := .ref tp) rfl M.ml rfl) (pe_op op_sub (pv 0) pe_int) (fun _ _ => rfl)))), ?_⟩
    have other : ¬ (m = 2 ∧ l = true) → tOp (rIxT K) (tC (.ref tp)) (tOp (rI0 fun i j => .int (i - j)) (tVar 0) (tC (.int 1))) [some (.int m), some (.bl l)] H Q := fun hn => by
      refine ⟨_, rfl, _, _, rfl, rfl, tp, _, _, V.int (ml m), rfl, rfl, M.sq H, ?_, ?_⟩
      · refine at_of (j := (m - 1).toNat) (by omega) ?_
        rw [List.getElem?_map, MLs_get m1 m2]
        rfl
      · unfold mlen at k
        rw [if_neg hn] at k
        exact k
    refine ⟨_, rfl, rfl, _, rfl, ?_⟩
    by_cases c : m = 2
    · subst c
      refine iteTT (by rfl) ?_
      refine ⟨_, rfl, l, rfl, ?_⟩
      cases l with
      | true => exact iteT k
      | false => exact iteF (other (by intro h; cases h.2))
    · refine iteFF (by rw [dec_int]; simpa using c) ?_
      exact iteF (other fun h => c h.1)
def spMst : Sp := fun vs H Q _ => ∃ (m : Int) (l : Bool), vs = [.int m, .bl l] ∧ 1 ≤ m ∧ m ≤ 13 ∧ ∀ H', Same H H' → Q (.int (mst m l)) H'
theorem scMonthStart : FnScope ["month", "leap", "leap_day"] ["month", "leap"] (defScope sMonthStart) := ⟨rfl, rfl, rfl, by decide +kernel, rfl, by decide +kernel, by decide +kernel⟩
theorem m13 {m : Int} (h1 : 1 ≤ m) (h2 : m ≤ 13) : m = 13 ∨ (1 ≤ m ∧ m ≤ 12) := by omega
theorem cut_ML {m : Int} (h1 : 1 ≤ m) (h2 : m ≤ 12) : cutV (MLs.map V.int) none (some (m - 1)) = (MLs.take (m - 1).toNat).map V.int ∧ ¬ (HT.sIx (MLs.map V.int).length 0 none = 0 ∧ HT.sIx (MLs.map V.int).length (MLs.map V.int).length (some (m - 1)) = (MLs.map V.int).length) := by
  rcases m12 h1 h2 with rfl | rfl | rfl | rfl | rfl | rfl | rfl | rfl | rfl | rfl | rfl | rfl <;> decide
theorem ok_mst {f tp : Addr} {fd : FuncData} (F : Fun K "month_start" "month_start" sMonthStart f fd) (M : Cm K mg tp) (T : Nm mg) : FnOk P w K mg base CX0 1 f fd ["month", "leap"] spMst := by
  refine F.ok scMonthStart (fun vs H Q E h => ?_) (fun cdv A outer s H vs Q E hr h => ?_)
  · obtain ⟨m, l, rfl, _⟩ := h
    rfl
  · obtain ⟨m, l, rfl, m1, m2, k⟩ := h
    refine ⟨_, pss_cons (ps_set (i := 2) scMonthStart.nd rfl (Or.inl rfl) (pe_ifExp (PW.pt (pw_and (pt_val (pv 1)) (pw_and1 (pt_cmpR op_gt (pv 0) pe_int (nomark _))))) pe_int pe_int))
      (pss_one (ps_ret (pe_op op_add (pe_callB (cr_sumT rfl) (by rfl) T.sum (by decide +kernel) (pa_cons (pe_slice sl_tupA (pe_glob (v := .ref tp) rfl M.ml rfl) po_none (po_some (pe_op op_sub (pv 0) pe_int))) pa_nil)) (pv 2)))), ?_⟩
    have rest : ∀ d : Int, d = (if l = true ∧ 2 < m then 1 else 0) → tRet (tOp (rI0 fun i j => .int (i + j)) (tCB (rSumT K) (tCons (tSl (rSlA K) (tC (.ref tp)) tNoPart (tPart (tOp (rI0 fun i j => .int (i - j)) (tVar 0) (tC (.int 1))))) tNil)) (tVar 2))
        { nx := fun _ H' => Q .non H', rt := Q } [some (.int m), some (.bl l), some (.int d)] H := fun d hd => by
      refine ⟨_, rfl, _, _, rfl, rfl, _, rfl, tp, MLs.map V.int, rfl, M.sq H, fun hw => ?_, fun hw p hp => ?_⟩
      · refine ⟨tp, MLs, rfl, M.sq H, _, rfl, _, _, rfl, rfl, ?_⟩
        have e : m = 13 := by
          rcases m13 m1 m2 with e | ⟨a1, a2⟩
          · exact e
          · exact absurd hw (cut_ML a1 a2).2
        subst e
        have e2 : mst 13 l = MLs.sum + d := by
          rw [hd]
          cases l <;> decide
        show Q (.int (MLs.sum + d)) H
        rw [← e2]
        exact k H (Same.refl H)
      · have e : 1 ≤ m ∧ m ≤ 12 := by
          rcases m13 m1 m2 with e | e
          · subst e
            exact absurd (by decide) hw
          · exact e
        refine ⟨p, MLs.take (m - 1).toNat, rfl, ?_, _, rfl, _, _, rfl, rfl, ?_⟩
        · refine SqT.of ?_
          rw [upd_same, (cut_ML e.1 e.2).1]
        · have e2 : mst m l = (MLs.take (m - 1).toNat).sum + d := by
            rw [hd]
            rfl
          show Q (.int ((MLs.take (m - 1).toNat).sum + d)) _
          rw [← e2]
          exact k _ (Same.new hp)
    refine ⟨_, rfl, l, rfl, ?_⟩
    cases l with
    | false => exact iteF (iteF (rest 0 (by rw [if_neg]; intro h; cases h.1)))
    | true =>
      refine iteT ?_
      refine ⟨_, rfl, _, _, rfl, rfl, _, rfl, ?_⟩
      by_cases c : 2 < m
      · exact iteTT (decide_eq_true c) (rest 1 (by rw [if_pos ⟨rfl, c⟩]))
      · exact iteFF (decide_eq_false c) (rest 0 (by rw [if_neg fun h => c h.2]))
/-! ### day_of -/
def spDayOf : Sp := fun vs H Q _ => ∃ y m d : Int, vs = [.int y, .int m, .int d] ∧ IsDate y m d ∧ ∀ H', Same H H' → Q (.int (dayOf y m d)) H'
theorem scDayOf : FnScope ["year", "month", "day", "leap"] ["year", "month", "day"] (defScope sDayOf) := ⟨rfl, rfl, rfl, by decide +kernel, rfl, by decide +kernel, by decide +kernel⟩
theorem ok_dayof {f : Addr} {fd : FuncData} (F : Fun K "day_of" "day_of" sDayOf f fd) (DC : Df P w K mg base 2 "check_number" ["value", "least"] [.non] spCheck) (DL : Df P w K mg base 3 "is_leap" ["year"] [] spLeap)
    (DM : Df P w K mg base 1 "month_length" ["month", "leap"] [] spMlen) (DY : Df P w K mg base 3 "year_start" ["year"] [] spYs) (DS : Df P w K mg base 1 "month_start" ["month", "leap"] [] spMst) :
    FnOk P w K mg base CX0 4 f fd ["year", "month", "day"] spDayOf := by
  refine F.ok scDayOf (fun vs H Q E h => ?_) (fun cdv A outer s H vs Q E hr h => ?_)
  · obtain ⟨y, m, d, rfl, _⟩ := h
    rfl
  · obtain ⟨y, m, d, rfl, D, k⟩ := h
    have hr1 : Room 1 _ := hr.mono (by decide)
    have hr2 : Room 2 _ := hr.mono (by decide)
    refine ⟨_, pss_cons (ps_expr (pe_df DC hr2 (pa_cons (pv 0) pa_nil))) (pss_cons (ps_expr (pe_df DC hr2 (pa_cons (pv 1) pa_nil))) (pss_cons (ps_expr (pe_df DC hr2 (pa_cons (pv 2) pa_nil)))
      (pss_cons (ps_set (i := 3) scDayOf.nd rfl (Or.inl rfl) (pe_df DL hr (pa_cons (pv 0) pa_nil)))
      (pss_cons (ps_if (PW.pt (pw_or (pt_not (pt_chain op_le op_le pe_int (pv 1) pe_int)) (pw_or1 (pt_not (pt_chain op_le op_le pe_int (pv 2) (pe_df DM hr1 (pa_cons (pv 1) (pa_cons (pv 3) pa_nil)))))))) (pss_one ps_never) pss_nil)
      (pss_one (ps_ret (pe_op op_sub (pe_op op_add (pe_op op_add (pe_df DY hr (pa_cons (pv 0) pa_nil)) (pe_df DS hr1 (pa_cons (pv 1) (pa_cons (pv 3) pa_nil)))) (pv 2)) pe_int))))))), ?_⟩
    refine ⟨_, rfl, y, rfl, _, rfl, m, rfl, _, rfl, d, rfl, _, rfl, y, rfl, ?_⟩
    refine ⟨_, rfl, _, _, rfl, rfl, true, congrArg V.bl (decide_eq_true D.m1), iteT ?_⟩
    refine ⟨_, _, rfl, rfl, true, congrArg V.bl (decide_eq_true D.m2), iteF ?_⟩
    refine ⟨_, rfl, _, _, rfl, rfl, true, congrArg V.bl (decide_eq_true D.d1), iteT ?_⟩
    refine ⟨_, rfl, _, rfl, m, leapB y, rfl, D.m1, D.m2, _, _, rfl, rfl, true, congrArg V.bl (decide_eq_true D.d2), ?_⟩
    show if false = true then _ else _
    refine iteF ?_
    refine ⟨_, rfl, y, rfl, _, rfl, _, rfl, m, leapB y, rfl, D.m1, by have := D.m2; omega, fun H' S' => ?_⟩
    exact ⟨_, _, rfl, rfl, _, rfl, _, _, rfl, rfl, _, _, rfl, rfl, k H' S'⟩
/-! ### year_of -/
theorem while_w {c : TT} {tb : TS} {D : Ends} {σ : L2.St} {H : Hp} (Pv : L2.St → Hp → Prop) (μ : L2.St → Hp → Nat) (h0 : Pv σ H)
    (hs : ∀ σ H, Pv σ H → c σ H fun b H1 => if b = true then ∃ N : L2.St → Hp → Prop, (∀ σ' H', N σ' H' → Pv σ' H' ∧ μ σ' H' < μ σ H) ∧ tb { D with nx := N, ct := N, bk := D.nx } σ H1 else D.nx σ H1)
    (up : ∀ σ H Q Q', (∀ b H1, Q b H1 → Q' b H1) → c σ H Q → c σ H Q') : tWhile c tb D σ H := by
  refine ⟨fun m σ H => m = μ σ H ∧ Pv σ H, ⟨_, rfl, h0⟩, ?_⟩
  rintro m σ H ⟨rfl, p⟩
  refine up σ H _ _ (fun b H1 q => ?_) (hs σ H p)
  cases b with
  | true =>
    obtain ⟨N, hN, q⟩ := q
    exact ⟨N, fun σ' H' n => ⟨_, (hN σ' H' n).2, rfl, (hN σ' H' n).1⟩, q⟩
  | false => exact q
def spYearOf : Sp := fun vs H Q _ => ∃ d y : Int, vs = [.int d] ∧ ysOf y ≤ d ∧ d < ysOf (y + 1) ∧ ∀ H', Same H H' → Q (.int y) H'
theorem scYearOf : FnScope ["day", "cycles", "rest", "year"] ["day"] (defScope sYearOf) := ⟨rfl, rfl, rfl, by decide +kernel, rfl, by decide +kernel, by decide +kernel⟩
theorem ok_yearof {f : Addr} {fd : FuncData} (F : Fun K "year_of" "year_of" sYearOf f fd) (T : Nm mg) (C : Cn K mg) (DY : Df P w K mg base 3 "year_start" ["year"] [] spYs) : FnOk P w K mg base CX0 4 f fd ["day"] spYearOf := by
  refine F.ok scYearOf (fun vs H Q E h => ?_) (fun cdv A outer s H vs Q E hr h => ?_)
  · obtain ⟨d, y, rfl, _⟩ := h
    rfl
  · obtain ⟨d, y, rfl, l1, l2, k⟩ := h
    obtain ⟨t1, c1⟩ := C.cy
    obtain ⟨t2, c2⟩ := C.cd
    have nd := scYearOf.nd
    refine ⟨_, pss_cons (ps_asg (pe_callB call_divmod (by rfl) T.divmod (by decide +kernel) (pa_cons (pv 0) (pa_cons (pe_glob (v := .int 146097) rfl c2 ⟨_, rfl⟩) pa_nil))) (pg_tup (by rfl) (pgs_cons (pg_name (i := 1) nd rfl (Or.inl rfl)) (pgs_cons (pg_name (i := 2) nd rfl (Or.inl rfl)) pgs_nil))))
      (pss_cons (ps_set (i := 3) nd rfl (Or.inl rfl) (pe_op op_add (pe_op op_add pe_int (pe_op op_mul (pe_glob (v := .int 400) rfl c1 ⟨_, rfl⟩) (pv 1))) (pe_op op_fdiv (pv 2) pe_int)))
      (pss_cons (ps_while PassesOwn.never (pt_cmpR op_le (pe_df DY hr (pa_cons (pe_op op_add (pv 3) pe_int) pa_nil)) (pv 0) (nomark _)) (pss_one (ps_aug (i := 3) nd rfl (Or.inl rfl) pe_int ip_add)))
      (pss_one (ps_ret (pv 3))))), ?_⟩
    refine ⟨_, rfl, d, 146097, rfl, ⟨by decide, by decide⟩, fun p hp => ?_⟩
    refine ⟨p, _, rfl, SqT.of upd_same, rfl, _, _, rfl, _, _, rfl, rfl, ?_⟩
    refine ⟨_, rfl, _, _, rfl, rfl, .inl ⟨by decide, by decide⟩, _, _, rfl, rfl, _, rfl, _, _, rfl, rfl, ⟨by decide, by decide⟩, _, _, rfl, rfl, ?_⟩
    refine while_w (fun σ H' => Same H H' ∧ ∃ (z c r : Int), z ≤ y ∧ σ = [some (.int d), some (.int c), some (.int r), some (.int z)]) (fun σ _ => match σ with | [_, _, _, some (.int z)] => (y - z).toNat | _ => 0) ⟨Same.new hp, _, _, _, first_try l1 l2, rfl⟩ ?_ ?_
    · rintro σ H' ⟨S, z, c, r, hz, rfl⟩
      refine ⟨_, rfl, _, _, rfl, rfl, z + 1, rfl, _, rfl, _, _, rfl, rfl, _, rfl, ?_⟩
      refine ite2 (fun hc => ?_) (fun hc => ?_)
      · have hc' : ysOf (z + 1) ≤ d := of_decide_eq_true hc
        have hlt : z < y := by
          have q := ys_le_iff (y := z + 1) (z := y) (by omega)
          omega
        refine ⟨fun σ' H'' => Same H H'' ∧ σ' = [some (.int d), some (.int c), some (.int r), some (.int (z + 1))], fun σ' H'' ⟨S', e⟩ => ?_, ?_⟩
        · subst e
          refine ⟨⟨S', z + 1, c, r, by omega, rfl⟩, ?_⟩
          show (y - (z + 1)).toNat < (y - z).toNat
          omega
        · exact ⟨_, rfl, _, _, rfl, rfl, S, rfl⟩
      · have hc' : ¬ ysOf (z + 1) ≤ d := fun q => hc (decide_eq_true q)
        have e : z = y := by
          have q := ys_le_iff (y := y) (z := z) (by omega)
          omega
        subst e
        exact ⟨_, rfl, k H' S⟩
    · rintro σ H' Q1 Q2 hq ⟨v, e1, i, j, e2, e3, u, e4, v2, e5, i2, j2, e6, e7, b, e8, q⟩
      exact ⟨v, e1, i, j, e2, e3, u, e4, v2, e5, i2, j2, e6, e7, b, e8, hq _ _ q⟩
/-! ### date_of, weekday -/
def spDateOf : Sp := fun vs H Q _ => ∃ y m n : Int, vs = [.int (dayOf y m n)] ∧ IsDate y m n ∧ ∀ (H' : Hp) (p : Addr), Same H H' → H p = none → H' p = some (.tup [.int y, .int m, .int n]) → Q (.ref p) H'
theorem scDateOf : FnScope ["day", "year", "leap", "number", "month"] ["day"] (defScope sDateOf) := ⟨rfl, rfl, rfl, by decide +kernel, rfl, by decide +kernel, by decide +kernel⟩
theorem ok_dateof {f : Addr} {fd : FuncData} (F : Fun K "date_of" "date_of" sDateOf f fd) (DC : Df P w K mg base 2 "check_number" ["value", "least"] [.non] spCheck) (DL : Df P w K mg base 3 "is_leap" ["year"] [] spLeap)
    (DO : Df P w K mg base 4 "year_of" ["day"] [] spYearOf) (DY : Df P w K mg base 3 "year_start" ["year"] [] spYs) (DS : Df P w K mg base 1 "month_start" ["month", "leap"] [] spMst) :
    FnOk P w K mg base CX0 5 f fd ["day"] spDateOf := by
  refine F.ok scDateOf (fun vs H Q E h => ?_) (fun cdv A outer s H vs Q E hr h => ?_)
  · obtain ⟨y, m, n, rfl, _⟩ := h
    rfl
  · obtain ⟨y, m, n, rfl, D, k⟩ := h
    have hr1 : Room 1 _ := hr.mono (by decide)
    have hr2 : Room 2 _ := hr.mono (by decide)
    have hr3 : Room 3 _ := hr.mono (by decide)
    have nd := scDateOf.nd
    have yr := D.year
    have mo := D.month
    refine ⟨_, pss_cons (ps_expr (pe_df DC hr2 (pa_cons (pv 0) pa_nil))) (pss_cons (ps_set (i := 1) nd rfl (Or.inl rfl) (pe_df DO hr (pa_cons (pv 0) pa_nil)))
      (pss_cons (ps_set (i := 2) nd rfl (Or.inl rfl) (pe_df DL hr3 (pa_cons (pv 1) pa_nil)))
      (pss_cons (ps_set (i := 3) nd rfl (Or.inl rfl) (pe_op op_sub (pv 0) (pe_df DY hr3 (pa_cons (pv 1) pa_nil))))
      (pss_cons (ps_set (i := 4) nd rfl (Or.inl rfl) pe_int)
      (pss_cons (ps_while PassesOwn.never (pt_cmpR op_le (pe_df DS hr1 (pa_cons (pe_op op_add (pv 4) pe_int) (pa_cons (pv 2) pa_nil))) (pv 3) (nomark _)) (pss_one (ps_aug (i := 4) nd rfl (Or.inl rfl) pe_int ip_add)))
      (pss_one (ps_ret (pe_tup (pa_cons (pv 1) (pa_cons (pv 4) (pa_cons (pe_op op_add (pe_op op_sub (pv 3) (pe_df DS hr1 (pa_cons (pv 4) (pa_cons (pv 2) pa_nil)))) pe_int) pa_nil))))))))))), ?_⟩
    refine ⟨_, rfl, _, rfl, _, rfl, _, y, rfl, yr.1, yr.2, fun H1 S1 => ?_⟩
    refine ⟨_, rfl, y, rfl, _, rfl, _, rfl, y, rfl, _, _, rfl, rfl, ?_⟩
    refine while_w (fun σ H' => Same H H' ∧ ∃ z : Int, 1 ≤ z ∧ z ≤ m ∧ σ = [some (.int (dayOf y m n)), some (.int y), some (.bl (leapB y)), some (.int (dayOf y m n - ysOf y)), some (.int z)]) (fun σ _ => match σ with | [_, _, _, _, some (.int z)] => (m - z).toNat | _ => 0)
      ⟨S1, 1, by omega, D.m1, rfl⟩ ?_ ?_
    · rintro σ H' ⟨S, z, z1, z2, rfl⟩
      refine ⟨_, rfl, _, _, rfl, rfl, _, rfl, z + 1, leapB y, rfl, by omega, by have := D.m2; omega, fun H2 S2 => ?_⟩
      refine ⟨_, rfl, _, _, rfl, rfl, _, rfl, ?_⟩
      refine ite2 (fun hc => ?_) (fun hc => ?_)
      · have hc' : mst (z + 1) (leapB y) ≤ dayOf y m n - ysOf y := of_decide_eq_true hc
        have hlt : z < m := by
          by_cases q : z < m
          · exact q
          · have e : z = m := by omega
            subst e
            omega
        refine ⟨fun σ' H'' => Same H H'' ∧ σ' = [some (.int (dayOf y m n)), some (.int y), some (.bl (leapB y)), some (.int (dayOf y m n - ysOf y)), some (.int (z + 1))], fun σ' H'' ⟨S', e⟩ => ?_, ?_⟩
        · subst e
          refine ⟨⟨S', z + 1, by omega, by omega, rfl⟩, ?_⟩
          show (m - (z + 1)).toNat < (m - z).toNat
          omega
        · exact ⟨_, rfl, _, _, rfl, rfl, S.trans S2, rfl⟩
      · have hc' : ¬ mst (z + 1) (leapB y) ≤ dayOf y m n - ysOf y := fun q => hc (decide_eq_true q)
        have e : z = m := by
          by_cases q : z = m
          · exact q
          · have := mst_le (a := z + 1) (b := m) (by omega) (by omega) (by have := D.m2; omega) (leapB y)
            omega
        subst e
        refine ⟨_, rfl, _, rfl, _, rfl, _, rfl, _, rfl, z, leapB y, rfl, by omega, by have := D.m2; omega, fun H3 S3 => ?_⟩
        refine ⟨_, _, rfl, rfl, _, _, rfl, rfl, (by show 3 ≤ sizeLine; decide), fun p hp => ?_⟩
        have S13 : Same H H3 := (S.trans S2).trans S3
        refine k _ p (S13.step hp) (S13.free hp) ?_
        show _ = some (HO.tup [V.int y, V.int z, V.int n])
        rw [upd_same]
        show some (HO.tup [V.int y, V.int z, V.int (dayOf y z n - ysOf y - mst z (leapB y) + 1)]) = _
        have e : dayOf y z n - ysOf y - mst z (leapB y) + 1 = n := by unfold dayOf; omega
        rw [e]
    · rintro σ H' Q1 Q2 hq ⟨v, e1, i, j, e2, e3, v2, e4, u, l, e5, e6, e7, q⟩
      refine ⟨v, e1, i, j, e2, e3, v2, e4, u, l, e5, e6, e7, fun H2 S2 => ?_⟩
      obtain ⟨v3, e8, i2, j2, e9, e10, b, e11, q⟩ := q H2 S2
      exact ⟨v3, e8, i2, j2, e9, e10, b, e11, hq _ _ q⟩
def spWeekday : Sp := fun vs H Q _ => ∃ d : Int, vs = [.int d] ∧ Q (.int ((d + 5) % 7)) H
theorem scWeekday : FnScope ["day"] ["day"] (defScope sWeekday) := ⟨rfl, rfl, rfl, by decide +kernel, rfl, by decide +kernel, by decide +kernel⟩
theorem ok_weekday {f : Addr} {fd : FuncData} (F : Fun K "weekday" "weekday" sWeekday f fd) (DC : Df P w K mg base 2 "check_number" ["value", "least"] [.non] spCheck) : FnOk P w K mg base CX0 3 f fd ["day"] spWeekday := by
  refine F.ok scWeekday (fun vs H Q E h => ?_) (fun cdv A outer s H vs Q E hr h => ?_)
  · obtain ⟨n, rfl, _⟩ := h
    rfl
  · obtain ⟨d, rfl, k⟩ := h
    refine ⟨_, pss_cons (ps_expr (pe_df DC hr (pa_cons (pv 0) pa_nil))) (pss_one (ps_ret (pe_op op_mod (pe_op op_add (pv 0) pe_int) pe_int))), ?_⟩
    exact ⟨_, rfl, d, rfl, _, rfl, _, _, rfl, rfl, _, _, rfl, rfl, (by show (0 : Int) < 7; decide), k⟩
end
end Cf
namespace Cf
open PySem L2
section
variable {P : Program} {w : World} {K : PySem.W.Frag} {mg : Str → Option Value} {base : Heap}
/-! ### the law's own calendar -/
def spNy : Sp := fun vs H Q _ => ∃ y : Int, vs = [.int y] ∧ Q (.int (ysOf y)) H
theorem scLawNewYear : FnScope ["year", "gone"] ["year"] (defScope sLawNewYear) := ⟨rfl, rfl, rfl, by decide +kernel, rfl, by decide +kernel, by decide +kernel⟩
theorem ok_ny {f : Addr} {fd : FuncData} (F : Fun K "_law_new_year" "_law_new_year" sLawNewYear f fd) : FnOk P w K mg base CX0 1 f fd ["year"] spNy := by
  refine F.ok scLawNewYear (fun vs H Q E h => ?_) (fun cdv A outer s H vs Q E hr h => ?_)
  · obtain ⟨n, rfl, _⟩ := h
    rfl
  · obtain ⟨y, rfl, k⟩ := h
    refine ⟨_, pss_cons (ps_set (i := 1) scLawNewYear.nd rfl (Or.inl rfl) (pe_op op_sub (pv 0) pe_int)) (pss_one (ps_ret (pe_op op_add (pe_op op_sub (pe_op op_add (pe_op op_mul pe_int (pv 1)) (pe_op op_fdiv (pe_op op_add (pv 1) pe_int) pe_int))
      (pe_op op_fdiv (pe_op op_add (pv 1) pe_int) pe_int)) (pe_op op_fdiv (pe_op op_add (pv 1) pe_int) pe_int)))), ?_⟩
    refine ⟨_, rfl, _, _, rfl, rfl, _, rfl, _, _, rfl, rfl, .inl ⟨by decide, by decide⟩, _, rfl, _, _, rfl, rfl, _, _, rfl, rfl, ⟨by decide, by decide⟩, _, _, rfl, rfl, _, rfl, _, _, rfl, rfl, _, _, rfl, rfl, ⟨by decide, by decide⟩, _, _, rfl, rfl,
      _, rfl, _, _, rfl, rfl, _, _, rfl, rfl, ⟨by decide, by decide⟩, _, _, rfl, rfl, ?_⟩
    rw [← lawNY_eq] at k
    exact k
def spLong : Sp := fun vs H Q _ => ∃ y : Int, vs = [.int y] ∧ Q (.bl (leapB y)) H
theorem scLawIsLong : FnScope ["year"] ["year"] (defScope sLawIsLong) := ⟨rfl, rfl, rfl, by decide +kernel, rfl, by decide +kernel, by decide +kernel⟩
theorem ok_long {f : Addr} {fd : FuncData} (F : Fun K "_law_is_long" "_law_is_long" sLawIsLong f fd) (T : Nm mg) : FnOk P w K mg base CX0 1 f fd ["year"] spLong := by
  refine F.ok scLawIsLong (fun vs H Q E h => ?_) (fun cdv A outer s H vs Q E hr h => ?_)
  · obtain ⟨n, rfl, _⟩ := h
    rfl
  · obtain ⟨y, rfl, k⟩ := h
    have k' := k
    rw [← isLong_eq] at k'
    unfold isLong at k'
    refine ⟨_, pss_one (ps_ret (pe_or (pe_cmpR op_eq (pe_op op_mod (pe_callTy call_int1 (by rfl) T.int (by decide +kernel) (pa_cons (pv 0) pa_nil)) pe_int) pe_int (nomark _))
      (pe_one (pe_and (pe_cmpR op_eq (pe_op op_mod (pe_callTy call_int1 (by rfl) T.int (by decide +kernel) (pa_cons (pv 0) pa_nil)) pe_int) pe_int (nomark _))
        (pe_one (pe_cmpR op_ne (pe_op op_mod (pe_callTy call_int1 (by rfl) T.int (by decide +kernel) (pa_cons (pv 0) pa_nil)) pe_int) pe_int (nomark _))))))), ?_⟩
    refine ⟨_, rfl, .inl ⟨_, rfl, _, _, rfl, rfl, (by show (0 : Int) < 400; decide), rfl, _, rfl, ?_⟩⟩
    rw [dec_int]
    by_cases c4 : y % 400 = 0
    · refine iteTT (by simpa using c4) ?_
      rw [decide_eq_true c4, Bool.true_or] at k'
      exact k'
    · refine iteFF (by simpa using c4) ?_
      rw [decide_eq_false c4, Bool.false_or] at k'
      refine ⟨_, rfl, .inl ⟨_, rfl, _, _, rfl, rfl, (by show (0 : Int) < 4; decide), rfl, _, rfl, ?_⟩⟩
      by_cases c1 : y % 4 = 0
      · refine iteTT (by rw [dec_int]; simpa using c1) ?_
        rw [decide_eq_true c1, Bool.true_and] at k'
        refine ⟨_, rfl, .inl ⟨_, rfl, _, _, rfl, rfl, (by show (0 : Int) < 100; decide), rfl, ?_⟩⟩
        rw [show (!decide (V.int (y % 100) = V.int 0)) = decide (y % 100 ≠ 0) by rw [dec_int]; by_cases q : y % 100 = 0 <;> simp [q]]
        exact k'
      · refine iteFF (by rw [dec_int]; simpa using c1) ?_
        rw [decide_eq_false c1, Bool.false_and] at k'
        exact k'
def spSize : Sp := fun vs H Q _ => ∃ y m : Int, vs = [.int y, .int m] ∧ 1 ≤ m ∧ m ≤ 12 ∧ ∀ H', Same H H' → Q (.int (mlen m (leapB y))) H'
theorem scLawSize : FnScope ["year", "month"] ["year", "month"] (defScope sLawSize) := ⟨rfl, rfl, rfl, by decide +kernel, rfl, by decide +kernel, by decide +kernel⟩
theorem ok_size {f : Addr} {fd : FuncData} (F : Fun K "_law_size" "_law_size" sLawSize f fd) (DI : Df P w K mg base 1 "_law_is_long" ["year"] [] spLong) : FnOk P w K mg base CX0 2 f fd ["year", "month"] spSize := by
  refine F.ok scLawSize (fun vs H Q E h => ?_) (fun cdv A outer s H vs Q E hr h => ?_)
  · obtain ⟨n, m, rfl, _⟩ := h
    rfl
  · obtain ⟨y, m, rfl, m1, m2, k⟩ := h
    refine ⟨_, pss_one (ps_ret (pe_ix ix_list (pe_lst (pa_cons pe_int (pa_cons (pe_ifExp (pt_val (pe_df DI hr (pa_cons (pv 0) pa_nil))) pe_int pe_int) (pa_cons pe_int (pa_cons pe_int (pa_cons pe_int (pa_cons pe_int (pa_cons pe_int (pa_cons pe_int (pa_cons pe_int (pa_cons pe_int (pa_cons pe_int (pa_cons pe_int pa_nil)))))))))))))
      (pe_op op_sub (pv 1) pe_int) (fun _ _ => rfl))), ?_⟩
    refine ⟨_, rfl, y, rfl, leapB y, rfl, ?_⟩
    have fin : ∀ l : Bool, l = leapB y → ∀ p : Addr, H p = none → tOp (rI0 fun i j => .int (i - j)) (tVar 1) (tC (.int 1)) [some (.int y), some (.int m)] (upd H p (.lst ((lawSizes l).map V.int))) (fun y1 H2 => rIxL K (.ref p) y1 H2 Q) := fun l hl p hp => by
      refine ⟨_, rfl, _, _, rfl, rfl, p, _, _, V.int (mlen m l), rfl, rfl, SqL.of upd_same, ?_, ?_⟩
      · refine at_of (j := (m - 1).toNat) (by omega) ?_
        rw [List.getElem?_map, lawSizes_get m1 m2]
        rfl
      · rw [hl]
        exact k _ (Same.new hp)
    cases e : leapB y with
    | true => exact iteT ⟨by show 12 ≤ sizeLine; decide, fun p hp => fin true e.symm p hp⟩
    | false => exact iteF ⟨by show 12 ≤ sizeLine; decide, fun p hp => fin false e.symm p hp⟩
def spMonth : Sp := fun vs H Q _ => ∃ y m : Int, vs = [.int y, .int m] ∧ 1 ≤ m ∧ m ≤ 12 ∧ ∀ H', Same H H' → Q (.int (ysOf y + mst m (leapB y))) H'
theorem scLawMonth : FnScope ["year", "month", "leap", "sizes"] ["year", "month"] (defScope sLawMonth) := ⟨rfl, rfl, rfl, by decide +kernel, rfl, by decide +kernel, by decide +kernel⟩
theorem cut12 {m : Int} (h1 : 1 ≤ m) (h2 : m ≤ 12) (a b c d e f g h i j k l : V) : cutV [a, b, c, d, e, f, g, h, i, j, k, l] none (some (m - 1)) = [a, b, c, d, e, f, g, h, i, j, k, l].take (m - 1).toNat := by
  rcases m12 h1 h2 with rfl | rfl | rfl | rfl | rfl | rfl | rfl | rfl | rfl | rfl | rfl | rfl <;> rfl
theorem ok_month {f : Addr} {fd : FuncData} (F : Fun K "_law_month" "_law_month" sLawMonth f fd) (T : Nm mg) (DN : Df P w K mg base 1 "_law_new_year" ["year"] [] spNy) : FnOk P w K mg base CX0 2 f fd ["year", "month"] spMonth := by
  refine F.ok scLawMonth (fun vs H Q E h => ?_) (fun cdv A outer s H vs Q E hr h => ?_)
  · obtain ⟨n, m, rfl, _⟩ := h
    rfl
  · obtain ⟨y, m, rfl, m1, m2, k⟩ := h
    have nd := scLawMonth.nd
    refine ⟨_, pss_cons (ps_set (i := 2) nd rfl (Or.inl rfl) (pe_op op_sub (pe_op op_sub (pe_df DN hr (pa_cons (pe_op op_add (pv 0) pe_int) pa_nil)) (pe_df DN hr (pa_cons (pv 0) pa_nil))) pe_int))
      (pss_cons (ps_set (i := 3) nd rfl (Or.inl rfl) (pe_lst (pa_cons pe_int (pa_cons (pe_op op_add pe_int (pv 2)) (pa_cons pe_int (pa_cons pe_int (pa_cons pe_int (pa_cons pe_int (pa_cons pe_int (pa_cons pe_int (pa_cons pe_int (pa_cons pe_int (pa_cons pe_int (pa_cons pe_int pa_nil))))))))))))))
      (pss_one (ps_ret (pe_op op_add (pe_df DN hr (pa_cons (pv 0) pa_nil)) (pe_callB (cr_sum rfl) (by rfl) T.sum (by decide +kernel) (pa_cons (pe_slice sl_list (pv 3) po_none (po_some (pe_op op_sub (pv 1) pe_int))) pa_nil)))))), ?_⟩
    refine ⟨_, rfl, _, _, rfl, rfl, y + 1, rfl, _, rfl, y, rfl, _, _, rfl, rfl, _, _, rfl, rfl, _, rfl, _, _, rfl, rfl, (by show 12 ≤ sizeLine; decide), fun p hp => ?_⟩
    refine ⟨_, rfl, y, rfl, _, rfl, _, rfl, _, _, rfl, rfl, _, rfl, p, _, rfl, SqL.of upd_same, fun q hq => ?_⟩
    rw [cut12 m1 m2]
    have e := lawMonth_eq (y := y) m1 m2
    rw [lawNY_eq, lawNY_eq] at e
    refine ⟨q, ([31, 28 + (ysOf (y + 1) - ysOf y - 365), 31, 30, 31, 30, 31, 31, 30, 31, 30, 31] : List Int).take (m - 1).toNat, rfl, ?_, _, _, rfl, rfl, ?_⟩
    · refine SqL.of ?_
      rw [upd_same, List.map_take]
      rfl
    · show Q (.int (ysOf y + (([31, 28 + (ysOf (y + 1) - ysOf y - 365), 31, 30, 31, 30, 31, 31, 30, 31, 30, 31] : List Int).take (m - 1).toNat).sum)) _
      rw [e]
      exact k _ ((Same.new hp).step hq)
/-! ### _law_some_year -/
def spSome : Sp := fun vs H Q _ => ∃ (p a b : Addr) (n : Nat), vs = [.ref p] ∧ Stt p a b n H ∧ n ≤ 900000 ∧
  ∀ (y : Int) (H' : Hp), -(10 ^ 28) ≤ y → y ≤ 10 ^ 28 → Stt p a b (n + 20) H' → But p a H H' → Q (.int y) H'
theorem scLawSomeYear : FnScope ["state", "far", "turn", "ways"] ["state"] (defScope sLawSomeYear) := ⟨rfl, rfl, rfl, by decide +kernel, rfl, by decide +kernel, by decide +kernel⟩
theorem ok_some {f : Addr} {fd : FuncData} (F : Fun K "_law_some_year" "_law_some_year" sLawSomeYear f fd) (T : Nm mg) (DT : Df P w K mg base 2 "_law_take" ["state", "size"] [] spTake) : FnOk P w K mg base CX0 3 f fd ["state"] spSome := by
  refine F.ok scLawSomeYear (fun vs H Q E h => ?_) (fun cdv A outer s H vs Q E hr h => ?_)
  · obtain ⟨p, a, b, n, rfl, _⟩ := h
    rfl
  · obtain ⟨p, a, b, n, rfl, S, hn, k⟩ := h
    have nd := scLawSomeYear.nd
    have npa := S.pa
    have cp9 : CPow 10 9 := ⟨by decide, by decide, by decide⟩
    have cp6 : CPow 10 6 := ⟨by decide, by decide, by decide⟩
    refine ⟨_, pss_cons (ps_set (i := 1) nd rfl (Or.inl rfl) pe_int)
      (pss_cons (ps_for PassesOwn.never rfl (pi_range1 rfl T.range (pa_cons pe_int pa_nil)) (pg_name (i := 2) nd rfl (Or.inl rfl))
        (pss_one (ps_set (i := 1) nd rfl (Or.inl rfl) (pe_op op_add (pe_op op_mul (pv 1) (pe_op op_pow pe_int pe_int)) (pe_df DT hr (pa_cons (pv 0) (pa_cons (pe_op op_pow pe_int pe_int) pa_nil)))))))
      (pss_cons (ps_set (i := 3) nd rfl (Or.inl rfl) (pe_lst (pa_cons (pe_op op_add pe_int (pe_df DT hr (pa_cons (pv 0) (pa_cons pe_int pa_nil))))
        (pa_cons (pe_op op_sub (pe_op op_add (pe_op op_mul pe_int (pe_op op_sub (pe_df DT hr (pa_cons (pv 0) (pa_cons pe_int pa_nil))) pe_int)) (pe_df DT hr (pa_cons (pv 0) (pa_cons pe_int pa_nil)))) pe_int) pa_nil))))
      (pss_cons (ps_set (i := 3) nd rfl (Or.inl rfl) (pe_op op_cat (pv 3) (pe_lst (pa_cons (pe_op op_sub (pe_op op_add (pe_op op_mul pe_int (pe_op op_sub (pe_df DT hr (pa_cons (pv 0) (pa_cons (pe_op op_mul pe_int (pe_op op_pow pe_int pe_int)) pa_nil))) (pe_op op_pow pe_int pe_int)))
          (pe_df DT hr (pa_cons (pv 0) (pa_cons pe_int pa_nil)))) pe_int) (pa_cons (pv 1) (pa_cons (pe_op op_sub pe_int (pv 1)) pa_nil))))))
      (pss_one (ps_ret (pe_ix ix_list (pv 3) (pe_df DT hr (pa_cons (pv 0) (pa_cons pe_int pa_nil))) (fun _ _ => rfl))))))), ?_⟩
    refine ⟨3, rfl, by decide, by decide, for_range (n := 3) (fun i σ H' => Stt p a b (n + i) H' ∧ But p a H H' ∧ ∃ (fa : Int) (v : Option V), 0 ≤ fa ∧ fa < 10 ^ (9 * i) ∧ σ = [some (.ref p), some (.int fa), v, none]) ⟨S, But.refl, 0, none, by decide, by decide, rfl⟩ ?_ ?_⟩
    · rintro i σ H1 hi ⟨S1, B1, fa, v, f0, f1, rfl⟩
      refine ⟨_, rfl, _, _, rfl, rfl, cp9, _, _, rfl, rfl, .inr ⟨by decide, by decide⟩, _, rfl, _, _, rfl, rfl, cp9, p, a, b, n + i, _, rfl, S1, by omega, by decide, by decide, fun z H2 z0 z1 S2 B2 => ?_⟩
      refine ⟨_, _, rfl, rfl, S2, B1.trans B2, fa * 1000000000 + z, _, ?_, ?_, rfl⟩
      · have : z < 1000000000 := z1
        omega
      · have z1' : z < 1000000000 := z1
        have hi' : i = 0 ∨ i = 1 ∨ i = 2 := by omega
        rcases hi' with rfl | rfl | rfl
        · have e : (10 : Int) ^ (9 * 0) = 1 := by decide
          have e2 : (10 : Int) ^ (9 * (0 + 1)) = 1000000000 := by decide
          omega
        · have e : (10 : Int) ^ (9 * 1) = 1000000000 := by decide
          have e2 : (10 : Int) ^ (9 * (1 + 1)) = 1000000000000000000 := by decide
          omega
        · have e : (10 : Int) ^ (9 * 2) = 1000000000000000000 := by decide
          have e2 : (10 : Int) ^ (9 * (2 + 1)) = 1000000000000000000000000000 := by decide
          omega
    · rintro σ H1 ⟨S1, B1, fa, v, f0, f1, rfl⟩
      have f1' : fa < 1000000000000000000000000000 := f1
      have eB : (10 : Int) ^ 28 = 10000000000000000000000000000 := by decide
      -- ways = [..]
      refine ⟨_, rfl, p, a, b, n + 3, 60, rfl, S1, by omega, by decide, by decide, fun z1 H2 a1 b1 S2 B2 => ?_⟩
      refine ⟨_, _, rfl, rfl, _, rfl, p, a, b, _, 61, rfl, S2, by omega, by decide, by decide, fun z2 H3 a2 b2 S3 B3 => ?_⟩
      refine ⟨_, _, rfl, rfl, _, _, rfl, rfl, .inl ⟨by decide, by decide⟩, _, rfl, p, a, b, _, 3, rfl, S3, by omega, by decide, by decide, fun z3 H4 a3 b3 S4 B4 => ?_⟩
      refine ⟨_, _, rfl, rfl, _, _, rfl, rfl, (by show 2 ≤ sizeLine; decide), fun q hq => ?_⟩
      -- ways = ways + [..]
      have S5 := S4.same (Same.new (o := .lst [.int (1990 + z1), .int (100 * (z2 - 10) + z3 - 1)]) hq)
      refine ⟨_, rfl, _, rfl, _, _, rfl, rfl, cp6, _, _, rfl, rfl, .inl ⟨by decide, by decide⟩, p, a, b, _, _, rfl, S5, by omega, by decide, by decide, fun z4 H5 a4 b4 S6 B6 => ?_⟩
      refine ⟨_, _, rfl, rfl, cp6, _, _, rfl, rfl, _, _, rfl, rfl, .inl ⟨by decide, by decide⟩, _, rfl, p, a, b, _, 5, rfl, S6, by omega, by decide, by decide, fun z5 H6 a5 b5 S7 B7 => ?_⟩
      refine ⟨_, _, rfl, rfl, _, _, rfl, rfl, _, rfl, _, rfl, _, _, rfl, rfl, (by show 3 ≤ sizeLine; decide), fun q2 hq2 => ?_⟩
      have B5 : But p a H4 (upd H4 q (.lst [.int (1990 + z1), .int (100 * (z2 - 10) + z3 - 1)])) := But.of (Same.new hq)
      obtain ⟨u1, u2, u3, w1, w2, w3⟩ := S4.there
      have nqp : q ≠ p := (ne_of_none w1 hq).symm
      have nqa : q ≠ a := (ne_of_none w2 hq).symm
      have hq6 : H6 q = some (.lst [.int (1990 + z1), .int (100 * (z2 - 10) + z3 - 1)]) := B7 _ _ (B6 _ _ upd_same nqp nqa) nqp nqa
      have nq2 : q ≠ q2 := ne_of_none hq6 hq2
      refine ⟨q, q2, _, _, rfl, rfl, (upd_ne nq2).trans hq6, upd_same, (by show 5 ≤ sizeLine; decide), fun q3 hq3 => ?_⟩
      have S8 := (S7.same (Same.new hq2)).same (Same.new (o := .lst [.int (1990 + z1), .int (100 * (z2 - 10) + z3 - 1), .int (400 * (z4 - 10 ^ (6 : Int).toNat) + z5 - 2), .int fa, .int (0 - fa)]) hq3)
      refine ⟨_, rfl, _, rfl, p, a, b, _, 5, rfl, S8, by omega, by decide, by decide, fun z6 H7 a6 b6 S9 B9 => ?_⟩
      obtain ⟨x1, x2, x3, y1, y2, y3⟩ := (S7.same (Same.new hq2)).there
      have nqp3 : q3 ≠ p := (ne_of_none y1 hq3).symm
      have nqa3 : q3 ≠ a := (ne_of_none y2 hq3).symm
      have h7 := B9 q3 _ upd_same nqp3 nqa3
      have bb : But p a H H7 := ((B1.trans B2).trans (B3.trans B4)).trans ((B5.trans (B6.trans B7)).trans ((But.of (Same.new hq2)).trans ((But.of (Same.new hq3)).trans B9)))
      have fin : ∀ v : Int, -(10 ^ 28) ≤ v → v ≤ 10 ^ 28 → Q (.int v) H7 := fun v c1 c2 => k v H7 c1 c2 (S9.mono (by omega)) bb
      have z6' : z6 = 0 ∨ z6 = 1 ∨ z6 = 2 ∨ z6 = 3 ∨ z6 = 4 := by omega
      have e6 : (10 : Int) ^ (6 : Int).toNat = 1000000 := by decide
      rcases z6' with rfl | rfl | rfl | rfl | rfl
      · exact ⟨q3, _, 0, _, rfl, rfl, SqL.of h7, rfl, fin (1990 + z1) (by omega) (by omega)⟩
      · exact ⟨q3, _, 1, _, rfl, rfl, SqL.of h7, rfl, fin (100 * (z2 - 10) + z3 - 1) (by omega) (by omega)⟩
      · exact ⟨q3, _, 2, _, rfl, rfl, SqL.of h7, rfl, fin (400 * (z4 - 10 ^ (6 : Int).toNat) + z5 - 2) (by omega) (by omega)⟩
      · exact ⟨q3, _, 3, _, rfl, rfl, SqL.of h7, rfl, fin fa (by omega) (by omega)⟩
      · exact ⟨q3, _, 4, _, rfl, rfl, SqL.of h7, rfl, fin (0 - fa) (by omega) (by omega)⟩
end
end Cf
namespace Cf
open PySem L2
section
variable {P : Program} {w : World} {K : PySem.W.Frag} {mg : Str → Option Value} {base : Heap}
/-! ### texts of numbers and of their tuples -/
def Big (i : Int) : Prop := -10000000000000000000000000000000000000000 ≤ i ∧ i ≤ 10000000000000000000000000000000000000000
theorem log_ok {i : Int} (h : Big i) : i.natAbs.log2 < 1920 := by
  by_cases z : i.natAbs = 0
  · rw [z]; decide
  · refine (Nat.log2_lt z).mpr (Nat.lt_of_le_of_lt (show i.natAbs ≤ 10000000000000000000000000000000000000000 by have := h.1; have := h.2; omega) (by decide +kernel))
theorem len_i {i : Int} (h : Big i) : (PyData.shown (.int i)).length ≤ 1921 := by
  show (Str.ofString (toString i)).length ≤ 1921
  rw [ofString_length]
  exact int_text_length_le (by decide) (log_ok h)
theorem show_i {i : Int} (h : Big i) : PyData.showable (.int i) = true := by
  unfold PyData.showable
  exact decide_eq_true (log_ok h)
theorem line_ge : 1000000 ≤ sizeLine := by rw [sizeLine_eq]; decide
def pd3 (a b c : Int) : PyData := .tuple [.int a, .int b, .int c]
theorem pd3_sh {a b c : Int} (ha : Big a) (hb : Big b) (hc : Big c) : (pd3 a b c).showable = true := by
  have h1 := show_i ha
  have h2 := show_i hb
  have h3 := show_i hc
  simp only [pd3, PyData.showable, PyData.showableAll, Bool.and_eq_true] at *
  exact ⟨h1, h2, h3, trivial⟩
theorem pd3_len {a b c : Int} (ha : Big a) (hb : Big b) (hc : Big c) : (pd3 a b c).shown.length ≤ sizeLine := by
  have h1 := len_i ha
  have h2 := len_i hb
  have h3 := len_i hc
  refine Nat.le_trans ?_ line_ge
  have h4 := tupleText_len_le (PyData.shownAll [.int a, .int b, .int c])
  simp only [pd3, PyData.shown, PyData.shownAll, List.map_cons, List.map_nil, List.sum_cons, List.sum_nil, List.length_cons, List.length_nil] at *
  omega
theorem pd3_dict (a b c : Int) : (pd3 a b c).hasDict = false := rfl
theorem pd3_depth (a b c : Int) : (pd3 a b c).depth ≤ 60 := by
  simp only [pd3, PyData.depth, PyData.depthAll]
  decide
theorem dp3 {H : Hp} {p : Addr} {a b c : Int} (h : H p = some (.tup [.int a, .int b, .int c])) : Dp K H (.ref p) (pd3 a b c) := .tup (SqT.of h) (.cons (.int a) (.cons (.int b) (.cons (.int c) .nil)))
theorem ne_same {x : V} : (!decide (x = x)) = false := by rw [decide_eq_true rfl]; rfl
/-- equal data, told by == and != -/
theorem eqv3 (a b c : Int) : PyData.eqv (pd3 a b c) (pd3 a b c) = true := by simp [pd3, PyData.eqv, PyData.eqvAll]
theorem shaped3 (a b c : Int) : SeqAt.shaped (pd3 a b c) = true := by
  unfold SeqAt.shaped
  rw [Bool.and_eq_true]
  exact ⟨rfl, decide_eq_true (by have := pd3_depth a b c; omega)⟩
/-! ### pairs -/
def pd2 (a b : Int) : PyData := .tuple [.int a, .int b]
theorem dp2 {H : Hp} {p : Addr} {a b : Int} (h : SqT K H p [.int a, .int b]) : Dp K H (.ref p) (pd2 a b) := .tup h (.cons (.int a) (.cons (.int b) .nil))
theorem dp3s {H : Hp} {p : Addr} {a b c : Int} (h : SqT K H p [.int a, .int b, .int c]) : Dp K H (.ref p) (pd3 a b c) := .tup h (.cons (.int a) (.cons (.int b) (.cons (.int c) .nil)))
theorem pd2_depth (a b : Int) : (pd2 a b).depth ≤ 60 := by
  simp only [pd2, PyData.depth, PyData.depthAll]
  decide
theorem shaped2 (a b : Int) : SeqAt.shaped (pd2 a b) = true := by
  unfold SeqAt.shaped
  rw [Bool.and_eq_true]
  exact ⟨rfl, decide_eq_true (by have := pd2_depth a b; omega)⟩
theorem eqv2 (a b c d : Int) : PyData.eqv (pd2 a b) (pd2 c d) = (decide (a = c) && decide (b = d)) := by
  have e : ∀ x y : Int, (x == y) = decide (x = y) := fun x y => by by_cases h : x = y <;> simp [h]
  simp [pd2, PyData.eqv, PyData.eqvAll, e]
theorem big_w {y z : Int} (h1 : -(10 ^ 29) ≤ y) (h2 : y ≤ 10 ^ 29) (h3 : -10000 ≤ z) (h4 : z ≤ 10000) : Big (ysOf y + z) ∧ Big y := by
  have e : (10 : Int) ^ 29 = 100000000000000000000000000000 := by decide
  have q := ys_bd (y := y) (B := 100000000000000000000000000000) (by omega) (by omega) (by decide)
  unfold Big
  omega
/-! ### _law_pick -/
def spPick : Sp := fun vs H Q _ => ∃ (p a b l : Addr) (n : Nat) (xs : List V), vs = [.ref p, .ref l] ∧ Stt p a b n H ∧ n ≤ 1000000 ∧ H l = some (.lst xs) ∧ l ≠ p ∧ l ≠ a ∧ 0 < xs.length ∧ xs.length ≤ 1000 ∧
  ∀ (i : Nat) (v : V) (H' : Hp), xs[i]? = some v → Stt p a b (n + 1) H' → But p a H H' → Q v H'
theorem scLawPick : FnScope ["state", "some"] ["state", "some"] (defScope sLawPick) := ⟨rfl, rfl, rfl, by decide +kernel, rfl, by decide +kernel, by decide +kernel⟩
theorem ok_pick {f : Addr} {fd : FuncData} (F : Fun K "_law_pick" "_law_pick" sLawPick f fd) (T : Nm mg) (DT : Df P w K mg base 2 "_law_take" ["state", "size"] [] spTake) : FnOk P w K mg base CX0 3 f fd ["state", "some"] spPick := by
  refine F.ok scLawPick (fun vs H Q E h => ?_) (fun cdv A outer s H vs Q E hr h => ?_)
  · obtain ⟨p, a, b, l, n, xs, rfl, _⟩ := h
    rfl
  · obtain ⟨p, a, b, l, n, xs, rfl, S, hn, hl, n1, n2, l0, l1, k⟩ := h
    refine ⟨_, pss_one (ps_ret (pe_ix ix_list (pv 1) (pe_df DT hr (pa_cons (pv 0) (pa_cons (pe_callB call_len_seq (by rfl) T.len PySem.boot_len (pa_cons (pv 1) pa_nil)) pa_nil))) (fun _ _ => rfl))), ?_⟩
    refine ⟨_, rfl, _, rfl, _, rfl, l, xs, rfl, .inl (SqL.of hl), p, a, b, n, _, rfl, S, hn, by omega, by omega, fun z H' z0 z1 S' B' => ?_⟩
    have hlt : z.toNat < xs.length := by omega
    refine ⟨l, xs, z, xs[z.toNat], rfl, rfl, SqL.of (B' _ _ hl n1 n2), at_of (j := z.toNat) (by omega) (by simp [hlt]), ?_⟩
    exact k z.toNat _ H' (by simp [hlt]) S' B'
/-! ### week_of -/
def spWeekOf : Sp := fun vs H Q _ => ∃ d wy wn : Int, vs = [.int d] ∧ WeekOk d wy wn ∧ ∀ (H' : Hp) (p : Addr), Same H H' → H p = none → H' p = some (.tup [.int wy, .int wn, .int ((d + 5) % 7 + 1)]) → Q (.ref p) H'
theorem scWeekOf : FnScope ["day", "in_week", "thursday", "year"] ["day"] (defScope sWeekOf) := ⟨rfl, rfl, rfl, by decide +kernel, rfl, by decide +kernel, by decide +kernel⟩
theorem ok_weekof {f : Addr} {fd : FuncData} (F : Fun K "week_of" "week_of" sWeekOf f fd) (DC : Df P w K mg base 2 "check_number" ["value", "least"] [.non] spCheck) (DW : Df P w K mg base 3 "weekday" ["day"] [] spWeekday)
    (DO : Df P w K mg base 4 "year_of" ["day"] [] spYearOf) (DY : Df P w K mg base 3 "year_start" ["year"] [] spYs) : FnOk P w K mg base CX0 5 f fd ["day"] spWeekOf := by
  refine F.ok scWeekOf (fun vs H Q E h => ?_) (fun cdv A outer s H vs Q E hr h => ?_)
  · obtain ⟨d, wy, wn, rfl, _⟩ := h
    rfl
  · obtain ⟨d, wy, wn, rfl, W, k⟩ := h
    have hr2 : Room 2 _ := hr.mono (by decide)
    have hr3 : Room 3 _ := hr.mono (by decide)
    have nd := scWeekOf.nd
    refine ⟨_, pss_cons (ps_expr (pe_df DC hr2 (pa_cons (pv 0) pa_nil))) (pss_cons (ps_set (i := 1) nd rfl (Or.inl rfl) (pe_df DW hr3 (pa_cons (pv 0) pa_nil)))
      (pss_cons (ps_set (i := 2) nd rfl (Or.inl rfl) (pe_op op_add (pe_op op_sub (pv 0) (pv 1)) pe_int))
      (pss_cons (ps_set (i := 3) nd rfl (Or.inl rfl) (pe_df DO hr (pa_cons (pv 2) pa_nil)))
      (pss_one (ps_ret (pe_tup (pa_cons (pv 3) (pa_cons (pe_op op_add (pe_op op_fdiv (pe_op op_sub (pv 2) (pe_df DY hr3 (pa_cons (pv 3) pa_nil))) pe_int) pe_int) (pa_cons (pe_op op_add (pv 1) pe_int) pa_nil))))))))), ?_⟩
    refine ⟨_, rfl, d, rfl, _, rfl, d, rfl, _, rfl, _, rfl, _, _, rfl, rfl, _, _, rfl, rfl, _, rfl, thu d, wy, rfl, W.lo, W.hi, fun H1 S1 => ?_⟩
    refine ⟨_, rfl, _, rfl, _, rfl, wy, rfl, _, _, rfl, rfl, _, _, rfl, rfl, ⟨by decide, by decide⟩, _, _, rfl, rfl, _, rfl, _, _, rfl, rfl, (by show 3 ≤ sizeLine; decide), fun p hp => ?_⟩
    refine k _ p (S1.step hp) (S1.free hp) ?_
    rw [upd_same, W.nr]
    rfl
/-! ### _law_next_date -/
def spNext : Sp := fun vs H Q _ => ∃ (t : Addr) (y m n : Int), vs = [.ref t] ∧ SqT K H t [.int y, .int m, .int n] ∧ IsDate y m n ∧
  ∀ (y' m' n' : Int) (H' : Hp) (p : Addr), IsDate y' m' n' → dayOf y' m' n' = dayOf y m n + 1 → Same H H' → H p = none → H' p = some (.tup [.int y', .int m', .int n']) → Q (.ref p) H'
theorem scLawNextDate : FnScope ["date", "year", "month", "one_day"] ["date"] (defScope sLawNextDate) := ⟨rfl, rfl, rfl, by decide +kernel, rfl, by decide +kernel, by decide +kernel⟩
theorem ok_next {f : Addr} {fd : FuncData} (F : Fun K "_law_next_date" "_law_next_date" sLawNextDate f fd) (DZ : Df P w K mg base 2 "_law_size" ["year", "month"] [] spSize) : FnOk P w K mg base CX0 3 f fd ["date"] (spNext (K := K)) := by
  refine F.ok scLawNextDate (fun vs H Q E h => ?_) (fun cdv A outer s H vs Q E hr h => ?_)
  · obtain ⟨t, y, m, n, rfl, _⟩ := h
    rfl
  · obtain ⟨t, y, m, n, rfl, ht, D, k⟩ := h
    have nd := scLawNextDate.nd
    refine ⟨_, pss_cons (ps_asg (pv 0) (pg_tup (by rfl) (pgs_cons (pg_name (i := 1) nd rfl (Or.inl rfl)) (pgs_cons (pg_name (i := 2) nd rfl (Or.inl rfl)) (pgs_cons (pg_name (i := 3) nd rfl (Or.inl rfl)) pgs_nil)))))
      (pss_cons (ps_if (pt_cmpR op_lt (pv 3) (pe_df DZ hr (pa_cons (pv 1) (pa_cons (pv 2) pa_nil))) (nomark _)) (pss_one (ps_ret (pe_tup (pa_cons (pv 1) (pa_cons (pv 2) (pa_cons (pe_op op_add (pv 3) pe_int) pa_nil)))))) pss_nil)
      (pss_one (ps_ret (pe_ifExp (pt_cmpR op_lt (pv 2) pe_int (nomark _)) (pe_tup (pa_cons (pv 1) (pa_cons (pe_op op_add (pv 2) pe_int) (pa_cons pe_int pa_nil)))) (pe_tup (pa_cons (pe_op op_add (pv 1) pe_int) (pa_cons pe_int (pa_cons pe_int pa_nil)))))))), ?_⟩
    refine ⟨_, rfl, t, _, rfl, ht, rfl, _, _, rfl, _, _, rfl, _, _, rfl, rfl, ?_⟩
    refine ⟨_, rfl, _, rfl, _, rfl, y, m, rfl, D.m1, D.m2, fun H1 S1 => ?_⟩
    refine ⟨_, _, rfl, rfl, _, rfl, ?_⟩
    by_cases c : n < mlen m (leapB y)
    · refine iteTT (decide_eq_true c) ?_
      refine ⟨_, rfl, _, rfl, _, rfl, _, _, rfl, rfl, (by show 3 ≤ sizeLine; decide), fun p hp => ?_⟩
      have q := next_day D c
      exact k y m (n + 1) _ p q.1 q.2 (S1.step hp) (S1.free hp) upd_same
    · refine iteFF (decide_eq_false c) ?_
      refine ⟨_, rfl, _, _, rfl, rfl, _, rfl, ?_⟩
      by_cases c2 : m < 12
      · refine iteTT (decide_eq_true c2) ?_
        refine ⟨_, rfl, _, rfl, _, _, rfl, rfl, (by show 3 ≤ sizeLine; decide), fun p hp => ?_⟩
        have q := next_month D c c2
        exact k y (m + 1) 1 _ p q.1 q.2 (S1.step hp) (S1.free hp) upd_same
      · refine iteFF (decide_eq_false c2) ?_
        refine ⟨_, rfl, _, _, rfl, rfl, (by show 3 ≤ sizeLine; decide), fun p hp => ?_⟩
        have q := next_year D c c2
        exact k (y + 1) 1 1 _ p q.1 q.2 (S1.step hp) (S1.free hp) upd_same
/-! ### _law_next_week -/
def spNextWeek : Sp := fun vs H Q _ => ∃ (r t : Addr) (y m n wy wn : Int), vs = [.ref r, .ref t] ∧ SqT K H r [.int wy, .int wn] ∧ SqT K H t [.int y, .int m, .int n] ∧ IsDate y m n ∧ (dayOf y m n + 5) % 7 = 0 ∧ WeekOk (dayOf y m n - 1) wy wn ∧
  ∀ (wy' wn' : Int) (H' : Hp) (p : Addr), WeekOk (dayOf y m n) wy' wn' → Same H H' → H p = none → H' p = some (.tup [.int wy', .int wn']) → Q (.ref p) H'
theorem scLawNextWeek : FnScope ["week", "date", "thursday"] ["week", "date"] (defScope sLawNextWeek) := ⟨rfl, rfl, rfl, by decide +kernel, rfl, by decide +kernel, by decide +kernel⟩
theorem ok_nextweek {f : Addr} {fd : FuncData} (F : Fun K "_law_next_week" "_law_next_week" sLawNextWeek f fd) (DN : Df P w K mg base 3 "_law_next_date" ["date"] [] (spNext (K := K))) : FnOk P w K mg base CX0 4 f fd ["week", "date"] (spNextWeek (K := K)) := by
  refine F.ok scLawNextWeek (fun vs H Q E h => ?_) (fun cdv A outer s H vs Q E hr h => ?_)
  · obtain ⟨r, t, y, m, n, wy, wn, rfl, _⟩ := h
    rfl
  · obtain ⟨r, t, y, m, n, wy, wn, rfl, hw, ht, D, mon, W, k⟩ := h
    have nd := scLawNextWeek.nd
    refine ⟨_, pss_cons (ps_set (i := 2) nd rfl (Or.inl rfl) (pe_df DN hr (pa_cons (pe_df DN hr (pa_cons (pe_df DN hr (pa_cons (pv 1) pa_nil)) pa_nil)) pa_nil)))
      (pss_one (ps_ret (pe_ifExp (pt_cmpR op_ne (pe_ix ix_tup (pv 2) pe_int (fun _ _ => rfl)) (pe_ix ix_tup (pv 0) pe_int (fun _ _ => rfl)) (nomark _)) (pe_tup (pa_cons (pe_ix ix_tup (pv 2) pe_int (fun _ _ => rfl)) (pa_cons pe_int pa_nil)))
        (pe_tup (pa_cons (pe_ix ix_tup (pv 0) pe_int (fun _ _ => rfl)) (pa_cons (pe_op op_add (pe_ix ix_tup (pv 0) pe_int (fun _ _ => rfl)) pe_int) pa_nil)))))), ?_⟩
    refine ⟨_, rfl, t, y, m, n, rfl, ht, D, fun y1 m1 n1 H1 t1 D1 e1 S1 f1 h1 => ?_⟩
    refine ⟨t1, y1, m1, n1, rfl, SqT.of h1, D1, fun y2 m2 n2 H2 t2 D2 e2 S2 f2 h2 => ?_⟩
    refine ⟨t2, y2, m2, n2, rfl, SqT.of h2, D2, fun y3 m3 n3 H3 t3 D3 e3 S3 f3 h3 => ?_⟩
    have S03 : Same H H3 := (S1.trans S2).trans S3
    have hw3 := S03.sqt hw
    have yr := D3.year
    refine ⟨_, rfl, t3, _, 0, V.int y3, rfl, rfl, SqT.of h3, rfl, _, rfl, r, _, 0, V.int wy, rfl, rfl, hw3, rfl, rfl, _, rfl, ?_⟩
    rw [dec_int]
    by_cases c : y3 = wy
    · refine iteFF (by simpa using c) ?_
      refine ⟨_, rfl, r, _, 0, V.int wy, rfl, rfl, hw3, rfl, _, rfl, r, _, 1, V.int wn, rfl, rfl, hw3, rfl, _, _, rfl, rfl, (by show 2 ≤ sizeLine; decide), fun p hp => ?_⟩
      subst c
      exact k y3 (wn + 1) _ p (week_next_same W mon (by omega) (by omega)) (S03.step hp) (S03.free hp) upd_same
    · refine iteTT (by simpa using c) ?_
      refine ⟨_, rfl, t3, _, 0, V.int y3, rfl, rfl, SqT.of h3, rfl, (by show 2 ≤ sizeLine; decide), fun p hp => ?_⟩
      exact k y3 1 _ p (week_next_new W mon (by omega) (by omega) c) (S03.step hp) (S03.free hp) upd_same
/-! ### _law_first_week -/
def spFirstWeek : Sp := fun vs H Q _ => ∃ (t : Addr) (y m n : Int), vs = [.ref t, .int ((dayOf y m n + 5) % 7)] ∧ SqT K H t [.int y, .int m, .int n] ∧ IsDate y m n ∧
  ∀ (wy wn : Int) (H' : Hp) (p : Addr), WeekOk (dayOf y m n) wy wn → Same H H' → H p = none → H' p = some (.tup [.int wy, .int wn]) → Q (.ref p) H'
theorem scLawFirstWeek : FnScope ["date", "number", "year", "month", "one_day", "begin", "monday", "one", "fourth", "first"] ["date", "number"] (defScope sLawFirstWeek) := ⟨rfl, rfl, rfl, by decide +kernel, rfl, by decide +kernel, by decide +kernel⟩
theorem ok_firstweek {f : Addr} {fd : FuncData} (F : Fun K "_law_first_week" "_law_first_week" sLawFirstWeek f fd) (T : Nm mg) (DN : Df P w K mg base 1 "_law_new_year" ["year"] [] spNy) (DM : Df P w K mg base 2 "_law_month" ["year", "month"] [] spMonth) :
    FnOk P w K mg base CX0 3 f fd ["date", "number"] (spFirstWeek (K := K)) := by
  refine F.ok scLawFirstWeek (fun vs H Q E h => ?_) (fun cdv A outer s H vs Q E hr h => ?_)
  · obtain ⟨t, y, m, n, rfl, _⟩ := h
    rfl
  · obtain ⟨t, y, m, n, rfl, ht, D, k⟩ := h
    have nd := scLawFirstWeek.nd
    have hr1 : Room 1 _ := hr.mono (by decide)
    refine ⟨_, pss_cons (ps_asg (pv 0) (pg_tup (by rfl) (pgs_cons (pg_name (i := 2) nd rfl (Or.inl rfl)) (pgs_cons (pg_name (i := 3) nd rfl (Or.inl rfl)) (pgs_cons (pg_name (i := 4) nd rfl (Or.inl rfl)) pgs_nil)))))
      (pss_cons (ps_set (i := 5) nd rfl (Or.inl rfl) (pe_df DN hr1 (pa_cons (pv 2) pa_nil)))
      (pss_cons (ps_set (i := 6) nd rfl (Or.inl rfl) (pe_op op_sub (pe_op op_sub (pe_op op_add (pe_df DM hr (pa_cons (pv 2) (pa_cons (pv 3) pa_nil))) (pv 4)) pe_int) (pv 1)))
      (pss_cons (ps_for PassesOwn.never rfl (pi_list (pe_lst (pa_cons (pe_op op_add (pv 2) pe_int) (pa_cons (pv 2) (pa_cons (pe_op op_sub (pv 2) pe_int) pa_nil))))) (pg_name (i := 7) nd rfl (Or.inl rfl))
        (pss_cons (ps_set (i := 8) nd rfl (Or.inl rfl) (pe_op op_add (pe_df DN hr1 (pa_cons (pv 7) pa_nil)) pe_int))
        (pss_cons (ps_set (i := 9) nd rfl (Or.inl rfl) (pe_op op_sub (pv 8) (pe_op op_mod (pe_callTy call_int1 (by rfl) T.int (by decide +kernel) (pa_cons (pe_op op_add (pv 8) pe_int) pa_nil)) pe_int)))
        (pss_one (ps_if (pt_cmpR op_ge (pv 6) (pv 9) (nomark _)) (pss_one (ps_ret (pe_tup (pa_cons (pv 7) (pa_cons (pe_op op_add (pe_op op_fdiv (pe_op op_sub (pv 6) (pv 9)) pe_int) pe_int) pa_nil))))) pss_nil)))))
      (pss_one (ps_ret (pe_tup (pa_cons (pv 2) (pa_cons (pv 5) pa_nil)))))))), ?_⟩
    have yr := D.year
    have far := week_far yr.1 yr.2
    refine ⟨_, rfl, t, _, rfl, ht, rfl, _, _, rfl, _, _, rfl, _, _, rfl, rfl, ?_⟩
    refine ⟨_, rfl, y, rfl, _, rfl, _, rfl, y, m, rfl, D.m1, D.m2, fun H1 S1 => ?_⟩
    refine ⟨_, rfl, _, _, rfl, rfl, _, _, rfl, rfl, _, rfl, _, _, rfl, rfl, ?_⟩
    refine ⟨_, rfl, _, _, rfl, rfl, _, rfl, _, rfl, _, _, rfl, rfl, (by show 3 ≤ sizeLine; decide), fun L hL => ?_⟩
    have hmo : ysOf y + mst m (leapB y) + n - 1 - (dayOf y m n + 5) % 7 = dayOf y m n - (dayOf y m n + 5) % 7 := by unfold dayOf; omega
    refine ⟨L, rfl, ⟨_, SqL.of upd_same⟩, for_list (K := K) (a := L) (xs := [y + 1, y, y - 1].map V.int)
      (fun i σ H' => Same (upd H1 L (.lst ([y + 1, y, y - 1].map V.int))) H' ∧ (1 ≤ i → dayOf y m n - (dayOf y m n + 5) % 7 < fst (y + 1)) ∧ (2 ≤ i → dayOf y m n - (dayOf y m n + 5) % 7 < fst y) ∧ i ≤ 2 ∧
        ∃ v7 v8 v9 : Option V, σ = [some (.ref t), some (.int ((dayOf y m n + 5) % 7)), some (.int y), some (.int m), some (.int n), some (.int (ysOf y)), some (.int (ysOf y + mst m (leapB y) + n - 1 - (dayOf y m n + 5) % 7)), v7, v8, v9])
      ⟨Same.refl _, by omega, by omega, by omega, none, none, none, rfl⟩ (fun i σ H' _ ⟨S, _⟩ => SqL.of (S _ _ upd_same)) ?_ ?_⟩
    · rintro i v σ H' hi ⟨S, b1, b2, b3, v7, v8, v9, rfl⟩
      obtain ⟨z, hz, rfl⟩ := ints_get hi
      refine ⟨_, rfl, z, rfl, _, _, rfl, rfl, _, rfl, _, rfl, _, _, rfl, rfl, .inl ⟨_, rfl, _, _, rfl, rfl, (by show (0 : Int) < 7; decide), _, _, rfl, rfl, ?_⟩⟩
      refine ⟨_, rfl, _, rfl, _, _, rfl, rfl, _, rfl, ?_⟩
      have SH : Same H H' := (S1.step hL).trans S
      have hit : fst z ≤ dayOf y m n - (dayOf y m n + 5) % 7 → dayOf y m n - (dayOf y m n + 5) % 7 < fst (z + 1) → ∀ p : Addr, H' p = none → Q (.ref p) (upd H' p (.tup [.int z, .int ((ysOf y + mst m (leapB y) + n - 1 - (dayOf y m n + 5) % 7 - (ysOf z + 3 - (ysOf z + 3 + 5) % 7)) / 7 + 1)])) := fun c1 c2 p hp => by
        refine k z _ _ p (week_at c1 c2) (SH.step hp) (SH.free hp) ?_
        rw [upd_same, hmo]
        rfl
      have ez : (i = 0 ∧ z = y + 1) ∨ (i = 1 ∧ z = y) ∨ (i = 2 ∧ z = y - 1) := by
        have hlt := lt_of_get hz
        have i3 : i = 0 ∨ i = 1 ∨ i = 2 := by simp only [List.length_cons, List.length_nil] at hlt; omega
        rcases i3 with rfl | rfl | rfl
        · exact .inl ⟨rfl, (Option.some.inj hz).symm⟩
        · exact .inr (.inl ⟨rfl, (Option.some.inj hz).symm⟩)
        · exact .inr (.inr ⟨rfl, (Option.some.inj hz).symm⟩)
      have fz : ysOf z + 3 - (ysOf z + 3 + 5) % 7 = fst z := rfl
      by_cases c : ysOf z + 3 - (ysOf z + 3 + 5) % 7 ≤ ysOf y + mst m (leapB y) + n - 1 - (dayOf y m n + 5) % 7
      · refine iteTT (decide_eq_true c) ?_
        refine ⟨_, rfl, _, rfl, _, rfl, _, _, rfl, rfl, _, _, rfl, rfl, ⟨by decide, by decide⟩, _, _, rfl, rfl, (by show 2 ≤ sizeLine; decide), fun p hp => ?_⟩
        rw [hmo, fz] at c
        refine hit c ?_ p hp
        rcases ez with ⟨i0, e⟩ | ⟨i1, e⟩ | ⟨i2, e⟩
        · rw [e]; exact far.1
        · rw [e]; exact b1 (by omega)
        · rw [e, show y - 1 + 1 = y by omega]; exact b2 (by omega)
      · refine iteFF (decide_eq_false c) ?_
        rw [hmo, fz] at c
        rcases ez with ⟨i0, e⟩ | ⟨i1, e⟩ | ⟨i2, e⟩
        · rw [e] at c
          exact ⟨S, fun _ => by omega, fun q => by omega, by omega, _, _, _, rfl⟩
        · have q1 := b1 (by omega)
          rw [e] at c
          exact ⟨S, fun _ => q1, fun _ => by omega, by omega, _, _, _, rfl⟩
        · rw [e] at c
          exact absurd far.2 c
    · rintro σ H' ⟨S, b1, b2, b3, v7, v8, v9, rfl⟩
      exact absurd (show 3 ≤ 2 from b3) (by decide)
end
end Cf
namespace Cf
open PySem L2
section
variable {P : Program} {w : World} {K : PySem.W.Frag} {mg : Str → Option Value} {base : Heap}
def id1 : List V → List V := fun l => [l.getD 0 .non]
/-! ### _law_day_right -/
def spDr : Sp := fun vs H Q _ => ∃ (t r : Addr) (y m n wy wn : Int), vs = [.int (dayOf y m n), .ref t, .int ((dayOf y m n + 5) % 7), .ref r] ∧ SqT K H t [.int y, .int m, .int n] ∧ SqT K H r [.int wy, .int wn] ∧ IsDate y m n ∧ WeekOk (dayOf y m n) wy wn ∧
  -(10 ^ 29) ≤ y ∧ y ≤ 10 ^ 29 ∧ ∀ H', Same H H' → Q (.bl true) H'
theorem scLawDayRight : FnScope ["one_day", "date", "number", "week"] ["one_day", "date", "number", "week"] (defScope sLawDayRight) := ⟨rfl, rfl, rfl, by decide +kernel, rfl, by decide +kernel, by decide +kernel⟩
theorem cut_date (a b c : V) : cutV [a, b, c] (some 1) none = [b, c] ∧ ¬ (HT.sIx [a, b, c].length 0 (some 1) = 0 ∧ HT.sIx [a, b, c].length [a, b, c].length none = [a, b, c].length) := by
  constructor
  · rfl
  · simp only [List.length_cons, List.length_nil]
    decide
theorem ok_dr {f : Addr} {fd : FuncData} (F : Fun K "_law_day_right" "_law_day_right" sLawDayRight f fd) (T : Nm mg) (DD : Df P w K mg base 5 "date_of" ["day"] [] spDateOf) (DO : Df P w K mg base 4 "day_of" ["year", "month", "day"] [] spDayOf)
    (DW : Df P w K mg base 3 "weekday" ["day"] [] spWeekday) (DK : Df P w K mg base 5 "week_of" ["day"] [] spWeekOf) (DY : Df P w K mg base 3 "year_start" ["year"] [] spYs) (DKk : Dk P w K mg base 5 "week_of" ["day"] ["day"] id1 spWeekOf) :
    FnG P w K mg base CX0 6 f fd ["one_day", "date", "number", "week"] (spDr (K := K)) := by
  refine funG F scLawDayRight (fun vs H Q E h => ?_) (fun cdv A gd outer s H vs Q E hr h => ?_)
  · obtain ⟨t, r, y, m, n, wy, wn, rfl, _⟩ := h
    rfl
  · obtain ⟨t, r, y, m, n, wy, wn, rfl, ht, hw, D, W, y1, y2, k⟩ := h
    have nd := scLawDayRight.nd
    have hr3 : Room 3 _ := hr.mono (by decide)
    have hr4 : Room 4 _ := hr.mono (by decide)
    have hu := hr.units
    have pT : bootBuiltins "repr" = some (.builtin "repr") := by decide +kernel
    refine ⟨_, pss_cons (ps_if (PW.pt (pw_or (pt_cmpR op_ne (pe_callB (call_reprD gd hu) (by rfl) T.repr pT (pa_cons (pe_df DD hr (pa_cons (pv 0) pa_nil)) pa_nil)) (pe_callB (call_reprD gd hu) (by rfl) T.repr pT (pa_cons (pv 1) pa_nil)) (nomark _))
        (pw_or1 (pt_cmpR op_ne (pe_callB call_repr_i (by rfl) T.repr pT (pa_cons (pe_df DO hr4 (pa_cons (pe_ix ix_tup (pv 1) pe_int (fun _ _ => rfl)) (pa_cons (pe_ix ix_tup (pv 1) pe_int (fun _ _ => rfl)) (pa_cons (pe_ix ix_tup (pv 1) pe_int (fun _ _ => rfl)) pa_nil)))) pa_nil)) (pe_callB call_repr_i (by rfl) T.repr pT (pa_cons (pv 0) pa_nil)) (nomark _))))) (pss_one (ps_ret pe_bl)) pss_nil)
      (pss_cons (ps_if (PW.pt (pw_or (pt_cmpR op_ne (pe_callB call_repr_i (by rfl) T.repr pT (pa_cons (pe_df DW hr3 (pa_cons (pv 0) pa_nil)) pa_nil)) (pe_callB call_repr_i (by rfl) T.repr pT (pa_cons (pv 2) pa_nil)) (nomark _))
        (pw_or1 (pt_cmpR op_ne (pe_callB (call_reprD gd hu) (by rfl) T.repr pT (pa_cons (pe_df DK hr (pa_cons (pv 0) pa_nil)) pa_nil)) (pe_callB (call_reprD gd hu) (by rfl) T.repr pT (pa_cons (pe_op op_catT (pv 3) (pe_tup (pa_cons (pe_op op_add (pv 2) pe_int) pa_nil))) pa_nil)) (nomark _))))) (pss_one (ps_ret pe_bl)) pss_nil)
      (pss_cons (ps_if (PW.pt (pw_or (PW.pt (pw_and (pt_cmpR (op_eqD hu) (pe_slice sl_tupA (pv 1) (po_some pe_int) po_none) (pe_tup (pa_cons pe_int (pa_cons pe_int pa_nil))) (nomark _)) (pw_and1 (pt_cmpR op_ne (pe_df DY hr3 (pa_cons (pe_ix ix_tup (pv 1) pe_int (fun _ _ => rfl)) pa_nil)) (pv 0) (nomark _)))))
        (pw_or1 (PW.pt (pw_and (pt_cmpR (op_eqD hu) (pe_slice sl_tupA (pv 1) (po_some pe_int) po_none) (pe_tup (pa_cons pe_int (pa_cons pe_int pa_nil))) (nomark _)) (pw_and1 (pt_cmpR (op_neD hu) (pv 3) (pe_tup (pa_cons (pe_ix ix_tup (pv 1) pe_int (fun _ _ => rfl)) (pa_cons pe_int pa_nil))) (nomark _)))))))) (pss_one (ps_ret pe_bl)) pss_nil)
      (pss_one (ps_ret (pe_cmpR op_in_rng (pe_ix ix_tup (pe_dk DKk hr (pk_cons (pv 0) pk_nil)) pe_int (fun _ _ => rfl)) (pe_callTy cr_range2 (by rfl) T.range (by decide +kernel) (pa_cons pe_int (pa_cons pe_int pa_nil))) (by rfl)))))), ?_⟩
    have bd : Big (dayOf y m n) := by
      have mb := mst_bd D.m1 (by have := D.m2; omega) (leapB y)
      have zb := mlen_bd D.m1 D.m2 (leapB y)
      have := D.d1
      have := D.d2
      have q := (big_w (z := mst m (leapB y) + n - 1) y1 y2 (by omega) (by omega)).1
      have e : ysOf y + (mst m (leapB y) + n - 1) = dayOf y m n := by unfold dayOf; omega
      rw [e] at q
      exact q
    have by' : Big y := (big_w (z := 0) y1 y2 (by decide) (by decide)).2
    have bm : Big m := by have := D.m1; have := D.m2; unfold Big; omega
    have bn : Big n := by have := D.d1; have := D.d2; have := mlen_bd D.m1 D.m2 (leapB y); unfold Big; omega
    have bw : Big ((dayOf y m n + 5) % 7) := by unfold Big; omega
    have bw1 : Big ((dayOf y m n + 5) % 7 + 1) := by unfold Big; omega
    have w53 := week_53 W
    have bwn : Big wn := by unfold Big; omega
    have bwy : Big wy := by
      have a := W.lo
      have b := W.hi
      have c := D.year
      have e1 : dayOf y m n - 3 ≤ thu (dayOf y m n) ∧ thu (dayOf y m n) ≤ dayOf y m n + 3 := by unfold thu; omega
      have f1 := ys_step (y + 1)
      have f2 := ys_step (y - 1)
      have e2 : y - 1 + 1 = y := by omega
      rw [e2] at f2
      have q1 : wy ≤ y + 1 := ys_le_iff (by omega)
      have q2 : y - 1 ≤ wy := ys_le_iff (by omega)
      have e : (10 : Int) ^ 29 = 100000000000000000000000000000 := by decide
      unfold Big
      omega
    -- the date
    refine ⟨_, rfl, y, m, n, rfl, D, fun H1 p1 S1 n1 h1 => ?_⟩
    have ht1 := S1.sqt ht
    refine ⟨p1, pd3 y m n, rfl, dp3 h1, pd3_sh by' bm bn, pd3_dict _ _ _, pd3_depth _ _ _, pd3_len by' bm bn, _, rfl, t, pd3 y m n, rfl, dp3s ht1, pd3_sh by' bm bn, pd3_dict _ _ _, pd3_depth _ _ _, pd3_len by' bm bn, rfl, false, congrArg V.bl ne_same, iteF ?_⟩
    refine ⟨_, rfl, t, _, 0, V.int y, rfl, rfl, ht1, rfl, _, rfl, t, _, 1, V.int m, rfl, rfl, ht1, rfl, _, rfl, t, _, 2, V.int n, rfl, rfl, ht1, rfl, y, m, n, rfl, D, fun H2 S2 => ?_⟩
    refine ⟨_, rfl, log_ok bd, _, rfl, _, rfl, log_ok bd, rfl, false, congrArg V.bl ne_same, iteF ?_⟩
    -- the weekday and the week
    refine ⟨_, rfl, dayOf y m n, rfl, _, rfl, log_ok bw, _, rfl, _, rfl, log_ok bw, rfl, false, congrArg V.bl ne_same, iteF ?_⟩
    refine ⟨_, rfl, dayOf y m n, wy, wn, rfl, W, fun H3 p3 S3 n3 h3 => ?_⟩
    have S03 : Same H H3 := (S1.trans S2).trans S3
    refine ⟨p3, pd3 wy wn ((dayOf y m n + 5) % 7 + 1), rfl, dp3 h3, pd3_sh bwy bwn bw1, pd3_dict _ _ _, pd3_depth _ _ _, pd3_len bwy bwn bw1, ?_⟩
    refine ⟨_, rfl, _, rfl, _, _, rfl, rfl, (by show 1 ≤ sizeLine; decide), fun p4 n4 => ?_⟩
    have S04 := S03.step (o := .tup [.int ((dayOf y m n + 5) % 7 + 1)]) n4
    refine ⟨r, p4, [.int wy, .int wn], _, rfl, rfl, S04.sqt hw, SqT.of upd_same, (by simp), (by show 3 ≤ sizeLine; decide), (fun z => by cases z), fun z p5 n5 => ?_⟩
    have S05 := S04.step (o := .tup ([.int wy, .int wn] ++ [.int ((dayOf y m n + 5) % 7 + 1)])) n5
    refine ⟨p5, pd3 wy wn ((dayOf y m n + 5) % 7 + 1), rfl, dp3 upd_same, pd3_sh bwy bwn bw1, pd3_dict _ _ _, pd3_depth _ _ _, pd3_len bwy bwn bw1, rfl, false, congrArg V.bl ne_same, iteF ?_⟩
    -- the first day of a year, 4 January
    have fin : ∀ H9 : Hp, Same H H9 → tRet (tOp (fun x y H Q => ∃ i a lo hi, x = V.int i ∧ y = V.ref a ∧ H a = some (.rng lo hi) ∧ Q (.bl (decide (lo ≤ i ∧ i < hi))) H) (tOp (rIxT K) (tCallN0 1 spWeekOf id1 (tCons (tVar 0) tNil)) (tC (.int 1)))
        (tCB (fun vs H Q => ∃ i j, vs = [V.int i, V.int j] ∧ ∀ p, H p = none → Q (.ref p) (upd H p (.rng i j))) (tCons (tC (.int 1)) (tCons (tC (.int 54)) tNil)))) { nx := fun _ H' => Q .non H', rt := Q } [some (.int (dayOf y m n)), some (.ref t), some (.int ((dayOf y m n + 5) % 7)), some (.ref r)] H9 := fun H9 S9 => by
      refine ⟨_, rfl, rfl, dayOf y m n, wy, wn, rfl, W, fun H10 p10 S10 n10 h10 => ?_⟩
      refine ⟨p10, _, 1, V.int wn, rfl, rfl, SqT.of h10, rfl, 1, 54, rfl, fun p11 n11 => ?_⟩
      refine ⟨wn, p11, 1, 54, rfl, rfl, upd_same, ?_⟩
      rw [decide_eq_true w53]
      exact k _ ((S9.trans S10).step n11)
    have second : ∀ (H6 : Hp) (Q2 : Bool → Hp → Prop), Same H H6 → (∀ H7, Same H H7 → Q2 false H7) → tAnd (tTest (tOp (rEqD K) (tSl (rSlA K) (tVar 1) (tPart (tC (.int 1))) tNoPart) (tTup (tCons (tC (.int 1)) (tCons (tC (.int 4)) tNil))))) (tTest (tOp (rNeD K) (tVar 3) (tTup (tCons (tOp (rIxT K) (tVar 1) (tC (.int 0))) (tCons (tC (.int 1)) tNil)))))
        [some (.int (dayOf y m n)), some (.ref t), some (.int ((dayOf y m n + 5) % 7)), some (.ref r)] H6 Q2 := fun H6 Q2 S6 kk => by
      refine ⟨_, rfl, _, rfl, t, _, rfl, S6.sqt ht, fun z => absurd z (cut_date _ _ _).2, fun _ q1 u1 => ?_⟩
      rw [(cut_date _ _ _).1]
      have S7 := S6.step (o := .tup [.int m, .int n]) u1
      refine ⟨(by show 2 ≤ sizeLine; decide), fun q2 u2 => ?_⟩
      have S8 := S7.step (o := .tup [.int 1, .int 4]) u2
      have g1 : upd (upd H6 q1 (.tup [.int m, .int n])) q2 (.tup [.int 1, .int 4]) q1 = some (.tup [.int m, .int n]) := Same.new u2 _ _ upd_same
      refine ⟨pd2 m n, pd2 1 4, dp2 (SqT.of g1), dp2 (SqT.of upd_same), shaped2 _ _, shaped2 _ _, _, rfl, ?_⟩
      rw [eqv2]
      by_cases c : m = 1 ∧ n = 4
      · obtain ⟨rfl, rfl⟩ := c
        refine iteTT (by decide) ?_
        obtain ⟨rfl, rfl⟩ := week_jan4 W
        refine ⟨_, rfl, _, rfl, t, _, 0, V.int wy, rfl, rfl, S8.sqt ht, rfl, (by show 2 ≤ sizeLine; decide), fun q3 u3 => ?_⟩
        have S9 := S8.step (o := .tup [.int wy, .int 1]) u3
        refine ⟨pd2 wy 1, pd2 wy 1, dp2 (S9.sqt hw), dp2 (SqT.of upd_same), shaped2 _ _, shaped2 _ _, false, ?_, kk _ S9⟩
        rw [eqv2]
        simp
      · refine iteFF ?_ (kk _ S8)
        by_cases c1 : m = 1
        · rw [decide_eq_true c1, Bool.true_and]
          exact decide_eq_false fun c2 => c ⟨c1, c2⟩
        · rw [decide_eq_false c1, Bool.false_and]
    refine ⟨_, rfl, _, rfl, t, _, rfl, S05.sqt ht, fun z => absurd z (cut_date _ _ _).2, fun _ q1 u1 => ?_⟩
    rw [(cut_date _ _ _).1]
    have S7 := S05.step (o := .tup [.int m, .int n]) u1
    refine ⟨(by show 2 ≤ sizeLine; decide), fun q2 u2 => ?_⟩
    have S8 := S7.step (o := .tup [.int 1, .int 1]) u2
    have g1 : upd (upd (upd (upd H3 p4 (.tup [.int ((dayOf y m n + 5) % 7 + 1)])) p5 (.tup ([.int wy, .int wn] ++ [.int ((dayOf y m n + 5) % 7 + 1)]))) q1 (.tup [.int m, .int n])) q2 (.tup [.int 1, .int 1]) q1 = some (.tup [.int m, .int n]) := Same.new u2 _ _ upd_same
    refine ⟨pd2 m n, pd2 1 1, dp2 (SqT.of g1), dp2 (SqT.of upd_same), shaped2 _ _, shaped2 _ _, _, rfl, ?_⟩
    rw [eqv2]
    by_cases c : m = 1 ∧ n = 1
    · obtain ⟨rfl, rfl⟩ := c
      refine iteTT (by decide) ?_
      have e1 : ysOf y = dayOf y 1 1 := ys_as_day y
      refine ⟨_, rfl, t, _, 0, V.int y, rfl, rfl, S8.sqt ht, rfl, y, rfl, _, rfl, rfl, false, ?_, ?_⟩
      · show V.bl (!decide (V.int (ysOf y) = V.int (dayOf y 1 1))) = V.bl false
        rw [e1, ne_same]
      · exact iteF (second _ _ S8 fun H7 S7 => iteF (fin H7 S7))
    · refine iteFF ?_ (iteF (second _ _ S8 fun H7 S7 => iteF (fin H7 S7)))
      by_cases c1 : m = 1
      · rw [decide_eq_true c1, Bool.true_and]
        exact decide_eq_false fun c2 => c ⟨c1, c2⟩
      · rw [decide_eq_false c1, Bool.false_and]
/-! ### law -/
def spLaw (K : PySem.W.Frag) : Sp := fun vs H Q _ => ∃ (l : Addr) (ns : List Int), vs = [.ref l] ∧ SqL K H l (ns.map V.int) ∧ ns.length ≤ 63 ∧ ∀ H', Q (.bl true) H'
theorem scLaw : FnScope ["script", "state", "turn", "year", "month", "date", "one_day", "number", "week", "step"] ["script"] (defScope sLaw) := ⟨rfl, rfl, rfl, by decide +kernel, rfl, by decide +kernel, by decide +kernel⟩
/-- where the walk stands: a date, its day, its week -/
structure WalkAt (K : PySem.W.Frag) (t r : Addr) (d wy wn : Int) (H : Hp) : Prop where
  dt : ∃ y m n : Int, H t = some (.tup [.int y, .int m, .int n]) ∧ IsDate y m n ∧ dayOf y m n = d
  wk : H r = some (.tup [.int wy, .int wn])
theorem ok_law {f : Addr} {fd : FuncData} (F : Fun K "law" "law" sLaw f fd) (T : Nm mg) (DB : Df P w K mg base 1 "_law_begun" ["script"] [] (spBegun K)) (DS : Df P w K mg base 3 "_law_some_year" ["state"] [] spSome) (DP : Df P w K mg base 3 "_law_pick" ["state", "some"] [] spPick)
    (DT : Df P w K mg base 2 "_law_take" ["state", "size"] [] spTake) (DZ : Df P w K mg base 2 "_law_size" ["year", "month"] [] spSize) (DM : Df P w K mg base 2 "_law_month" ["year", "month"] [] spMonth) (DF : Df P w K mg base 3 "_law_first_week" ["date", "number"] [] (spFirstWeek (K := K)))
    (DR : Dg P w K mg base 6 "_law_day_right" ["one_day", "date", "number", "week"] [] (spDr (K := K))) (DN : Df P w K mg base 3 "_law_next_date" ["date"] [] (spNext (K := K))) (DW : Df P w K mg base 4 "_law_next_week" ["week", "date"] [] (spNextWeek (K := K))) :
    FnG P w K mg base CX0 7 f fd ["script"] (spLaw K) := by
  refine funG F scLaw (fun vs H Q E h => ?_) (fun cdv A gd outer s H vs Q E hr h => ?_)
  · obtain ⟨l, ns, rfl, _⟩ := h
    rfl
  · obtain ⟨l, ns, rfl, hS, hlen, k⟩ := h
    have nd := scLaw.nd
    have hr1 : Room 1 _ := hr.mono (by decide)
    have hr2 : Room 2 _ := hr.mono (by decide)
    have hr3 : Room 3 _ := hr.mono (by decide)
    have hr4 : Room 4 _ := hr.mono (by decide)
    refine ⟨_, pss_cons (ps_set (i := 1) nd rfl (Or.inl rfl) (pe_df DB hr1 (pa_cons (pv 0) pa_nil)))
      (pss_cons (ps_for PassesOwn.never rfl (pi_range1 rfl T.range (pa_cons (pe_op op_add pe_int (pe_callB (call_min2 rfl) (by rfl) T.min (by decide +kernel) (pa_cons (pe_callB call_len_seq (by rfl) T.len PySem.boot_len (pa_cons (pv 0) pa_nil)) (pa_cons pe_int pa_nil)))) pa_nil)) (pg_name (i := 2) nd rfl (Or.inl rfl))
        (pss_cons (ps_par (i := 3) (j := 4) (by rfl) nd rfl rfl (by decide) rfl rfl (pa_cons (pe_df DS hr3 (pa_cons (pv 1) pa_nil)) (pa_cons (pe_df DP hr3 (pa_cons (pv 1) (pa_cons (pe_lst (pa_cons pe_int (pa_cons pe_int (pa_cons pe_int (pa_cons pe_int (pa_cons pe_int (pa_cons (pe_op op_add pe_int (pe_df DT hr2 (pa_cons (pv 1) (pa_cons pe_int pa_nil)))) pa_nil))))))) pa_nil))) pa_nil)) (by rfl))
        (pss_cons (ps_set (i := 5) nd rfl (Or.inl rfl) (pe_tup (pa_cons (pv 3) (pa_cons (pv 4) (pa_cons (pe_op op_add pe_int (pe_df DT hr2 (pa_cons (pv 1) (pa_cons (pe_df DZ hr2 (pa_cons (pv 3) (pa_cons (pv 4) pa_nil))) pa_nil)))) pa_nil)))))
        (pss_cons (ps_set (i := 6) nd rfl (Or.inl rfl) (pe_op op_sub (pe_op op_add (pe_df DM hr2 (pa_cons (pv 3) (pa_cons (pv 4) pa_nil))) (pe_ix ix_tup (pv 5) pe_int (fun _ _ => rfl))) pe_int))
        (pss_cons (ps_set (i := 7) nd rfl (Or.inl rfl) (pe_op op_mod (pe_callTy call_int1 (by rfl) T.int (by decide +kernel) (pa_cons (pe_op op_add (pv 6) pe_int) pa_nil)) pe_int))
        (pss_cons (ps_set (i := 8) nd rfl (Or.inl rfl) (pe_df DF hr3 (pa_cons (pv 5) (pa_cons (pv 7) pa_nil))))
        (pss_one (ps_for PassesOwn.never rfl (pi_range1 rfl T.range (pa_cons (pe_df DP hr3 (pa_cons (pv 1) (pa_cons (pe_lst (pa_cons pe_int (pa_cons pe_int (pa_cons pe_int (pa_cons pe_int pa_nil))))) pa_nil))) pa_nil)) (pg_name (i := 9) nd rfl (Or.inl rfl))
          (pss_cons (ps_if (pt_not (pt_val (pe_dg DR gd hr (pa_cons (pv 6) (pa_cons (pv 5) (pa_cons (pv 7) (pa_cons (pv 8) pa_nil))))))) (pss_one (ps_ret pe_bl)) pss_nil)
          (pss_cons (ps_par3 (i := 6) (j := 5) (l := 7) (by rfl) nd rfl rfl rfl (by decide) (by decide) (by decide) rfl rfl rfl (pa_cons (pe_op op_add (pv 6) pe_int) (pa_cons (pe_df DN hr3 (pa_cons (pv 5) pa_nil)) (pa_cons (pe_op op_mod (pe_callTy call_int1 (by rfl) T.int (by decide +kernel) (pa_cons (pe_op op_add (pv 7) pe_int) pa_nil)) pe_int) pa_nil))) (by rfl))
          (pss_one (ps_if (pt_cmpR op_eq (pv 7) pe_int (nomark _)) (pss_one (ps_set (i := 8) nd rfl (Or.inl rfl) (pe_df DW hr4 (pa_cons (pv 8) (pa_cons (pv 5) pa_nil))))) pss_nil))))))))))))
      (pss_one (ps_ret pe_bl))), ?_⟩
    refine ⟨_, rfl, l, ns, rfl, hS, hlen, fun H1 p a b p0 a0 b0 S1 St1 => ?_⟩
    refine ⟨_, rfl, l, _, rfl, .inl (S1.seq hS), _, _, rfl, _, _, rfl, rfl, _, rfl, ?_, ?_, ?_⟩
    · rw [List.length_map]
      split <;> omega
    · rw [List.length_map]
      split <;> omega
    · refine for_range (fun i σ H' => Stt p a b (25 * i) H' ∧ ∃ v2 v3 v4 v5 v6 v7 v8 v9 : Option V, σ = [some (.ref l), some (.ref p), v2, v3, v4, v5, v6, v7, v8, v9]) ⟨St1, none, none, none, none, none, none, none, none, rfl⟩ ?_ ?_
      · rintro i σ H0 hi ⟨St2, v2, v3, v4, v5, v6, v7, v8, v9, rfl⟩
        have hi2 : i ≤ 100 := by
          rw [List.length_map] at hi
          split at hi <;> omega
        -- year, month
        refine ⟨_, rfl, p, a, b, 25 * i, rfl, St2, by omega, fun y H2 y1 y2 St3 B2 => ?_⟩
        refine ⟨_, rfl, _, rfl, p, a, b, _, 12, rfl, St3, by omega, by decide, by decide, fun z H3 z0 z1 St4 B3 => ⟨_, _, rfl, rfl, (by show 6 ≤ sizeLine; decide), fun q hq => ?_⟩⟩
        obtain ⟨u1, u2, u3, w1, w2, w3⟩ := St4.there
        refine ⟨p, a, b, q, _, _, rfl, St4.same (Same.new (o := .lst [.int 1, .int 2, .int 11, .int 12, .int 12, .int (1 + z)]) hq), by omega, upd_same, (ne_of_none w1 hq).symm, (ne_of_none w2 hq).symm, (by show 0 < 6; decide), (by show 6 ≤ 1000; decide), fun j vm H4 hj St5 B4 => ?_⟩
        obtain ⟨m, hm, rfl⟩ : ∃ m : Int, (1 ≤ m ∧ m ≤ 12) ∧ vm = V.int m := by
          have q := List.mem_of_getElem? hj
          simp only [List.mem_cons, List.not_mem_nil, or_false] at q
          rcases q with rfl | rfl | rfl | rfl | rfl | rfl
          · exact ⟨1, by omega, rfl⟩
          · exact ⟨2, by omega, rfl⟩
          · exact ⟨11, by omega, rfl⟩
          · exact ⟨12, by omega, rfl⟩
          · exact ⟨12, by omega, rfl⟩
          · exact ⟨1 + z, by omega, rfl⟩
        refine ⟨_, _, rfl, ?_⟩
        -- date
        have zb := mlen_bd hm.1 hm.2 (leapB y)
        refine ⟨_, rfl, _, rfl, _, rfl, _, rfl, _, rfl, y, m, rfl, hm.1, hm.2, fun H5 S5 => ?_⟩
        refine ⟨p, a, b, _, mlen m (leapB y), rfl, St5.same S5, by omega, by omega, by omega, fun dd H6 d0 d1 St6 B6 => ⟨_, _, rfl, rfl, (by show 3 ≤ sizeLine; decide), fun t ht => ?_⟩⟩
        have D : IsDate y m (1 + dd) := ⟨hm.1, hm.2, by omega, by omega⟩
        have St7 := St6.same (Same.new (o := .tup [.int y, .int m, .int (1 + dd)]) ht)
        -- one_day, number, week
        refine ⟨_, rfl, _, rfl, y, m, rfl, hm.1, hm.2, fun H7 S7 => ?_⟩
        have ht7 := S7 _ _ (upd_same (H := H6) (a := t) (o := .tup [.int y, .int m, .int (1 + dd)]))
        refine ⟨_, rfl, t, _, 2, V.int (1 + dd), rfl, rfl, SqT.of ht7, rfl, _, _, rfl, rfl, _, _, rfl, rfl, ?_⟩
        refine ⟨_, rfl, _, _, rfl, rfl, .inl ⟨_, rfl, _, _, rfl, rfl, (by show (0 : Int) < 7; decide), ?_⟩⟩
        refine ⟨_, rfl, _, rfl, t, y, m, 1 + dd, rfl, SqT.of ht7, D, fun wy wn H8 r W S8 hr0 hr8 => ?_⟩
        have St8 := (St7.same S7).same S8
        have ht8 := S8 _ _ ht7
        -- the steps
        refine ⟨_, rfl, (by show 4 ≤ sizeLine; decide), fun q2 hq2 => ?_⟩
        obtain ⟨x1, x2, x3, g1, g2, g3⟩ := St8.there
        refine ⟨p, a, b, q2, _, _, rfl, St8.same (Same.new (o := .lst [.int 60, .int 100, .int 400, .int 800]) hq2), by omega, upd_same, (ne_of_none g1 hq2).symm, (ne_of_none g2 hq2).symm, (by show 0 < 4; decide), (by show 4 ≤ 1000; decide), fun j2 vs2 H9 hj2 St9 B9 => ?_⟩
        obtain ⟨N, hN, rfl⟩ : ∃ N : Int, (0 ≤ N ∧ N ≤ 800) ∧ vs2 = V.int N := by
          have q := List.mem_of_getElem? hj2
          simp only [List.mem_cons, List.not_mem_nil, or_false] at q
          rcases q with rfl | rfl | rfl | rfl
          · exact ⟨60, by omega, rfl⟩
          · exact ⟨100, by omega, rfl⟩
          · exact ⟨400, by omega, rfl⟩
          · exact ⟨800, by omega, rfl⟩
        have e9 : ∀ {x : Addr} {u : List V}, H8 x = some (.tup u) → H9 x = some (.tup u) := fun {x u} hx => by
          refine B9 _ _ (Same.new hq2 _ _ hx) ?_ ?_
          · exact ne_of hx g1 (by intro z; cases z)
          · exact ne_of hx g2 (by intro z; cases z)
        refine ⟨N, rfl, by omega, by omega, for_range (n := N.toNat) (fun i2 σ H' => Stt p a b (25 * i + 25) H' ∧ ∃ (y' m' n' wy' wn' : Int) (t' r' : Addr) (v9 : Option V), H' t' = some (.tup [.int y', .int m', .int n']) ∧ H' r' = some (.tup [.int wy', .int wn']) ∧ IsDate y' m' n' ∧
            dayOf y' m' n' = dayOf y m (1 + dd) + (i2 : Int) ∧ WeekOk (dayOf y' m' n') wy' wn' ∧ σ = [some (.ref l), some (.ref p), some (.int (0 + (i : Int))), some (.int y), some (.int m), some (.ref t'), some (.int (dayOf y' m' n')), some (.int ((dayOf y' m' n' + 5) % 7)), some (.ref r'), v9])
          ⟨St9.mono (by omega), y, m, 1 + dd, wy, wn, t, r, _, e9 ht8, e9 hr8, D, by simp, W, rfl⟩ ?_ ?_⟩
        · rintro i2 σ H10 hi3 ⟨St10, y', m', n', wy', wn', t', r', v9', h1, h2, D', ed, W', rfl⟩
          have bY : -(10 ^ 29) ≤ y' ∧ y' ≤ 10 ^ 29 := by
            have a1 := D.year
            have a2 := D'.year
            have s1 := ys_step (y + 1)
            have s2 := ys_step (y + 1 + 1)
            have s3 := ys_step (y + 1 + 1 + 1)
            have q1 : y ≤ y' := ys_le_iff (by omega)
            have q2 : y' ≤ y + 1 + 1 + 1 := ys_le_iff (by omega)
            have e1 : (10 : Int) ^ 28 = 10000000000000000000000000000 := by decide
            have e2 : (10 : Int) ^ 29 = 100000000000000000000000000000 := by decide
            omega
          refine ⟨_, rfl, _, rfl, _, rfl, _, rfl, t', r', y', m', n', wy', wn', rfl, SqT.of h1, SqT.of h2, D', W', bY.1, bY.2, fun H11 S11 => ⟨true, rfl, iteF ?_⟩⟩
          refine ⟨_, rfl, _, _, rfl, rfl, _, rfl, t', y', m', n', rfl, SqT.of (S11 _ _ h1), D', fun y3 m3 n3 H12 t3 D3 e3 S12 f3 h3 => ?_⟩
          refine ⟨_, rfl, _, _, rfl, rfl, .inl ⟨_, rfl, _, _, rfl, rfl, (by show (0 : Int) < 7; decide), _, _, _, rfl, ?_⟩⟩
          have en : ((dayOf y' m' n' + 5) % 7 + 1) % 7 = (dayOf y3 m3 n3 + 5) % 7 := by rw [e3]; omega
          have ed1 : dayOf y' m' n' + 1 = dayOf y3 m3 n3 := e3.symm
          show (_ : L2.TS) _ [some (V.ref l), some (V.ref p), some (V.int (0 + (i : Int))), some (V.int y), some (V.int m), some (V.ref t3), some (V.int (dayOf y' m' n' + 1)), some (V.int (((dayOf y' m' n' + 5) % 7 + 1) % 7)), some (V.ref r'), some (V.int (0 + (i2 : Int)))] H12
          rw [en, ed1]
          have W3 : WeekOk (dayOf y3 m3 n3 - 1) wy' wn' := by rw [e3]; simpa using W'
          have St12 := (St10.same S11).same S12
          have hr12 := S12 _ _ (S11 _ _ h2)
          refine ⟨_, rfl, rfl, _, rfl, ?_⟩
          rw [dec_int]
          by_cases c : (dayOf y3 m3 n3 + 5) % 7 = 0
          · refine iteTT (by simpa using c) ?_
            refine ⟨_, rfl, _, rfl, r', t3, y3, m3, n3, wy', wn', rfl, SqT.of hr12, SqT.of h3, D3, c, W3, fun wy4 wn4 H13 r4 W4 S13 f4 h4 => ?_⟩
            exact ⟨St12.same S13, y3, m3, n3, wy4, wn4, t3, r4, _, S13 _ _ h3, h4, D3, by rw [e3, ed]; omega, W4, rfl⟩
          · refine iteFF (by simpa using c) ?_
            exact ⟨St12, y3, m3, n3, wy', wn', t3, r', _, h3, hr12, D3, by rw [e3, ed]; omega, week_stay W3 c, rfl⟩
        · rintro σ H' ⟨St11, y', m', n', wy', wn', t', r', v9', _, _, _, _, _, rfl⟩
          exact ⟨St11.mono (by omega), _, _, _, _, _, _, _, _, rfl⟩
      · rintro σ H' ⟨_, v2, v3, v4, v5, v6, v7, v8, v9, rfl⟩
        exact k H'
end
end Cf
/-! The end of a law whose def is promised where no repr is under way. -/
namespace Cf
open PySem PySem.Spec PyProof.Rows L2
section
variable {P : Program} {w : World} {K : PySem.W.Frag} {mg mb : Str → Option Value} {k : Nat} {fa a : Addr} {fd : FuncData} {x : Str} {sp : Sp} {st : Shared} {vs : List Value} {ns : List Int}
/-- the script's own object -/
def scrO (vs : List Value) : Obj := { cls := .type "list", data := .seq vs.toArray }
/-- nothing is tracked but the script, where it is none of the module's own objects -/
noncomputable def scrH (K : PySem.W.Frag) (a : Addr) (vs : List Value) (ns : List Int) : Hp := fun b =>
  open Classical in if b = a ∧ K.lookup a = none then some (.frz (scrO vs) (.lst (ns.map V.int))) else none
theorem scrH_some {b : Addr} {u : HO} (h : scrH K a vs ns b = some u) : b = a ∧ K.lookup a = none ∧ u = .frz (scrO vs) (.lst (ns.map V.int)) := by
  unfold scrH at h
  split at h
  · rename_i c
    exact ⟨c.1, c.2, (Option.some.inj h).symm⟩
  · cases h
theorem scrH_at (h : K.lookup a = none) : scrH K a vs ns a = some (.frz (scrO vs) (.lst (ns.map V.int))) := by
  unfold scrH
  exact if_pos ⟨rfl, h⟩
theorem scrH_no (h : ∀ o, K.lookup a = some o → True) {b : Addr} (hb : b ≠ a ∨ K.lookup a ≠ none) : scrH K a vs ns b = none := by
  unfold scrH
  refine if_neg fun c => ?_
  rcases hb with z | z
  · exact z c.1
  · exact z c.2
theorem law_g (KX : K.In st.heap) (hns : st.heap.Ns mainGlobals mg) (hb : st.heap.Ns builtinsNs mb) (hbb : ∀ x : Str, x ≠ "__name__" → mb x = bootBuiltins x) (lim : st.heap.NoLimit) (hg : st.gens = #[])
    (ha : st.heap.get? a = some (scrO vs)) (hi : IntsAre vs ns) (hl : ns.length ≤ sizeLine) (room : Room k callerA)
    (F : ∀ base : Heap, K.In base → base.Ns mainGlobals mg → FnG P w K mg base CX0 k fa fd [x] sp) (hbind : ∀ (s : Shared) (u : Value), BindsTo s fd ⟨[u], []⟩ [(x, u)])
    (hsp : ∀ H : Hp, SqL K H a (ns.map V.int) → sp [.ref a] H (fun v _ => v = .bl true) fun _ _ _ => False) :
    codeAny (model P w) callerA (.call (.ref fa) ⟨[.ref a], []⟩) (fun r s' => r = .ok (.ret (.bool true)) ∧ OldK st.heap s'.heap ∧ s'.os = st.os ∧ AllBare s'.gens) st := by
  have vals := vals_ints hi
  have len := hi.length
  have inH : SqL K (scrH K a vs ns) a (ns.map V.int) := by
    cases q : K.lookup a with
    | none => exact Or.inl (Or.inr ⟨_, scrH_at q⟩)
    | some o =>
      have e := KX a o q
      rw [ha] at e
      cases e
      refine Or.inr ⟨_, vs.toArray, _, q, rfl, rfl, rfl, ?_, ?_⟩
      · rw [List.size_toArray]; omega
      · simpa using vals
  have held : HOk P w (scrH K a vs ns) st.heap := by
    intro b u e
    obtain ⟨rfl, _, rfl⟩ := scrH_some e
    refine ⟨ha, ?_, vs, _, vals, ha⟩
    rw [List.length_map]
    exact hl
  -- what is not the script stands in the base
  have put : ∀ {b : Addr} {o : Obj}, st.heap.get? b = some o → scrH K a vs ns b = none → (hidT st.heap (scrH K a vs ns)).get? b = some o := fun e n => hidT_get e n
  have names : ∀ {b : Addr} {m : Str → Option Value}, st.heap.Ns b m → (hidT st.heap (scrH K a vs ns)).Ns b m := by
    rintro b m ⟨o, es, ep, e, d, r⟩
    refine ⟨o, es, ep, put e ?_, d, r⟩
    cases q : scrH K a vs ns b with
    | none => rfl
    | some u =>
      obtain ⟨rfl, _, _⟩ := scrH_some q
      rw [ha] at e
      cases e
      cases (show Data.seq vs.toArray _ = Data.dict es ep from d)
  have inB : K.In (hidT st.heap (scrH K a vs ns)) := by
    intro b o e
    refine put (KX b o e) ?_
    cases q : scrH K a vs ns b with
    | none => rfl
    | some u =>
      obtain ⟨rfl, z, _⟩ := scrH_some q
      rw [z] at e
      cases e
  have md : Mod K mg (hidT st.heap (scrH K a vs ns)) := by
    obtain ⟨mc, l1, l2⟩ := lim
    exact { kin := inB, glob := names hns, blt := ⟨mb, names hb, hbb⟩, nolimit := ⟨mc, names l1, l2⟩ }
  have env : Env0 P w K mg (hidT st.heap (scrH K a vs ns)) callerA [] st (scrH K a vs ns) :=
    { frames := rfl, mod := md, bs := fun _ _ e => of_hidT e, bsz := Nat.le_of_eq (hidT_size _ _), funs := trivial, frf := fun b hb => (by cases hb), hok := held, bare := .of_eq hg }
  refine codeAny_mono ((F _ inB (names hns)).go callerA rfl [] st (scrH K a vs ns) ⟨[.ref a], []⟩ [.ref a] [.ref a] _ _ room env (hbind st (.ref a)) (.cons rfl .nil) (hsp _ inH)) ?_
  intro r s' h
  match r, h with
  | .error e, h => exact (h : False).elim
  | .ok .next, h => exact (h : False).elim
  | .ok .brk, h => exact (h : False).elim
  | .ok .cont, h => exact (h : False).elim
  | .ok (.ret u), ⟨v, H', os, bare, un, hok', rv, q⟩ =>
    subst q
    cases (show u = Value.bool true from rv)
    refine ⟨rfl, OldK.of_keep fun b o e => ?_, os, bare⟩
    cases q : scrH K a vs ns b with
    | none => exact un.keep b o e q (by intro z; cases z) (by intro z; cases z)
    | some u =>
      obtain ⟨rfl, _, rfl⟩ := scrH_some q
      have z := un.frzs b _ _ q
      obtain ⟨e2, _⟩ := hok' b _ z
      rw [ha] at e
      cases e
      exact e2
end
theorem walk_g {l : PySem.W.OpenLaw} {n k : Nat} {q : Program} {loose : List Str} {XP : (Str → Option Value) → Heap → Prop} {YP : World → Heap → Prop} {d : DefRec} {K : Params → PySem.W.Frag} {sp : PySem.W.Frag → Sp} {x : Str}
    (most : l.most = some n) (n2 : n ≤ sizeLine) (dflt : d.params.defaults = []) (room : Room k callerA) (hY : ∀ (w : World) (h : Heap), YP w h → (K w.params).In h)
    (F : ∀ (w : World) (mg : Str → Option Value) (fa : Addr) (h : Heap), (K w.params).In h → h.Ns mainGlobals mg → mg d.name = some (.ref fa) →
      ∃ fd : FuncData, (∀ (s : Shared) (u : Value), BindsTo s fd ⟨[u], []⟩ [(x, u)]) ∧ ∀ base : Heap, (K w.params).In base → base.Ns mainGlobals mg → FnG l.prog w (K w.params) mg base CX0 k fa fd [x] (sp (K w.params)))
    (hsp : ∀ (K : PySem.W.Frag) (H : Hp) (a : Addr) (ns : List Int), ns.length ≤ n → SqL K H a (ns.map V.int) → sp K [.ref a] H (fun v _ => v = .bl true) fun _ _ _ => False) :
    PySem.W.WalkO q loose XP YP l.row.toRowW d [] (fun f vs => PySem.call f vs) := by
  apply Att.attach_call most dflt
  intro w s0 s1 mg mb fa o pm cd doc a vs ns G Y ho hd hcd hmg hobj hints hlen hg
  have inK := hY w _ Y
  obtain ⟨fd, hb, hF⟩ := F w mg fa _ inK G.T.g hmg
  exact law_g inK G.T.g G.T.b G.T.builtins G.T.nolimit hg hobj hints (Nat.le_trans hlen n2) room hF hb fun H hS => hsp _ H a ns hlen hS
end Cf
namespace Cf
open PySem L2
theorem getD_rel : ∀ {vs : List V} {us : List Value} (i : Nat), Vals vs us → RelV (vs.getD i .non) (us.getD i .none)
  | _, _, _, .nil => rfl
  | _, _, 0, .cons r _ => r
  | _, _, i + 1, .cons _ t => getD_rel i t

theorem all_mk {l : PySem.W.OpenLaw} {w : World} {K : PySem.W.Frag} {h : Heap} {mg : Str → Option Value} {fa : Addr} (X : K.In h) (G : h.Ns mainGlobals mg) (hfa : mg "law" = some (.ref fa))
    {f0 : Addr} {od0 an0 : Option Addr} {sl0 : Array (Option Value)} {oc0 kV0 dc0 pm0 cd0 ct0 : Value}
    {f1 : Addr} {od1 an1 : Option Addr} {sl1 : Array (Option Value)} {oc1 kV1 dc1 pm1 cd1 ct1 : Value}
    {T1 : Addr} {oT1 : Value} {dT1 : Option Addr} {nT1 : Nat} {sT1 : Array (Option Value)}
    {f2 : Addr} {od2 an2 : Option Addr} {sl2 : Array (Option Value)} {oc2 kV2 dc2 pm2 cd2 ct2 : Value}
    {f3 : Addr} {od3 an3 : Option Addr} {sl3 : Array (Option Value)} {oc3 kV3 dc3 pm3 cd3 ct3 : Value}
    {f4 : Addr} {od4 an4 : Option Addr} {sl4 : Array (Option Value)} {oc4 kV4 dc4 pm4 cd4 ct4 : Value}
    {f5 : Addr} {od5 an5 : Option Addr} {sl5 : Array (Option Value)} {oc5 kV5 dc5 pm5 cd5 ct5 : Value}
    {f6 : Addr} {od6 an6 : Option Addr} {sl6 : Array (Option Value)} {oc6 kV6 dc6 pm6 cd6 ct6 : Value}
    {f7 : Addr} {od7 an7 : Option Addr} {sl7 : Array (Option Value)} {oc7 kV7 dc7 pm7 cd7 ct7 : Value}
    {f8 : Addr} {od8 an8 : Option Addr} {sl8 : Array (Option Value)} {oc8 kV8 dc8 pm8 cd8 ct8 : Value}
    {f9 : Addr} {od9 an9 : Option Addr} {sl9 : Array (Option Value)} {oc9 kV9 dc9 pm9 cd9 ct9 : Value}
    {f10 : Addr} {od10 an10 : Option Addr} {sl10 : Array (Option Value)} {oc10 kV10 dc10 pm10 cd10 ct10 : Value}
    {f11 : Addr} {od11 an11 : Option Addr} {sl11 : Array (Option Value)} {oc11 kV11 dc11 pm11 cd11 ct11 : Value}
    {f12 : Addr} {od12 an12 : Option Addr} {sl12 : Array (Option Value)} {oc12 kV12 dc12 pm12 cd12 ct12 : Value}
    {f13 : Addr} {od13 an13 : Option Addr} {sl13 : Array (Option Value)} {oc13 kV13 dc13 pm13 cd13 ct13 : Value}
    {f14 : Addr} {od14 an14 : Option Addr} {sl14 : Array (Option Value)} {oc14 kV14 dc14 pm14 cd14 ct14 : Value}
    {f15 : Addr} {od15 an15 : Option Addr} {sl15 : Array (Option Value)} {oc15 kV15 dc15 pm15 cd15 ct15 : Value}
    {f16 : Addr} {od16 an16 : Option Addr} {sl16 : Array (Option Value)} {oc16 kV16 dc16 pm16 cd16 ct16 : Value}
    {f17 : Addr} {od17 an17 : Option Addr} {sl17 : Array (Option Value)} {oc17 kV17 dc17 pm17 cd17 ct17 : Value}
    {f18 : Addr} {od18 an18 : Option Addr} {sl18 : Array (Option Value)} {oc18 kV18 dc18 pm18 cd18 ct18 : Value}
    {f19 : Addr} {od19 an19 : Option Addr} {sl19 : Array (Option Value)} {oc19 kV19 dc19 pm19 cd19 ct19 : Value}
    {f20 : Addr} {od20 an20 : Option Addr} {sl20 : Array (Option Value)} {oc20 kV20 dc20 pm20 cd20 ct20 : Value}
    {f21 : Addr} {od21 an21 : Option Addr} {sl21 : Array (Option Value)} {oc21 kV21 dc21 pm21 cd21 ct21 : Value}
    {f22 : Addr} {od22 an22 : Option Addr} {sl22 : Array (Option Value)} {oc22 kV22 dc22 pm22 cd22 ct22 : Value}
    {f23 : Addr} {od23 an23 : Option Addr} {sl23 : Array (Option Value)} {oc23 kV23 dc23 pm23 cd23 ct23 : Value}
    {f24 : Addr} {od24 an24 : Option Addr} {sl24 : Array (Option Value)} {oc24 kV24 dc24 pm24 cd24 ct24 : Value}
    {f25 : Addr} {od25 an25 : Option Addr} {sl25 : Array (Option Value)} {oc25 kV25 dc25 pm25 cd25 ct25 : Value}
    {u0 : Tok}
    {u1 : Tok}
    {tp : Addr} {ddM : Option Addr} {nM : Nat} {slM : Array (Option Value)} {w0 w1 w2 w3 w4 w5 w6 w7 w8 w9 w10 w11 : Tok}
    (a0 : PySem.W.nsIn K mainGlobals "is_number" = some (some (.ref f0)))
    (l0 : K.lookup f0 = some ⟨oc0, od0, .func (PySem.W.fnOf "is_number" "is_number" (defArgs sIsNumber) (defBody sIsNumber) (defScope sIsNumber) .none kV0 dc0 pm0 an0 cd0 ct0), sl0⟩)
    (c0 : PySem.W.codeIn K cd0 "is_number" = true)
    (k0 : PySem.W.keepIn K (.ref f0) = true)
    (a1 : PySem.W.nsIn K mainGlobals "check_number" = some (some (.ref f1)))
    (l1 : K.lookup f1 = some ⟨oc1, od1, .func (PySem.W.fnOf "check_number" "check_number" (defArgs sCheckNumber) (defBody sCheckNumber) (defScope sCheckNumber) (.ref T1) kV1 dc1 pm1 an1 cd1 ct1), sl1⟩)
    (c1 : PySem.W.codeIn K cd1 "check_number" = true)
    (k1 : PySem.W.keepIn K (.ref f1) = true)
    (lT1 : K.lookup T1 = some ⟨oT1, dT1, .seq #[.none] nT1, sT1⟩)
    (a2 : PySem.W.nsIn K mainGlobals "is_leap" = some (some (.ref f2)))
    (l2 : K.lookup f2 = some ⟨oc2, od2, .func (PySem.W.fnOf "is_leap" "is_leap" (defArgs sIsLeap) (defBody sIsLeap) (defScope sIsLeap) .none kV2 dc2 pm2 an2 cd2 ct2), sl2⟩)
    (c2 : PySem.W.codeIn K cd2 "is_leap" = true)
    (k2 : PySem.W.keepIn K (.ref f2) = true)
    (a3 : PySem.W.nsIn K mainGlobals "leap_years_before" = some (some (.ref f3)))
    (l3 : K.lookup f3 = some ⟨oc3, od3, .func (PySem.W.fnOf "leap_years_before" "leap_years_before" (defArgs sLeapYearsBefore) (defBody sLeapYearsBefore) (defScope sLeapYearsBefore) .none kV3 dc3 pm3 an3 cd3 ct3), sl3⟩)
    (c3 : PySem.W.codeIn K cd3 "leap_years_before" = true)
    (k3 : PySem.W.keepIn K (.ref f3) = true)
    (a4 : PySem.W.nsIn K mainGlobals "year_start" = some (some (.ref f4)))
    (l4 : K.lookup f4 = some ⟨oc4, od4, .func (PySem.W.fnOf "year_start" "year_start" (defArgs sYearStart) (defBody sYearStart) (defScope sYearStart) .none kV4 dc4 pm4 an4 cd4 ct4), sl4⟩)
    (c4 : PySem.W.codeIn K cd4 "year_start" = true)
    (k4 : PySem.W.keepIn K (.ref f4) = true)
    (a5 : PySem.W.nsIn K mainGlobals "month_length" = some (some (.ref f5)))
    (l5 : K.lookup f5 = some ⟨oc5, od5, .func (PySem.W.fnOf "month_length" "month_length" (defArgs sMonthLength) (defBody sMonthLength) (defScope sMonthLength) .none kV5 dc5 pm5 an5 cd5 ct5), sl5⟩)
    (c5 : PySem.W.codeIn K cd5 "month_length" = true)
    (k5 : PySem.W.keepIn K (.ref f5) = true)
    (a6 : PySem.W.nsIn K mainGlobals "month_start" = some (some (.ref f6)))
    (l6 : K.lookup f6 = some ⟨oc6, od6, .func (PySem.W.fnOf "month_start" "month_start" (defArgs sMonthStart) (defBody sMonthStart) (defScope sMonthStart) .none kV6 dc6 pm6 an6 cd6 ct6), sl6⟩)
    (c6 : PySem.W.codeIn K cd6 "month_start" = true)
    (k6 : PySem.W.keepIn K (.ref f6) = true)
    (a7 : PySem.W.nsIn K mainGlobals "day_of" = some (some (.ref f7)))
    (l7 : K.lookup f7 = some ⟨oc7, od7, .func (PySem.W.fnOf "day_of" "day_of" (defArgs sDayOf) (defBody sDayOf) (defScope sDayOf) .none kV7 dc7 pm7 an7 cd7 ct7), sl7⟩)
    (c7 : PySem.W.codeIn K cd7 "day_of" = true)
    (k7 : PySem.W.keepIn K (.ref f7) = true)
    (a8 : PySem.W.nsIn K mainGlobals "year_of" = some (some (.ref f8)))
    (l8 : K.lookup f8 = some ⟨oc8, od8, .func (PySem.W.fnOf "year_of" "year_of" (defArgs sYearOf) (defBody sYearOf) (defScope sYearOf) .none kV8 dc8 pm8 an8 cd8 ct8), sl8⟩)
    (c8 : PySem.W.codeIn K cd8 "year_of" = true)
    (k8 : PySem.W.keepIn K (.ref f8) = true)
    (a9 : PySem.W.nsIn K mainGlobals "date_of" = some (some (.ref f9)))
    (l9 : K.lookup f9 = some ⟨oc9, od9, .func (PySem.W.fnOf "date_of" "date_of" (defArgs sDateOf) (defBody sDateOf) (defScope sDateOf) .none kV9 dc9 pm9 an9 cd9 ct9), sl9⟩)
    (c9 : PySem.W.codeIn K cd9 "date_of" = true)
    (k9 : PySem.W.keepIn K (.ref f9) = true)
    (a10 : PySem.W.nsIn K mainGlobals "weekday" = some (some (.ref f10)))
    (l10 : K.lookup f10 = some ⟨oc10, od10, .func (PySem.W.fnOf "weekday" "weekday" (defArgs sWeekday) (defBody sWeekday) (defScope sWeekday) .none kV10 dc10 pm10 an10 cd10 ct10), sl10⟩)
    (c10 : PySem.W.codeIn K cd10 "weekday" = true)
    (k10 : PySem.W.keepIn K (.ref f10) = true)
    (a11 : PySem.W.nsIn K mainGlobals "week_of" = some (some (.ref f11)))
    (l11 : K.lookup f11 = some ⟨oc11, od11, .func (PySem.W.fnOf "week_of" "week_of" (defArgs sWeekOf) (defBody sWeekOf) (defScope sWeekOf) .none kV11 dc11 pm11 an11 cd11 ct11), sl11⟩)
    (c11 : PySem.W.codeIn K cd11 "week_of" = true)
    (k11 : PySem.W.keepIn K (.ref f11) = true)
    (a12 : PySem.W.nsIn K mainGlobals "_law_begun" = some (some (.ref f12)))
    (l12 : K.lookup f12 = some ⟨oc12, od12, .func (PySem.W.fnOf "_law_begun" "_law_begun" (defArgs sLawBegun) (defBody sLawBegun) (defScope sLawBegun) .none kV12 dc12 pm12 an12 cd12 ct12), sl12⟩)
    (c12 : PySem.W.codeIn K cd12 "_law_begun" = true)
    (k12 : PySem.W.keepIn K (.ref f12) = true)
    (a13 : PySem.W.nsIn K mainGlobals "_law_mixed" = some (some (.ref f13)))
    (l13 : K.lookup f13 = some ⟨oc13, od13, .func (PySem.W.fnOf "_law_mixed" "_law_mixed" (defArgs sLawMixed) (defBody sLawMixed) (defScope sLawMixed) .none kV13 dc13 pm13 an13 cd13 ct13), sl13⟩)
    (c13 : PySem.W.codeIn K cd13 "_law_mixed" = true)
    (k13 : PySem.W.keepIn K (.ref f13) = true)
    (a14 : PySem.W.nsIn K mainGlobals "_law_take" = some (some (.ref f14)))
    (l14 : K.lookup f14 = some ⟨oc14, od14, .func (PySem.W.fnOf "_law_take" "_law_take" (defArgs sLawTake) (defBody sLawTake) (defScope sLawTake) .none kV14 dc14 pm14 an14 cd14 ct14), sl14⟩)
    (c14 : PySem.W.codeIn K cd14 "_law_take" = true)
    (k14 : PySem.W.keepIn K (.ref f14) = true)
    (a15 : PySem.W.nsIn K mainGlobals "_law_pick" = some (some (.ref f15)))
    (l15 : K.lookup f15 = some ⟨oc15, od15, .func (PySem.W.fnOf "_law_pick" "_law_pick" (defArgs sLawPick) (defBody sLawPick) (defScope sLawPick) .none kV15 dc15 pm15 an15 cd15 ct15), sl15⟩)
    (c15 : PySem.W.codeIn K cd15 "_law_pick" = true)
    (k15 : PySem.W.keepIn K (.ref f15) = true)
    (a16 : PySem.W.nsIn K mainGlobals "_law_new_year" = some (some (.ref f16)))
    (l16 : K.lookup f16 = some ⟨oc16, od16, .func (PySem.W.fnOf "_law_new_year" "_law_new_year" (defArgs sLawNewYear) (defBody sLawNewYear) (defScope sLawNewYear) .none kV16 dc16 pm16 an16 cd16 ct16), sl16⟩)
    (c16 : PySem.W.codeIn K cd16 "_law_new_year" = true)
    (k16 : PySem.W.keepIn K (.ref f16) = true)
    (a17 : PySem.W.nsIn K mainGlobals "_law_month" = some (some (.ref f17)))
    (l17 : K.lookup f17 = some ⟨oc17, od17, .func (PySem.W.fnOf "_law_month" "_law_month" (defArgs sLawMonth) (defBody sLawMonth) (defScope sLawMonth) .none kV17 dc17 pm17 an17 cd17 ct17), sl17⟩)
    (c17 : PySem.W.codeIn K cd17 "_law_month" = true)
    (k17 : PySem.W.keepIn K (.ref f17) = true)
    (a18 : PySem.W.nsIn K mainGlobals "_law_is_long" = some (some (.ref f18)))
    (l18 : K.lookup f18 = some ⟨oc18, od18, .func (PySem.W.fnOf "_law_is_long" "_law_is_long" (defArgs sLawIsLong) (defBody sLawIsLong) (defScope sLawIsLong) .none kV18 dc18 pm18 an18 cd18 ct18), sl18⟩)
    (c18 : PySem.W.codeIn K cd18 "_law_is_long" = true)
    (k18 : PySem.W.keepIn K (.ref f18) = true)
    (a19 : PySem.W.nsIn K mainGlobals "_law_size" = some (some (.ref f19)))
    (l19 : K.lookup f19 = some ⟨oc19, od19, .func (PySem.W.fnOf "_law_size" "_law_size" (defArgs sLawSize) (defBody sLawSize) (defScope sLawSize) .none kV19 dc19 pm19 an19 cd19 ct19), sl19⟩)
    (c19 : PySem.W.codeIn K cd19 "_law_size" = true)
    (k19 : PySem.W.keepIn K (.ref f19) = true)
    (a20 : PySem.W.nsIn K mainGlobals "_law_some_year" = some (some (.ref f20)))
    (l20 : K.lookup f20 = some ⟨oc20, od20, .func (PySem.W.fnOf "_law_some_year" "_law_some_year" (defArgs sLawSomeYear) (defBody sLawSomeYear) (defScope sLawSomeYear) .none kV20 dc20 pm20 an20 cd20 ct20), sl20⟩)
    (c20 : PySem.W.codeIn K cd20 "_law_some_year" = true)
    (k20 : PySem.W.keepIn K (.ref f20) = true)
    (a21 : PySem.W.nsIn K mainGlobals "_law_next_date" = some (some (.ref f21)))
    (l21 : K.lookup f21 = some ⟨oc21, od21, .func (PySem.W.fnOf "_law_next_date" "_law_next_date" (defArgs sLawNextDate) (defBody sLawNextDate) (defScope sLawNextDate) .none kV21 dc21 pm21 an21 cd21 ct21), sl21⟩)
    (c21 : PySem.W.codeIn K cd21 "_law_next_date" = true)
    (k21 : PySem.W.keepIn K (.ref f21) = true)
    (a22 : PySem.W.nsIn K mainGlobals "_law_next_week" = some (some (.ref f22)))
    (l22 : K.lookup f22 = some ⟨oc22, od22, .func (PySem.W.fnOf "_law_next_week" "_law_next_week" (defArgs sLawNextWeek) (defBody sLawNextWeek) (defScope sLawNextWeek) .none kV22 dc22 pm22 an22 cd22 ct22), sl22⟩)
    (c22 : PySem.W.codeIn K cd22 "_law_next_week" = true)
    (k22 : PySem.W.keepIn K (.ref f22) = true)
    (a23 : PySem.W.nsIn K mainGlobals "_law_first_week" = some (some (.ref f23)))
    (l23 : K.lookup f23 = some ⟨oc23, od23, .func (PySem.W.fnOf "_law_first_week" "_law_first_week" (defArgs sLawFirstWeek) (defBody sLawFirstWeek) (defScope sLawFirstWeek) .none kV23 dc23 pm23 an23 cd23 ct23), sl23⟩)
    (c23 : PySem.W.codeIn K cd23 "_law_first_week" = true)
    (k23 : PySem.W.keepIn K (.ref f23) = true)
    (a24 : PySem.W.nsIn K mainGlobals "_law_day_right" = some (some (.ref f24)))
    (l24 : K.lookup f24 = some ⟨oc24, od24, .func (PySem.W.fnOf "_law_day_right" "_law_day_right" (defArgs sLawDayRight) (defBody sLawDayRight) (defScope sLawDayRight) .none kV24 dc24 pm24 an24 cd24 ct24), sl24⟩)
    (c24 : PySem.W.codeIn K cd24 "_law_day_right" = true)
    (k24 : PySem.W.keepIn K (.ref f24) = true)
    (a25 : PySem.W.nsIn K mainGlobals "law" = some (some (.ref f25)))
    (l25 : K.lookup f25 = some ⟨oc25, od25, .func (PySem.W.fnOf "law" "law" (defArgs sLaw) (defBody sLaw) (defScope sLaw) .none kV25 dc25 pm25 an25 cd25 ct25), sl25⟩)
    (c25 : PySem.W.codeIn K cd25 "law" = true)
    (k25 : PySem.W.keepIn K (.ref f25) = true)
    (x0 : PySem.W.nsIn K mainGlobals "CYCLE_YEARS" = some (some (.int 400 u0)))
    (x1 : PySem.W.nsIn K mainGlobals "CYCLE_DAYS" = some (some (.int 146097 u1)))
    (aM : PySem.W.nsIn K mainGlobals "MONTH_LENGTHS" = some (some (.ref tp)))
    (lM : K.lookup tp = some ⟨.type "tuple", ddM, .seq #[.int 31 w0, .int 28 w1, .int 31 w2, .int 30 w3, .int 31 w4, .int 30 w5, .int 31 w6, .int 31 w7, .int 30 w8, .int 31 w9, .int 30 w10, .int 31 w11] nM, slM⟩)
    (z_abs : PySem.W.nsIn K mainGlobals "abs" = some none)
    (z_int : PySem.W.nsIn K mainGlobals "int" = some none)
    (z_bool : PySem.W.nsIn K mainGlobals "bool" = some none)
    (z_isinstance : PySem.W.nsIn K mainGlobals "isinstance" = some none)
    (z_sum : PySem.W.nsIn K mainGlobals "sum" = some none)
    (z_divmod : PySem.W.nsIn K mainGlobals "divmod" = some none)
    (z_min : PySem.W.nsIn K mainGlobals "min" = some none)
    (z_len : PySem.W.nsIn K mainGlobals "len" = some none)
    (z_range : PySem.W.nsIn K mainGlobals "range" = some none)
    (z_repr : PySem.W.nsIn K mainGlobals "repr" = some none)
    : ∃ fd : FuncData, (∀ (s : Shared) (v : Value), BindsTo s fd ⟨[v], []⟩ [("script", v)]) ∧ ∀ base : Heap, K.In base → base.Ns mainGlobals mg → FnG l.prog w K mg base CX0 7 fa fd ["script"] (spLaw K) := by
  have e := hfa.symm.trans (PySem.W.mg_of X G a25)
  cases e
  have T : Nm mg := { abs := PySem.W.mg_none_of X G z_abs, int := PySem.W.mg_none_of X G z_int, bool := PySem.W.mg_none_of X G z_bool, isinstance := PySem.W.mg_none_of X G z_isinstance, sum := PySem.W.mg_none_of X G z_sum, divmod := PySem.W.mg_none_of X G z_divmod, min := PySem.W.mg_none_of X G z_min, len := PySem.W.mg_none_of X G z_len, range := PySem.W.mg_none_of X G z_range, repr := PySem.W.mg_none_of X G z_repr }
  have C : Cn K mg := ⟨⟨_, PySem.W.mg_of X G x0⟩, ⟨_, PySem.W.mg_of X G x1⟩⟩
  have M : Cm K mg tp := ⟨PySem.W.mg_of X G aM, fun H => .inr ⟨_, _, _, lM, rfl, rfl, (by show 12 ≤ sizeLine; decide), .cons ⟨_, rfl⟩ (.cons ⟨_, rfl⟩ (.cons ⟨_, rfl⟩ (.cons ⟨_, rfl⟩ (.cons ⟨_, rfl⟩ (.cons ⟨_, rfl⟩ (.cons ⟨_, rfl⟩ (.cons ⟨_, rfl⟩ (.cons ⟨_, rfl⟩ (.cons ⟨_, rfl⟩ (.cons ⟨_, rfl⟩ (.cons ⟨_, rfl⟩ (.nil))))))))))))⟩⟩
  refine ⟨PySem.W.fnOf "law" "law" (defArgs sLaw) (defBody sLaw) (defScope sLaw) .none kV25 dc25 pm25 an25 cd25 ct25, fun s v => .of_eq rfl, fun base _ _ => ?_⟩
  have F_is_number := fun_mk (st := sIsNumber) l0 c0 k0
  have b_is_number := F_is_number.binds (ps := ["value"]) fun _ _ _ _ _ _ us hl => match us, hl with | [_], _ => rfl
  have G_is_number : FnOk l.prog w K mg base CX0 1 f0 _ ["value"] spIsNum := ok_isnum F_is_number T
  have D_is_number : Df l.prog w K mg base 1 "is_number" ["value"] [] spIsNum := ⟨⟨_, _, [], G_is_number, PySem.W.mg_of X G a0, k0, .nil, b_is_number⟩⟩
  have F_check_number : FunD K "check_number" "check_number" (defArgs sCheckNumber) (defBody sCheckNumber) (defScope sCheckNumber) [.non] [] f1 _ := ⟨⟨_, _, _, _, _, _, _, _, _, _, rfl, l1, c1, .inr ⟨by simp, _, _, [.none], _, rfl, lT1, rfl, .cons rfl .nil⟩, .inl rfl⟩, k1⟩
  obtain ⟨ds1, v1, b1⟩ := F_check_number.binds1 (ps := ["value", "least"]) 1 0 (by simp) (by rfl) (fun T kV doc pm an cdv ct us its h1 h2 => match us, its, h1, h2 with | [_], [_], _, _ => ⟨_, rfl, rfl⟩)
  have D_check_number : Df l.prog w K mg base 2 "check_number" ["value", "least"] [.non] spCheck := ⟨⟨_, _, ds1, ok_check F_check_number D_is_number, PySem.W.mg_of X G a1, k1, v1, b1⟩⟩
  have F_is_leap := fun_mk (st := sIsLeap) l2 c2 k2
  have b_is_leap := F_is_leap.binds (ps := ["year"]) fun _ _ _ _ _ _ us hl => match us, hl with | [_], _ => rfl
  have G_is_leap : FnOk l.prog w K mg base CX0 3 f2 _ ["year"] spLeap := ok_leap F_is_leap D_check_number
  have D_is_leap : Df l.prog w K mg base 3 "is_leap" ["year"] [] spLeap := ⟨⟨_, _, [], G_is_leap, PySem.W.mg_of X G a2, k2, .nil, b_is_leap⟩⟩
  have F_leap_years_before := fun_mk (st := sLeapYearsBefore) l3 c3 k3
  have b_leap_years_before := F_leap_years_before.binds (ps := ["year"]) fun _ _ _ _ _ _ us hl => match us, hl with | [_], _ => rfl
  have G_leap_years_before : FnOk l.prog w K mg base CX0 1 f3 _ ["year"] spLyb := ok_lyb F_leap_years_before
  have D_leap_years_before : Df l.prog w K mg base 1 "leap_years_before" ["year"] [] spLyb := ⟨⟨_, _, [], G_leap_years_before, PySem.W.mg_of X G a3, k3, .nil, b_leap_years_before⟩⟩
  have F_year_start := fun_mk (st := sYearStart) l4 c4 k4
  have b_year_start := F_year_start.binds (ps := ["year"]) fun _ _ _ _ _ _ us hl => match us, hl with | [_], _ => rfl
  have G_year_start : FnOk l.prog w K mg base CX0 3 f4 _ ["year"] spYs := ok_ys F_year_start D_check_number D_leap_years_before
  have D_year_start : Df l.prog w K mg base 3 "year_start" ["year"] [] spYs := ⟨⟨_, _, [], G_year_start, PySem.W.mg_of X G a4, k4, .nil, b_year_start⟩⟩
  have F_month_length := fun_mk (st := sMonthLength) l5 c5 k5
  have b_month_length := F_month_length.binds (ps := ["month", "leap"]) fun _ _ _ _ _ _ us hl => match us, hl with | [_, _], _ => rfl
  have G_month_length : FnOk l.prog w K mg base CX0 1 f5 _ ["month", "leap"] spMlen := ok_mlen F_month_length M
  have D_month_length : Df l.prog w K mg base 1 "month_length" ["month", "leap"] [] spMlen := ⟨⟨_, _, [], G_month_length, PySem.W.mg_of X G a5, k5, .nil, b_month_length⟩⟩
  have F_month_start := fun_mk (st := sMonthStart) l6 c6 k6
  have b_month_start := F_month_start.binds (ps := ["month", "leap"]) fun _ _ _ _ _ _ us hl => match us, hl with | [_, _], _ => rfl
  have G_month_start : FnOk l.prog w K mg base CX0 1 f6 _ ["month", "leap"] spMst := ok_mst F_month_start M T
  have D_month_start : Df l.prog w K mg base 1 "month_start" ["month", "leap"] [] spMst := ⟨⟨_, _, [], G_month_start, PySem.W.mg_of X G a6, k6, .nil, b_month_start⟩⟩
  have F_day_of := fun_mk (st := sDayOf) l7 c7 k7
  have b_day_of := F_day_of.binds (ps := ["year", "month", "day"]) fun _ _ _ _ _ _ us hl => match us, hl with | [_, _, _], _ => rfl
  have G_day_of : FnOk l.prog w K mg base CX0 4 f7 _ ["year", "month", "day"] spDayOf := ok_dayof F_day_of D_check_number D_is_leap D_month_length D_year_start D_month_start
  have D_day_of : Df l.prog w K mg base 4 "day_of" ["year", "month", "day"] [] spDayOf := ⟨⟨_, _, [], G_day_of, PySem.W.mg_of X G a7, k7, .nil, b_day_of⟩⟩
  have F_year_of := fun_mk (st := sYearOf) l8 c8 k8
  have b_year_of := F_year_of.binds (ps := ["day"]) fun _ _ _ _ _ _ us hl => match us, hl with | [_], _ => rfl
  have G_year_of : FnOk l.prog w K mg base CX0 4 f8 _ ["day"] spYearOf := ok_yearof F_year_of T C D_year_start
  have D_year_of : Df l.prog w K mg base 4 "year_of" ["day"] [] spYearOf := ⟨⟨_, _, [], G_year_of, PySem.W.mg_of X G a8, k8, .nil, b_year_of⟩⟩
  have F_date_of := fun_mk (st := sDateOf) l9 c9 k9
  have b_date_of := F_date_of.binds (ps := ["day"]) fun _ _ _ _ _ _ us hl => match us, hl with | [_], _ => rfl
  have G_date_of : FnOk l.prog w K mg base CX0 5 f9 _ ["day"] spDateOf := ok_dateof F_date_of D_check_number D_is_leap D_year_of D_year_start D_month_start
  have D_date_of : Df l.prog w K mg base 5 "date_of" ["day"] [] spDateOf := ⟨⟨_, _, [], G_date_of, PySem.W.mg_of X G a9, k9, .nil, b_date_of⟩⟩
  have F_weekday := fun_mk (st := sWeekday) l10 c10 k10
  have b_weekday := F_weekday.binds (ps := ["day"]) fun _ _ _ _ _ _ us hl => match us, hl with | [_], _ => rfl
  have G_weekday : FnOk l.prog w K mg base CX0 3 f10 _ ["day"] spWeekday := ok_weekday F_weekday D_check_number
  have D_weekday : Df l.prog w K mg base 3 "weekday" ["day"] [] spWeekday := ⟨⟨_, _, [], G_weekday, PySem.W.mg_of X G a10, k10, .nil, b_weekday⟩⟩
  have F_week_of := fun_mk (st := sWeekOf) l11 c11 k11
  have b_week_of := F_week_of.binds (ps := ["day"]) fun _ _ _ _ _ _ us hl => match us, hl with | [_], _ => rfl
  have G_week_of : FnOk l.prog w K mg base CX0 5 f11 _ ["day"] spWeekOf := ok_weekof F_week_of D_check_number D_weekday D_year_of D_year_start
  have D_week_of : Df l.prog w K mg base 5 "week_of" ["day"] [] spWeekOf := ⟨⟨_, _, [], G_week_of, PySem.W.mg_of X G a11, k11, .nil, b_week_of⟩⟩
  have K_week_of : Dk l.prog w K mg base 5 "week_of" ["day"] ["day"] id1 spWeekOf := ⟨⟨_, _, (fun us => [us.getD 0 .none]), G_week_of, PySem.W.mg_of X G a11, k11, (fun r => .cons (getD_rel 0 r) .nil), fun s ws _ hl => match ws, hl with | [_], _ => .of_eq rfl⟩⟩
  have F_law_begun := fun_mk (st := sLawBegun) l12 c12 k12
  have b_law_begun := F_law_begun.binds (ps := ["script"]) fun _ _ _ _ _ _ us hl => match us, hl with | [_], _ => rfl
  have G_law_begun : FnOk l.prog w K mg base CX0 1 f12 _ ["script"] (spBegun K) := ok_begun F_law_begun T
  have D_law_begun : Df l.prog w K mg base 1 "_law_begun" ["script"] [] (spBegun K) := ⟨⟨_, _, [], G_law_begun, PySem.W.mg_of X G a12, k12, .nil, b_law_begun⟩⟩
  have F_law_mixed := fun_mk (st := sLawMixed) l13 c13 k13
  have b_law_mixed := F_law_mixed.binds (ps := ["state"]) fun _ _ _ _ _ _ us hl => match us, hl with | [_], _ => rfl
  have G_law_mixed : FnOk l.prog w K mg base CX0 1 f13 _ ["state"] spMixed := ok_mixed F_law_mixed T
  have D_law_mixed : Df l.prog w K mg base 1 "_law_mixed" ["state"] [] spMixed := ⟨⟨_, _, [], G_law_mixed, PySem.W.mg_of X G a13, k13, .nil, b_law_mixed⟩⟩
  have F_law_take := fun_mk (st := sLawTake) l14 c14 k14
  have b_law_take := F_law_take.binds (ps := ["state", "size"]) fun _ _ _ _ _ _ us hl => match us, hl with | [_, _], _ => rfl
  have G_law_take : FnOk l.prog w K mg base CX0 2 f14 _ ["state", "size"] spTake := ok_take F_law_take T D_law_mixed
  have D_law_take : Df l.prog w K mg base 2 "_law_take" ["state", "size"] [] spTake := ⟨⟨_, _, [], G_law_take, PySem.W.mg_of X G a14, k14, .nil, b_law_take⟩⟩
  have F_law_pick := fun_mk (st := sLawPick) l15 c15 k15
  have b_law_pick := F_law_pick.binds (ps := ["state", "some"]) fun _ _ _ _ _ _ us hl => match us, hl with | [_, _], _ => rfl
  have G_law_pick : FnOk l.prog w K mg base CX0 3 f15 _ ["state", "some"] spPick := ok_pick F_law_pick T D_law_take
  have D_law_pick : Df l.prog w K mg base 3 "_law_pick" ["state", "some"] [] spPick := ⟨⟨_, _, [], G_law_pick, PySem.W.mg_of X G a15, k15, .nil, b_law_pick⟩⟩
  have F_law_new_year := fun_mk (st := sLawNewYear) l16 c16 k16
  have b_law_new_year := F_law_new_year.binds (ps := ["year"]) fun _ _ _ _ _ _ us hl => match us, hl with | [_], _ => rfl
  have G_law_new_year : FnOk l.prog w K mg base CX0 1 f16 _ ["year"] spNy := ok_ny F_law_new_year
  have D_law_new_year : Df l.prog w K mg base 1 "_law_new_year" ["year"] [] spNy := ⟨⟨_, _, [], G_law_new_year, PySem.W.mg_of X G a16, k16, .nil, b_law_new_year⟩⟩
  have F_law_month := fun_mk (st := sLawMonth) l17 c17 k17
  have b_law_month := F_law_month.binds (ps := ["year", "month"]) fun _ _ _ _ _ _ us hl => match us, hl with | [_, _], _ => rfl
  have G_law_month : FnOk l.prog w K mg base CX0 2 f17 _ ["year", "month"] spMonth := ok_month F_law_month T D_law_new_year
  have D_law_month : Df l.prog w K mg base 2 "_law_month" ["year", "month"] [] spMonth := ⟨⟨_, _, [], G_law_month, PySem.W.mg_of X G a17, k17, .nil, b_law_month⟩⟩
  have F_law_is_long := fun_mk (st := sLawIsLong) l18 c18 k18
  have b_law_is_long := F_law_is_long.binds (ps := ["year"]) fun _ _ _ _ _ _ us hl => match us, hl with | [_], _ => rfl
  have G_law_is_long : FnOk l.prog w K mg base CX0 1 f18 _ ["year"] spLong := ok_long F_law_is_long T
  have D_law_is_long : Df l.prog w K mg base 1 "_law_is_long" ["year"] [] spLong := ⟨⟨_, _, [], G_law_is_long, PySem.W.mg_of X G a18, k18, .nil, b_law_is_long⟩⟩
  have F_law_size := fun_mk (st := sLawSize) l19 c19 k19
  have b_law_size := F_law_size.binds (ps := ["year", "month"]) fun _ _ _ _ _ _ us hl => match us, hl with | [_, _], _ => rfl
  have G_law_size : FnOk l.prog w K mg base CX0 2 f19 _ ["year", "month"] spSize := ok_size F_law_size D_law_is_long
  have D_law_size : Df l.prog w K mg base 2 "_law_size" ["year", "month"] [] spSize := ⟨⟨_, _, [], G_law_size, PySem.W.mg_of X G a19, k19, .nil, b_law_size⟩⟩
  have F_law_some_year := fun_mk (st := sLawSomeYear) l20 c20 k20
  have b_law_some_year := F_law_some_year.binds (ps := ["state"]) fun _ _ _ _ _ _ us hl => match us, hl with | [_], _ => rfl
  have G_law_some_year : FnOk l.prog w K mg base CX0 3 f20 _ ["state"] spSome := ok_some F_law_some_year T D_law_take
  have D_law_some_year : Df l.prog w K mg base 3 "_law_some_year" ["state"] [] spSome := ⟨⟨_, _, [], G_law_some_year, PySem.W.mg_of X G a20, k20, .nil, b_law_some_year⟩⟩
  have F_law_next_date := fun_mk (st := sLawNextDate) l21 c21 k21
  have b_law_next_date := F_law_next_date.binds (ps := ["date"]) fun _ _ _ _ _ _ us hl => match us, hl with | [_], _ => rfl
  have G_law_next_date : FnOk l.prog w K mg base CX0 3 f21 _ ["date"] (spNext (K := K)) := ok_next F_law_next_date D_law_size
  have D_law_next_date : Df l.prog w K mg base 3 "_law_next_date" ["date"] [] (spNext (K := K)) := ⟨⟨_, _, [], G_law_next_date, PySem.W.mg_of X G a21, k21, .nil, b_law_next_date⟩⟩
  have F_law_next_week := fun_mk (st := sLawNextWeek) l22 c22 k22
  have b_law_next_week := F_law_next_week.binds (ps := ["week", "date"]) fun _ _ _ _ _ _ us hl => match us, hl with | [_, _], _ => rfl
  have G_law_next_week : FnOk l.prog w K mg base CX0 4 f22 _ ["week", "date"] (spNextWeek (K := K)) := ok_nextweek F_law_next_week D_law_next_date
  have D_law_next_week : Df l.prog w K mg base 4 "_law_next_week" ["week", "date"] [] (spNextWeek (K := K)) := ⟨⟨_, _, [], G_law_next_week, PySem.W.mg_of X G a22, k22, .nil, b_law_next_week⟩⟩
  have F_law_first_week := fun_mk (st := sLawFirstWeek) l23 c23 k23
  have b_law_first_week := F_law_first_week.binds (ps := ["date", "number"]) fun _ _ _ _ _ _ us hl => match us, hl with | [_, _], _ => rfl
  have G_law_first_week : FnOk l.prog w K mg base CX0 3 f23 _ ["date", "number"] (spFirstWeek (K := K)) := ok_firstweek F_law_first_week T D_law_new_year D_law_month
  have D_law_first_week : Df l.prog w K mg base 3 "_law_first_week" ["date", "number"] [] (spFirstWeek (K := K)) := ⟨⟨_, _, [], G_law_first_week, PySem.W.mg_of X G a23, k23, .nil, b_law_first_week⟩⟩
  have F_law_day_right := fun_mk (st := sLawDayRight) l24 c24 k24
  have b_law_day_right := F_law_day_right.binds (ps := ["one_day", "date", "number", "week"]) fun _ _ _ _ _ _ us hl => match us, hl with | [_, _, _, _], _ => rfl
  have G_law_day_right : FnG l.prog w K mg base CX0 6 f24 _ ["one_day", "date", "number", "week"] (spDr (K := K)) := ok_dr F_law_day_right T D_date_of D_day_of D_weekday D_week_of D_year_start K_week_of
  have D_law_day_right : Dg l.prog w K mg base 6 "_law_day_right" ["one_day", "date", "number", "week"] [] (spDr (K := K)) := ⟨⟨_, _, [], G_law_day_right, PySem.W.mg_of X G a24, k24, .nil, b_law_day_right⟩⟩
  have F_law := fun_mk (st := sLaw) l25 c25 k25
  exact ok_law F_law T D_law_begun D_law_some_year D_law_pick D_law_take D_law_size D_law_month D_law_first_week D_law_day_right D_law_next_date D_law_next_week
end Cf
open PySem PySem.W PyProof.Rows
set_option maxRecDepth 100000 in
set_option maxHeartbeats 0 in
theorem PySem.Challenge.cw_clockfolds_k02_whole_calendar_walked_holds : PySem.Challenge.rw_clockfolds_k02_whole_calendar_walked.Holds := by
  w_on; o_law; k_head; (case hw => w_witness2)
  k_fill
  refine Cf.walk_g (l := PySem.Challenge.rw_clockfolds_k02_whole_calendar_walked) (n := 63) (k := 7) (sp := Cf.spLaw) (x := "script") rfl (by decide) rfl ⟨rfl, by decide, by decide⟩ (fun w h Y => PySem.W.kIn_of Y) ?F (fun K H a ns hl hS => ⟨a, ns, rfl, hS, hl, fun _ => rfl⟩)
  case F =>
    intro w mg fa h KX G hmg
    refine' Cf.all_mk KX G hmg ?a0 ?l0 ?c0 ?k0 ?a1 ?l1 ?c1 ?k1 ?lT1 ?a2 ?l2 ?c2 ?k2 ?a3 ?l3 ?c3 ?k3 ?a4 ?l4 ?c4 ?k4 ?a5 ?l5 ?c5 ?k5 ?a6 ?l6 ?c6 ?k6 ?a7 ?l7 ?c7 ?k7 ?a8 ?l8 ?c8 ?k8 ?a9 ?l9 ?c9 ?k9 ?a10 ?l10 ?c10 ?k10 ?a11 ?l11 ?c11 ?k11 ?a12 ?l12 ?c12 ?k12 ?a13 ?l13 ?c13 ?k13 ?a14 ?l14 ?c14 ?k14 ?a15 ?l15 ?c15 ?k15 ?a16 ?l16 ?c16 ?k16 ?a17 ?l17 ?c17 ?k17 ?a18 ?l18 ?c18 ?k18 ?a19 ?l19 ?c19 ?k19 ?a20 ?l20 ?c20 ?k20 ?a21 ?l21 ?c21 ?k21 ?a22 ?l22 ?c22 ?k22 ?a23 ?l23 ?c23 ?k23 ?a24 ?l24 ?c24 ?k24 ?a25 ?l25 ?c25 ?k25 ?x0 ?x1 ?aM ?lM ?z_abs ?z_int ?z_bool ?z_isinstance ?z_sum ?z_divmod ?z_min ?z_len ?z_range ?z_repr
    (case a0 => k_is)
    (case l0 => k_is)
    (case c0 => k_is)
    (case k0 => k_is)
    (case a1 => k_is)
    (case l1 => k_is)
    (case c1 => k_is)
    (case k1 => k_is)
    (case lT1 => k_is)
    (case a2 => k_is)
    (case l2 => k_is)
    (case c2 => k_is)
    (case k2 => k_is)
    (case a3 => k_is)
    (case l3 => k_is)
    (case c3 => k_is)
    (case k3 => k_is)
    (case a4 => k_is)
    (case l4 => k_is)
    (case c4 => k_is)
    (case k4 => k_is)
    (case a5 => k_is)
    (case l5 => k_is)
    (case c5 => k_is)
    (case k5 => k_is)
    (case a6 => k_is)
    (case l6 => k_is)
    (case c6 => k_is)
    (case k6 => k_is)
    (case a7 => k_is)
    (case l7 => k_is)
    (case c7 => k_is)
    (case k7 => k_is)
    (case a8 => k_is)
    (case l8 => k_is)
    (case c8 => k_is)
    (case k8 => k_is)
    (case a9 => k_is)
    (case l9 => k_is)
    (case c9 => k_is)
    (case k9 => k_is)
    (case a10 => k_is)
    (case l10 => k_is)
    (case c10 => k_is)
    (case k10 => k_is)
    (case a11 => k_is)
    (case l11 => k_is)
    (case c11 => k_is)
    (case k11 => k_is)
    (case a12 => k_is)
    (case l12 => k_is)
    (case c12 => k_is)
    (case k12 => k_is)
    (case a13 => k_is)
    (case l13 => k_is)
    (case c13 => k_is)
    (case k13 => k_is)
    (case a14 => k_is)
    (case l14 => k_is)
    (case c14 => k_is)
    (case k14 => k_is)
    (case a15 => k_is)
    (case l15 => k_is)
    (case c15 => k_is)
    (case k15 => k_is)
    (case a16 => k_is)
    (case l16 => k_is)
    (case c16 => k_is)
    (case k16 => k_is)
    (case a17 => k_is)
    (case l17 => k_is)
    (case c17 => k_is)
    (case k17 => k_is)
    (case a18 => k_is)
    (case l18 => k_is)
    (case c18 => k_is)
    (case k18 => k_is)
    (case a19 => k_is)
    (case l19 => k_is)
    (case c19 => k_is)
    (case k19 => k_is)
    (case a20 => k_is)
    (case l20 => k_is)
    (case c20 => k_is)
    (case k20 => k_is)
    (case a21 => k_is)
    (case l21 => k_is)
    (case c21 => k_is)
    (case k21 => k_is)
    (case a22 => k_is)
    (case l22 => k_is)
    (case c22 => k_is)
    (case k22 => k_is)
    (case a23 => k_is)
    (case l23 => k_is)
    (case c23 => k_is)
    (case k23 => k_is)
    (case a24 => k_is)
    (case l24 => k_is)
    (case c24 => k_is)
    (case k24 => k_is)
    (case a25 => k_is)
    (case l25 => k_is)
    (case c25 => k_is)
    (case k25 => k_is)
    (case x0 => k_is)
    (case x1 => k_is)
    (case aM => k_is)
    (case lM => k_is)
    (case z_abs => k_is)
    (case z_int => k_is)
    (case z_bool => k_is)
    (case z_isinstance => k_is)
    (case z_sum => k_is)
    (case z_divmod => k_is)
    (case z_min => k_is)
    (case z_len => k_is)
    (case z_range => k_is)
    (case z_repr => k_is)
