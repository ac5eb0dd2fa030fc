import PyProof.Rows.All
import Wide.All
import OpenK.AllK
import Wide.FinOn
import PyProof.ReprRoads
import KE.KTupSum
import HandS.ForMost
import HandS.IsInst
import HandS.Defaults
import HandS.TupAny
import HandS.Gcd
import HandS.Property
import HandS.Small
import HandS.Flow
import HandS.SortInts
import HandS.Set
import HandS.Strs
import HandS.ClsMeth
import KE.KMathG
import HandS.Star
import PyProof.LongRange
import HandS.Codes
import HandS.OwnIter
import PyProof.Rows.Range3
import HandS.Style
import KE.KRevSl
import HandS.SetFor
import PyProof.EqKinds
import HandS.More
import PyProof.InstNe
import HandS.Wide
import HandS.Conv
import HandS.Walk
import PySem.Challenge.RW_clockfolds_k18_whole_one_form_of_many_ma
set_option Elab.async false
set_option linter.all false
set_option maxRecDepth 100000
/-! Own layer over HandS: promises that hold where no repr is under way (guards = some []), repr of data, sum of a tuple. -/
namespace Cf
open PySem PySem.Spec PyProof.Rows L2

/-- as FnOk, but asked only where no repr is under way -/
structure FnG (P : Program) (w : World) (K : PySem.W.Frag) (mg : Str → Option Value) (base : Heap) (CX : CXT) (k : Nat) (f : Addr) (fd : FuncData) (ps : List Str) (sp : Sp) : Prop where
  many : ∀ vs H Q E, sp vs H Q E → vs.length = ps.length
  go : ∀ (A : Around), A.guards = some [] → ∀ (outer : List Env) (s : Shared) (H : Hp) (args : Args) (us : List Value) (vs : List V) (Q : VK) (E : XK),
    Room k A → Env0 P w K mg base A outer s H → BindsTo s fd args (ps.zip us) → Vals vs us → sp vs H Q E →
      codeAny (model P w) A (.call (.ref f) args) (CR CX outer P w H s Q E) s

section
variable {P : Program} {w : World} {K : PySem.W.Frag} {mg : Str → Option Value} {base : Heap} {CX : CXT}

theorem FnG.of {k : Nat} {f : Addr} {fd : FuncData} {ps : List Str} {sp : Sp} (F : FnOk P w K mg base CX k f fd ps sp) : FnG P w K mg base CX k f fd ps sp :=
  { many := F.len, go := fun A _ => F.run A }

/-- a def keeps its promise, its body walked where no repr is under way -/
theorem fn_g {k : Nat} {f : Addr} {name qual : Str} {params : Arguments} {body : List Stmt} {scope : Scope} {dV kV doc pm cdv ct oc : Value} {an od : Option Addr} {osl : Array (Option Value)} {N ps : List Str} {sp : Sp}
    (there : K.lookup f = some ⟨oc, od, .func (PySem.W.fnOf name qual params body scope dV kV doc pm an cdv ct), osl⟩)
    (code : PySem.W.codeIn K cdv qual = true) (sc : FnScope N ps scope) (many : ∀ vs H Q E, sp vs H Q E → vs.length = ps.length)
    (walk : ∀ (A : Around), A.guards = some [] → ∀ (outer : List Env) (s : Shared) (H : Hp) (vs : List V) (Q : VK) (E : XK),
      Room k (A.deeper (envOfC qual scope s.heap.objs.size f cdv)) → sp vs H Q E →
        ∃ t, PSs (cxOf CX P w K mg base N qual scope f cdv A outer s H E) body t ∧ t { nx := fun _ H' => Q .non H', rt := Q } (start N vs) H) :
    FnG P w K mg base CX (k + 1) f (PySem.W.fnOf name qual params body scope dV kV doc pm an cdv ct) ps sp := by
  constructor
  · exact many
  intro A gd outer s H args us vs Q E room env bind vals asked
  have n := many vs H Q E asked
  have inK : K.In s.heap := env.mod.kin.keeps fun b o h => (env.bs b o h).1
  have noLim : s.heap.NoLimit := env.mod.nolimit.keeps fun b o h => (env.bs b o h).1
  have kinds : ∀ y ∈ ps.zip us, scope.names.lookup y.1 = some .local ∨
      (scope.names.lookup y.1 = some .cell ∧ ((cellsFrom (s.heap.objs.size + 1) scope.names []).lookup y.1).isSome = true) := by
    rintro ⟨z, v⟩ hz
    have hz1 := (List.of_mem_zip hz).1
    cases sc.par z hz1 with
    | inl l => exact Or.inl l
    | inr c => exact Or.inr ⟨c, PySem.W.cellsFrom_some _ _ _ (Or.inl c)⟩
  apply codeAny_call_function room.depth (inK _ _ there) rfl sc.co sc.gen rfl (PySem.W.codeRec_of inK code)
  apply bind
  apply wpAny_newFunctionEnv_cells sc.kind kinds
  intro env' he s1 x
  cases he
  refine And.intro (noLim.keeps x.toInCall.keep) (codeAny_func ?_)
  rcases walk A gd outer s H vs Q E (room.deeper _) asked with ⟨t, ht, hq⟩
  have I0 := inv_start (CX := CX) (E := E) (f := f) (qual := qual) (cd := cdv) sc room.hd env n vals x
  apply wpAny_mono (ht.run [] s1 (start N vs) H _ I0 hq)
  · intro fl s' hs
    cases fl with
    | ret u =>
      rcases hs with ⟨v, _, H', J, rv, q⟩
      exact ⟨v, H', J.os, J.bare, J.base, J.hok, rv, q⟩
    | next =>
      rcases hs with ⟨_, H', J, q⟩
      exact ⟨V.non, H', J.os, J.bare, J.base, J.hok, rfl, q⟩
    | brk =>
      rcases hs with ⟨_, _, _, q⟩
      exact q.elim
    | cont =>
      rcases hs with ⟨_, _, _, q⟩
      exact q.elim
  · intro e s' hs
    exact hs

/-- .. of the text's def, none let out -/
theorem funG {x qual : Str} {st : Stmt} {f : Addr} {fd : FuncData} {N ps : List Str} {k : Nat} {sp : Sp} (F : Fun K x qual st f fd) (sc : FnScope N ps (defScope st))
    (many : ∀ vs H Q E, sp vs H Q E → vs.length = ps.length)
    (walk : ∀ (cdv : Value) (A : Around), A.guards = some [] → ∀ (outer : List Env) (s : Shared) (H : Hp) (vs : List V) (Q : VK) (E : XK),
      Room k (A.deeper (envOfC qual (defScope st) s.heap.objs.size f cdv)) → sp vs H Q E →
        ∃ t, PSs (cxOf CX0 P w K mg base N qual (defScope st) f cdv A outer s H E).nox (defBody st) t ∧ t { nx := fun _ H' => Q .non H', rt := Q } (start N vs) H) :
    FnG P w K mg base CX0 (k + 1) f fd ps sp := by
  rcases F.ex with ⟨_, _, _, _, _, _, cdv, _, _, rfl, there, code⟩
  exact fn_g there code sc many fun A gd outer s H vs Q E room asked =>
    let ⟨t, h, q⟩ := walk cdv A gd outer s H vs Q E room asked
    ⟨t, h.nox, q⟩
end

section
variable {X : Cx} {CX : CXT} {k : Nat} {f : Addr} {fd : FuncData} {ps : List Str} {sp : Sp} {dvs : List V} {ds : List Value} {E : XK} {x : Str} {p pos : Pos} {e : Expr} {es : List Expr} {t : TA}
theorem goG {pins : List (Addr × Obj)} {σ : L2.St} {H : Hp} {s : Shared} {Q : VK} {us : List Value} {vs : List V} (F : FnG X.prog X.w X.K X.mg X.base CX k f fd ps sp) (gd : X.A.guards = some []) (room : Room k X.A)
    (hb : Binds X.K fd ps ds) (hd : Vals dvs ds) (out : Passes CX X E) (I : Inv X pins σ H s) (r : Vals vs us) (asked : sp (vs ++ dvs) H Q E) :
    wpAny (model X.prog X.w) X.A (call (.ref f) us) (EP X pins σ Q) X.xe s := by
  have rr : Vals (vs ++ dvs) (us ++ ds) := r.append hd
  have ll : (us ++ ds).length = ps.length := rr.length.symm.trans (F.many _ _ _ _ asked)
  apply wpAny_call
  refine codeAny_mono (F.go X.A gd X.stack s H ⟨us, []⟩ (us ++ ds) (vs ++ dvs) Q E room I.env0 (hb s us I.kIn ll) rr asked) ?_
  intro res s' got
  match res, got with
  | .error e, got => exact out pins σ H s e s' I got
  | .ok (.ret u), got => exact I.after got
  | .ok .next, got => exact got.elim
  | .ok .brk, got => exact got.elim
  | .ok .cont, got => exact got.elim
/-- f(e, ..), f a def of the program that may show containers -/
theorem pe_callG (F : FnG X.prog X.w X.K X.mg X.base CX k f fd ps sp) (gd : X.A.guards = some []) (room : Room k X.A) (hg : Gl X x) (hm : X.mg x = some (.ref f)) (hk : PySem.W.keepIn X.K (.ref f) = true)
    (hb : Binds X.K fd ps ds) (hd : Vals dvs ds) (out : Passes CX X E) (args : PA X (e :: es) t) (hdb : (x == ("__debug__" : Str)) = false := by decide)
    (he : starEach (e :: es) X.env = (false, eval e X.env) :: starEach es X.env := by rfl) (hpl : (backTo pos (starEach es X.env)).any (·.1) = false := by rfl) :
    PE X (.Call (.Name x p) (e :: es) [] pos) (tCall sp dvs E t) := by
  constructor
  intro pins s σ H Q I h
  apply wpAny_Call_Name_kw (ld_glob I hg hm ?_ hdb)
  apply PySem.W.callWith_K (h₀ := X.base) I.ok.mod.kin hk _ he hpl
  apply thn (args.run pos pins s σ H _ I h)
  rintro us s1 ⟨vs, H1, I1, r, q⟩
  exact ⟨I1.kIn, goG F gd room hb hd out I1 r q⟩
end

/-! ### repr -/
/-- data as they lie in the heap: as Dp of the hand layer, and dicts of ints -/
theorem call_reprD {X : Cx} (gd : X.A.guards = some []) (hu : X.A.units + 64 < cLine) : CallR X (.builtin "repr") (fun xs H Q => ∃ (a : Addr) (d : PyData), xs = [.ref a] ∧ Dp X.K H (.ref a) d ∧ d.showable = true ∧ d.hasDict = false ∧ d.depth ≤ 60 ∧ d.shown.length ≤ sizeLine ∧ Q (.str d.shown) H) := by
  intro pins s σ H xs us Q I r h
  obtain ⟨a, d, rfl, hd, sh, nd, dd, sz, q⟩ := h
  obtain ⟨u, rfl, ru⟩ : ∃ u, us = [u] ∧ RelV (.ref a) u := by
    cases r with
    | cons r1 r2 => cases r2; exact ⟨_, rfl, r1⟩
  cases ru
  obtain ⟨as, rd⟩ := Dp.reads I d _ _ hd rfl
  refine repr_of_reads' rd sh (fun z => by rw [nd] at z; cases z) gd (by omega) (fun _ _ e => e) (fun h' u tk k => ?_) sz
  exact ⟨.str _, H, I.kept k, ⟨_, rfl⟩, q⟩
theorem call_repr_bl {X : Cx} : CallR X (.builtin "repr") (fun xs H Q => ∃ b, xs = [.bl b] ∧ Q (.str (if b then "True" else "False")) H) := by
  intro pins s σ H xs us Q I r h
  obtain ⟨b, rfl, q⟩ := h
  obtain ⟨u, rfl, ru⟩ : ∃ u, us = [u] ∧ RelV (.bl b) u := by
    cases r with
    | cons r1 r2 => cases r2; exact ⟨_, rfl, r1⟩
  cases ru
  exact PySem.P.repr_of_bool ⟨.str _, H, I.tok _, ⟨_, rfl⟩, q⟩
theorem call_repr_i {X : Cx} : CallR X (.builtin "repr") (fun xs H Q => ∃ i, xs = [.int i] ∧ i.natAbs.log2 < 1920 ∧ Q (.str (toString i)) H) := by
  intro pins s σ H xs us Q I r h
  obtain ⟨i, rfl, hz, q⟩ := h
  obtain ⟨u, rfl, t, rfl⟩ := vals1 r
  exact PySem.P.repr_of_int hz ⟨.str _, H, I.tok _, ⟨_, rfl⟩, q⟩
/-! ### sum of a tuple of ints -/
def rSumT (K : PySem.W.Frag) : List V → Hp → VK → Prop := fun vs H Q => ∃ (a : Addr) (ns : List Int), vs = [V.ref a] ∧ SqT K H a (ns.map V.int) ∧ Q (.int ns.sum) H
theorem cr_sumT {X : Cx} (hc : X.calm = true) : CallR X (.builtin "sum") (rSumT X.K) := by
  intro pins s σ H vs us Q I r h
  obtain ⟨a, ns, rfl, hs, q⟩ := h
  obtain ⟨its, rv, hl, _⟩ := I.tuple hs
  rw [Vals.ref1 r]
  have hi := rv.ints
  obtain ⟨xs, e⟩ := hi.allInts.items
  have hn : numsOf (intItems xs).toList = ns := by rw [← e]; exact hi.numsOf
  rw [nums_intItems] at hn
  have hl' : s.heap.IsTuple a its.toArray := hl
  rw [e] at hl'
  refine PySem.W.ktm_sumG (I.ok.hd hc) hl' fun h' tk t' hk => ?_
  have e2 : PySem.preSum (numAt xs) xs.size = ns.sum := by
    rw [preSum_eq, List.take_of_length_le (by simp), hn]
  rw [e2]
  exact ⟨.int _, H, I.kept hk, ⟨_, rfl⟩, q⟩
/-! ### a def of the program as its callers see it -/
structure Df (P : Program) (w : World) (K : PySem.W.Frag) (mg : Str → Option Value) (base : Heap) (k : Nat) (x : Str) (ps : List Str) (dvs : List V) (sp : Sp) : Prop where
  ex : ∃ (f : Addr) (fd : FuncData) (ds : List Value), FnOk P w K mg base CX0 k f fd ps sp ∧ mg x = some (.ref f) ∧ PySem.W.keepIn K (.ref f) = true ∧ Vals dvs ds ∧ Binds K fd ps ds
structure Dg (P : Program) (w : World) (K : PySem.W.Frag) (mg : Str → Option Value) (base : Heap) (k : Nat) (x : Str) (ps : List Str) (dvs : List V) (sp : Sp) : Prop where
  ex : ∃ (f : Addr) (fd : FuncData) (ds : List Value), FnG P w K mg base CX0 k f fd ps sp ∧ mg x = some (.ref f) ∧ PySem.W.keepIn K (.ref f) = true ∧ Vals dvs ds ∧ Binds K fd ps ds
/-- called by names alone, ks in the text's order -/
structure Dk (P : Program) (w : World) (K : PySem.W.Frag) (mg : Str → Option Value) (base : Heap) (k : Nat) (x : Str) (ps ks : List Str) (gV : List V → List V) (sp : Sp) : Prop where
  ex : ∃ (f : Addr) (fd : FuncData) (g : List Value → List Value), FnOk P w K mg base CX0 k f fd ps sp ∧ mg x = some (.ref f) ∧ PySem.W.keepIn K (.ref f) = true ∧
    (∀ {vs : List V} {us : List Value}, Vals vs us → Vals (gV vs) (g us)) ∧
    ∀ (s : Shared) (ws : List Value), K.In s.heap → ws.length = ks.length → BindsTo s fd ⟨[], ks.zip ws⟩ (ps.zip (g ws))
def tCallN0 (n : Nat) (sp : Sp) (gV : List V → List V) (tk : TA) : TE := fun σ H Q => tk σ H fun zs H2 => zs.length = n ∧ sp (gV zs) H2 Q E0
section
variable {X : Cx} {k : Nat} {x : Str} {ps ks : List Str} {sp : Sp} {dvs : List V} {p pos : Pos} {e : Expr} {es : List Expr} {t tk : TA} {kws : List Keyword} {gV : List V → List V}
theorem pe_df (D : Df X.prog X.w X.K X.mg X.base k x ps dvs sp) (hr : Room k X.A) (ha : PA X (e :: es) t) (hg : Gl X x := by rfl) (hdb : (x == ("__debug__" : Str)) = false := by decide)
    (he : starEach (e :: es) X.env = (false, eval e X.env) :: starEach es X.env := by rfl) (hpl : (backTo pos (starEach es X.env)).any (·.1) = false := by rfl) :
    PE X (.Call (.Name x p) (e :: es) [] pos) (tCall sp dvs E0 t) := by
  obtain ⟨f, fd, ds, F, m, kp, hv, b⟩ := D.ex
  exact pe_call F hr hg m kp b hv pass0 ha hdb he hpl
theorem pe_dg (D : Dg X.prog X.w X.K X.mg X.base k x ps dvs sp) (gd : X.A.guards = some []) (hr : Room k X.A) (ha : PA X (e :: es) t) (hg : Gl X x := by rfl) (hdb : (x == ("__debug__" : Str)) = false := by decide)
    (he : starEach (e :: es) X.env = (false, eval e X.env) :: starEach es X.env := by rfl) (hpl : (backTo pos (starEach es X.env)).any (·.1) = false := by rfl) :
    PE X (.Call (.Name x p) (e :: es) [] pos) (tCall sp dvs E0 t) := by
  obtain ⟨f, fd, ds, F, m, kp, hv, b⟩ := D.ex
  exact pe_callG F gd hr hg m kp b hv pass0 ha hdb he hpl
theorem pe_dk (D : Dk X.prog X.w X.K X.mg X.base k x ps ks gV sp) (hr : Room k X.A) (hkw : PK X kws tk) (hg : Gl X x := by rfl)
    (hall : (backToKw pos (keywordEach kws X.env)).all (·.1.isSome) = true := by rfl) (hks : (backToKw pos (keywordEach kws X.env)).filterMap (·.1) = ks := by rfl) (hdb : (x == ("__debug__" : Str)) = false := by decide)
    (hpl : ((backTo pos (starEach [] X.env)).any (·.1) || (backToKw pos (keywordEach kws X.env)).any (·.1.isNone)) = false := by rfl) :
    PE X (.Call (.Name x p) [] kws pos) (tCallN0 ks.length sp gV tk) := by
  obtain ⟨f, fd, g, F, m, kp, rel, b⟩ := D.ex
  constructor
  intro pins s σ H Q I h
  apply wpAny_Call_Name_kw (ld_glob I hg m ?_ hdb)
  apply PySem.W.callWith_KW0 (h₀ := X.base) I.ok.mod.kin kp hall ?_ hpl
  apply thn (hkw.run pos pins s σ H _ I h)
  rintro ws s2 ⟨zs, H2, I2, rz, ln, asked⟩
  refine ⟨I2.kIn, ?_⟩
  rw [hks]
  have ll : ws.length = ks.length := rz.length.symm.trans ln
  have rr := rel rz
  apply wpAny_call
  refine codeAny_mono (F.run X.A X.stack s2 H2 ⟨[], ks.zip ws⟩ (g ws) (gV zs) Q E0 hr I2.env0 (b s2 ws I2.kIn ll) rr asked) ?_
  intro res s' got
  match res, got with
  | .error e, got => exact (got : False).elim
  | .ok (.ret u), got => exact I2.after got
  | .ok .next, got => exact got.elim
  | .ok .brk, got => exact got.elim
  | .ok .cont, got => exact got.elim
end
/-! ### small things -/
theorem _root_.L2.Same.sqt {K : PySem.W.Frag} {H H' : Hp} {a : Addr} {xs : List V} (e : Same H H') (h : SqT K H a xs) : SqT K H' a xs := by
  rcases h with (h | ⟨o, h⟩) | h
  · exact .inl (.inl (e _ _ h))
  · exact .inl (.inr ⟨o, e _ _ h⟩)
  · exact .inr h
theorem _root_.L2.Same.new {H : Hp} {p : Addr} {o : HO} (h : H p = none) : Same H (upd H p o) := fun b u e => by rw [upd_ne (ne_of_none e h)]; exact e
theorem _root_.L2.Same.step {H0 H : Hp} {p : Addr} {o : HO} (s : Same H0 H) (h : H p = none) : Same H0 (upd H p o) := s.trans (Same.new h)
theorem _root_.L2.Same.wr {H0 H : Hp} {p : Addr} {o : HO} (s : Same H0 H) (h : H0 p = none) : Same H0 (upd H p o) := fun b u e => by rw [upd_ne (ne_of_none e h)]; exact s b u e
/-- all but the objects at p and q is as it was -/
def But (p q : Addr) (H H' : Hp) : Prop := ∀ b o, H b = some o → b ≠ p → b ≠ q → H' b = some o
theorem But.refl {p q : Addr} {H : Hp} : But p q H H := fun _ _ h _ _ => h
theorem But.trans {p q : Addr} {H H1 H2 : Hp} (a : But p q H H1) (b : But p q H1 H2) : But p q H H2 := fun c o h h1 h2 => b c o (a c o h h1 h2) h1 h2
theorem But.of {p q : Addr} {H H' : Hp} (a : Same H H') : But p q H H' := fun c o h _ _ => a c o h
theorem _root_.L2.Same.but {p q : Addr} {H0 H H' : Hp} (a : Same H0 H) (b : But p q H H') (hp : H0 p = none) (hq : H0 q = none) : Same H0 H' := fun c o h => b c o (a c o h) (ne_of_none h hp) (ne_of_none h hq)
theorem ints_get {ns : List Int} {i : Nat} {y : V} (h : (ns.map V.int)[i]? = some y) : ∃ z, ns[i]? = some z ∧ y = V.int z := by
  rw [List.getElem?_map] at h
  cases e : ns[i]? with
  | none => rw [e] at h; cases h
  | some z => rw [e] at h; exact ⟨z, rfl, (Option.some.inj h).symm⟩
theorem lt_of_get {α : Type} {l : List α} {i : Nat} {y : α} (h : l[i]? = some y) : i < l.length := (List.getElem?_eq_some_iff.mp h).1
theorem iteFF {A B : Prop} {b : Bool} (e : b = false) (h : B) : if b = true then A else B := by subst e; exact iteF h
theorem iteTT {A B : Prop} {b : Bool} (e : b = true) (h : A) : if b = true then A else B := by subst e; exact iteT h
end Cf
/-! The mathematics of the calendar, plain. -/
namespace Cf
def leapB (y : Int) : Bool := decide (y % 4 = 0) && (decide (y % 100 ≠ 0) || decide (y % 400 = 0))
def lyb (y : Int) : Int := (y - 1) / 4 - (y - 1) / 100 + (y - 1) / 400
def ysOf (y : Int) : Int := 365 * (y - 2000) + lyb y - lyb 2000
theorem leapB_iff (y : Int) : leapB y = true ↔ (y % 4 = 0 ∧ (y % 100 ≠ 0 ∨ y % 400 = 0)) := by
  unfold leapB
  simp only [Bool.and_eq_true, Bool.or_eq_true, decide_eq_true_eq]
def leapI (y : Int) : Int := if leapB y = true then 1 else 0
theorem ys_succ (y : Int) : ysOf (y + 1) = ysOf y + 365 + leapI y := by
  unfold ysOf lyb leapI
  have := leapB_iff y
  by_cases h : leapB y = true
  · rw [if_pos h]
    have h2 := this.mp h
    omega
  · rw [if_neg h]
    have h2 : ¬ (y % 4 = 0 ∧ (y % 100 ≠ 0 ∨ y % 400 = 0)) := fun z => h (this.mpr z)
    omega
theorem leapI_01 (y : Int) : leapI y = 0 ∨ leapI y = 1 := by
  unfold leapI
  by_cases h : leapB y = true
  · rw [if_pos h]; exact Or.inr rfl
  · rw [if_neg h]; exact Or.inl rfl
theorem ys_step (y : Int) : ysOf y + 365 ≤ ysOf (y + 1) ∧ ysOf (y + 1) ≤ ysOf y + 366 := by
  have := ys_succ y
  have := leapI_01 y
  omega
theorem ys_mono_nat (y : Int) : ∀ n : Nat, ysOf y + 365 * (n : Int) ≤ ysOf (y + n)
  | 0 => by simp
  | n + 1 => by
    have h1 := ys_mono_nat y n
    have h2 := (ys_step (y + n)).1
    have e : y + ((n + 1 : Nat) : Int) = y + (n : Int) + 1 := by omega
    rw [e]
    omega
theorem ys_lt {y z : Int} (h : y < z) : ysOf y < ysOf z := by
  have h1 := ys_mono_nat y (z - y).toNat
  have e : y + ((z - y).toNat : Int) = z := by omega
  rw [e] at h1
  omega
theorem ys_le {y z : Int} (h : y ≤ z) : ysOf y ≤ ysOf z := by
  by_cases e : y = z
  · rw [e]; exact Int.le_refl _
  · exact Int.le_of_lt (ys_lt (by omega))
theorem ys_le_iff {y z : Int} (h : ysOf y < ysOf (z + 1)) : y ≤ z := by
  by_cases q : y ≤ z
  · exact q
  · have := ys_le (y := z + 1) (z := y) (by omega)
    omega
/-- the law's own first day of a year -/
def lawNY (y : Int) : Int := 365 * (y - 2000) + (y - 2000 + 3) / 4 - (y - 2000 + 99) / 100 + (y - 2000 + 399) / 400
theorem lawNY_eq (y : Int) : lawNY y = ysOf y := by
  unfold lawNY ysOf lyb
  omega
/-- the first try of year_of is never too late -/
theorem first_try {d y : Int} (h1 : ysOf y ≤ d) (h2 : d < ysOf (y + 1)) : 2000 + 400 * (d / 146097) + (d % 146097) / 366 ≤ y := by
  refine ys_le_iff (z := y) ?_
  have : ysOf (2000 + 400 * (d / 146097) + (d % 146097) / 366) ≤ d := by
    unfold ysOf lyb
    omega
  omega
def ml (m : Int) : Int := match m with
  | 1 => 31 | 2 => 28 | 3 => 31 | 4 => 30 | 5 => 31 | 6 => 30 | 7 => 31 | 8 => 31 | 9 => 30 | 10 => 31 | 11 => 30 | 12 => 31 | _ => 0
def mlen (m : Int) (l : Bool) : Int := if m = 2 ∧ l = true then 29 else ml m
def MLs : List Int := [31, 28, 31, 30, 31, 30, 31, 31, 30, 31, 30, 31]
def mst (m : Int) (l : Bool) : Int := (MLs.take (m - 1).toNat).sum + (if l = true ∧ 2 < m then 1 else 0)
theorem m12 {m : Int} (h1 : 1 ≤ m) (h2 : m ≤ 12) : m = 1 ∨ m = 2 ∨ m = 3 ∨ m = 4 ∨ m = 5 ∨ m = 6 ∨ m = 7 ∨ m = 8 ∨ m = 9 ∨ m = 10 ∨ m = 11 ∨ m = 12 := by omega
theorem mst_succ {m : Int} (h1 : 1 ≤ m) (h2 : m ≤ 12) (l : Bool) : mst (m + 1) l = mst m l + mlen m l := by
  rcases m12 h1 h2 with rfl | rfl | rfl | rfl | rfl | rfl | rfl | rfl | rfl | rfl | rfl | rfl <;> cases l <;> decide
theorem mst_1 (l : Bool) : mst 1 l = 0 := by cases l <;> decide
theorem mst_13 (l : Bool) : mst 13 l = 365 + (if l = true then 1 else 0) := by cases l <;> decide
theorem mlen_bd {m : Int} (h1 : 1 ≤ m) (h2 : m ≤ 12) (l : Bool) : 28 ≤ mlen m l ∧ mlen m l ≤ 31 := by
  rcases m12 h1 h2 with rfl | rfl | rfl | rfl | rfl | rfl | rfl | rfl | rfl | rfl | rfl | rfl <;> cases l <;> decide
theorem mst_bd {m : Int} (h1 : 1 ≤ m) (h2 : m ≤ 13) (l : Bool) : 0 ≤ mst m l ∧ mst m l ≤ 366 := by
  have : m = 13 ∨ m ≤ 12 := by omega
  rcases this with rfl | h
  · cases l <;> decide
  · rcases m12 h1 h with rfl | rfl | rfl | rfl | rfl | rfl | rfl | rfl | rfl | rfl | rfl | rfl <;> cases l <;> decide
theorem mst_mono_nat (l : Bool) (m : Int) (h1 : 1 ≤ m) : ∀ n : Nat, m + n ≤ 13 → mst m l + 28 * (n : Int) ≤ mst (m + n) l
  | 0, _ => by simp
  | n + 1, h => by
    have h3 := mst_mono_nat l m h1 n (by omega)
    have h4 := mst_succ (m := m + n) (by omega) (by omega) l
    have h5 := mlen_bd (m := m + n) (by omega) (by omega) l
    have e : m + ((n + 1 : Nat) : Int) = m + (n : Int) + 1 := by omega
    rw [e, h4]
    omega
theorem mst_le {a b : Int} (h1 : 1 ≤ a) (h : a ≤ b) (h2 : b ≤ 13) (l : Bool) : mst a l ≤ mst b l := by
  have h3 := mst_mono_nat l a h1 (b - a).toNat (by omega)
  have e : a + ((b - a).toNat : Int) = b := by omega
  rw [e] at h3
  omega
/-- a date that exists -/
structure IsDate (y m d : Int) : Prop where
  m1 : 1 ≤ m
  m2 : m ≤ 12
  d1 : 1 ≤ d
  d2 : d ≤ mlen m (leapB y)
def dayOf (y m d : Int) : Int := ysOf y + mst m (leapB y) + d - 1
theorem IsDate.year {y m d : Int} (D : IsDate y m d) : ysOf y ≤ dayOf y m d ∧ dayOf y m d < ysOf (y + 1) := by
  have h1 := mst_bd D.m1 (by have := D.m2; omega) (leapB y)
  have h2 := mst_succ D.m1 D.m2 (leapB y)
  have h3 := mst_le (a := m + 1) (b := 13) (by have := D.m1; omega) (by have := D.m2; omega) (by omega) (leapB y)
  have h4 := mst_13 (leapB y)
  have h5 := ys_succ y
  have h6 : leapI y = (if leapB y = true then 1 else 0) := rfl
  have := D.d1
  have := D.d2
  unfold dayOf
  omega
theorem IsDate.month {y m d : Int} (D : IsDate y m d) : mst m (leapB y) ≤ dayOf y m d - ysOf y ∧ dayOf y m d - ysOf y < mst (m + 1) (leapB y) := by
  have h2 := mst_succ D.m1 D.m2 (leapB y)
  have := D.d1
  have := D.d2
  unfold dayOf
  omega
theorem dayOf_first (y m : Int) : dayOf y m 1 = ysOf y + mst m (leapB y) := by unfold dayOf; omega
theorem ys_as_day (y : Int) : ysOf y = dayOf y 1 1 := by rw [dayOf_first, mst_1]; omega
theorem ys_last (y : Int) : ysOf (y + 1) - 1 = dayOf y 12 31 := by
  have h5 := ys_succ y
  have h6 : leapI y = (if leapB y = true then 1 else 0) := rfl
  have h4 := mst_13 (leapB y)
  have h2 := mst_succ (m := 12) (by omega) (by omega) (leapB y)
  have h3 : mlen 12 (leapB y) = 31 := by cases leapB y <;> decide
  unfold dayOf
  have e : (12 : Int) + 1 = 13 := by omega
  rw [e] at h2
  omega
/-- the law's leap year -/
def isLong (y : Int) : Bool := decide (y % 400 = 0) || (decide (y % 4 = 0) && decide (y % 100 ≠ 0))
theorem isLong_eq (y : Int) : isLong y = leapB y := by
  have h1 := leapB_iff y
  have h2 : isLong y = true ↔ (y % 400 = 0 ∨ (y % 4 = 0 ∧ y % 100 ≠ 0)) := by
    unfold isLong
    simp only [Bool.and_eq_true, Bool.or_eq_true, decide_eq_true_eq]
  have h3 : isLong y = true ↔ leapB y = true := by rw [h1, h2]; omega
  cases a : isLong y <;> cases b : leapB y <;> simp_all
def lawSizes (l : Bool) : List Int := [31, if l = true then 29 else 28, 31, 30, 31, 30, 31, 31, 30, 31, 30, 31]
theorem lawSizes_get {m : Int} (h1 : 1 ≤ m) (h2 : m ≤ 12) (l : Bool) : (lawSizes l)[(m - 1).toNat]? = some (mlen m l) := by
  rcases m12 h1 h2 with rfl | rfl | rfl | rfl | rfl | rfl | rfl | rfl | rfl | rfl | rfl | rfl <;> cases l <;> decide
theorem MLs_get {m : Int} (h1 : 1 ≤ m) (h2 : m ≤ 12) : MLs[(m - 1).toNat]? = some (ml m) := by
  rcases m12 h1 h2 with rfl | rfl | rfl | rfl | rfl | rfl | rfl | rfl | rfl | rfl | rfl | rfl <;> decide
/-- the law's first day of a month -/
theorem lawMonth_eq {y m : Int} (h1 : 1 ≤ m) (h2 : m ≤ 12) :
    lawNY y + (([31, 28 + (lawNY (y + 1) - lawNY y - 365), 31, 30, 31, 30, 31, 31, 30, 31, 30, 31] : List Int).take (m - 1).toNat).sum = ysOf y + mst m (leapB y) := by
  rw [lawNY_eq, lawNY_eq]
  have e : ysOf (y + 1) - ysOf y - 365 = leapI y := by have := ys_succ y; omega
  rw [e]
  have h6 : leapI y = (if leapB y = true then 1 else 0) := rfl
  rw [h6]
  rcases m12 h1 h2 with rfl | rfl | rfl | rfl | rfl | rfl | rfl | rfl | rfl | rfl | rfl | rfl <;> cases leapB y <;> simp [mst, MLs] <;> omega
theorem prev_month {m : Int} (h1 : 2 ≤ m) (h2 : m ≤ 12) : (m + 10) % 12 + 1 = m - 1 := by omega
/-- bounds -/
theorem ys_bd {y B : Int} (h1 : -B ≤ y) (h2 : y ≤ B) (hB : 10000 ≤ B) : -(800 * B) ≤ ysOf y ∧ ysOf y ≤ 800 * B := by
  unfold ysOf lyb
  omega
end Cf
/-! Sets of days that repeat from some day on: the mathematics. -/
namespace Cf
abbrev Asc (l : List Int) : Prop := l.Pairwise (· < ·)
def seg (lo hi : Int) : List Int := (List.range (hi - lo).toNat).map fun (i : Nat) => lo + (i : Int)
def els (S : Int → Bool) (lo hi : Int) : List Int := (seg lo hi).filter S
theorem mem_seg {lo hi d : Int} : d ∈ seg lo hi ↔ lo ≤ d ∧ d < hi := by
  unfold seg
  rw [List.mem_map]
  constructor
  · rintro ⟨i, hi, rfl⟩
    rw [List.mem_range] at hi
    omega
  · intro h
    exact ⟨(d - lo).toNat, by rw [List.mem_range]; omega, by omega⟩
theorem asc_seg (lo hi : Int) : Asc (seg lo hi) := by
  unfold seg Asc
  rw [List.pairwise_map]
  exact List.Pairwise.imp (fun h => by omega) List.pairwise_lt_range
theorem mem_els {S : Int → Bool} {lo hi d : Int} : d ∈ els S lo hi ↔ (lo ≤ d ∧ d < hi) ∧ S d = true := by
  unfold els
  rw [List.mem_filter, mem_seg]
theorem asc_els (S : Int → Bool) (lo hi : Int) : Asc (els S lo hi) := List.Pairwise.filter _ (asc_seg lo hi)
theorem asc_ext : ∀ {a b : List Int}, Asc a → Asc b → (∀ d, d ∈ a ↔ d ∈ b) → a = b
  | [], [], _, _, _ => rfl
  | [], y :: b, _, _, h => absurd ((h y).mpr List.mem_cons_self) (by simp)
  | x :: a, [], _, _, h => absurd ((h x).mp List.mem_cons_self) (by simp)
  | x :: a, y :: b, ha, hb, h => by
    rw [Asc, List.pairwise_cons] at ha hb
    have e : x = y := by
      rcases List.mem_cons.mp ((h x).mp List.mem_cons_self) with e | m
      · exact e
      · rcases List.mem_cons.mp ((h y).mpr List.mem_cons_self) with e | m2
        · exact e.symm
        · have := hb.1 x m
          have := ha.1 y m2
          omega
    subst e
    congr 1
    refine asc_ext ha.2 hb.2 fun d => ?_
    constructor
    · intro m
      rcases List.mem_cons.mp ((h d).mp (List.mem_cons_of_mem _ m)) with e | m2
      · subst e; exact absurd (ha.1 d m) (Int.lt_irrefl d)
      · exact m2
    · intro m
      rcases List.mem_cons.mp ((h d).mpr (List.mem_cons_of_mem _ m)) with e | m2
      · subst e; exact absurd (hb.1 d m) (Int.lt_irrefl d)
      · exact m2
theorem asc_append {a b : List Int} (ha : Asc a) (hb : Asc b) (h : ∀ x ∈ a, ∀ y ∈ b, x < y) : Asc (a ++ b) := List.pairwise_append.mpr ⟨ha, hb, h⟩
theorem els_cut (S : Int → Bool) {lo m hi : Int} (h1 : lo ≤ m) (h2 : m ≤ hi) : els S lo hi = els S lo m ++ els S m hi := by
  refine asc_ext (asc_els _ _ _) (asc_append (asc_els _ _ _) (asc_els _ _ _) fun x hx y hy => ?_) fun d => ?_
  · rw [mem_els] at hx hy
    omega
  · rw [List.mem_append, mem_els, mem_els, mem_els]
    constructor
    · intro h
      by_cases c : d < m
      · exact .inl ⟨⟨h.1.1, c⟩, h.2⟩
      · exact .inr ⟨⟨by omega, h.1.2⟩, h.2⟩
    · rintro (h | h)
      · exact ⟨⟨h.1.1, by omega⟩, h.2⟩
      · exact ⟨⟨by omega, h.1.2⟩, h.2⟩
theorem els_congr {S T : Int → Bool} {lo hi : Int} (h : ∀ d, lo ≤ d → d < hi → S d = T d) : els S lo hi = els T lo hi := by
  refine asc_ext (asc_els _ _ _) (asc_els _ _ _) fun d => ?_
  rw [mem_els, mem_els]
  constructor
  · intro g; exact ⟨g.1, by rw [← h d g.1.1 g.1.2]; exact g.2⟩
  · intro g; exact ⟨g.1, by rw [h d g.1.1 g.1.2]; exact g.2⟩
theorem asc_map_add {l : List Int} (k : Int) (h : Asc l) : Asc (l.map (· + k)) := by
  unfold Asc
  rw [List.pairwise_map]
  exact h.imp fun h => by omega
theorem els_shift (S : Int → Bool) (lo hi k : Int) : els S (lo + k) (hi + k) = (els (fun d => S (d + k)) lo hi).map (· + k) := by
  refine asc_ext (asc_els _ _ _) (asc_map_add k (asc_els _ _ _)) fun d => ?_
  rw [mem_els, List.mem_map]
  constructor
  · intro g
    refine ⟨d - k, mem_els.mpr ⟨by omega, ?_⟩, by omega⟩
    show S (d - k + k) = true
    rw [Int.sub_add_cancel]
    exact g.2
  · rintro ⟨e, he, rfl⟩
    rw [mem_els] at he
    exact ⟨by omega, he.2⟩
theorem seg_length (lo hi : Int) : (seg lo hi).length = (hi - lo).toNat := by simp [seg]
theorem els_length_le (S : Int → Bool) (lo hi : Int) : (els S lo hi).length ≤ (hi - lo).toNat := by
  have h := List.length_filter_le S (seg lo hi)
  rw [seg_length] at h
  exact h
theorem els_nil (S : Int → Bool) {lo hi : Int} (h : hi ≤ lo) : els S lo hi = [] := by
  have := els_length_le S lo hi
  exact List.eq_nil_of_length_eq_zero (by omega)
/-! ### ascending lists by places -/
theorem asc_lt {l : List Int} (h : Asc l) {i j : Nat} (hij : i < j) (hj : j < l.length) : l.getD i 0 < l.getD j 0 := by
  have hi : i < l.length := by omega
  rw [List.getD_eq_getElem?_getD, List.getD_eq_getElem?_getD, List.getElem?_eq_getElem hi, List.getElem?_eq_getElem hj]
  exact (List.pairwise_iff_getElem.mp h) i j hi hj hij
theorem asc_le {l : List Int} (h : Asc l) {i j : Nat} (hij : i ≤ j) (hj : j < l.length) : l.getD i 0 ≤ l.getD j 0 := by
  rcases Nat.lt_or_ge i j with c | c
  · exact Int.le_of_lt (asc_lt h c hj)
  · have : i = j := by omega
    subst this
    exact Int.le_refl _
theorem getD_mem {l : List Int} {i : Nat} (h : i < l.length) : l.getD i 0 ∈ l := by
  rw [List.getD_eq_getElem?_getD, List.getElem?_eq_getElem h]
  exact List.getElem_mem h
theorem mem_getD {l : List Int} {d : Int} (h : d ∈ l) : ∃ i, i < l.length ∧ l.getD i 0 = d := by
  obtain ⟨i, hi, e⟩ := List.getElem_of_mem h
  exact ⟨i, hi, by rw [List.getD_eq_getElem?_getD, List.getElem?_eq_getElem hi]; exact e⟩
theorem getD_drop (l : List Int) (m i : Nat) : (l.drop m).getD i 0 = l.getD (m + i) 0 := by
  rw [List.getD_eq_getElem?_getD, List.getD_eq_getElem?_getD, List.getElem?_drop]
theorem getD_take {l : List Int} {m i : Nat} (h : i < m) : (l.take m).getD i 0 = l.getD i 0 := by
  rw [List.getD_eq_getElem?_getD, List.getD_eq_getElem?_getD, List.getElem?_take, if_pos h]
theorem getD_map {l : List Int} {i : Nat} (f : Int → Int) (h : i < l.length) : (l.map f).getD i 0 = f (l.getD i 0) := by
  rw [List.getD_eq_getElem?_getD, List.getD_eq_getElem?_getD, List.getElem?_map, List.getElem?_eq_getElem h]
  rfl
/-! ### frames -/
structure Fr (S : Int → Bool) (s p : Int) : Prop where
  s0 : 0 ≤ s
  p1 : 1 ≤ p
  per : ∀ d, s ≤ d → S (d + p) = S d
theorem Fr.mul {S : Int → Bool} {s p : Int} (F : Fr S s p) : ∀ (k : Nat) (d : Int), s ≤ d → S (d + k * p) = S d
  | 0, d, h => by rw [show d + ((0 : Nat) : Int) * p = d by simp]
  | k + 1, d, h => by
    have e : d + ((k + 1 : Nat) : Int) * p = (d + k * p) + p := by
      rw [show ((k + 1 : Nat) : Int) = (k : Int) + 1 by omega, Int.add_mul]
      omega
    have : 0 ≤ (k : Int) * p := Int.mul_nonneg (by omega) (by have := F.p1; omega)
    rw [e, F.per _ (by omega)]
    exact F.mul k d h
/-- the day of the first period that a day repeats -/
theorem Fr.mod {S : Int → Bool} {s p : Int} (F : Fr S s p) {d : Int} (h : s ≤ d) : S (s + (d - s) % p) = S d := by
  have p1 := F.p1
  have h1 := Int.emod_nonneg (d - s) (show p ≠ 0 by omega)
  have h3 : 0 ≤ (d - s) / p := Int.ediv_nonneg (by omega) (by omega)
  have h2 := Int.mul_ediv_add_emod (d - s) p
  have e : d = (s + (d - s) % p) + (((d - s) / p).toNat : Int) * p := by
    rw [show (((d - s) / p).toNat : Int) = (d - s) / p by omega, Int.mul_comm ((d - s) / p) p]
    omega
  conv => rhs; rw [e]
  exact (F.mul _ _ (by omega)).symm
theorem Fr.later {S : Int → Bool} {s s' p : Int} (F : Fr S s p) (h : s ≤ s') : Fr S s' p := ⟨by have := F.s0; omega, F.p1, fun d hd => F.per d (by omega)⟩
theorem Fr.times {S : Int → Bool} {s p : Int} (F : Fr S s p) {k : Nat} (h : 1 ≤ k) : Fr S s (k * p) := by
  refine ⟨F.s0, ?_, fun d hd => F.mul k d hd⟩
  have := F.p1
  have h2 : (1 : Int) * 1 ≤ (k : Int) * p := Int.mul_le_mul (by omega) this (by omega) (by omega)
  omega
/-- a period from anywhere on is one from s on -/
theorem Fr.also {S : Int → Bool} {s p s' p' : Int} (F : Fr S s p) (G : Fr S s' p') : Fr S s p' := by
  refine ⟨F.s0, G.p1, fun d hd => ?_⟩
  have hp := F.p1
  have hs := G.s0
  have big : s' ≤ d + (s'.toNat : Int) * p := by
    have : (s'.toNat : Int) * 1 ≤ (s'.toNat : Int) * p := Int.mul_le_mul_of_nonneg_left hp (by omega)
    have := F.s0
    omega
  have e1 := F.mul s'.toNat (d + p') (by have := G.p1; omega)
  have e2 := F.mul s'.toNat d hd
  have e3 := G.per _ big
  rw [← e1, ← e2, ← e3]
  congr 1
  omega
theorem Fr.gcd {S : Int → Bool} {s : Int} : ∀ (n : Nat) {p q : Int}, (p + q).toNat ≤ n → Fr S s p → Fr S s q → Fr S s (Int.gcd p q)
  | 0, p, q, h, F, G => by have := F.p1; have := G.p1; omega
  | n + 1, p, q, h, F, G => by
    have hp := F.p1
    have hq := G.p1
    rcases Int.lt_trichotomy p q with c | c | c
    · have K : Fr S s (q - p) := ⟨F.s0, by omega, fun d hd => by
        have e := F.per (d + (q - p)) (by omega)
        rw [← e, show d + (q - p) + p = d + q by omega]
        exact G.per d hd⟩
      have := Fr.gcd n (p := p) (q := q - p) (by omega) F K
      rw [Int.gcd_sub_self_right] at this
      exact this
    · subst c
      rw [Int.gcd_self]
      have : ((p.natAbs : Nat) : Int) = p := by omega
      rw [this]; exact F
    · have K : Fr S s (p - q) := ⟨F.s0, by omega, fun d hd => by
        have e := G.per (d + (p - q)) (by omega)
        rw [← e, show d + (p - q) + q = d + p by omega]
        exact F.per d hd⟩
      have := Fr.gcd n (p := p - q) (q := q) (by omega) K G
      rw [Int.gcd_sub_self_left] at this
      exact this
structure Can (S : Int → Bool) (s p : Int) : Prop where
  fr : Fr S s p
  lp : ∀ s' p', Fr S s' p' → p ≤ p'
  ls : ∀ s', Fr S s' p → s ≤ s'
theorem Can.eq {S : Int → Bool} {s p s' p' : Int} (A : Can S s p) (B : Can S s' p') : s = s' ∧ p = p' := by
  have e : p = p' := Int.le_antisymm (A.lp _ _ B.fr) (B.lp _ _ A.fr)
  subst e
  exact ⟨Int.le_antisymm (A.ls _ B.fr) (B.ls _ A.fr), rfl⟩
/-- two sets with one form are one set -/
theorem Fr.same {S T : Int → Bool} {s p : Int} (F : Fr S s p) (G : Fr T s p) (h1 : els S 0 s = els T 0 s) (h2 : els S s (s + p) = els T s (s + p)) {d : Int} (h : 0 ≤ d) : S d = T d := by
  have key : ∀ {lo hi d : Int}, els S lo hi = els T lo hi → lo ≤ d → d < hi → S d = T d := fun {lo hi d} e a b => by
    have m := @mem_els S lo hi d
    rw [e, mem_els] at m
    cases hs : S d <;> cases ht : T d <;> simp_all
  by_cases c : d < s
  · exact key h1 h c
  · have c' : s ≤ d := by omega
    rw [← F.mod c', ← G.mod c']
    have p1 := F.p1
    exact key h2 (by have := Int.emod_nonneg (d - s) (show p ≠ 0 by omega); omega) (by have := Int.emod_lt_of_pos (d - s) (show 0 < p by omega); omega)
end Cf
namespace Cf
/-! ### primes -/
structure Pr (q : Nat) : Prop where
  two : 2 ≤ q
  only : ∀ d, d ∣ q → d = 1 ∨ d = q
theorem Pr.or {q a b : Nat} (h : Pr q) (d : q ∣ a * b) : q ∣ a ∨ q ∣ b := by
  rcases h.only _ (Nat.gcd_dvd_left q a) with e | e
  · exact .inr (Nat.Coprime.dvd_of_dvd_mul_left e d)
  · exact .inl (by rw [← e]; exact Nat.gcd_dvd_right q a)
theorem pr_ex : ∀ (n m : Nat), m ≤ n → 2 ≤ m → ∃ q, Pr q ∧ q ∣ m
  | 0, m, h, h2 => by omega
  | n + 1, m, h, h2 => by
    by_cases c : ∃ d, d ∣ m ∧ d ≠ 1 ∧ d ≠ m
    · obtain ⟨d, hd, h1, hm⟩ := c
      have := Nat.le_of_dvd (by omega) hd
      have h0 : d ≠ 0 := by rintro rfl; have := Nat.zero_dvd.mp hd; omega
      obtain ⟨q, hq, hqd⟩ := pr_ex n d (by omega) (by omega)
      exact ⟨q, hq, Nat.dvd_trans hqd hd⟩
    · refine ⟨m, ⟨h2, fun d hd => ?_⟩, Nat.dvd_refl m⟩
      by_cases e1 : d = 1
      · exact .inl e1
      · by_cases e2 : d = m
        · exact .inr e2
        · exact absurd ⟨d, hd, e1, e2⟩ c
/-- what primes_of has found: n is rest times what is done -/
structure Pst (n : Nat) (ps : List Nat) (rest f : Nat) : Prop where
  f2 : 2 ≤ f
  r1 : 1 ≤ rest
  done : ∃ m, n = rest * m ∧ ∀ q, Pr q → q ∣ m → q ∈ ps
  low : ∀ q, Pr q → q < f → ¬ q ∣ rest
  mem : ∀ q ∈ ps, 2 ≤ q
/-- divided by the factor, if it is among those found -/
theorem Pst.div {n rest f : Nat} {ps : List Nat} (h : Pst n ps rest f) (hf : f ∈ ps) (hd : rest % f = 0) : Pst n ps (rest / f) f := by
  have f2 := h.f2
  have e : rest = f * (rest / f) := by
    have := Nat.div_add_mod rest f
    omega
  have r1 := h.r1
  have r0 : 1 ≤ rest / f := by
    rcases Nat.eq_zero_or_pos (rest / f) with z | z
    · rw [z] at e; omega
    · exact z
  have dv : rest / f ∣ rest := ⟨f, by rw [Nat.mul_comm]; exact e⟩
  refine ⟨f2, r0, ?_, fun q hq hl d => h.low q hq hl (Nat.dvd_trans d dv), h.mem⟩
  obtain ⟨m, e2, hm⟩ := h.done
  refine ⟨f * m, ?_, fun q hq d => ?_⟩
  · rw [← Nat.mul_assoc, Nat.mul_comm (rest / f) f, ← e]; exact e2
  · rcases hq.or d with d1 | d1
    · rcases Nat.lt_or_ge q f with c | c
      · exact absurd (Nat.dvd_trans d1 ⟨rest / f, e⟩) (h.low q hq c)
      · have := Nat.le_of_dvd (by omega) d1
        have : q = f := by omega
        rw [this]; exact hf
    · exact hm q hq d1
theorem Pst.found {n rest f : Nat} {ps : List Nat} (h : Pst n ps rest f) : Pst n (ps ++ [f]) rest f := by
  obtain ⟨m, e, hm⟩ := h.done
  refine ⟨h.f2, h.r1, ⟨m, e, fun q hq d => List.mem_append_left _ (hm q hq d)⟩, h.low, fun q hq => ?_⟩
  rcases List.mem_append.mp hq with g | g
  · exact h.mem q g
  · rw [List.mem_singleton] at g
    rw [g]; exact h.f2
theorem Pst.next {n rest f : Nat} {ps : List Nat} (h : Pst n ps rest f) (hd : rest % f ≠ 0) : Pst n ps rest (f + 1) := by
  refine ⟨by have := h.f2; omega, h.r1, h.done, fun q hq hl d => ?_, h.mem⟩
  rcases Nat.lt_or_ge q f with c | c
  · exact h.low q hq c d
  · have : q = f := by omega
    subst this
    exact hd (Nat.mod_eq_zero_of_dvd d)
/-- the end: the rest is 1 or the last prime -/
theorem Pst.fin {n rest f : Nat} {ps : List Nat} (h : Pst n ps rest f) (hl : rest < f * f) (q : Nat) (hq : Pr q) (d : q ∣ n) : q ∈ (if 1 < rest then ps ++ [rest] else ps) := by
  obtain ⟨m, e, hm⟩ := h.done
  rw [e] at d
  rcases hq.or d with d1 | d1
  · have q2 := hq.two
    have hle := Nat.le_of_dvd h.r1 d1
    rw [if_pos (by omega)]
    refine List.mem_append_right _ ?_
    rw [List.mem_singleton]
    obtain ⟨t, et⟩ := d1
    rcases Nat.lt_or_ge 1 t with c | c
    · exfalso
      obtain ⟨q', hq', d'⟩ := pr_ex t t (Nat.le_refl _) (by omega)
      have a1 : f ≤ q := by
        rcases Nat.lt_or_ge q f with c1 | c1
        · exact absurd ⟨t, et⟩ (h.low q hq c1)
        · exact c1
      have a2 : f ≤ q' := by
        rcases Nat.lt_or_ge q' f with c1 | c1
        · exact absurd (Nat.dvd_trans d' ⟨q, by rw [et, Nat.mul_comm]⟩) (h.low q' hq' c1)
        · exact c1
      have a3 := Nat.le_of_dvd (by omega) d'
      have a4 : f * f ≤ q * t := Nat.mul_le_mul a1 (Nat.le_trans a2 a3)
      omega
    · have : t = 1 := by
        have : t ≠ 0 := by rintro rfl; have := h.r1; simp at et; omega
        omega
      rw [this, Nat.mul_one] at et
      exact et.symm
  · have := hm q hq d1
    split
    · exact List.mem_append_left _ this
    · exact this
theorem Pst.start {n : Nat} (h : 1 ≤ n) : Pst n [] n 2 := ⟨Nat.le_refl _, h, ⟨1, by omega, fun q hq d => by have := Nat.le_of_dvd (by omega) d; have := hq.two; omega⟩, fun q hq hl => by have := hq.two; omega, fun q hq => by cases hq⟩
/-! ### a part of a period -/
section
variable {S : Int → Bool} {s p t : Int} {q : Nat}
theorem els_times (F : Fr S s t) (lo : Int) (hlo : s ≤ lo) : ∀ q : Nat, (els S lo (lo + q * t)).length = q * (els S lo (lo + t)).length
  | 0 => by rw [els_nil S (by simp)]; simp
  | q + 1 => by
    have p1 := F.p1
    have z : 0 ≤ (q : Int) * t := Int.mul_nonneg (by omega) (by omega)
    have e : lo + ((q + 1 : Nat) : Int) * t = (lo + t) + q * t := by
      rw [show ((q + 1 : Nat) : Int) = (q : Int) + 1 by omega, Int.add_mul]; omega
    have e2 : lo + (q : Int) * t + t = (lo + t) + q * t := by omega
    rw [e, els_cut S (show lo ≤ lo + t by omega) (by omega), List.length_append, ← e2, els_shift, List.length_map,
      els_congr (T := S) (fun d h1 h2 => F.per d (by omega)), els_times F lo hlo q, Nat.succ_mul]
    omega
/-- the days of a cycle repeat already after this part of the period -/
def Rep (c : List Int) (p : Int) (q : Nat) : Prop := c.length % q = 0 ∧ p % (q : Int) = 0 ∧ c.drop (c.length / q) = (c.take (c.length - c.length / q)).map (· + p / (q : Int))
theorem rep_of (q1 : 1 ≤ q) (e : p = q * t) (F : Fr S s t) : Rep (els S s (s + p)) p q := by
  have p1 := F.p1
  have hl := els_times F s (Int.le_refl _) q
  rw [← e] at hl
  have hq : (q : Int) ≠ 0 := by omega
  have ed : p / (q : Int) = t := by rw [e]; exact Int.mul_ediv_cancel_left _ hq
  have dm : (els S s (s + p)).length / q = (els S s (s + t)).length := by rw [hl]; exact Nat.mul_div_cancel_left _ q1
  have tp : t ≤ p := by
    have : (1 : Int) * t ≤ q * t := Int.mul_le_mul_of_nonneg_right (by omega) (by omega)
    omega
  refine ⟨by rw [hl]; exact Nat.mul_mod_right _ _, by rw [e]; exact Int.mul_emod_right _ _, ?_⟩
  rw [dm, ed]
  have c1 := els_cut S (show s ≤ s + t by omega) (show s + t ≤ s + p by omega)
  have c2 := els_cut S (show s ≤ s + (p - t) by omega) (show s + (p - t) ≤ s + p by omega)
  have sh : els S (s + t) (s + p) = (els S s (s + (p - t))).map (· + t) := by
    rw [show s + p = s + (p - t) + t by omega, els_shift, els_congr (T := S) (fun d h1 h2 => F.per d (by omega))]
  have l2 : (els S s (s + p)).length - (els S s (s + t)).length = (els S s (s + (p - t))).length := by
    have := congrArg List.length c1
    rw [List.length_append, sh, List.length_map] at this
    omega
  rw [l2]
  conv => lhs; rw [c1]
  conv => rhs; rw [c2]
  rw [List.drop_left, List.take_left, sh]
theorem rep_to (q1 : 1 ≤ q) (F : Fr S s p) (R : Rep (els S s (s + p)) p q) : ∃ t, p = q * t ∧ Fr S s t ∧ p / (q : Int) = t := by
  obtain ⟨r1, r2, r3⟩ := R
  have p1 := F.p1
  have A := asc_els S s (s + p)
  have M := @mem_els S s (s + p)
  generalize hc : els S s (s + p) = c at r1 r3 A M
  generalize ht : p / (q : Int) = t at r3
  have e : p = q * t := by
    have := Int.mul_ediv_add_emod p q
    rw [ht] at this
    omega
  have t1 : 1 ≤ t := by
    rcases Int.lt_or_le t 1 with z | z
    · have : (q : Int) * t ≤ q * 0 := Int.mul_le_mul_of_nonneg_left (by omega) (by omega)
      omega
    · exact z
  generalize hm : c.length / q = m at r3
  have el : c.length = q * m := by
    have := Nat.div_add_mod c.length q
    rw [hm] at this
    omega
  have qm : m ≤ q * m := by
    have := Nat.mul_le_mul_right m q1
    omega
  -- one step on
  have st : ∀ i, i + m < c.length → c.getD (i + m) 0 = c.getD i 0 + t := fun i hi => by
    have := congrArg (fun l => l.getD i 0) r3
    rw [getD_drop, getD_map _ (by rw [List.length_take]; omega), getD_take (by omega)] at this
    rw [Nat.add_comm] at this
    exact this
  have stj : ∀ (j i : Nat), i + j * m < c.length → c.getD (i + j * m) 0 = c.getD i 0 + j * t := by
    intro j
    induction j with
    | zero => intro i _; simp
    | succ j ih =>
      intro i hi
      have a : i + (j + 1) * m = (i + j * m) + m := by rw [Nat.succ_mul]; omega
      rw [a] at hi ⊢
      rw [st _ hi, ih i (by omega), show ((j + 1 : Nat) : Int) = (j : Int) + 1 by omega, Int.add_mul]
      omega
  have qs : ((q - 1 : Nat) : Int) * t = p - t := by
    rw [show ((q - 1 : Nat) : Int) = (q : Int) - 1 by omega, Int.sub_mul, e]; omega
  have qn : (q - 1) * m = c.length - m := by rw [el, Nat.sub_mul]; omega
  -- the first part
  have fst : ∀ i, i < m → c.getD i 0 < s + t := fun i hi => by
    have b : i + (q - 1) * m < c.length := by rw [qn]; omega
    have := stj (q - 1) i b
    have in_ := (M.mp (getD_mem b)).1.2
    rw [this, qs] at in_
    omega
  have key : ∀ d, s ≤ d → d < s + p - t → S (d + t) = S d := fun d h1 h2 => by
    have a : S d = true → S (d + t) = true := fun h => by
      obtain ⟨k, hk, ek⟩ := mem_getD (M.mpr ⟨⟨h1, by omega⟩, h⟩)
      by_cases c1 : k + m < c.length
      · have := M.mp (getD_mem c1)
        rw [st k c1, ek] at this
        exact this.2
      · exfalso
        have b : (k - (q - 1) * m) + (q - 1) * m < c.length := by rw [qn]; omega
        have g := stj (q - 1) (k - (q - 1) * m) b
        rw [show k - (q - 1) * m + (q - 1) * m = k by rw [qn]; omega, ek, qs] at g
        have g2 := (M.mp (getD_mem (show k - (q - 1) * m < c.length by omega))).1.1
        omega
    have b : S (d + t) = true → S d = true := fun h => by
      obtain ⟨k, hk, ek⟩ := mem_getD (M.mpr ⟨⟨by omega, by omega⟩, h⟩)
      by_cases c1 : k < m
      · have := fst k c1
        omega
      · have g := st (k - m) (by omega)
        rw [show k - m + m = k by omega, ek] at g
        have g2 := M.mp (getD_mem (show k - m < c.length by omega))
        rw [show c.getD (k - m) 0 = d by omega] at g2
        exact g2.2
    cases x : S d <;> cases y : S (d + t) <;> simp_all
  refine ⟨t, e, ⟨F.s0, t1, ?_⟩, rfl⟩
  -- within the first period
  have one : ∀ d, s ≤ d → d < s + p → S (d + t) = S d := fun d h1 h2 => by
    by_cases c1 : d < s + p - t
    · exact key d h1 c1
    · have it : ∀ (j : Nat) (e : Int), s ≤ e → e + j * t < s + p → S (e + j * t) = S e := by
        intro j
        induction j with
        | zero => intro e _ _; simp
        | succ j ih =>
          intro e h3 h4
          have a : ((j + 1 : Nat) : Int) * t = j * t + t := by rw [show ((j + 1 : Nat) : Int) = (j : Int) + 1 by omega, Int.add_mul]; omega
          have z : 0 ≤ (j : Int) * t := Int.mul_nonneg (by omega) (by omega)
          rw [a] at h4 ⊢
          rw [show e + ((j : Int) * t + t) = (e + j * t) + t by omega, key _ (by omega) (by omega)]
          exact ih e h3 (by omega)
      have g := it (q - 1) (d - (p - t)) (by omega) (by rw [qs]; omega)
      rw [qs, show d - (p - t) + (p - t) = d by omega] at g
      rw [g, show d + t = (d - (p - t)) + p by omega]
      exact F.per _ (by omega)
  intro d hd
  have m1 := Int.emod_nonneg (d - s) (show p ≠ 0 by omega)
  have m2 := Int.emod_lt_of_pos (d - s) (show 0 < p by omega)
  have h3 : 0 ≤ (d - s) / p := Int.ediv_nonneg (by omega) (by omega)
  have h2 := Int.mul_ediv_add_emod (d - s) p
  have ee : d = (s + (d - s) % p) + (((d - s) / p).toNat : Int) * p := by
    rw [show (((d - s) / p).toNat : Int) = (d - s) / p by omega, Int.mul_comm ((d - s) / p) p]
    omega
  have g1 := F.mul ((d - s) / p).toNat (s + (d - s) % p) (by omega)
  have g2 := F.mul ((d - s) / p).toNat (s + (d - s) % p + t) (by omega)
  rw [← ee] at g1
  rw [show s + (d - s) % p + t + (((d - s) / p).toNat : Int) * p = d + t by omega] at g2
  rw [g1, g2]
  exact one _ (by omega) (by omega)
/-- no prime part of the period is one: it is the least -/
theorem Fr.least (F : Fr S s p) (h : ∀ q, Pr q → ∀ t, p = q * t → ¬ Fr S s t) (s' p' : Int) (G : Fr S s' p') : p ≤ p' := by
  have p1 := F.p1
  have G2 := F.also G
  have g1 := G.p1
  have K := Fr.gcd _ (Nat.le_refl _) F G2
  have d1 : Int.gcd p p' ∣ p.natAbs := Nat.gcd_dvd_left _ _
  have d2 : Int.gcd p p' ∣ p'.natAbs := Nat.gcd_dvd_right _ _
  obtain ⟨k, ek⟩ := d1
  have le2 := Nat.le_of_dvd (by omega) d2
  rcases Nat.lt_or_ge 1 k with c | c
  · exfalso
    obtain ⟨q, hq, j, ej⟩ := pr_ex k k (Nat.le_refl _) (by omega)
    have j1 : 1 ≤ j := by
      rcases Nat.eq_zero_or_pos j with z | z
      · subst z; simp at ej; omega
      · exact z
    refine h q hq ((j : Int) * (Int.gcd p p' : Int)) ?_ (K.times j1)
    have : p = ((q * (j * Int.gcd p p') : Nat) : Int) := by
      rw [← Nat.mul_assoc, ← ej, Nat.mul_comm, ← ek]; omega
    exact this.trans (by simp [Int.natCast_mul])
  · have : Int.gcd p p' * k ≤ Int.gcd p p' * 1 := Nat.mul_le_mul_left _ c
    omega
end
end Cf
namespace Cf
/-! ### the cycle continued both ways -/
/-- the day with this number, counted from the first day of the cycle -/
def cdy (p : Int) (c : List Int) (i : Int) : Int := c.getD (i % (c.length : Int)).toNat 0 + i / (c.length : Int) * p
section
variable {S : Int → Bool} {s p : Int}
/-- the set as it would be, had it always repeated -/
def ext (S : Int → Bool) (s p d : Int) : Bool := S (s + (d - s) % p)
theorem ext_ge (F : Fr S s p) {d : Int} (h : s ≤ d) : ext S s p d = S d := F.mod h
theorem ext_per (d : Int) : ext S s p (d + p) = ext S s p d := by
  unfold ext
  rw [show d + p - s = (d - s) + p by omega, Int.add_emod_right]
theorem ext_mul (d : Int) : ∀ k : Nat, ext S s p (d + k * p) = ext S s p d
  | 0 => by simp
  | k + 1 => by
    rw [show d + ((k + 1 : Nat) : Int) * p = (d + k * p) + p by rw [show ((k + 1 : Nat) : Int) = (k : Int) + 1 by omega, Int.add_mul]; omega, ext_per]
    exact ext_mul d k
variable (F : Fr S s p) (hc : els S s (s + p) ≠ [])
include F hc
theorem cyc_pos : 0 < (els S s (s + p)).length := List.length_pos_iff.mpr hc
theorem cdy_mem (i : Int) : ∃ e, s ≤ e ∧ e < s + p ∧ S e = true ∧ cdy p (els S s (s + p)) i = e + i / ((els S s (s + p)).length : Int) * p := by
  have n0 := cyc_pos F hc
  have a := Int.emod_nonneg i (show ((els S s (s + p)).length : Int) ≠ 0 by omega)
  have b := Int.emod_lt_of_pos i (show 0 < ((els S s (s + p)).length : Int) by omega)
  have g := mem_els.mp (getD_mem (show (i % ((els S s (s + p)).length : Int)).toNat < (els S s (s + p)).length by omega))
  exact ⟨_, g.1.1, g.1.2, g.2, rfl⟩
theorem cdy_ext (i : Int) : ext S s p (cdy p (els S s (s + p)) i) = true := by
  obtain ⟨e, h1, h2, h3, h4⟩ := cdy_mem F hc i
  have p1 := F.p1
  rw [h4]
  unfold ext
  rw [show e + i / ((els S s (s + p)).length : Int) * p - s = (e - s) + i / ((els S s (s + p)).length : Int) * p by omega, Int.add_mul_emod_self_right, Int.emod_eq_of_lt (by omega) (by omega)]
  rw [show s + (e - s) = e by omega]
  exact h3
theorem cdy_step (i : Int) : cdy p (els S s (s + p)) (i + (els S s (s + p)).length) = cdy p (els S s (s + p)) i + p := by
  have n0 := cyc_pos F hc
  unfold cdy
  rw [Int.add_emod_right, Int.add_ediv_of_dvd_right (Int.dvd_refl _), Int.ediv_self (by omega), Int.add_mul]
  omega
theorem cdy_lt1 (i : Int) : cdy p (els S s (s + p)) i < cdy p (els S s (s + p)) (i + 1) := by
  have n0 := cyc_pos F hc
  have p1 := F.p1
  have A := asc_els S s (s + p)
  have M : ∀ k, k < (els S s (s + p)).length → s ≤ (els S s (s + p)).getD k 0 ∧ (els S s (s + p)).getD k 0 < s + p := fun k hk => (mem_els.mp (getD_mem hk)).1
  unfold cdy
  generalize els S s (s + p) = c at n0 A M
  have hn : (c.length : Int) ≠ 0 := by omega
  have a := Int.emod_nonneg i hn
  have b := Int.emod_lt_of_pos i (show 0 < (c.length : Int) by omega)
  have e := Int.mul_ediv_add_emod i c.length
  by_cases w : i % (c.length : Int) + 1 < c.length
  · have r : (i + 1) % (c.length : Int) = i % (c.length : Int) + 1 ∧ (i + 1) / (c.length : Int) = i / (c.length : Int) := by
      have e2 : i + 1 = (i % (c.length : Int) + 1) + i / (c.length : Int) * (c.length : Int) := by
        rw [Int.mul_comm (i / _)]; omega
      constructor
      · rw [e2, Int.add_mul_emod_self_right, Int.emod_eq_of_lt (by omega) w]
      · rw [e2, Int.add_mul_ediv_right _ _ hn, Int.ediv_eq_zero_of_lt (by omega) w]
        omega
    rw [r.1, r.2]
    have := asc_lt A (i := (i % (c.length : Int)).toNat) (j := (i % (c.length : Int) + 1).toNat) (by omega) (by omega)
    omega
  · have r : (i + 1) % (c.length : Int) = 0 ∧ (i + 1) / (c.length : Int) = i / (c.length : Int) + 1 := by
      have e2 : i + 1 = 0 + (i / (c.length : Int) + 1) * (c.length : Int) := by
        rw [Int.add_mul, Int.mul_comm (i / _)]; omega
      constructor
      · rw [e2, Int.add_mul_emod_self_right]; simp
      · rw [e2, Int.add_mul_ediv_right _ _ hn]; simp
    rw [r.1, r.2, Int.add_mul]
    have h1 := M (i % (c.length : Int)).toNat (by omega)
    have h2 := M (0 : Int).toNat (by omega)
    omega
theorem cdy_ltn (i : Int) : ∀ k : Nat, cdy p (els S s (s + p)) i < cdy p (els S s (s + p)) (i + (k + 1 : Nat))
  | 0 => cdy_lt1 F hc i
  | k + 1 => by
    have h1 := cdy_ltn i k
    have h2 := cdy_lt1 F hc (i + (k + 1 : Nat))
    rw [show i + ((k + 1 + 1 : Nat) : Int) = i + (k + 1 : Nat) + 1 by omega]
    omega
theorem cdy_lt {i j : Int} (h : i < j) : cdy p (els S s (s + p)) i < cdy p (els S s (s + p)) j := by
  have := cdy_ltn F hc i (j - i - 1).toNat
  rw [show i + (((j - i - 1).toNat + 1 : Nat) : Int) = j by omega] at this
  exact this
theorem cdy_le {i j : Int} (h : i ≤ j) : cdy p (els S s (s + p)) i ≤ cdy p (els S s (s + p)) j := by
  by_cases e : i = j
  · rw [e]; exact Int.le_refl _
  · exact Int.le_of_lt (cdy_lt F hc (by omega))
theorem cdy_of_lt {i j : Int} (h : cdy p (els S s (s + p)) i < cdy p (els S s (s + p)) j) : i < j := by
  rcases Int.lt_or_le i j with c | c
  · exact c
  · have := cdy_le F hc c; omega
theorem cdy_inj {i j : Int} (h : cdy p (els S s (s + p)) i = cdy p (els S s (s + p)) j) : i = j := by
  rcases Int.lt_trichotomy i j with c | c | c
  · have := cdy_lt F hc c; omega
  · exact c
  · have := cdy_lt F hc c; omega
theorem cdy_all {d : Int} (h : ext S s p d = true) : ∃ i, cdy p (els S s (s + p)) i = d := by
  have n0 := cyc_pos F hc
  have p1 := F.p1
  have a := Int.emod_nonneg (d - s) (show p ≠ 0 by omega)
  have b := Int.emod_lt_of_pos (d - s) (show 0 < p by omega)
  have e := Int.mul_ediv_add_emod (d - s) p
  obtain ⟨j, hj, ej⟩ := mem_getD (mem_els.mpr ⟨⟨by omega, by omega⟩, h⟩ : s + (d - s) % p ∈ els S s (s + p))
  refine ⟨(j : Int) + (d - s) / p * ((els S s (s + p)).length : Int), ?_⟩
  have hn : ((els S s (s + p)).length : Int) ≠ 0 := by omega
  unfold cdy
  rw [Int.add_mul_emod_self_right, Int.emod_eq_of_lt (by omega) (by omega), Int.add_mul_ediv_right _ _ hn, Int.ediv_eq_zero_of_lt (by omega) (by omega), Int.toNat_natCast, ej, Int.zero_add, Int.mul_comm ((d - s) / p)]
  omega
theorem cdy_nat {i : Nat} (h : i < (els S s (s + p)).length) : cdy p (els S s (s + p)) i = (els S s (s + p)).getD i 0 := by
  unfold cdy
  rw [Int.emod_eq_of_lt (by omega) (by omega), Int.ediv_eq_zero_of_lt (by omega) (by omega), Int.toNat_natCast]
  omega
theorem cdy_zero : s ≤ cdy p (els S s (s + p)) 0 := by
  have n0 := cyc_pos F hc
  have := cdy_nat F hc n0
  rw [show ((0 : Nat) : Int) = 0 from rfl] at this
  rw [this]
  exact (mem_els.mp (getD_mem n0)).1.1
theorem cdy_neg {i : Int} (h : i < 0) : cdy p (els S s (s + p)) i < s := by
  have n0 := cyc_pos F hc
  have hl : cdy p (els S s (s + p)) (((els S s (s + p)).length - 1 : Nat) : Int) < s + p := by
    rw [cdy_nat F hc (by omega)]
    exact (mem_els.mp (getD_mem (by omega))).1.2
  have h1 := cdy_step F hc (-1)
  have h2 := cdy_le F hc (show i ≤ -1 by omega)
  rw [show (-1 : Int) + ((els S s (s + p)).length : Int) = (((els S s (s + p)).length - 1 : Nat) : Int) by omega] at h1
  omega
end
/-! ### the least start -/
section
variable {S : Int → Bool} {s p : Int}
/-- what the walk back has found: so many days of the head are also days of the cycle, continued -/
structure Bak (S : Int → Bool) (s p : Int) (k : Nat) : Prop where
  le : k ≤ (els S 0 s).length
  same : ∀ j, j < k → (els S 0 s).getD ((els S 0 s).length - 1 - j) 0 = cdy p (els S s (s + p)) (-1 - (j : Int))
/-- the last day that is told apart -/
def apart (S : Int → Bool) (s p : Int) (k : Nat) : Int :=
  let u := cdy p (els S s (s + p)) (-1 - (k : Int))
  let r := (els S 0 s).take ((els S 0 s).length - k)
  if r ≠ [] ∧ u < r.getD (r.length - 1) 0 then r.getD (r.length - 1) 0 else u
structure Start (S : Int → Bool) (s p : Int) (k : Nat) (s' : Int) : Prop where
  can : Fr S s' p ∧ ∀ s'', Fr S s'' p → s' ≤ s''
  le : s' ≤ s
  head : (els S 0 s).take ((els S 0 s).length - k) = els S 0 s'
  cyc : (List.range (els S s (s + p)).length).map (fun (j : Nat) => cdy p (els S s (s + p)) ((j : Int) - k)) = els S s' (s' + p)
set_option maxHeartbeats 2000000 in
theorem start_of (F : Fr S s p) (hc : els S s (s + p) ≠ []) {k : Nat} (B : Bak S s p k) (stop : k = (els S 0 s).length ∨ (els S 0 s).getD ((els S 0 s).length - 1 - k) 0 ≠ cdy p (els S s (s + p)) (-1 - (k : Int))) :
    Start S s p k (if 0 < apart S s p k + 1 then apart S s p k + 1 else 0) := by
  have p1 := F.p1
  have s0 := F.s0
  have Ah := asc_els S 0 s
  have Mh := @mem_els S 0 s
  have hle := B.le
  have hsame := B.same
  have n0 := cyc_pos F hc
  have L := @cdy_lt S s p F hc
  have LE := @cdy_le S s p F hc
  have OL := @cdy_of_lt S s p F hc
  have IJ := @cdy_inj S s p F hc
  have EX := @cdy_ext S s p F hc
  have AL := @cdy_all S s p F hc
  have Z := cdy_zero F hc
  have NG := @cdy_neg S s p F hc
  have ST := @cdy_step S s p F hc
  generalize hh : els S 0 s = h at *
  -- the rest of the head
  have rl : (h.take (h.length - k)).length = h.length - k := by rw [List.length_take]; omega
  have rmem : ∀ {d}, d ∈ h.take (h.length - k) → ∃ i, i < h.length - k ∧ h.getD i 0 = d := fun {d} m => by
    obtain ⟨i, hi, e⟩ := mem_getD m
    rw [rl] at hi
    rw [getD_take hi] at e
    exact ⟨i, hi, e⟩
  have rin : ∀ i, i < h.length - k → h.getD i 0 ∈ h.take (h.length - k) := fun i hi => by
    have := getD_mem (l := h.take (h.length - k)) (i := i) (by rw [rl]; exact hi)
    rw [getD_take hi] at this
    exact this
  -- the last day apart
  have ap : apart S s p k = (if h.take (h.length - k) ≠ [] ∧ cdy p (els S s (s + p)) (-1 - (k : Int)) < h.getD (h.length - k - 1) 0 then h.getD (h.length - k - 1) 0 else cdy p (els S s (s + p)) (-1 - (k : Int))) := by
    unfold apart
    rw [hh]
    dsimp only
    rw [rl]
    by_cases c : h.take (h.length - k) = []
    · rw [if_neg (fun z => z.1 c), if_neg (fun z => z.1 c)]
    · have : 0 < h.length - k := by
        rcases Nat.eq_zero_or_pos (h.length - k) with z | z
        · rw [z] at c; exact absurd rfl c
        · exact z
      rw [getD_take (show h.length - k - 1 < h.length - k by omega)]
  generalize hu0 : cdy p (els S s (s + p)) (-1 - (k : Int)) = u0 at ap stop
  have u0s : u0 < s := by rw [← hu0]; exact NG (by omega)
  have u0e : ext S s p u0 = true := by rw [← hu0]; exact EX _
  generalize apart S s p k = u at ap
  have uu0 : u0 ≤ u := by rw [ap]; split <;> omega
  have rest_le : ∀ i, i < h.length - k → h.getD i 0 ≤ u := fun i hi => by
    have a := asc_le Ah (show i ≤ h.length - k - 1 by omega) (by omega)
    have ne : h.take (h.length - k) ≠ [] := List.ne_nil_of_mem (rin i hi)
    rw [ap]
    by_cases c : u0 < h.getD (h.length - k - 1) 0
    · rw [if_pos ⟨ne, c⟩]; exact a
    · rw [if_neg fun z => c z.2]; omega
  have us : u < s := by
    rw [ap]
    split
    · rename_i z
      have lt : h.length - k - 1 < h.length := by
        have : 0 < h.length - k := by
          rcases Nat.eq_zero_or_pos (h.length - k) with w | w
          · rw [w] at z; exact absurd rfl z.1
          · exact w
        omega
      exact (Mh.mp (getD_mem lt)).1.2
    · exact u0s
  -- the days of the head that are also days of the cycle
  have tail_gt : ∀ j, j < k → u < h.getD (h.length - 1 - j) 0 := fun j hj => by
    have g := hsame j hj
    have a : u0 < h.getD (h.length - 1 - j) 0 := by
      rw [g, ← hu0]
      exact L (by omega)
    rw [ap]
    split
    · rename_i z
      have : 0 < h.length - k := by
        rcases Nat.eq_zero_or_pos (h.length - k) with w | w
        · rw [w] at z; exact absurd rfl z.1
        · exact w
      exact asc_lt Ah (by omega) (by omega)
    · exact a
  have split_h : ∀ {d}, d ∈ h → d ∈ h.take (h.length - k) ∨ ∃ j, j < k ∧ d = h.getD (h.length - 1 - j) 0 := fun {d} m => by
    obtain ⟨i, hi, e⟩ := mem_getD m
    by_cases c : i < h.length - k
    · exact .inl (by rw [← e]; exact rin i c)
    · exact .inr ⟨h.length - 1 - i, by omega, by rw [show h.length - 1 - (h.length - 1 - i) = i by omega]; exact e.symm⟩
  generalize hs' : (if 0 < u + 1 then u + 1 else 0) = s'
  have s'0 : 0 ≤ s' := by rw [← hs']; split <;> omega
  have s's : s' ≤ s := by rw [← hs']; split <;> omega
  have s'u : u < s' := by rw [← hs']; split <;> omega
  have s'e : ∀ d, 0 ≤ d → d < s' → d ≤ u := fun d h1 h2 => by
    rw [← hs'] at h2
    split at h2 <;> omega
  -- from there on it is the cycle continued
  have agree : ∀ d, s' ≤ d → S d = ext S s p d := fun d hd => by
    by_cases c : s ≤ d
    · exact (ext_ge F c).symm
    · have a : S d = true → ext S s p d = true := fun q => by
        rcases split_h (Mh.mpr ⟨⟨by omega, by omega⟩, q⟩) with m | ⟨j, hj, e⟩
        · obtain ⟨i, hi, e⟩ := rmem m
          have := rest_le i hi
          omega
        · rw [e, hsame j hj]
          exact EX _
      have b : ext S s p d = true → S d = true := fun q => by
        obtain ⟨i, e⟩ := AL q
        have i0 : i < 0 := by
          rcases Int.lt_or_le i 0 with w | w
          · exact w
          · have := LE w; omega
        have ik : -1 - (k : Int) < i := OL (by rw [hu0, e]; omega)
        have g := hsame (-1 - i).toNat (by omega)
        rw [show -1 - (((-1 - i).toNat : Nat) : Int) = i by omega, e] at g
        have m := getD_mem (l := h) (i := h.length - 1 - (-1 - i).toNat) (by omega)
        rw [g] at m
        exact (Mh.mp m).2
      exact Bool.eq_iff_iff.mpr ⟨a, b⟩
  refine ⟨⟨⟨s'0, p1, fun d hd => ?_⟩, fun s'' G => ?_⟩, s's, ?_, ?_⟩
  · rw [agree _ (by omega), agree _ hd, ext_per]
  · -- the least start
    rcases Int.lt_or_le s'' s' with w | w
    · exfalso
      have g0 := G.s0
      have su : s' = u + 1 ∧ 0 ≤ u := by
        rw [← hs'] at w ⊢
        split at w <;> rename_i z
        · rw [if_pos z]; omega
        · omega
      have e1 : S u = ext S s p u := by
        have k1 : s ≤ u + ((s - u).toNat : Int) * p := by
          have : ((s - u).toNat : Int) * 1 ≤ ((s - u).toNat : Int) * p := Int.mul_le_mul_of_nonneg_left p1 (by omega)
          omega
        rw [← G.mul (s - u).toNat u (by omega), ← ext_ge F k1, ext_mul]
      rw [ap] at e1 su
      by_cases c : h.take (h.length - k) ≠ [] ∧ u0 < h.getD (h.length - k - 1) 0
      · rw [if_pos c] at e1 su
        have pos : 0 < h.length - k := by
          rcases Nat.eq_zero_or_pos (h.length - k) with w | w
          · rw [w] at c; exact absurd rfl c.1
          · exact w
        have m := Mh.mp (getD_mem (l := h) (i := h.length - k - 1) (by omega))
        rw [m.2] at e1
        obtain ⟨i, e⟩ := AL e1.symm
        have ik : -1 - (k : Int) < i := OL (by rw [hu0, e]; exact c.2)
        have i0 : i < 0 := by
          rcases Int.lt_or_le i 0 with w | w
          · exact w
          · have := LE w; omega
        have g := hsame (-1 - i).toNat (by omega)
        rw [show -1 - (((-1 - i).toNat : Nat) : Int) = i by omega, e] at g
        have := asc_lt Ah (show h.length - k - 1 < h.length - 1 - (-1 - i).toNat by omega) (by omega)
        omega
      · rw [if_neg c] at e1 su
        rw [u0e] at e1
        have m : u0 ∈ h := Mh.mpr ⟨⟨su.2, u0s⟩, e1⟩
        rcases split_h m with m | ⟨j, hj, e⟩
        · have ne := List.ne_nil_of_mem m
          obtain ⟨i, hi, e⟩ := rmem m
          have a := asc_le Ah (show i ≤ h.length - k - 1 by omega) (by omega)
          have b : ¬ u0 < h.getD (h.length - k - 1) 0 := fun z => c ⟨ne, z⟩
          rcases stop with st | st
          · omega
          · rw [show h.length - 1 - k = h.length - k - 1 by omega] at st
            omega
        · rw [hsame j hj, ← hu0] at e
          have := IJ e
          omega
    · exact w
  · -- the head
    rw [hh]
    refine asc_ext (Ah.sublist (List.take_sublist _ _)) (asc_els _ _ _) fun d => ?_
    rw [mem_els]
    constructor
    · intro m
      obtain ⟨i, hi, e⟩ := rmem m
      have g := Mh.mp (getD_mem (l := h) (i := i) (by omega))
      have := rest_le i hi
      rw [e] at g this
      exact ⟨⟨g.1.1, by omega⟩, g.2⟩
    · rintro ⟨⟨h1, h2⟩, h3⟩
      have := s'e d h1 h2
      rcases split_h (Mh.mpr ⟨⟨h1, by omega⟩, h3⟩) with m | ⟨j, hj, e⟩
      · exact m
      · have := tail_gt j hj
        omega
  · -- the cycle
    have first : s' ≤ cdy p (els S s (s + p)) (-(k : Int)) := by
      by_cases k0 : k = 0
      · subst k0
        exact Int.le_trans s's Z
      · have g := hsame (k - 1) (by omega)
        rw [show -1 - ((k - 1 : Nat) : Int) = -(k : Int) by omega] at g
        have t := tail_gt (k - 1) (by omega)
        have m := (Mh.mp (getD_mem (l := h) (i := h.length - 1 - (k - 1)) (by omega))).1.1
        rw [g] at t m
        rw [← hs']
        split <;> omega
    refine asc_ext ?_ (asc_els _ _ _) fun d => ?_
    · unfold Asc
      rw [List.pairwise_map]
      exact List.Pairwise.imp (fun q => L (by omega)) List.pairwise_lt_range
    · rw [List.mem_map, mem_els]
      constructor
      · rintro ⟨j, hj, rfl⟩
        rw [List.mem_range] at hj
        have a := LE (show -(k : Int) ≤ (j : Int) - k by omega)
        have b := LE (show (j : Int) - k ≤ (-1 - (k : Int)) + ((els S s (s + p)).length : Int) by omega)
        rw [ST, hu0] at b
        refine ⟨⟨by omega, by omega⟩, ?_⟩
        rw [agree _ (by omega)]
        exact EX _
      · rintro ⟨⟨h1, h2⟩, h3⟩
        rw [agree d h1] at h3
        obtain ⟨i, e⟩ := AL h3
        have a : -1 - (k : Int) < i := OL (by rw [hu0, e]; omega)
        have b : i < -(k : Int) + ((els S s (s + p)).length : Int) := OL (by rw [ST, e]; omega)
        refine ⟨(i + k).toNat, by rw [List.mem_range]; omega, ?_⟩
        rw [show (((i + k).toNat : Nat) : Int) - k = i by omega]
        exact e
end
end Cf
namespace Cf
/-! ### the days by their numbers -/
section
variable {S : Int → Bool} {s p : Int}
def dAt (S : Int → Bool) (s p : Int) (i : Nat) : Int := if i < (els S 0 s).length then (els S 0 s).getD i 0 else cdy p (els S s (s + p)) ((i - (els S 0 s).length : Nat) : Int)
def Val (S : Int → Bool) (s p : Int) (i : Nat) : Prop := i < (els S 0 s).length ∨ els S s (s + p) ≠ []
/-- so many days are before this one -/
structure Rk (S : Int → Bool) (s p day : Int) (c : Nat) : Prop where
  lo : ∀ i, i < c → Val S s p i ∧ dAt S s p i < day
  hi : ∀ i, c ≤ i → Val S s p i → day ≤ dAt S s p i
theorem dAt_mem (F : Fr S s p) {i : Nat} (h : Val S s p i) : S (dAt S s p i) = true ∧ 0 ≤ dAt S s p i := by
  unfold dAt
  by_cases c : i < (els S 0 s).length
  · rw [if_pos c]
    have := mem_els.mp (getD_mem c)
    exact ⟨this.2, this.1.1⟩
  · rw [if_neg c]
    have hc := h.resolve_left c
    have z := cdy_zero F hc
    have l := cdy_le F hc (show 0 ≤ ((i - (els S 0 s).length : Nat) : Int) by omega)
    have e := cdy_ext F hc ((i - (els S 0 s).length : Nat) : Int)
    rw [ext_ge F (by omega)] at e
    exact ⟨e, by have := F.s0; omega⟩
theorem dAt_lt (F : Fr S s p) {i j : Nat} (h : i < j) (v : Val S s p j) : dAt S s p i < dAt S s p j := by
  unfold dAt
  by_cases c : j < (els S 0 s).length
  · rw [if_pos c, if_pos (by omega)]
    exact asc_lt (asc_els S 0 s) h c
  · rw [if_neg c]
    have hc := v.resolve_left c
    have z := cdy_zero F hc
    by_cases d : i < (els S 0 s).length
    · rw [if_pos d]
      have := (mem_els.mp (getD_mem d)).1.2
      have l := cdy_le F hc (show 0 ≤ ((j - (els S 0 s).length : Nat) : Int) by omega)
      omega
    · rw [if_neg d]
      exact cdy_lt F hc (by omega)
theorem dAt_all (F : Fr S s p) {d : Int} (h : S d = true) (h0 : 0 ≤ d) : ∃ i, Val S s p i ∧ dAt S s p i = d := by
  by_cases c : d < s
  · obtain ⟨i, hi, e⟩ := mem_getD (mem_els.mpr ⟨⟨h0, c⟩, h⟩ : d ∈ els S 0 s)
    exact ⟨i, .inl hi, by unfold dAt; rw [if_pos hi]; exact e⟩
  · have hc : els S s (s + p) ≠ [] := by
      have p1 := F.p1
      have m0 := Int.emod_nonneg (d - s) (show p ≠ 0 by omega)
      have m1 := Int.emod_lt_of_pos (d - s) (show 0 < p by omega)
      refine List.ne_nil_of_mem (mem_els.mpr ⟨⟨?_, ?_⟩, (F.mod (by omega)).trans h⟩ : s + (d - s) % p ∈ _) <;> omega
    obtain ⟨i, e⟩ := cdy_all F hc ((ext_ge F (by omega)).trans h)
    have i0 : 0 ≤ i := by
      rcases Int.lt_or_le i 0 with z | z
      · have := cdy_neg F hc z; omega
      · exact z
    refine ⟨(els S 0 s).length + i.toNat, .inr hc, ?_⟩
    unfold dAt
    rw [if_neg (by omega), show (((els S 0 s).length + i.toNat - (els S 0 s).length : Nat) : Int) = i by omega]
    exact e
theorem Rk.uniq (F : Fr S s p) {day : Int} {c c' : Nat} (A : Rk S s p day c) (B : Rk S s p day c') : c = c' := by
  rcases Nat.lt_trichotomy c c' with h | h | h
  · have q := B.lo c h
    have := A.hi c (Nat.le_refl _) q.1
    omega
  · exact h
  · have q := A.lo c' h
    have := B.hi c' (Nat.le_refl _) q.1
    omega
end
end Cf
/-! Own layer: operators of own classes, their truth, an attribute as a target, a class held by a name. -/
namespace Cf
open PySem PySem.Spec PyProof.Rows L2
/-- the class at C has the def at f under this name -/
structure Own (K : PySem.W.Frag) (C : Addr) (nm : Str) (f : Addr) : Prop where
  at_ : PySem.W.findIn K (.ref C) nm = some (some (.ref f))
  fn : PySem.W.isFn K (.ref f) = true
/-- two instances of the class at C, as the def's promise says -/
def rOwn (C : Addr) (sp : Sp) : R2 := fun x y H Q => ∃ a b dx dy fs gs, x = .ref a ∧ y = .ref b ∧ H a = some (.ins C dx fs) ∧ H b = some (.ins C dy gs) ∧ sp [.ref a, .ref b] H Q E0
section
variable {X : Cx} {k : Nat} {C f : Addr} {fd : FuncData} {ps : List Str} {sp : Sp}
theorem back_of {X : Cx} {pins : List (Addr × Obj)} {σ : L2.St} {Q : VK} {v : Value} {s' : Shared} (h : EP X pins σ Q v s') : PySem.W.CmpBack (EP X pins σ Q) v s' := by
  obtain ⟨z, H', I, r, q⟩ := id h
  cases v <;> first | exact h | (cases z <;> first | exact r.elim | (obtain ⟨_, e⟩ := r; cases e) | cases r)
theorem op_own {op : Operator} (hc : PySem.W.selfFirst X.K C = true) (o : Own X.K C (PySem.dunder op.info.2) f) (F : FnOk X.prog X.w X.K X.mg X.base CX0 k f fd ps sp) (hb : Binds X.K fd ps []) (hr : Room k X.A) : OpR X (binaryOp op) (rOwn C sp) := by
  intro pins s σ H x y v u Q I rx ry h
  obtain ⟨a, b, dx, dy, fs, gs, rfl, rfl, ha, hb', q⟩ := h
  cases rx
  cases ry
  obtain ⟨mA, J, _⟩ := ins_get I.hok ha
  obtain ⟨mB, J', _⟩ := ins_get I.hok hb'
  obtain ⟨od, J, _⟩ := J.look
  obtain ⟨od', J', _⟩ := J'.look
  obtain ⟨m, hF⟩ := I.fr
  exact PySem.W.binop_K hF I.ok.mod.kin J J'.type hc o.at_ o.fn (thn (run_fn (us := [.ref a, .ref b]) (vs := [.ref a, .ref b]) F hr hb .nil pass0 I (.cons rfl (.cons rfl .nil)) q) fun v s' z => back_of z)
/-- x == y of two instances by the own __eq__ -/
theorem op_ownEq (hn : PySem.W.notFirst X.K C (.ref C) = true) (o : Own X.K C "__eq__" f) (F : FnOk X.prog X.w X.K X.mg X.base CX0 k f fd ps sp) (hb : Binds X.K fd ps []) (hr : Room k X.A) (hu : X.A.units < cLine) : OpR X (compareOp .Eq) (rOwn C sp) := by
  intro pins s σ H x y v u Q I rx ry h
  obtain ⟨a, b, dx, dy, fs, gs, rfl, rfl, ha, hb', q⟩ := h
  cases rx
  cases ry
  obtain ⟨mA, J, _⟩ := ins_get I.hok ha
  obtain ⟨mB, J', _⟩ := ins_get I.hok hb'
  obtain ⟨od, J, _⟩ := J.look
  obtain ⟨od', J', _⟩ := J'.look
  obtain ⟨m, hF⟩ := I.fr
  show wpAny (model X.prog X.w) X.A (richCompare .Eq (.ref a) (.ref b)) (EP X pins σ Q) X.xe s
  exact PySem.W.cmp_K (op := .Eq) (tb := .ref C) hu hF I.ok.mod.kin J J'.type hn o.at_ o.fn (thn (run_fn (us := [.ref a, .ref b]) (vs := [.ref a, .ref b]) F hr hb .nil pass0 I (.cons rfl (.cons rfl .nil)) q) fun v s' z => back_of z)
/-- an instance's truth by the own __bool__ -/
def rTru (C : Addr) (sp : Sp) : V → Hp → (Bool → Hp → Prop) → Prop := fun x H Q => ∃ a dx fs, x = .ref a ∧ H a = some (.ins C dx fs) ∧ sp [.ref a] H (fun v H' => ∃ b, v = .bl b ∧ Q b H') E0
theorem tru_own (o : Own X.K C "__bool__" f) (F : FnOk X.prog X.w X.K X.mg X.base CX0 k f fd ps sp) (hb : Binds X.K fd ps []) (hr : Room k X.A) : TruR X (rTru C sp) := by
  intro pins s σ H x v Q I rx h
  obtain ⟨a, dx, fs, rfl, ha, q⟩ := h
  cases rx
  obtain ⟨mA, J, _⟩ := ins_get I.hok ha
  obtain ⟨od, J, _⟩ := J.look
  obtain ⟨m, hF⟩ := I.fr
  refine PySem.W.truthy_K hF I.ok.mod.kin J o.at_ o.fn (thn (run_fn (us := [.ref a]) (vs := [.ref a]) F hr hb .nil pass0 I (.cons rfl .nil) q) fun v s' z => ?_)
  obtain ⟨z, H', I', r, b, rfl, q⟩ := z
  cases r
  exact ⟨H', I', q⟩
/-- not e, e an instance -/
def tNotO (r : V → Hp → (Bool → Hp → Prop) → Prop) (ta : TE) : TE := fun σ H Q => ta σ H fun x H1 => r x H1 fun b H2 => Q (.bl (!b)) H2
theorem pe_notO {r : V → Hp → (Bool → Hp → Prop) → Prop} {e : Expr} {ta : TE} {pos : Pos} (ht : TruR X r) (ha : PE X e ta) : PE X (.UnaryOp .Not e pos) (tNotO r ta) := by
  refine ⟨fun pins s σ H Q I h => ?_⟩
  refine UnaryOp_ (thn (ha.run pins s σ H _ I h) fun v s1 ⟨x, H1, I1, r1, q1⟩ => ?_)
  refine not_of (thn (ht pins s1 σ H1 x v _ I1 r1 q1) fun b s2 ⟨H2, I2, q2⟩ => ⟨.bl (!b), H2, I2, rfl, q2⟩)
/-- o.f as one of several targets -/
def gFld (K : PySem.W.Frag) (ta : TE) (f : Str) : TG := fun v σ H Q => ta σ H fun x H1 => ∃ a C dx fs, x = .ref a ∧ H1 a = some (.ins C dx fs) ∧ Cls K C ∧ NoAttr K C f ∧ fs.length < 1000 ∧ Q σ (upd H1 a (.ins C dx (putF f v fs)))
theorem pg_fld {o : Expr} {fn : Str} {pos : Pos} {ta : TE} (ho : PE X o ta)
    (ha : ∀ v, assign (.Attribute o fn pos) X.env v = (do
      let ov ← holding [v] (eval o X.env)
      standAt pos.atName
      holding [v, ov] (setAttr ov fn v)
      release [v, ov] []) := by intro _; rfl) : PG X (.Attribute o fn pos) (gFld X.K ta fn) := by
  refine ⟨fun pins s σ H v u Q I r h => ?_⟩
  rw [ha]
  refine wpAny_bind (wpAny_holding (thn (ho.run pins s σ H _ I h) fun ov s1 ⟨x, H1, I1, r1, a, C, dx, fs, ex, ea, c, n, l, q⟩ => ?_))
  subst ex
  obtain rfl : ov = Value.ref a := r1
  refine wpAny_bind (wpAny_standAt (wpAny_bind (wpAny_holding (setattr_ok I1 ea c n l r fun s3 I3 => ?_))))
  exact wpAny_release ⟨σ, _, I3, q⟩
/-- x(..), x a local name that holds the class at C -/
def tMakeL (i : Nat) (C : Addr) (sp : Sp) (t : TA) : TE := fun σ H Q => σ[i]? = some (some (.ref C)) ∧ tMake C sp [] E0 t σ H Q
theorem pe_makeL {i : Nat} {fI : Addr} {x : Str} {p pos : Pos} {e : Expr} {es : List Expr} {t : TA} (M : Mk X.K C fI) (F : FnOk X.prog X.w X.K X.mg X.base CX0 k fI fd ps sp) (hr : Room (k + 1) X.A) (hN : X.N[i]? = some x) (hv : Vis X.env.scope x) (hb : Binds X.K fd ps []) (ha : PA X (e :: es) t)
    (hdb : (x == ("__debug__" : Str)) = false := by decide) (hcd : (x == ("__classdict__" : Str)) = false := by decide)
    (he : starEach (e :: es) X.env = (false, eval e X.env) :: starEach es X.env := by rfl) (hpl : (backTo pos (starEach es X.env)).any (·.1) = false := by rfl) : PE X (.Call (.Name x p) (e :: es) [] pos) (tMakeL i C sp t) := by
  refine ⟨fun pins s σ H Q I h => ?_⟩
  obtain ⟨hs, ht⟩ := h
  refine wpAny_Call_Name_kw (thn ((pe_var (pos := p) hN hv hdb hcd).run pins s σ H (fun v H1 => v = .ref C ∧ H1 = H) I ⟨.ref C, hs, rfl, rfl⟩) fun u s1 ⟨v, H1, I1, r1, q1⟩ => ?_)
  obtain ⟨rfl, rfl⟩ := q1
  cases r1
  refine PySem.W.callWith_K (h₀ := X.base) I.ok.mod.kin M.kp (thn (ha.run pos pins s1 σ _ _ I1 ht) fun us s2 ⟨vs, H2, I2, r, q⟩ => ⟨I2.kIn, ?_⟩) he hpl
  exact run_make M F hr hb .nil pass0 I2 r q
end
/-! ### math.lcm -/
def rLcm : List V → Hp → VK → Prop := fun vs H Q => ∃ a b : Int, vs = [.int a, .int b] ∧ a.natAbs < 1000000 ∧ b.natAbs < 1000000 ∧ Q (.int ((Nat.lcm a.natAbs b.natAbs : Nat) : Int)) H
theorem cr_lcm {X : Cx} : CallR X (.builtin "math.lcm") rLcm := by
  intro pins s σ H vs us Q I r h
  obtain ⟨a, b, rfl, ha, hb, q⟩ := h
  obtain ⟨t, u, rfl⟩ := Vals.int2 r
  have small : (Nat.lcm a.natAbs b.natAbs).log2 < bitsLine := by
    have h1 : Nat.lcm a.natAbs b.natAbs ≤ a.natAbs * b.natAbs := Nat.div_le_self _ _
    have h2 : a.natAbs * b.natAbs ≤ 1000000 * 1000000 := Nat.mul_le_mul (by omega) (by omega)
    by_cases z : Nat.lcm a.natAbs b.natAbs = 0
    · rw [z]; decide
    · exact Nat.lt_trans ((Nat.log2_lt z).mpr (Nat.lt_of_le_of_lt (Nat.le_trans h1 h2) (by decide +kernel : 1000000 * 1000000 < 2 ^ 64))) (by decide +kernel)
  refine PySem.W.mg_lcm (by omega) (by omega) (by rw [Nat.lcm_one_left]; exact small) ?_
  rw [Nat.lcm_one_left]
  exact ⟨.int _, H, I.tok _, ⟨_, rfl⟩, q⟩
end Cf
/-! Own layer: a set made of a list of ints, of any length below the scan bound; sorted of such. -/
namespace Cf
open PySem PySem.Spec PyProof.Rows L2
section
variable {prog : Program} {w : World} {A : Around} {R : Result → Shared → Prop} {I : Addr} {fp wr : List Addr} {G : Array GenState → Array GenState → Prop} {n : Nat} {P : Nat → Value → Prop} {St : Nat → Shared → Prop}
/-- the loop of an update, the set's table known to rise -/
theorem upd_loop (W : WalksS prog w A.in1 I fp wr G n P St) (Z : Addr) (nZ : Z ∉ fp) (val : Nat → Int) (hval : ∀ i v, P i v → ∃ t, v = .int (val i) t) (room : n + 1 < scanBound) :
    ∀ (k i : Nat) (s : Shared) (S : Int → Bool) (c : Nat), n - i = k → i ≤ n → c ≤ i → St i s → SetR w s.heap Z S c →
      (∀ s' S' c', Moved (Z :: wr) G s s' → c' ≤ n → (∀ z, S' z = true ↔ (S z = true ∨ ∃ j, i ≤ j ∧ j < n ∧ val j = z)) → SetR w s'.heap Z S' c' → R (.ok (.ret .none)) s') →
      codeAny (model prog w) A (.builtin "set.update.loop" ⟨[.ref Z, .ref I], []⟩) R s := by
  have nZw : Z ∉ wr := fun q => nZ (W.sub _ q)
  have sub2 : ∀ b ∈ wr, b ∈ Z :: wr := fun b q => List.mem_cons_of_mem _ q
  intro k; induction k with
  | zero =>
    intro i s S c ek li lc st rs fin
    have e : i = n := by omega
    subst e
    refine codeAny_builtin F.entry_set_update_loop ?_; rw [Around.under_plainId F.plain_set_update_loop _]
    show wpAny _ A.in1 (pyNext (.ref I) >>= _) _ _ s; refine wpAny_bind (W.done s _ _ st fun s' mv => ?_)
    show wpAny _ A.in1 (ret Value.none) _ _ s'; refine wpAny_pure (fin s' S c (mv.mono sub2) (by omega) (fun z => ?_) (rs.at fun o q => mv.heap Z _ nZw q))
    exact ⟨.inl, fun q => q.elim id fun ⟨j, a, b, _⟩ => by omega⟩
  | succ k ih =>
    intro i s S c ek li lc st rs fin
    have lt : i < n := by omega
    refine codeAny_builtin F.entry_set_update_loop ?_; rw [Around.under_plainId F.plain_set_update_loop _]
    show wpAny _ A.in1 (pyNext (.ref I) >>= _) _ _ s; refine wpAny_bind (W.item i s _ _ lt st fun v s' pv' st' mv => ?_)
    obtain ⟨t, rfl⟩ := hval i v pv'
    have rs' : SetR w s'.heap Z S c := rs.at fun o q => mv.heap Z _ nZw q
    show wpAny _ A.in1 (holding [Value.int (val i) t] (setAdd Z (.int (val i) t)) >>= _) _ _ s'; refine wpAny_bind (wpAny_holding ?_)
    unfold setAdd; refine wpAny_holding ?_; refine wpAny_bind ((intKind prog w).pyHash (k := val i) (intKind_is _ _ _ _) ?_)
    refine setR_add_hashed (s := { s' with toks := s'.toks + 1 }) rs' (by omega) fun h' sb r2 => ?_
    refine wpAny_pure ⟨plainId_quiet F.plain_set_update_loop _, ih (i + 1) _ _ _ (by omega) lt (by split <;> omega) (W.frame _ s' _ _ st' (Nat.le_succ _) fun b hb o e => ?_) r2 fun s'' S'' c'' mv2 lc2 mem r3 => ?_⟩
    · rw [sb.2 b (fun q : b = Z => nZ (by rw [← q]; exact hb))]; exact e
    · refine fin s'' S'' c'' (Moved.trans W.gtrans ((mv.mono sub2).then_heap (Nat.le_succ _) fun b o hb e => ?_) mv2) lc2 (fun z => ?_) r3
      · rw [sb.2 b (fun q : b = Z => hb (by rw [q]; exact List.mem_cons_self))]; exact e
      · rw [mem z]
        constructor
        · rintro (q | ⟨j, a, b, e⟩)
          · rcases Bool.or_eq_true_iff.mp q with q | q
            · exact .inl q
            · exact .inr ⟨i, Nat.le_refl _, lt, (of_decide_eq_true q).symm⟩
          · exact .inr ⟨j, by omega, b, e⟩
        · rintro (q | ⟨j, a, b, e⟩)
          · exact .inl (Bool.or_eq_true_iff.mpr (.inl q))
          · by_cases ej : j = i
            · subst ej; exact .inl (Bool.or_eq_true_iff.mpr (.inr (decide_eq_true e.symm)))
            · exact .inr ⟨j, by omega, b, e⟩
end
section
variable {prog : Program} {w : World} {A : Around} {E : Value → Shared → Prop} {s : Shared}
theorem new_set1 (a : Value) {Q₁ : Value → Shared → Prop}
    (h : Q₁ (.ref s.heap.objs.size) { s with heap := s.heap.push { cls := .type "set", dict := none, data := .set #[] 0 (.fresh 0 0 (!w.params.followText "set-order")) } }) :
    codeAny (model prog w) A (.call (.builtin "set.__new__") ⟨[.type "set", a], []⟩) (wants Q₁ E) s := by
  refine codeAny_of_tree ?_; show wpAny _ A.in1 (do checkBuiltinCall "set.__new__" ⟨[.type "set", a], []⟩; again (.builtin "set.__new__" ⟨[.type "set", a], []⟩)) _ _ s
  refine wpAny_bind (wpAny_of_eq (F.newCall_set_1 a) (wpAny_pure ⟨plainId_quiet F.plain_set_new _, codeAny_builtin F.entry_set_new ?_⟩)); rw [Around.under_plainId F.plain_set_new _]
  unfold Builtin.«set.__new__» Builtin.Frozenset.newClass; have sb := sub_set_self; obtain ⟨hp, g, d, tk, os⟩ := s; dsimp only
  wp_walk
  refine wpAny_askSetting (wpAny_pure ?_); dsimp only; simp only [newObj]; refine wpAny_bind (wpAny_alloc (wpAny_pure ?_))
  exact wpAny_pure h
set_option maxHeartbeats 3200000 in
/-- set(l), l a list of ints -/
theorem call_setL {l : Addr} {items : Array Value} {ns : List Int} {Q : Value → Shared → Prop} (hh : A.handled = none) (hl : s.heap.IsList l items) (hi : PyProof.Rows.IntsAre items.toList ns) (room : items.size + 1 < scanBound)
    (fin : ∀ (h' : Heap) (tk : Nat) (S : Int → Bool) (c : Nat), c ≤ items.size → (∀ z, S z = true ↔ z ∈ ns) → SetR w h' s.heap.objs.size S c → (∀ b o, b < s.heap.objs.size → s.heap.get? b = some o → h'.get? b = some o) → Q (.ref s.heap.objs.size) { s with heap := h', toks := tk }) :
    wpAny (model prog w) A (call (.type "set") [.ref l]) Q E s := by
  obtain ⟨cM, tM, eM⟩ := F.called_set.mro; have m1 := F.called_set.made; have m2 := F.called_set.sub
  refine wpAny_call (codeAny_of_tree ?_); show wpAny _ _ (callAny (.type "set") _) _ _ _
  refine wpAny_pure ⟨Code.quiet_builtin _ (by decide +kernel), codeAny_builtin F.entry_type_call ?_⟩; rw [Around.under_plain (weight_type_call_type "set" [.ref l] []) rfl]
  have m3 := F.called_set.notType; have m4 := F.called_set.canCreate; have m5 := F.typeCall_set_1 (.ref l)
  repeat (any_goals (first | assumption | wp_step))
  refine codeAny_mono (new_set1 (.ref l) (E := E) (Q₁ := fun obj s₁ => obj = .ref s.heap.objs.size ∧ s₁ = { s with heap := s.heap.push { cls := .type "set", dict := none, data := .set #[] 0 (.fresh 0 0 (!w.params.followText "set-order")) } }) ⟨rfl, rfl⟩) fun r s₁ hr => ?_
  cases r with
  | error e => exact hr
  | ok fl => cases fl with
    | ret obj =>
      obtain ⟨rfl, rfl⟩ := hr
      have gS : (s.heap.push { cls := .type "set", dict := none, data := .set #[] 0 (.fresh 0 0 (!w.params.followText "set-order")) }).get? s.heap.objs.size = some { cls := .type "set", dict := none, data := .set #[] 0 (.fresh 0 0 (!w.params.followText "set-order")) } := Heap.get?_push_size _ rfl
      have tS : Shared.TypeIs { s with heap := s.heap.push { cls := .type "set", dict := none, data := .set #[] 0 (.fresh 0 0 (!w.params.followText "set-order")) } } (.ref s.heap.objs.size) "set" := ⟨_, gS, rfl⟩
      have i1 := F.called_set.init.lookup; have i2 := F.called_set.init.bind (.ref s.heap.objs.size)
      repeat (any_goals (first | assumption | wp_step))
      refine codeAny_mono (codeAny_call_builtin (R := wants (fun r s₂ => r = .none ∧ ∃ h' tk S c, s₂ = { s with heap := h', toks := tk } ∧ c ≤ items.size ∧ (∀ z, S z = true ↔ z ∈ ns) ∧ SetR w h' s.heap.objs.size S c ∧
          (∀ b o, b < s.heap.objs.size → s.heap.get? b = some o → h'.get? b = some o)) E) F.called_set.init.plain F.entry_set_init (check_set_init_1 tS ?_)) fun r₂ s₂ hr₂ => ?_
      · obtain ⟨ol, gl, cl, nl, dl⟩ := hl; obtain ⟨ocls, odict, odata, oslots⟩ := ol; simp only at cl dl; subst cl; subst dl
        have gl' : (s.heap.push { cls := .type "set", dict := none, data := .set #[] 0 (.fresh 0 0 (!w.params.followText "set-order")) }).get? l = some { cls := .type "list", dict := odict, data := .seq items nl, slots := oslots } := Heap.get?_push_of_some _ gl
        have q1 := F.sub_list_set; have q2 := F.sub_list_frozenset; have q3 : (Value.type "list" == Value.type "dict") = false := by decide
        have il : (s.heap.push { cls := .type "set", dict := none, data := .set #[] 0 (.fresh 0 0 (!w.params.followText "set-order")) }).IsList l items := ⟨_, gl', rfl, nl, rfl⟩
        unfold Builtin.«set.__init__» noKeywords Builtin.Frozenset.updateFrom; generalize ePI : pyIter = PI
        wp_walk
        subst ePI
        refine wpAny_pyIter_list il ?_; refine wpAny_bind (wpAny_runValue ?_)
        have lS : l < s.heap.objs.size := Heap.lt_size gl
        have h3 : A.in1.in1.in1.handled = none := by simp [hh]
        have nI : l ≠ (s.heap.push { cls := .type "set", dict := none, data := .set #[] 0 (.fresh 0 0 (!w.params.followText "set-order")) }).objs.size := by rw [Heap.size_push]; exact Nat.ne_of_lt (Nat.lt_succ_of_lt lS)
        have nF : s.heap.objs.size ∉ [(s.heap.push { cls := .type "set", dict := none, data := .set #[] 0 (.fresh 0 0 (!w.params.followText "set-order")) }).objs.size, l] := by
          rw [Heap.size_push]; simp only [List.mem_cons, List.mem_singleton, List.not_mem_nil, or_false, not_or]; exact ⟨Nat.ne_of_lt (Nat.lt_succ_self _), Nat.ne_of_gt lS⟩
        have hval : ∀ (i : Nat) (v : Value), items[i]? = some v → ∃ t, v = .int ((fun i => ns.getD i 0) i) t := fun i v hv => PyProof.Rows.IntsAre.int_at hi i v (by rw [Array.getElem?_toList]; exact hv)
        have hn : items.size = ns.length := by have := IntsAre.length hi; simpa using this
        refine upd_loop ((Walks.list h3 _ l nI items).toS) s.heap.objs.size nF (fun i => ns.getD i 0) hval room (items.size - 0) 0 _ (fun _ => false) 0 (by omega) (Nat.zero_le _) (Nat.le_refl _) ⟨⟨_, Heap.get?_push_size _ rfl, rfl, rfl⟩, (il.push _)⟩ ?_ ?_
        · exact (setR_fresh w).at fun o q => Heap.get?_push_of_some _ q
        · intro s' S' c' hm hc' mem hS'; obtain ⟨h', g', d', tk', os'⟩ := s'
          have eg : g' = s.gens := hm.gens
          have ed : d' = s.drawn := hm.drawn
          have eo : os' = s.os := hm.os
          subst eg; subst ed; subst eo; show wpAny _ _ _ _ _ _; refine wpAny_pure ?_; show wpAny _ _ (ret Value.none) _ _ _
          refine wpAny_pure ⟨rfl, h', tk', S', c', rfl, hc', fun z => ?_, hS', fun b o hb e => ?_⟩
          · rw [mem z]
            constructor
            · rintro (q | ⟨j, _, b, e⟩)
              · cases q
              · rw [← e, List.getD_eq_getElem?_getD, List.getElem?_eq_getElem (by omega)]
                exact List.getElem_mem _
            · intro q
              obtain ⟨j, hj, e⟩ := List.getElem_of_mem q
              exact .inr ⟨j, Nat.zero_le _, by omega, by rw [List.getD_eq_getElem?_getD, List.getElem?_eq_getElem hj]; exact e⟩
          · have b1 : b ≠ s.heap.objs.size := Nat.ne_of_lt hb
            have b2 : b ≠ (s.heap.push { cls := .type "set", dict := none, data := .set #[] 0 (.fresh 0 0 (!w.params.followText "set-order")) }).objs.size := by rw [Heap.size_push]; exact Nat.ne_of_lt (Nat.lt_succ_of_lt hb)
            refine hm.heap b o ?_ (Heap.get?_push_of_some _ (Heap.get?_push_of_some _ e)); simp only [List.mem_cons, List.mem_singleton, List.not_mem_nil, or_false, not_or]; exact ⟨b1, b2⟩
      · cases r₂ with
        | error e => exact hr₂
        | ok fl₂ => cases fl₂ with
          | ret r =>
            obtain ⟨rfl, h', tk, S, c, rfl, k1, k2, k3, k4⟩ := hr₂
            repeat (any_goals (first | assumption | wp_step))
            exact fin _ _ S c k1 k2 k3 k4
          | _ => exact hr₂.elim
    | _ => exact hr.elim
/-- sorted(found), any number of members -/
theorem sortedR {a : Addr} {S : Int → Bool} {n : Nat} {Q : Value → Shared → Prop} (R : SetR w s.heap a S n) (hh : A.handled = none)
    (fin : ∀ s' p (out : Array Value) (c : Nat) (ns : List Int), (∀ b o, s.heap.get? b = some o → s'.heap.get? b = some o) → s'.gens = s.gens → s'.os = s.os → s.heap.objs.size ≤ p →
      s'.heap.get? p = some (seqObj "list" out c) → IntsAre out.toList ns → ns.Pairwise (· < ·) → (∀ k, k ∈ ns ↔ S k = true) → ns.length = n → Q (.ref p) s') :
    wpAny (model prog w) A (call (.builtin "sorted") [.ref a]) Q E s := by
  obtain ⟨o, es, ep, t, ho, hex, hd, g, nd, hm, hb, hf, hn, hr, hl⟩ := R
  have nb : n < scanBound := by rw [← hn]; exact hb
  refine Calls.call_function_entry kind_sorted plain_sorted entry_sorted (args_sorted1 _) ?_; unfold Builtin.«sorted»; refine wpAny_bind (m := checkCount "sorted" 1 1 _) (wpAny_pure ?_)
  refine wpAny_bind (collect_set (A := A.in1) hh ⟨o, ho, hex.1, hd⟩ hf hb hr hl fun s1 vs k1 hz g1 o1 pm => ?_)
  have vl : vs.length = n := by rw [pm.length_eq, List.length_map, Array.length_toList]; exact hn
  have vz : vs.length ≤ sizeLine := by rw [vl, sizeLine_eq]; unfold scanBound at nb; omega
  have hI : IntsAre vs (vs.map Builtin.Re.reRawOf) := ints_of vs fun v hv => by
    obtain ⟨e, he, q⟩ := List.mem_map.mp (pm.mem_iff.mp hv); obtain ⟨k, tk, h1, _⟩ := g e he
    exact ⟨k, tk, by rw [← q]; exact h1⟩
  have pk : (vs.map Builtin.Re.reRawOf).Perm (es.toList.map keyOf) := by
    have q := pm.map Builtin.Re.reRawOf; rw [List.map_map] at q; exact q
  refine wpAny_bind (wpAny_newList ?_ vz)
  have oL : (s1.heap.push (seqObj "list" vs.toArray 0)).get? s1.heap.objs.size = some (seqObj "list" vs.toArray 0) := Heap.get?_push_size _ rfl
  refine wpAny_bind (wpAny_holding (wpAny_call_entry slot_list_sort ⟨_, oL, rfl⟩ entry_list_sort (SrtO.list_sort_ord SrtO.swo_int oL vz (fun h2 => SrtO.ints_sortable hI h2) fun out b1 b2 => ⟨_, rfl, ?_⟩) (args_list_sort _)))
  obtain ⟨j1, j2, j3⟩ := SrtO.ints_out hI b1 b2
  obtain ⟨c, hc⟩ := sortedHeap_at (vs := vs) (out := out.toArray) oL
  have pn := j2.trans pk
  refine wpAny_pure ⟨_, rfl, fin _ s1.heap.objs.size out.toArray c (out.map SrtO.iv) (fun b u e => ?_) g1 o1 hz hc (by simpa using j1) (lt_of_le_nodup _ j3 (pn.nodup_iff.mpr nd)) (fun k => by rw [pn.mem_iff, ← hm k]) ?_⟩
  · have q := k1 b u e; have lt := Heap.lt_size q
    show (sortedHeap (s1.heap.push (seqObj "list" vs.toArray 0)) s1.heap.objs.size vs out.toArray).get? b = some u
    rw [sortedHeap_old (Nat.ne_of_lt lt) (by rw [size_push']; exact Nat.lt_succ_of_lt lt)]; exact Heap.get?_push_of_some _ q
  · rw [pn.length_eq, List.length_map, Array.length_toList]; exact hn
end
/-- set(ns) -/
def rSetL (K : PySem.W.Frag) (w : World) : List V → Hp → VK → Prop := fun vs H Q => ∃ (l : Addr) (ns : List Int), vs = [.ref l] ∧ SqL K H l (ns.map V.int) ∧ ns.length + 1 < 4096 ∧ ∀ (c : Nat) (p : Addr), c ≤ ns.length → H p = none → Q (.ref p) (upd H p (SetO w p (fun z => decide (z ∈ ns)) c))
theorem cr_setL {X : Cx} (hc : X.calm = true) : CallR X (.type "set") (rSetL X.K X.w) := by
  intro pins s σ H vs us Q I r h
  obtain ⟨l, ns, rfl, hs, room, q⟩ := h
  obtain ⟨its, rv, hl, hz⟩ := I.list hs
  rw [Vals.ref1 r]
  have hi := rv.ints
  have ln : its.toArray.size = ns.length := by rw [List.size_toArray, ← rv.length, List.length_map]
  refine call_setL (I.ok.hd hc) hl.isList (by simpa using hi) (by rw [ln]; exact room) fun h' tk S c lc mem hS keep => ?_
  have R2 : SetR X.w h' s.heap.objs.size (fun z => decide (z ∈ ns)) c := hS.congr fun z => by
    by_cases e : z ∈ ns
    · rw [(mem z).mpr e, decide_eq_true e]
    · rw [decide_eq_false e]; cases q : S z with
      | false => rfl
      | true => exact absurd ((mem z).mp q) e
  exact ⟨.ref _, _, I.laid (t' := tk) (fun b u e => keep b u (Heap.lt_size e) e) (Nat.le_refl _) (setO_new R2), rfl, q c _ (by omega) (I.hok.fresh (Nat.le_refl _))⟩
/-- sorted(found) -/
def rSortedS (w : World) : List V → Hp → VK → Prop := fun vs H Q => ∃ (a : Addr) (S : Int → Bool) (n : Nat), vs = [V.ref a] ∧ H a = some (SetO w a S n) ∧ n < 4096 ∧
  ∀ (ns : List Int) (p : Addr), ns.Pairwise (· < ·) → (∀ k : Int, k ∈ ns ↔ S k = true) → H p = none → Q (.ref p) (upd H p (.lst (ns.map V.int)))
theorem cr_sortedS2 {X : Cx} (hc : X.calm = true) : CallR X (.builtin "sorted") (rSortedS X.w) := by
  intro pins s σ H vs us Q I r h
  obtain ⟨a, S, n, rfl, ha, room, q⟩ := h
  have R := setO_get I ha
  rw [Vals.ref1 r]
  refine sortedR R (I.ok.hd hc) fun s' p out c ns k g o hp hg hi hs hm hl => ?_
  have hlen : (ns.map V.int).length ≤ sizeLine := by rw [List.length_map, hl, sizeLine_eq]; omega
  have hn : H p = none := I.hok.fresh hp
  have J : Inv X pins σ (upd H p (.lst (ns.map V.int))) { s with heap := s'.heap, gens := s'.gens, drawn := s'.drawn, toks := s'.toks } := I.call (ch := []) (Un.laid k hp hn) (I.hok.laid k hp ⟨hlen, out.toList, c, vals_of_ints hi, hg⟩) (by rw [g]; exact I.bare) (fun _ z => nomatch z)
  have e : s' = { s with heap := s'.heap, gens := s'.gens, drawn := s'.drawn, toks := s'.toks } := by cases s'; cases s; cases o; rfl
  rw [e]
  exact ⟨.ref p, _, J, rfl, q ns p hs hm hn⟩
end Cf
/-! Own layer: a set made of a tuple of ints. -/
namespace Cf
open PySem PySem.Spec PyProof.Rows L2
section
variable {prog : Program} {w : World} {A : Around} {E : Value → Shared → Prop} {s : Shared}
set_option maxHeartbeats 3200000 in
/-- set(l), l a tuple of ints -/
theorem call_setT {l : Addr} {items : Array Value} {ns : List Int} {Q : Value → Shared → Prop} (hh : A.handled = none) (hl : s.heap.IsTuple l items) (hi : PyProof.Rows.IntsAre items.toList ns) (room : items.size + 1 < scanBound)
    (fin : ∀ (h' : Heap) (tk : Nat) (S : Int → Bool) (c : Nat), c ≤ items.size → (∀ z, S z = true ↔ z ∈ ns) → SetR w h' s.heap.objs.size S c → (∀ b o, b < s.heap.objs.size → s.heap.get? b = some o → h'.get? b = some o) → Q (.ref s.heap.objs.size) { s with heap := h', toks := tk }) :
    wpAny (model prog w) A (call (.type "set") [.ref l]) Q E s := by
  obtain ⟨cM, tM, eM⟩ := F.called_set.mro; have m1 := F.called_set.made; have m2 := F.called_set.sub
  refine wpAny_call (codeAny_of_tree ?_); show wpAny _ _ (callAny (.type "set") _) _ _ _
  refine wpAny_pure ⟨Code.quiet_builtin _ (by decide +kernel), codeAny_builtin F.entry_type_call ?_⟩; rw [Around.under_plain (weight_type_call_type "set" [.ref l] []) rfl]
  have m3 := F.called_set.notType; have m4 := F.called_set.canCreate; have m5 := F.typeCall_set_1 (.ref l)
  repeat (any_goals (first | assumption | wp_step))
  refine codeAny_mono (new_set1 (.ref l) (E := E) (Q₁ := fun obj s₁ => obj = .ref s.heap.objs.size ∧ s₁ = { s with heap := s.heap.push { cls := .type "set", dict := none, data := .set #[] 0 (.fresh 0 0 (!w.params.followText "set-order")) } }) ⟨rfl, rfl⟩) fun r s₁ hr => ?_
  cases r with
  | error e => exact hr
  | ok fl => cases fl with
    | ret obj =>
      obtain ⟨rfl, rfl⟩ := hr
      have gS : (s.heap.push { cls := .type "set", dict := none, data := .set #[] 0 (.fresh 0 0 (!w.params.followText "set-order")) }).get? s.heap.objs.size = some { cls := .type "set", dict := none, data := .set #[] 0 (.fresh 0 0 (!w.params.followText "set-order")) } := Heap.get?_push_size _ rfl
      have tS : Shared.TypeIs { s with heap := s.heap.push { cls := .type "set", dict := none, data := .set #[] 0 (.fresh 0 0 (!w.params.followText "set-order")) } } (.ref s.heap.objs.size) "set" := ⟨_, gS, rfl⟩
      have i1 := F.called_set.init.lookup; have i2 := F.called_set.init.bind (.ref s.heap.objs.size)
      repeat (any_goals (first | assumption | wp_step))
      refine codeAny_mono (codeAny_call_builtin (R := wants (fun r s₂ => r = .none ∧ ∃ h' tk S c, s₂ = { s with heap := h', toks := tk } ∧ c ≤ items.size ∧ (∀ z, S z = true ↔ z ∈ ns) ∧ SetR w h' s.heap.objs.size S c ∧
          (∀ b o, b < s.heap.objs.size → s.heap.get? b = some o → h'.get? b = some o)) E) F.called_set.init.plain F.entry_set_init (check_set_init_1 tS ?_)) fun r₂ s₂ hr₂ => ?_
      · obtain ⟨ol, gl, cl, nl, dl⟩ := hl; obtain ⟨ocls, odict, odata, oslots⟩ := ol; simp only at cl dl; subst cl; subst dl
        have gl' : (s.heap.push { cls := .type "set", dict := none, data := .set #[] 0 (.fresh 0 0 (!w.params.followText "set-order")) }).get? l = some { cls := .type "tuple", dict := odict, data := .seq items nl, slots := oslots } := Heap.get?_push_of_some _ gl
        have q1 := F.sub_tuple_set; have q2 := F.sub_tuple_frozenset; have q3 : (Value.type "tuple" == Value.type "dict") = false := by decide
        have il : (s.heap.push { cls := .type "set", dict := none, data := .set #[] 0 (.fresh 0 0 (!w.params.followText "set-order")) }).IsTuple l items := ⟨_, gl', rfl, nl, rfl⟩
        unfold Builtin.«set.__init__» noKeywords Builtin.Frozenset.updateFrom; generalize ePI : pyIter = PI
        wp_walk
        subst ePI
        refine wpAny_pyIter_tuple il ?_; refine wpAny_bind (wpAny_runValue ?_)
        have lS : l < s.heap.objs.size := Heap.lt_size gl
        have h3 : A.in1.in1.in1.handled = none := by simp [hh]
        have nI : l ≠ (s.heap.push { cls := .type "set", dict := none, data := .set #[] 0 (.fresh 0 0 (!w.params.followText "set-order")) }).objs.size := by rw [Heap.size_push]; exact Nat.ne_of_lt (Nat.lt_succ_of_lt lS)
        have nF : s.heap.objs.size ∉ [(s.heap.push { cls := .type "set", dict := none, data := .set #[] 0 (.fresh 0 0 (!w.params.followText "set-order")) }).objs.size, l] := by
          rw [Heap.size_push]; simp only [List.mem_cons, List.mem_singleton, List.not_mem_nil, or_false, not_or]; exact ⟨Nat.ne_of_lt (Nat.lt_succ_self _), Nat.ne_of_gt lS⟩
        have hval : ∀ (i : Nat) (v : Value), items[i]? = some v → ∃ t, v = .int ((fun i => ns.getD i 0) i) t := fun i v hv => PyProof.Rows.IntsAre.int_at hi i v (by rw [Array.getElem?_toList]; exact hv)
        have hn : items.size = ns.length := by have := IntsAre.length hi; simpa using this
        refine upd_loop ((Walks.tuple h3 _ l nI items).toS) s.heap.objs.size nF (fun i => ns.getD i 0) hval room (items.size - 0) 0 _ (fun _ => false) 0 (by omega) (Nat.zero_le _) (Nat.le_refl _) ⟨⟨_, Heap.get?_push_size _ rfl, rfl, rfl⟩, (il.push _)⟩ ?_ ?_
        · exact (setR_fresh w).at fun o q => Heap.get?_push_of_some _ q
        · intro s' S' c' hm hc' mem hS'; obtain ⟨h', g', d', tk', os'⟩ := s'
          have eg : g' = s.gens := hm.gens
          have ed : d' = s.drawn := hm.drawn
          have eo : os' = s.os := hm.os
          subst eg; subst ed; subst eo; show wpAny _ _ _ _ _ _; refine wpAny_pure ?_; show wpAny _ _ (ret Value.none) _ _ _
          refine wpAny_pure ⟨rfl, h', tk', S', c', rfl, hc', fun z => ?_, hS', fun b o hb e => ?_⟩
          · rw [mem z]
            constructor
            · rintro (q | ⟨j, _, b, e⟩)
              · cases q
              · rw [← e, List.getD_eq_getElem?_getD, List.getElem?_eq_getElem (by omega)]
                exact List.getElem_mem _
            · intro q
              obtain ⟨j, hj, e⟩ := List.getElem_of_mem q
              exact .inr ⟨j, Nat.zero_le _, by omega, by rw [List.getD_eq_getElem?_getD, List.getElem?_eq_getElem hj]; exact e⟩
          · have b1 : b ≠ s.heap.objs.size := Nat.ne_of_lt hb
            have b2 : b ≠ (s.heap.push { cls := .type "set", dict := none, data := .set #[] 0 (.fresh 0 0 (!w.params.followText "set-order")) }).objs.size := by rw [Heap.size_push]; exact Nat.ne_of_lt (Nat.lt_succ_of_lt hb)
            refine hm.heap b o ?_ (Heap.get?_push_of_some _ (Heap.get?_push_of_some _ e)); simp only [List.mem_cons, List.mem_singleton, List.not_mem_nil, or_false, not_or]; exact ⟨b1, b2⟩
      · cases r₂ with
        | error e => exact hr₂
        | ok fl₂ => cases fl₂ with
          | ret r =>
            obtain ⟨rfl, h', tk, S, c, rfl, k1, k2, k3, k4⟩ := hr₂
            repeat (any_goals (first | assumption | wp_step))
            exact fin _ _ S c k1 k2 k3 k4
          | _ => exact hr₂.elim
    | _ => exact hr.elim
end
/-- set(ns), ns a tuple -/
def rSetT (K : PySem.W.Frag) (w : World) : List V → Hp → VK → Prop := fun vs H Q => ∃ (l : Addr) (ns : List Int), vs = [.ref l] ∧ SqT K H l (ns.map V.int) ∧ ns.length + 1 < 4096 ∧ ∀ (c : Nat) (p : Addr), c ≤ ns.length → H p = none → Q (.ref p) (upd H p (SetO w p (fun z => decide (z ∈ ns)) c))
theorem cr_setT {X : Cx} (hc : X.calm = true) : CallR X (.type "set") (rSetT X.K X.w) := by
  intro pins s σ H vs us Q I r h
  obtain ⟨l, ns, rfl, hs, room, q⟩ := h
  obtain ⟨its, rv, hl, hz⟩ := I.tuple hs
  rw [Vals.ref1 r]
  have hi := rv.ints
  have ln : its.toArray.size = ns.length := by rw [List.size_toArray, ← rv.length, List.length_map]
  refine call_setT (I.ok.hd hc) (show s.heap.IsTuple l its.toArray from hl) (by simpa using hi) (by rw [ln]; exact room) fun h' tk S c lc mem hS keep => ?_
  have R2 : SetR X.w h' s.heap.objs.size (fun z => decide (z ∈ ns)) c := hS.congr fun z => by
    by_cases e : z ∈ ns
    · rw [(mem z).mpr e, decide_eq_true e]
    · rw [decide_eq_false e]; cases q : S z with
      | false => rfl
      | true => exact absurd ((mem z).mp q) e
  exact ⟨.ref _, _, I.laid (t' := tk) (fun b u e => keep b u (Heap.lt_size e) e) (Nat.le_refl _) (setO_new R2), rfl, q c _ (by omega) (I.hok.fresh (Nat.le_refl _))⟩
end Cf
/-! Own layer: a range with a step, held by a name and walked later. -/
namespace Cf
open PySem PySem.Spec PyProof.Rows L2
/-- the range object i, j, c at p -/
def RgO (p : Addr) (i j c : Int) : HO := .ext fun h => ∃ t u v, IsRange h p i j c t u v
/-- range(i, j, c) with ends of any size -/
def RgW (i j c : Int) (n : Nat) : Prop := c ≠ 0 ∧ c.natAbs < 1073741824 ∧ Builtin.Range.rangeSize i j c = n
theorem RgC.wide {i j c : Int} {n : Nat} (h : RgC i j c n) : RgW i j c n := ⟨h.1, h.2.1, h.2.2.2⟩
theorem turn_longC {P : Program} {w : World} {K : PySem.W.Frag} {tg : Expr} (it : Addr) (lo c : Int) (n : Nat) : Turn P w K tg (Itc lo c n) [it] it (fun i h => IsLongIter h it (lo + (i : Nat) * c) ((n : Int) - (i : Nat)) c) where
  mem := by simp
  obj := fun i h st b hb => by
    have e : b = it := by simpa using hb
    subst e
    exact ⟨_, st, fun v z => nomatch z⟩
  keep := fun i h h' st k => k it (by simp) _ st
  item := by
    intro X hP hw hK hc i pins s σ H E I hf st hg
    subst hP hw hK
    obtain ⟨f0, f1, f2, f3, f4, f5⟩ := hf it (by simp)
    have W := Walks.longrange (prog := X.prog) (w := X.w) (I.ok.hd hc) it lo c n
    refine W.item i s _ _ hg st fun v h' tk hv st' kk => ?_
    obtain ⟨t, rfl⟩ := hv
    have I1 : Inv X pins σ H { s with heap := h', toks := tk } := I.turned (fun b o hb e => kk b o (by simpa using hb) e) f0 f1 f3 f4 f5
    exact ⟨_, rfl, go_of (s := { s with heap := h', toks := tk }) (n := "longrange_iterator") st' rfl rfl (by decide) ⟨.int (lo + (i : Nat) * c), H, I1, ⟨t, rfl⟩, ⟨rfl, rfl⟩, st', fun b hb => (hf b hb).1⟩⟩
  done := by
    intro X hP hw hK hc i pins s σ H E I hf st hg
    subst hP hw hK
    obtain ⟨f0, f1, f2, f3, f4, f5⟩ := hf it (by simp)
    exact wpAny_pyNext_long_end (I.ok.hd hc) st (by have : n ≤ i := hg; omega) fun h' eb => ⟨rfl, I.turned (t' := s.toks) (fun b o hb e => eb b o hb e) f0 f1 f3 f4 f5⟩
  self := fun A i s Q E st h => wpAny_pyIter_longiter st h
section
variable {X : Cx}
/-- a range object walked, whatever its ends -/
theorem it_range {pins : List (Addr × Obj)} {σ : L2.St} {H : Hp} {s : Shared} {R : It → Hp → Prop} {tg : Expr} {E : Value → Shared → Prop} {p : Addr} {i j k : Int} {n : Nat} {t t' t'' : Tok} (I1 : Inv X pins σ H s) (hr : IsRange s.heap p i j k t t' t'') (c3 : Builtin.Range.rangeSize i j k = n) (q : R (Itc i k n) H) :
    wpAny (model X.prog X.w) X.A (pyIter (.ref p)) (PIE X pins σ tg R) E s := by
  have e1 : i + ((0 : Nat) : Int) * k = i := by simp
  have e2 : (n : Int) - ((0 : Nat) : Int) = Builtin.Range.rangeSize i j k := by rw [c3]; simp
  cases c2 : Builtin.Range.small i j k with
  | true =>
    refine wpAny_pyIter_range hr c2 ?_
    refine pi_one (tk := s.toks) I1 _ (turn_rangeC _ i k n) ?_ q
    show IsRangeIter _ _ (i + ((0 : Nat) : Int) * k) ((n : Int) - ((0 : Nat) : Int)) k
    rw [e1, e2]
    exact Heap.get?_push_size _ rfl
  | false =>
    refine wpAny_pyIter_longrange hr c2 ?_
    refine pi_one (tk := s.toks) I1 _ (turn_longC _ i k n) ?_ q
    show IsLongIter _ _ (i + ((0 : Nat) : Int) * k) ((n : Int) - ((0 : Nat) : Int)) k
    rw [e1, e2]
    exact Heap.get?_push_size _ rfl
theorem cr_range3 : CallR X (.type "range") (fun vs H Q => ∃ i j c n, vs = [.int i, .int j, .int c] ∧ RgW i j c n ∧ ∀ p, H p = none → Q (.ref p) (upd H p (RgO p i j c))) := by
  intro pins s σ H vs us Q I r h
  obtain ⟨i, j, c, n, rfl, ⟨c0, c1, c3⟩, q⟩ := h
  cases r with
  | cons r rr =>
    cases rr with
    | cons r' rr =>
      cases rr with
      | cons r'' rr =>
        cases rr
        obtain ⟨t, rfl⟩ := r
        obtain ⟨t', rfl⟩ := r'
        obtain ⟨t'', rfl⟩ := r''
        refine call_range_3 c0 ?_ (.inl (PyProof.noPylong_small c1))
        refine ⟨.ref s.heap.objs.size, upd H s.heap.objs.size (RgO s.heap.objs.size i j c), I.laid (t' := s.toks) (fun b o e => Heap.get?_push_of_some _ e) (Nat.le_refl _) ?_, rfl, q _ (I.hok.fresh (Nat.le_refl _))⟩
        exact ⟨⟨t, t', t'', Heap.get?_push_size _ rfl⟩, ⟨_, Heap.get?_push_size _ rfl⟩, fun h1 h2 ⟨a, b, d, e⟩ k => ⟨a, b, d, k _ e⟩⟩
def iRgV (te : TE) : TI := fun σ H R => te σ H fun x H1 => ∃ p i j c n, x = .ref p ∧ H1 p = some (RgO p i j c) ∧ RgW i j c n ∧ R (Itc i c n) H1
theorem pi_rgV {tg e : Expr} {te : TE} (he : PE X e te) : PI X tg e (iRgV te) := by
  refine ⟨fun pins s σ H R I h => ?_⟩
  refine thn (he.run pins s σ H _ I h) fun v s1 ⟨x, H1, I1, r1, q1⟩ => ?_
  obtain ⟨p, i, j, k, n, rfl, hp, ⟨c0, c1, c3⟩, q⟩ := q1
  cases r1
  obtain ⟨⟨t, t', t'', hr⟩, _⟩ := I1.hok p _ hp
  exact it_range I1 hr c3 q
/-- range(a, b), whatever the ends -/
def iRng2W (ta : TA) : TI := fun σ H R => ta σ H fun vs H1 => ∃ (i j : Int) (n : Nat), vs = [.int i, .int j] ∧ Builtin.Range.rangeSize i j 1 = n ∧ R (Itc i 1 n) H1
theorem pi_range2W {tg a b : Expr} {ta : TA} {p pos : Pos} (hg : Gl X "range") (hm : X.mg "range" = none) (ha : PA X [a, b] ta) (hs : starEach [a, b] X.env = [(false, eval a X.env), (false, eval b X.env)] := by rfl) (hs2 : starEach [b] X.env = [(false, eval b X.env)] := by rfl) :
    PI X tg (.Call (.Name "range" p) [a, b] [] pos) (iRng2W ta) := by
  refine ⟨fun pins s σ H R I h => ?_⟩
  refine Call_ (ld_blt I hg hm boot_range (PyProof.Rows.callWith_type1 (thn (ha.run pos pins s σ H _ I h) fun us s1 ⟨vs, H1, I1, r1, q1⟩ => ?_) (by rw [hs, hs2]) (by rw [hs2]; rfl)))
  obtain ⟨i, j, n, e, c3, q⟩ := q1
  subst e
  cases r1 with
  | cons r rr =>
    cases rr with
    | cons r' rr =>
      cases rr
      obtain ⟨t, rfl⟩ := r
      obtain ⟨t', rfl⟩ := r'
      refine call_range_2 ?_
      refine it_range (I1.kept fun b o e => Heap.get?_push_of_some _ e) (IsRange.new ..) c3 q
end
end Cf
/-! Days: lists of ints in the heap, places, whiles. -/
namespace Cf
open PySem PySem.Spec PyProof.Rows L2
/-- a list of ints at a -/
abbrev LI (K : PySem.W.Frag) (H : Hp) (a : Addr) (l : List Int) : Prop := SqL K H a (l.map V.int)
theorem while_d {c : TT} {tb : TS} {D : Ends} {σ : L2.St} {H : Hp} (Pv : L2.St → Hp → Prop) (μ : L2.St → Hp → Nat) (h0 : Pv σ H)
    (hs : ∀ σ H, Pv σ H → c σ H fun b H1 => if b = true then ∃ N : L2.St → Hp → Prop, (∀ σ' H', N σ' H' → ∃ m', m' < μ σ H ∧ (m' = μ σ' H' ∧ Pv σ' H')) ∧ tb { D with nx := N, ct := N, bk := D.nx } σ H1 else D.nx σ H1) : tWhile c tb D σ H :=
  ⟨fun m σ H => m = μ σ H ∧ Pv σ H, ⟨_, rfl, h0⟩, by rintro m σ H ⟨rfl, p⟩; exact hs σ H p⟩
/-- how many of the days are before a bound -/
def cnt (l : List Int) (b : Int) : Nat := (l.filter fun d => decide (d < b)).length
theorem cnt_le (l : List Int) (b : Int) : cnt l b ≤ l.length := List.length_filter_le _ _
theorem cnt_iff : ∀ {l : List Int} {b : Int} {i : Nat}, Asc l → i < l.length → (l.getD i 0 < b ↔ i < cnt l b)
  | [], b, i, _, h => absurd h (Nat.not_lt_zero _)
  | x :: l, b, i, A, h => by
    rw [Asc, List.pairwise_cons] at A
    by_cases c : x < b
    · have e : cnt (x :: l) b = cnt l b + 1 := by unfold cnt; rw [List.filter_cons, if_pos (decide_eq_true c)]; rfl
      rw [e]
      cases i with
      | zero => exact ⟨fun _ => Nat.succ_pos _, fun _ => c⟩
      | succ i =>
        rw [List.length_cons] at h
        have := cnt_iff (b := b) A.2 (show i < l.length by omega)
        rw [List.getD_cons_succ, this]
        omega
    · have e : cnt (x :: l) b = 0 := by
        unfold cnt
        rw [List.length_eq_zero_iff, List.filter_eq_nil_iff]
        intro y hy
        rcases List.mem_cons.mp hy with rfl | hy
        · simpa using c
        · have := A.1 y hy
          simp; omega
      rw [e]
      constructor
      · intro q
        cases i with
        | zero => exact absurd q c
        | succ i =>
          rw [List.length_cons] at h
          rw [List.getD_cons_succ] at q
          have := A.1 _ (getD_mem (show i < l.length by omega))
          omega
      · intro q; exact absurd q (Nat.not_lt_zero _)
theorem take_cnt {l : List Int} (A : Asc l) (b : Int) : l.take (cnt l b) = l.filter fun d => decide (d < b) := by
  refine asc_ext (A.sublist (List.take_sublist _ _)) (List.Pairwise.filter _ A) fun d => ?_
  rw [List.mem_filter]
  constructor
  · intro m
    obtain ⟨i, hi, e⟩ := mem_getD m
    rw [List.length_take] at hi
    rw [getD_take (by omega)] at e
    refine ⟨List.mem_of_mem_take m, decide_eq_true ?_⟩
    rw [← e, cnt_iff A (by omega)]; omega
  · rintro ⟨m, q⟩
    obtain ⟨i, hi, e⟩ := mem_getD m
    have lt := (cnt_iff A hi).mp (by rw [e]; exact of_decide_eq_true q)
    have := getD_mem (l := l.take (cnt l b)) (i := i) (by rw [List.length_take]; omega)
    rw [getD_take lt, e] at this
    exact this
theorem drop_cnt {l : List Int} (A : Asc l) (b : Int) : l.drop (cnt l b) = l.filter fun d => decide (b ≤ d) := by
  refine asc_ext (A.sublist (List.drop_sublist _ _)) (List.Pairwise.filter _ A) fun d => ?_
  rw [List.mem_filter]
  constructor
  · intro m
    obtain ⟨i, hi, e⟩ := mem_getD m
    rw [List.length_drop] at hi
    rw [getD_drop] at e
    refine ⟨List.mem_of_mem_drop m, decide_eq_true ?_⟩
    have := cnt_iff (b := b) A (show cnt l b + i < l.length by omega)
    omega
  · rintro ⟨m, q⟩
    obtain ⟨i, hi, e⟩ := mem_getD m
    have ge : cnt l b ≤ i := by
      rcases Nat.lt_or_ge i (cnt l b) with c | c
      · have := (cnt_iff A hi).mpr c
        have := of_decide_eq_true q
        omega
      · exact c
    have := getD_mem (l := l.drop (cnt l b)) (i := i - cnt l b) (by rw [List.length_drop]; omega)
    rw [getD_drop, show cnt l b + (i - cnt l b) = i by omega, e] at this
    exact this
theorem els_filter_lt (S : Int → Bool) {lo hi b : Int} (h : b ≤ hi) : (els S lo hi).filter (fun d => decide (d < b)) = els S lo b := by
  refine asc_ext (List.Pairwise.filter _ (asc_els _ _ _)) (asc_els _ _ _) fun d => ?_
  rw [List.mem_filter, mem_els, mem_els, decide_eq_true_iff]
  constructor
  · rintro ⟨⟨a, b⟩, c⟩; exact ⟨⟨a.1, c⟩, b⟩
  · rintro ⟨a, b⟩; exact ⟨⟨⟨a.1, by omega⟩, b⟩, a.2⟩
theorem els_filter_ge (S : Int → Bool) {lo hi b : Int} (h : lo ≤ b) : (els S lo hi).filter (fun d => decide (b ≤ d)) = els S b hi := by
  refine asc_ext (List.Pairwise.filter _ (asc_els _ _ _)) (asc_els _ _ _) fun d => ?_
  rw [List.mem_filter, mem_els, mem_els, decide_eq_true_iff]
  constructor
  · rintro ⟨⟨a, b⟩, c⟩; exact ⟨⟨c, a.2⟩, b⟩
  · rintro ⟨a, b⟩; exact ⟨⟨⟨by omega, a.2⟩, b⟩, a.1⟩
/-! ### items by index -/
theorem atI_int {l : List Int} {i : Int} (h0 : 0 ≤ i) (h1 : i < l.length) : atI (l.map V.int) i = some (V.int (l.getD i.toNat 0)) := by
  have e : (l.map V.int)[i.toNat]? = some (V.int (l.getD i.toNat 0)) := by
    rw [List.getElem?_map, List.getD_eq_getElem?_getD, List.getElem?_eq_getElem (by omega)]; rfl
  have := atI_nat e
  rwa [Int.toNat_of_nonneg h0] at this
theorem atI_neg {l : List Int} {i : Int} (h0 : i < 0) (h1 : -(l.length : Int) ≤ i) : atI (l.map V.int) i = some (V.int (l.getD (l.length - (-i).toNat) 0)) := by
  unfold atI
  have e : ixN (l.map V.int).length i = some (l.length - (-i).toNat) := by
    unfold ixN
    rw [List.length_map, if_neg (by omega), if_pos (by omega)]
    congr 1
    omega
  rw [e]
  show (l.map V.int)[l.length - (-i).toNat]? = _
  rw [List.getElem?_map, List.getD_eq_getElem?_getD, List.getElem?_eq_getElem (by omega)]
  rfl
theorem cut_to {l : List Int} {k : Int} (h0 : 0 ≤ k) : cutV (l.map V.int) none (some k) = (l.take k.toNat).map V.int := by
  unfold cutV
  have e : HT.sIx (l.map V.int).length (l.map V.int).length (some k) = min k.toNat l.length := by
    have := HT.sIx_nat (l.map V.int).length (l.map V.int).length k.toNat
    rw [Int.toNat_of_nonneg h0] at this
    rw [this, List.length_map]
  rw [HT.sIx_none, e, List.drop_zero, Nat.sub_zero, ← List.map_take]
  congr 1
  rcases Nat.le_total k.toNat l.length with c | c
  · rw [Nat.min_eq_left c]
  · rw [Nat.min_eq_right c, List.take_length, List.take_of_length_le c]
theorem cut_from {l : List Int} {k : Int} (h0 : 0 ≤ k) : cutV (l.map V.int) (some k) none = (l.drop k.toNat).map V.int := by
  unfold cutV
  have e : HT.sIx (l.map V.int).length 0 (some k) = min k.toNat l.length := by
    have := HT.sIx_nat (l.map V.int).length 0 k.toNat
    rw [Int.toNat_of_nonneg h0] at this
    rw [this, List.length_map]
  rw [HT.sIx_none, e, List.length_map, ← List.map_drop, List.take_of_length_le (by rw [List.length_map, List.length_drop]; omega)]
  congr 1
  rcases Nat.le_total k.toNat l.length with c | c
  · rw [Nat.min_eq_left c]
  · rw [Nat.min_eq_right c, List.drop_length, List.drop_of_length_le c]
theorem cut_mid {l : List Int} {j k : Int} (h0 : 0 ≤ j) (h1 : j ≤ k) (h2 : k ≤ l.length) : cutV (l.map V.int) (some j) (some k) = ((l.take k.toNat).drop j.toNat).map V.int := by
  unfold cutV
  have e1 : HT.sIx (l.map V.int).length 0 (some j) = j.toNat := by
    have := HT.sIx_nat (l.map V.int).length 0 j.toNat
    rw [Int.toNat_of_nonneg h0] at this
    rw [this, List.length_map]; omega
  have e2 : HT.sIx (l.map V.int).length (l.map V.int).length (some k) = k.toNat := by
    have := HT.sIx_nat (l.map V.int).length (l.map V.int).length k.toNat
    rw [Int.toNat_of_nonneg (by omega)] at this
    rw [this, List.length_map]; omega
  rw [e1, e2, ← List.map_drop, ← List.map_take, List.drop_take]
/-! ### lists of ints compared -/
def pdL (l : List Int) : PyData := .list (l.map PyData.int)
theorem dpAll_ints {K : PySem.W.Frag} {H : Hp} : ∀ l : List Int, DpAll K H (l.map V.int) (l.map PyData.int)
  | [] => .nil
  | x :: l => .cons (.int x) (dpAll_ints l)
theorem dpL {K : PySem.W.Frag} {H : Hp} {a : Addr} {l : List Int} (h : LI K H a l) : Dp K H (.ref a) (pdL l) := .lst h (dpAll_ints l)
theorem eqvAll_ints : ∀ a b : List Int, PyData.eqvAll (a.map PyData.int) (b.map PyData.int) = decide (a = b)
  | [], [] => rfl
  | [], _ :: _ => rfl
  | _ :: _, [] => rfl
  | x :: a, y :: b => by
    show (PyData.eqv (.int x) (.int y) && PyData.eqvAll (a.map PyData.int) (b.map PyData.int)) = _
    rw [eqvAll_ints a b]
    have e : PyData.eqv (.int x) (.int y) = decide (x = y) := by simp [PyData.eqv]; rfl
    rw [e, Bool.eq_iff_iff]
    simp
theorem eqvL (a b : List Int) : PyData.eqv (pdL a) (pdL b) = decide (a = b) := by
  unfold pdL
  rw [PyData.eqv]
  exact eqvAll_ints a b
theorem canAll_ints : ∀ l : List Int, PyData.canLayAll0 (l.map PyData.int) = true
  | [] => rfl
  | x :: l => by
    show (PyData.canLay0 (.int x) && PyData.canLayAll0 (l.map PyData.int)) = true
    rw [canAll_ints l]
    rfl
theorem depthAll_ints : ∀ l : List Int, PyData.depthAll (l.map PyData.int) ≤ 1
  | [] => by decide
  | x :: l => by
    have h := depthAll_ints l
    show max (PyData.depth (.int x)) (PyData.depthAll (l.map PyData.int)) ≤ 1
    have : PyData.depth (.int x) ≤ 1 := by simp [PyData.depth]
    omega
theorem shapedL (l : List Int) : SeqAt.shaped (pdL l) = true := by
  unfold SeqAt.shaped pdL
  rw [Bool.and_eq_true]
  refine ⟨?_, decide_eq_true ?_⟩
  · rw [PyData.canLay0]; exact canAll_ints l
  · rw [PyData.depth]; have := depthAll_ints l; omega
/-! ### one more item of a list that grows -/
theorem acc_step {H1 H4 : Hp} {D : Addr} {l l' : List V} {y : V} (s : Same H1 H4) (hD : H1 D = none) (h : H4 D = some (.lst l)) (hz : l.length < sizeLine) (e : l ++ [y] = l') :
    ∃ acc, H4 D = some (.lst acc) ∧ acc.length < sizeLine ∧ (Same H1 (upd H4 D (.lst (acc ++ [y]))) ∧ upd H4 D (.lst (acc ++ [y])) D = some (.lst l')) :=
  ⟨l, h, hz, s.wr hD, by rw [upd_same, e]⟩
theorem take_map_succ {l : List Int} {i : Nat} {z : Int} {f : Int → V} (h : l[i]? = some z) : (l.take i).map f ++ [f z] = (l.take (i + 1)).map f := by
  rw [List.take_succ, h]
  simp
theorem LI.new {K : PySem.W.Frag} {H : Hp} {p : Addr} {l : List Int} (h : H p = some (.lst (l.map V.int))) : LI K H p l := SqL.of h
theorem bool_dec {p : Prop} [Decidable p] {b : Bool} (h : b = true ↔ p) : b = decide p := by
  cases b <;> simp_all
theorem mod_z (a b : Nat) : decide (V.int ((a : Int) % (b : Int)) = V.int 0) = decide (a % b = 0) := by
  rw [dec_int, Bool.eq_iff_iff, beq_iff_eq, decide_eq_true_iff]
  omega
/-- the empty cycle: a finite set -/
theorem start_nil {S : Int → Bool} {s : Int} (F : Fr S s 1) (hc : els S s (s + 1) = []) {s' : Int} (hs : (els S 0 s = [] ∧ s' = 0) ∨ (els S 0 s ≠ [] ∧ s' = (els S 0 s).getD ((els S 0 s).length - 1) 0 + 1)) :
    (Fr S s' 1 ∧ ∀ s'', Fr S s'' 1 → s' ≤ s'') ∧ s' ≤ s ∧ els S 0 s = els S 0 s' ∧ els S s' (s' + 1) = [] := by
  have s0 := F.s0
  have off : ∀ d, s ≤ d → S d = false := fun d hd => by
    rw [← F.mod hd, Int.emod_one, Int.add_zero]
    cases e : S s with
    | false => rfl
    | true =>
      have : s ∈ els S s (s + 1) := mem_els.mpr ⟨⟨by omega, by omega⟩, e⟩
      rw [hc] at this; cases this
  have A := asc_els S 0 s
  have key : 0 ≤ s' ∧ s' ≤ s ∧ (∀ d, s' ≤ d → S d = false) ∧ (0 < s' → S (s' - 1) = true) := by
    rcases hs with ⟨e, rfl⟩ | ⟨e, es⟩
    · refine ⟨by omega, s0, fun d hd => ?_, fun h => absurd h (by omega)⟩
      by_cases c : s ≤ d
      · exact off d c
      · cases x : S d with
        | false => rfl
        | true =>
          have : d ∈ els S 0 s := mem_els.mpr ⟨⟨hd, by omega⟩, x⟩
          rw [e] at this; cases this
    · have pos : 0 < (els S 0 s).length := List.length_pos_iff.mpr e
      have m := mem_els.mp (getD_mem (l := els S 0 s) (i := (els S 0 s).length - 1) (by omega))
      refine ⟨by omega, by omega, fun d hd => ?_, fun _ => by rw [es, Int.add_sub_cancel]; exact m.2⟩
      by_cases c : s ≤ d
      · exact off d c
      · cases x : S d with
        | false => rfl
        | true =>
          obtain ⟨i, hi, ei⟩ := mem_getD (mem_els.mpr ⟨⟨by omega, by omega⟩, x⟩ : d ∈ els S 0 s)
          have := asc_le A (show i ≤ (els S 0 s).length - 1 by omega) (by omega)
          omega
  obtain ⟨k0, k1, k2, k3⟩ := key
  refine ⟨⟨⟨k0, by omega, fun d hd => by rw [k2 _ (by omega), k2 _ hd]⟩, fun s'' G => ?_⟩, k1, ?_, ?_⟩
  · have g0 := G.s0
    rcases Int.lt_or_le s'' s' with c | c
    · exfalso
      have h1 := k3 (by omega)
      have h2 := G.per (s' - 1) (by omega)
      rw [Int.sub_add_cancel, k2 s' (Int.le_refl _), h1] at h2
      cases h2
    · exact c
  · rw [els_cut S k0 k1]
    have : els S s' s = [] := by
      refine List.eq_nil_iff_forall_not_mem.mpr fun d hd => ?_
      have m := mem_els.mp hd
      rw [k2 d m.1.1] at m
      exact Bool.noConfusion m.2
    rw [this, List.append_nil]
  · refine List.eq_nil_iff_forall_not_mem.mpr fun d hd => ?_
    have m := mem_els.mp hd
    rw [k2 d m.1.1] at m
    exact Bool.noConfusion m.2
theorem szl {n : Nat} (h : n ≤ 8000000) : n < sizeLine := by rw [sizeLine_eq]; omega
theorem szle {n : Nat} (h : n ≤ 8000000) : n ≤ sizeLine := Nat.le_of_lt (szl h)
theorem cnt_mono (l : List Int) {a b : Int} (h : a ≤ b) : cnt l a ≤ cnt l b := by
  unfold cnt
  induction l with
  | nil => exact Nat.le_refl _
  | cons x l ih =>
    rw [List.filter_cons, List.filter_cons]
    by_cases c : x < a
    · rw [if_pos (decide_eq_true c), if_pos (decide_eq_true (show x < b by omega)), List.length_cons, List.length_cons]; omega
    · rw [if_neg (by simpa using c)]
      split
      · rw [List.length_cons]; omega
      · exact ih
theorem filter_cnt (l : List Int) {a b : Int} (h : a ≤ b) : cnt (l.filter fun d => decide (d < b)) a = cnt l a := by
  unfold cnt
  rw [List.filter_filter]
  congr 1
  refine List.filter_congr fun d _ => ?_
  rw [← Bool.decide_and]
  refine decide_eq_decide.mpr ?_
  omega
theorem drop_sub {l : List Int} (A : Asc l) {a b : Int} (h : a ≤ b) : (l.filter fun d => decide (d < b)).drop (cnt l a) = (l.filter fun d => decide (d < b)).filter fun d => decide (a ≤ d) := by
  rw [← filter_cnt l h]
  exact drop_cnt (List.Pairwise.filter _ A) a
theorem rk_head {S : Int → Bool} {s p day : Int} (F : Fr S s p) (h : day ≤ s) : Rk S s p day (cnt (els S 0 s) day) := by
  have A := asc_els S 0 s
  have cl := cnt_le (els S 0 s) day
  refine ⟨fun i hi => ⟨.inl (by omega), ?_⟩, fun i hi v => ?_⟩
  · unfold dAt
    rw [if_pos (by omega)]
    exact (cnt_iff A (by omega)).mpr hi
  · unfold dAt
    by_cases c : i < (els S 0 s).length
    · rw [if_pos c]
      have := cnt_iff (b := day) A c
      omega
    · rw [if_neg c]
      have hc := v.resolve_left c
      have z := cdy_zero F hc
      have l := cdy_le F hc (show 0 ≤ ((i - (els S 0 s).length : Nat) : Int) by omega)
      omega
theorem rk_tail {S : Int → Bool} {s p day : Int} (F : Fr S s p) (h : s < day) :
    Rk S s p day ((els S 0 s).length + (((day - s) / p).toNat * (els S s (s + p)).length + cnt (els S s (s + p)) (s + (day - s) % p))) := by
  have p1 := F.p1
  have A := asc_els S s (s + p)
  have M := fun k (hk : k < (els S s (s + p)).length) => (mem_els.mp (getD_mem hk)).1
  have m0 := Int.emod_nonneg (day - s) (show p ≠ 0 by omega)
  have m1 := Int.emod_lt_of_pos (day - s) (show 0 < p by omega)
  have dm := Int.mul_ediv_add_emod (day - s) p
  have t0 : 0 ≤ (day - s) / p := Int.ediv_nonneg (by omega) (by omega)
  generalize hT : ((day - s) / p).toNat = T
  have eT : (day - s) / p = (T : Int) := by omega
  rw [eT] at dm
  generalize hr : (day - s) % p = r at *
  have cl := cnt_le (els S s (s + p)) (s + r)
  -- a day of the cycle by its turn and place
  have at_ : ∀ (hc : els S s (s + p) ≠ []) (j : Nat), cdy p (els S s (s + p)) (j : Int) = (els S s (s + p)).getD (j % (els S s (s + p)).length) 0 + ((j / (els S s (s + p)).length : Nat) : Int) * p := fun hc j => by
    unfold cdy
    rw [← Int.natCast_emod, Int.toNat_natCast, ← Int.natCast_ediv]
  have key : ∀ (hc : els S s (s + p) ≠ []) (j : Nat), cdy p (els S s (s + p)) (j : Int) < day ↔ j < T * (els S s (s + p)).length + cnt (els S s (s + p)) (s + r) := fun hc j => by
    have n0 := cyc_pos F hc
    have jm := Nat.mod_lt j n0
    have jd := Nat.div_add_mod j (els S s (s + p)).length
    have mm := M _ jm
    rw [at_ hc j]
    have cI := cnt_iff (b := s + r) A jm
    rcases Nat.lt_trichotomy (j / (els S s (s + p)).length) T with q | q | q
    · have a1 : ((j / (els S s (s + p)).length : Nat) : Int) * p + p ≤ p * T := by
        have : (((j / (els S s (s + p)).length : Nat) : Int) + 1) * p ≤ (T : Int) * p := Int.mul_le_mul_of_nonneg_right (by omega) (by omega)
        rw [Int.add_mul, Int.one_mul] at this
        rw [Int.mul_comm p]
        exact this
      have a2 : (j / (els S s (s + p)).length + 1) * (els S s (s + p)).length ≤ T * (els S s (s + p)).length := Nat.mul_le_mul_right _ q
      rw [Nat.add_mul, Nat.mul_comm (j / _)] at a2
      omega
    · rw [q] at jd ⊢
      rw [Int.mul_comm (T : Int) p]
      rw [Nat.mul_comm T]
      omega
    · have a1 : p * T + p ≤ ((j / (els S s (s + p)).length : Nat) : Int) * p := by
        have : ((T : Int) + 1) * p ≤ ((j / (els S s (s + p)).length : Nat) : Int) * p := Int.mul_le_mul_of_nonneg_right (by omega) (by omega)
        rw [Int.add_mul, Int.one_mul] at this
        rw [Int.mul_comm p]
        exact this
      have a2 : (T + 1) * (els S s (s + p)).length ≤ (j / (els S s (s + p)).length) * (els S s (s + p)).length := Nat.mul_le_mul_right _ q
      rw [Nat.add_mul, Nat.mul_comm (j / _)] at a2
      omega
  refine ⟨fun i hi => ?_, fun i hi v => ?_⟩
  · by_cases c : i < (els S 0 s).length
    · refine ⟨.inl c, ?_⟩
      unfold dAt
      rw [if_pos c]
      have := (mem_els.mp (getD_mem c)).1.2
      omega
    · have hc : els S s (s + p) ≠ [] := fun e => by rw [e] at hi; simp [cnt] at hi; omega
      refine ⟨.inr hc, ?_⟩
      unfold dAt
      rw [if_neg c]
      exact (key hc _).mpr (by omega)
  · have c : ¬ i < (els S 0 s).length := by omega
    have hc := v.resolve_left c
    unfold dAt
    rw [if_neg c]
    have := key hc (i - (els S 0 s).length)
    omega
end Cf
/-! The days of one set that follow days of another one. -/
namespace Cf
/-- a day of the other set waits for one of the first, before day n -/
def fw (S T : Int → Bool) : Nat → Bool
  | 0 => false
  | n + 1 => (fw S T n || T n) && !S n
def folS (S T : Int → Bool) : Int → Bool := fun d => decide (0 ≤ d) && S d && (fw S T d.toNat || T d)
theorem fol_neg {S T : Int → Bool} {d : Int} (h : d < 0) : folS S T d = false := by
  unfold folS; rw [decide_eq_false (by omega)]; rfl
theorem fol_nat (S T : Int → Bool) (n : Nat) : folS S T n = (S n && (fw S T n || T n)) := by
  unfold folS; rw [decide_eq_true (by omega), Int.toNat_natCast]; rfl
theorem fol_sub {S T : Int → Bool} {d : Int} (h : folS S T d = true) : S d = true := by
  unfold folS at h
  simp only [Bool.and_eq_true] at h
  exact h.1.2
/-- behind a day of the first set none waits -/
theorem fw_day {S T : Int → Bool} {n : Nat} (h : S n = true) : fw S T (n + 1) = false := by
  show ((fw S T n || T n) && !S n) = false
  rw [h]; simp
theorem fw_gap {S T : Int → Bool} {b : Nat} (hb : fw S T b = false) : ∀ k : Nat, (∀ x : Nat, b ≤ x → x < b + k → S x = false) → (fw S T (b + k) = true ↔ ∃ e : Nat, b ≤ e ∧ e < b + k ∧ T e = true)
  | 0, _ => by
    rw [Nat.add_zero, hb]
    exact ⟨fun h => Bool.noConfusion h, fun ⟨e, h1, h2, _⟩ => absurd h2 (by omega)⟩
  | k + 1, h => by
    have ih := fw_gap hb k fun x h1 h2 => h x h1 (by omega)
    have e : fw S T (b + (k + 1)) = ((fw S T (b + k) || T ((b + k : Nat) : Int)) && !S ((b + k : Nat) : Int)) := rfl
    rw [e, h (b + k) (by omega) (by omega), Bool.not_false, Bool.and_true, Bool.or_eq_true, ih]
    constructor
    · rintro (⟨x, h1, h2, h3⟩ | h3)
      · exact ⟨x, h1, by omega, h3⟩
      · exact ⟨b + k, by omega, by omega, h3⟩
    · rintro ⟨x, h1, h2, h3⟩
      by_cases q : x < b + k
      · exact .inl ⟨x, h1, q, h3⟩
      · have : x = b + k := by omega
        subst this
        exact .inr h3
/-- a day of the first set, those from b on before it not in it -/
theorem fol_at {S T : Int → Bool} {b d : Int} (b0 : 0 ≤ b) (hb : fw S T b.toNat = false) (bd : b ≤ d) (gap : ∀ x, b ≤ x → x < d → S x = false) (hd : S d = true) : folS S T d = true ↔ ∃ e, b ≤ e ∧ e ≤ d ∧ T e = true := by
  obtain ⟨n, rfl⟩ : ∃ n : Nat, d = n := ⟨d.toNat, by omega⟩
  obtain ⟨m, rfl⟩ : ∃ m : Nat, b = m := ⟨b.toNat, by omega⟩
  rw [Int.toNat_natCast] at hb
  have g := fw_gap hb (n - m) fun x h1 h2 => gap x (by omega) (by omega)
  rw [show m + (n - m) = n by omega] at g
  rw [fol_nat, hd, Bool.true_and, Bool.or_eq_true, g]
  constructor
  · rintro (⟨e, h1, h2, h3⟩ | h)
    · exact ⟨e, by omega, by omega, h3⟩
    · exact ⟨n, by omega, by omega, h⟩
  · rintro ⟨e, h1, h2, h3⟩
    obtain ⟨x, rfl⟩ : ∃ x : Nat, e = x := ⟨e.toNat, by omega⟩
    by_cases q : x < n
    · exact .inl ⟨x, by omega, by omega, h3⟩
    · have : x = n := by omega
      subst this
      exact .inr h3
theorem fol_per {S T : Int → Bool} {s q : Int} (F : Fr S s q) (G : Fr T s q) {d0 : Int} (h0 : s ≤ d0) (hd : S d0 = true) : Fr (folS S T) (d0 + 1) q := by
  have s0 := F.s0
  have q1 := F.p1
  obtain ⟨n0, rfl⟩ : ∃ n : Nat, d0 = n := ⟨d0.toNat, by omega⟩
  obtain ⟨k, rfl⟩ : ∃ k : Nat, q = k := ⟨q.toNat, by omega⟩
  have step : ∀ j : Nat, fw S T (n0 + 1 + j + k) = fw S T (n0 + 1 + j) := by
    intro j
    induction j with
    | zero =>
      rw [Nat.add_zero, fw_day hd, show n0 + 1 + k = n0 + k + 1 by omega]
      refine fw_day ?_
      have := F.per n0 h0
      rw [hd] at this
      exact this
    | succ j ih =>
      have e1 : fw S T (n0 + 1 + (j + 1) + k) = ((fw S T (n0 + 1 + j + k) || T ((n0 + 1 + j + k : Nat) : Int)) && !S ((n0 + 1 + j + k : Nat) : Int)) := by
        rw [show n0 + 1 + (j + 1) + k = n0 + 1 + j + k + 1 by omega]; rfl
      have e2 : fw S T (n0 + 1 + (j + 1)) = ((fw S T (n0 + 1 + j) || T ((n0 + 1 + j : Nat) : Int)) && !S ((n0 + 1 + j : Nat) : Int)) := rfl
      have p1 := F.per ((n0 + 1 + j : Nat) : Int) (by omega)
      have p2 := G.per ((n0 + 1 + j : Nat) : Int) (by omega)
      rw [e1, e2, ih, show ((n0 + 1 + j + k : Nat) : Int) = ((n0 + 1 + j : Nat) : Int) + (k : Int) by omega, p1, p2]
  refine ⟨by omega, q1, fun d hd2 => ?_⟩
  obtain ⟨j, rfl⟩ : ∃ j : Nat, d = ((n0 + 1 + j : Nat) : Int) := ⟨(d - n0 - 1).toNat, by omega⟩
  have p1 := F.per ((n0 + 1 + j : Nat) : Int) (by omega)
  have p2 := G.per ((n0 + 1 + j : Nat) : Int) (by omega)
  rw [show ((n0 + 1 + j : Nat) : Int) + (k : Int) = ((n0 + 1 + j + k : Nat) : Int) by omega, fol_nat, fol_nat, step j, show ((n0 + 1 + j + k : Nat) : Int) = ((n0 + 1 + j : Nat) : Int) + (k : Int) by omega, p1, p2]
theorem fol_off {S T : Int → Bool} {s q : Int} (F : Fr S s q) (h : ∀ d, s ≤ d → S d = false) : Fr (folS S T) s q := by
  have q1 := F.p1
  have off : ∀ d, s ≤ d → folS S T d = false := fun d hd => by
    cases e : folS S T d with
    | false => rfl
    | true => have := fol_sub e; rw [h d hd] at this; cases this
  exact ⟨F.s0, F.p1, fun d hd => by rw [off d hd, off _ (by omega)]⟩
/-- the set that follows itself -/
theorem fol_self {S : Int → Bool} (neg : ∀ d, d < 0 → S d = false) : folS S S = S := by
  funext d
  rcases Int.lt_or_le d 0 with z | z
  · rw [fol_neg z, neg d z]
  · obtain ⟨n, rfl⟩ : ∃ n : Nat, d = n := ⟨d.toNat, by omega⟩
    rw [fol_nat]
    cases S n <;> simp
/-- the days from b on: the next of them -/
theorem els_next {S : Int → Bool} {b hi d : Int} {r : List Int} (h : els S b hi = d :: r) : (b ≤ d ∧ d < hi) ∧ S d = true ∧ (∀ x, b ≤ x → x < d → S x = false) ∧ els S (d + 1) hi = r := by
  have m : d ∈ els S b hi := by rw [h]; exact List.mem_cons_self
  obtain ⟨⟨h1, h2⟩, h3⟩ := mem_els.mp m
  have A := asc_els S b hi
  rw [h] at A
  have gap : ∀ x, b ≤ x → x < d → S x = false := fun x a1 a2 => by
    cases e : S x with
    | false => rfl
    | true =>
      have mx : x ∈ els S b hi := mem_els.mpr ⟨⟨a1, by omega⟩, e⟩
      rw [h] at mx
      rcases List.mem_cons.mp mx with q | q
      · omega
      · have := (List.pairwise_cons.mp A).1 x q
        omega
  refine ⟨⟨h1, h2⟩, h3, gap, ?_⟩
  have e1 := els_cut S (show b ≤ d + 1 by omega) (show d + 1 ≤ hi by omega)
  have e2 : els S b (d + 1) = [d] := by
    refine asc_ext (asc_els _ _ _) (by simp [Asc]) fun x => ?_
    rw [mem_els, List.mem_singleton]
    constructor
    · rintro ⟨⟨a1, a2⟩, a3⟩
      by_cases q : x < d
      · rw [gap x a1 q] at a3; cases a3
      · omega
    · rintro rfl
      exact ⟨⟨h1, by omega⟩, h3⟩
  rw [e2, h] at e1
  exact (List.cons.inj e1).2.symm
theorem els_fol_next {S T : Int → Bool} {b d : Int} (b0 : 0 ≤ b) (hd : b ≤ d) (gap : ∀ x, b ≤ x → x < d → S x = false) : els (folS S T) 0 (d + 1) = els (folS S T) 0 b ++ if folS S T d then [d] else [] := by
  rw [els_cut (folS S T) b0 (show b ≤ d + 1 by omega)]
  congr 1
  refine asc_ext (asc_els _ _ _) (by split <;> simp [Asc]) fun x => ?_
  rw [mem_els]
  by_cases c : folS S T d = true
  · rw [if_pos c, List.mem_singleton]
    constructor
    · rintro ⟨⟨a1, a2⟩, a3⟩
      by_cases q : x < d
      · have := fol_sub a3; rw [gap x a1 q] at this; cases this
      · omega
    · rintro rfl
      exact ⟨⟨hd, by omega⟩, c⟩
  · rw [if_neg c]
    constructor
    · rintro ⟨⟨a1, a2⟩, a3⟩
      by_cases q : x < d
      · have := fol_sub a3; rw [gap x a1 q] at this; cases this
      · have : x = d := by omega
        subst this
        exact absurd a3 c
    · intro h; cases h
theorem cnt_els (T : Int → Bool) {b hi : Int} (h : b ≤ hi) : cnt (els T 0 hi) b = (els T 0 b).length := by
  unfold cnt
  rw [els_filter_lt T h]
theorem els_nil_of {S : Int → Bool} {b hi : Int} (h : els S b hi = []) : ∀ x, b ≤ x → x < hi → S x = false := fun x a1 a2 => by
  cases e : S x with
  | false => rfl
  | true =>
    have : x ∈ els S b hi := mem_els.mpr ⟨⟨a1, a2⟩, e⟩
    rw [h] at this; cases this
end Cf
/-! Days: the objects in the heap; the mathematics of the makers and operators. -/
namespace Cf
open PySem PySem.Spec PyProof.Rows L2
theorem n_ps : ¬ (("_period" : Str) = "_start") := by decide +kernel
theorem n_ph : ¬ (("_period" : Str) = "_head") := by decide +kernel
theorem n_pc : ¬ (("_period" : Str) = "_cycle") := by decide +kernel
theorem n_sh : ¬ (("_start" : Str) = "_head") := by decide +kernel
theorem n_sc : ¬ (("_start" : Str) = "_cycle") := by decide +kernel
theorem n_hc : ¬ (("_head" : Str) = "_cycle") := by decide +kernel
/-- the attributes of a day set, in the order in which they are stored -/
def dsF (p s : Int) (h c : Addr) : List (Str × V) := putF "_cycle" (.ref c) (putF "_head" (.ref h) (putF "_start" (.int s) (putF "_period" (.int p) [])))
section
variable {p s : Int} {h c : Addr}
theorem dsF_period : (dsF p s h c).lookup ("_period" : Str) = some (.int p) := by
  unfold dsF; rw [lookup_putF, if_neg n_pc, lookup_putF, if_neg n_ph, lookup_putF, if_neg n_ps, lookup_putF, if_pos rfl]
theorem dsF_start : (dsF p s h c).lookup ("_start" : Str) = some (.int s) := by
  unfold dsF; rw [lookup_putF, if_neg n_sc, lookup_putF, if_neg n_sh, lookup_putF, if_pos rfl]
theorem dsF_head : (dsF p s h c).lookup ("_head" : Str) = some (.ref h) := by
  unfold dsF; rw [lookup_putF, if_neg n_hc, lookup_putF, if_pos rfl]
theorem dsF_cycle : (dsF p s h c).lookup ("_cycle" : Str) = some (.ref c) := by
  unfold dsF; rw [lookup_putF, if_pos rfl]
theorem dsF_no {m : Str} (h1 : ¬ m = "_cycle") (h2 : ¬ m = "_head") (h3 : ¬ m = "_start") (h4 : ¬ m = "_period") : (dsF p s h c).lookup m = none := by
  unfold dsF; rw [lookup_putF, if_neg h1, lookup_putF, if_neg h2, lookup_putF, if_neg h3, lookup_putF, if_neg h4]; rfl
theorem len1 : (putF "_period" (.int p) ([] : List (Str × V))).length < 1000 := by have := length_putF "_period" (.int p) ([] : List (Str × V)); simp at this; omega
theorem len2 : (putF "_start" (.int s) (putF "_period" (.int p) ([] : List (Str × V)))).length < 1000 := by
  have := length_putF "_start" (.int s) (putF "_period" (.int p) ([] : List (Str × V))); have := length_putF "_period" (.int p) ([] : List (Str × V)); simp at this; omega
theorem len3 : (putF "_head" (.ref h) (putF "_start" (.int s) (putF "_period" (.int p) ([] : List (Str × V))))).length < 1000 := by
  have := length_putF "_head" (.ref h) (putF "_start" (.int s) (putF "_period" (.int p) ([] : List (Str × V))))
  have := length_putF "_start" (.int s) (putF "_period" (.int p) ([] : List (Str × V))); have := length_putF "_period" (.int p) ([] : List (Str × V)); simp at this; omega
end
/-- a day set stands at x: its own dict, the lists of its head and of its cycle; the set that it is, in its least form -/
structure DayAt (K : PySem.W.Frag) (C : Addr) (H : Hp) (x dx h c : Addr) (S : Int → Bool) (s p : Int) : Prop where
  ob : H x = some (.ins C dx (dsF p s h c))
  hd : LI K H h (els S 0 s)
  cy : LI K H c (els S s (s + p))
  can : Can S s p
  neg : ∀ d, d < 0 → S d = false
section
variable {K : PySem.W.Frag} {C : Addr} {H H' H0 : Hp} {x dx h c : Addr} {S T : Int → Bool} {s p : Int}
theorem DayAt.same (D : DayAt K C H x dx h c S s p) (e : Same H H') : DayAt K C H' x dx h c S s p := ⟨e _ _ D.ob, e.seq D.hd, e.seq D.cy, D.can, D.neg⟩
theorem li_but {a b q : Addr} {l : List Int} (h : LI K H q l) (e : But a b H H') (h1 : q ≠ a) (h2 : q ≠ b) : LI K H' q l := by
  rcases h with (h | ⟨o, h⟩) | h
  · exact .inl (.inl (e _ _ h h1 h2))
  · exact .inl (.inr ⟨o, e _ _ h h1 h2⟩)
  · exact .inr h
theorem DayAt.but {a b : Addr} (D : DayAt K C H x dx h c S s p) (e : But a b H H') (x1 : x ≠ a) (x2 : x ≠ b) (h1 : h ≠ a) (h2 : h ≠ b) (c1 : c ≠ a) (c2 : c ≠ b) : DayAt K C H' x dx h c S s p :=
  ⟨e _ _ D.ob x1 x2, li_but D.hd e h1 h2, li_but D.cy e c1 c2, D.can, D.neg⟩
/-- .. anywhere -/
def Ds (K : PySem.W.Frag) (C : Addr) (H : Hp) (x : Addr) (S : Int → Bool) (s p : Int) : Prop := ∃ dx h c, DayAt K C H x dx h c S s p
/-- .. all of it new since H0 -/
def Dn (K : PySem.W.Frag) (C : Addr) (H0 H : Hp) (x : Addr) (S : Int → Bool) (s p : Int) : Prop := ∃ dx h c, DayAt K C H x dx h c S s p ∧ H0 x = none ∧ H0 h = none ∧ H0 c = none
theorem Dn.ds (D : Dn K C H0 H x S s p) : Ds K C H x S s p := let ⟨dx, h, c, d, _⟩ := D; ⟨dx, h, c, d⟩
theorem Ds.same (D : Ds K C H x S s p) (e : Same H H') : Ds K C H' x S s p := let ⟨dx, h, c, d⟩ := D; ⟨dx, h, c, d.same e⟩
theorem Dn.same (D : Dn K C H0 H x S s p) (e : Same H H') : Dn K C H0 H' x S s p := let ⟨dx, h, c, d, n⟩ := D; ⟨dx, h, c, d.same e, n⟩
theorem Dn.old {H1 : Hp} (D : Dn K C H0 H x S s p) (e : Same H1 H0) : Dn K C H1 H x S s p := let ⟨dx, h, c, d, a, b, f⟩ := D; ⟨dx, h, c, d, e.free a, e.free b, e.free f⟩
/-- through what only changes two objects that stood ahead -/
theorem Dn.but {a b : Addr} {o u : HO} (D : Dn K C H0 H x S s p) (e : But a b H H') (ha : H0 a = some o) (hb : H0 b = some u) : Dn K C H0 H' x S s p :=
  let ⟨dx, h, c, d, n1, n2, n3⟩ := D
  ⟨dx, h, c, d.but e (ne_of_none ha n1).symm (ne_of_none hb n1).symm (ne_of_none ha n2).symm (ne_of_none hb n2).symm (ne_of_none ha n3).symm (ne_of_none hb n3).symm, n1, n2, n3⟩
theorem Ds.can (D : Ds K C H x S s p) : Can S s p := let ⟨_, _, _, d⟩ := D; d.can
theorem Ds.neg (D : Ds K C H x S s p) : ∀ d, d < 0 → S d = false := let ⟨_, _, _, d⟩ := D; d.neg
end
/-! ### two sets at once -/
theorem Fr.lcm {S : Int → Bool} {s p q : Int} (F : Fr S s p) (hq : 1 ≤ q) : Fr S s ((Nat.lcm p.natAbs q.natAbs : Nat) : Int) := by
  have p1 := F.p1
  obtain ⟨k, hk⟩ := Nat.dvd_lcm_left p.natAbs q.natAbs
  have pos : 0 < Nat.lcm p.natAbs q.natAbs := Nat.lcm_pos (by omega) (by omega)
  have k1 : 1 ≤ k := by
    rcases Nat.eq_zero_or_pos k with z | z
    · rw [z, Nat.mul_zero] at hk; omega
    · exact z
  have e : ((Nat.lcm p.natAbs q.natAbs : Nat) : Int) = (k : Int) * p := by
    rw [hk, Int.natCast_mul, show ((p.natAbs : Nat) : Int) = p by omega, Int.mul_comm]
  rw [e]
  exact F.times k1
theorem Fr.both {S T : Int → Bool} {s p s' p' : Int} (F : Fr S s p) (G : Fr T s' p') (g : Bool → Bool → Bool) {m : Int} (h1 : s ≤ m) (h2 : s' ≤ m) : Fr (fun d => g (S d) (T d)) m ((Nat.lcm p.natAbs p'.natAbs : Nat) : Int) := by
  have A := F.lcm G.p1
  have B := G.lcm F.p1
  rw [Nat.lcm_comm] at B
  refine ⟨by have := F.s0; omega, A.p1, fun d hd => ?_⟩
  show g (S _) (T _) = g (S d) (T d)
  rw [A.per d (by omega), B.per d (by omega)]
theorem Fr.one {S : Int → Bool} {s p : Int} (F : Fr S s p) (g : Bool → Bool) : Fr (fun d => g (S d)) s p := ⟨F.s0, F.p1, fun d hd => by show g (S _) = g (S d); rw [F.per d hd]⟩
theorem els_minus (S T : Int → Bool) (lo hi : Int) : (els S lo hi).filter (fun d => decide (d ∉ els T lo hi)) = els (fun d => S d && !T d) lo hi := by
  refine asc_ext (List.Pairwise.filter _ (asc_els _ _ _)) (asc_els _ _ _) fun d => ?_
  rw [List.mem_filter, mem_els, decide_eq_true_iff, mem_els, mem_els, Bool.and_eq_true]
  constructor
  · rintro ⟨⟨a, b⟩, c⟩
    refine ⟨a, b, ?_⟩
    cases e : T d with
    | true => exact absurd ⟨a, e⟩ c
    | false => rfl
  · rintro ⟨a, b, c⟩
    refine ⟨⟨a, b⟩, fun q => ?_⟩
    rw [q.2] at c; cases c
/-! ### patterns -/
def patS (hb cb : List Bool) (d : Int) : Bool := if d < 0 then false else if d.toNat < hb.length then hb.getD d.toNat false else cb.getD ((d.toNat - hb.length) % cb.length) false
theorem patS_neg (hb cb : List Bool) (d : Int) (h : d < 0) : patS hb cb d = false := by unfold patS; rw [if_pos h]
theorem patS_fr (hb cb : List Bool) (h : cb ≠ []) : Fr (patS hb cb) hb.length cb.length := by
  have pos : 0 < cb.length := List.length_pos_iff.mpr h
  refine ⟨by omega, by omega, fun d hd => ?_⟩
  unfold patS
  rw [if_neg (by omega), if_neg (by omega), if_neg (by omega), if_neg (by omega)]
  congr 1
  rw [show (d + (cb.length : Int)).toNat - hb.length = (d.toNat - hb.length) + cb.length by omega, Nat.add_mod_right]
theorem patS_at (hb cb : List Bool) {i : Nat} (h : i < (hb ++ cb).length) : patS hb cb (i : Int) = (hb ++ cb).getD i false := by
  unfold patS
  rw [if_neg (by omega), Int.toNat_natCast, List.getD_eq_getElem?_getD, List.getD_eq_getElem?_getD, List.getD_eq_getElem?_getD]
  rw [List.length_append] at h
  by_cases c : i < hb.length
  · rw [if_pos c, List.getElem?_append_left c]
  · rw [if_neg c, List.getElem?_append_right (by omega), Nat.mod_eq_of_lt (by omega)]
theorem els_nat_succ (S : Int → Bool) (i : Nat) : els S 0 ((i + 1 : Nat) : Int) = if S (i : Int) = true then els S 0 (i : Int) ++ [(i : Int)] else els S 0 (i : Int) := by
  have e : els S (i : Int) ((i + 1 : Nat) : Int) = if S (i : Int) = true then [(i : Int)] else [] := by
    refine asc_ext (asc_els _ _ _) (by split <;> simp) fun d => ?_
    rw [mem_els]
    constructor
    · rintro ⟨⟨a, b⟩, c⟩
      have : d = i := by omega
      subst this
      rw [if_pos c]; simp
    · intro m
      split at m
      · rename_i q
        rw [List.mem_singleton] at m
        subst m
        exact ⟨⟨by omega, by omega⟩, q⟩
      · cases m
  rw [els_cut S (show (0 : Int) ≤ i by omega) (show (i : Int) ≤ ((i + 1 : Nat) : Int) by omega), e]
  split <;> simp
/-! ### what _listed builds -/
theorem els_period {S : Int → Bool} {s p : Int} (F : Fr S s p) (k : Nat) : (els S s (s + p)).map (· + (k : Int) * p) = els S (s + k * p) (s + (k + 1 : Nat) * p) := by
  have e : s + ((k + 1 : Nat) : Int) * p = (s + p) + k * p := by rw [show ((k + 1 : Nat) : Int) = (k : Int) + 1 by omega, Int.add_mul]; omega
  rw [e, els_shift S s (s + p) ((k : Int) * p), els_congr (T := S) (fun d h1 h2 => F.mul k d h1)]
theorem seg_empty (S : Int → Bool) (lo hi b : Int) (h : ∀ d, lo ≤ d → d < hi → S d = false) : els S lo hi = [] :=
  List.eq_nil_iff_forall_not_mem.mpr fun d hd => by
    have m := mem_els.mp hd
    rw [h d m.1.1 m.1.2] at m; exact Bool.noConfusion m.2
/-! ### walks, whatever a turn does -/
theorem it_rg {lo c : Int} {n : Nat} {B : V → Hp → (Hp → Prop) → Prop} {Qd : Hp → Prop} {H1 : Hp} (Pv : Nat → Hp → Prop) (h0 : Pv 0 H1) (hs : ∀ (i : Nat) H, i < n → Pv i H → B (.int (lo + (i : Int) * c)) H (Pv (i + 1))) (hd : ∀ H, Pv n H → Qd H) :
    ∃ W : Nat → Nat → Hp → Prop, (∃ m, W 0 m H1) ∧ ∀ i m H, W i m H → ((Itc lo c n).stop i H ∧ Qd H) ∨ ((Itc lo c n).go i H ∧ ∃ Nx : Hp → Prop, (∀ H', Nx H' → ∃ m', m' < m ∧ W (i + 1) m' H') ∧ ∀ x H', (Itc lo c n).yld i H x H' → B x H' Nx) := by
  refine ⟨fun i m H => m = n - i ∧ i ≤ n ∧ Pv i H, ⟨n, by simp, Nat.zero_le _, h0⟩, fun i m H ⟨em, hi, p⟩ => ?_⟩
  by_cases lt : i < n
  · refine .inr ⟨lt, Pv (i + 1), fun H' p' => ⟨n - (i + 1), by omega, rfl, lt, p'⟩, fun x H' y => ?_⟩
    obtain ⟨e, ex⟩ := y
    rw [ex, e]
    exact hs i H lt p
  · have e : i = n := by omega
    rw [e] at p
    exact .inl ⟨Nat.le_of_not_lt lt, hd H p⟩
theorem it_list {K : PySem.W.Frag} {a : Addr} {xs : List V} {B : V → Hp → (Hp → Prop) → Prop} {Qd : Hp → Prop} {H1 : Hp} (Pv : Nat → Hp → Prop) (h0 : Pv 0 H1) (hl : ∀ i H, i ≤ xs.length → Pv i H → SqL K H a xs) (hs : ∀ (i : Nat) y H, xs[i]? = some y → Pv i H → B y H (Pv (i + 1))) (hd : ∀ H, Pv xs.length H → Qd H) :
    ∃ W : Nat → Nat → Hp → Prop, (∃ m, W 0 m H1) ∧ ∀ i m H, W i m H → ((Itl K a).stop i H ∧ Qd H) ∨ ((Itl K a).go i H ∧ ∃ Nx : Hp → Prop, (∀ H', Nx H' → ∃ m', m' < m ∧ W (i + 1) m' H') ∧ ∀ x H', (Itl K a).yld i H x H' → B x H' Nx) := by
  refine ⟨fun i m H => m = xs.length - i ∧ i ≤ xs.length ∧ Pv i H, ⟨xs.length, by simp, Nat.zero_le _, h0⟩, fun i m H ⟨em, hi, p⟩ => ?_⟩
  have q := hl i H hi p
  by_cases lt : i < xs.length
  · refine .inr ⟨⟨xs, xs[i], q, by simp [lt]⟩, Pv (i + 1), fun H' p' => ⟨xs.length - (i + 1), by omega, rfl, lt, p'⟩, fun x H' y => ?_⟩
    obtain ⟨e, y⟩ := y
    rw [e]
    exact hs i x H (y xs q) p
  · have e : i = xs.length := by omega
    rw [e] at p
    exact .inl ⟨by rw [e]; exact ⟨xs, q, Nat.le_refl _⟩, hd H p⟩
/-- a range upwards -/
theorem rg_up {i j c : Int} (h0 : 0 ≤ i) (h1 : i < 1000000000000) (h2 : 0 ≤ j) (h3 : j < 1000000000000) (h4 : 1 ≤ c) (h5 : c < 1000000000) : ∃ n : Nat, RgC i j c n ∧ j ≤ i + n * c ∧ (n = 0 ∨ i + ((n - 1 : Nat) : Int) * c < j) := by
  have e : Builtin.Range.rangeSize i j c = (if i < j then (j - i - 1) / c + 1 else 0) := by unfold Builtin.Range.rangeSize; rw [if_pos (show c > 0 by omega)]
  have nn : 0 ≤ Builtin.Range.rangeSize i j c := by
    rw [e]
    split
    · have := Int.ediv_nonneg (show 0 ≤ j - i - 1 by omega) (show 0 ≤ c by omega); omega
    · omega
  have up : Builtin.Range.rangeSize i j c ≤ 1000000000000 := by
    rw [e]
    split
    · have := Int.ediv_le_self c (show 0 ≤ j - i - 1 by omega); omega
    · omega
  refine ⟨(Builtin.Range.rangeSize i j c).toNat, ⟨by omega, by omega, ?_, by omega⟩, ?_, ?_⟩
  · unfold Builtin.Range.small
    rw [if_pos (show c > 0 by omega)]
    simp only [Builtin.Range.rangeFitsLong, Bool.and_eq_true, Bool.or_eq_true, decide_eq_true_eq, beq_iff_eq]
    refine ⟨⟨⟨⟨?_, ?_⟩, ?_⟩, ?_⟩, .inr ?_⟩ <;> omega
  · rw [Int.toNat_of_nonneg nn, e]
    split
    · have q := Int.mul_ediv_add_emod (j - i - 1) c
      have r := Int.emod_lt_of_pos (j - i - 1) (show 0 < c by omega)
      rw [Int.add_mul, Int.mul_comm ((j - i - 1) / c) c]
      omega
    · omega
  · rw [e]
    split
    · refine .inr ?_
      have q := Int.mul_ediv_add_emod (j - i - 1) c
      have r := Int.emod_nonneg (j - i - 1) (show c ≠ 0 by omega)
      have z := Int.ediv_nonneg (show 0 ≤ j - i - 1 by omega) (show 0 ≤ c by omega)
      rw [show ((((j - i - 1) / c + 1).toNat - 1 : Nat) : Int) = (j - i - 1) / c by omega, Int.mul_comm ((j - i - 1) / c) c]
      omega
    · exact .inl rfl
theorem rg_upW {i j c : Int} (h4 : 1 ≤ c) (h5 : c < 1000000000) : ∃ n : Nat, RgW i j c n ∧ j ≤ i + n * c ∧ (n = 0 ∨ i + ((n - 1 : Nat) : Int) * c < j) := by
  have e : Builtin.Range.rangeSize i j c = (if i < j then (j - i - 1) / c + 1 else 0) := by unfold Builtin.Range.rangeSize; rw [if_pos (show c > 0 by omega)]
  have nn : 0 ≤ Builtin.Range.rangeSize i j c := by
    rw [e]
    split
    · have := Int.ediv_nonneg (show 0 ≤ j - i - 1 by omega) (show 0 ≤ c by omega); omega
    · omega
  refine ⟨(Builtin.Range.rangeSize i j c).toNat, ⟨by omega, by omega, by omega⟩, ?_, ?_⟩
  · rw [Int.toNat_of_nonneg nn, e]
    split
    · have q := Int.mul_ediv_add_emod (j - i - 1) c
      have r := Int.emod_lt_of_pos (j - i - 1) (show 0 < c by omega)
      rw [Int.add_mul, Int.mul_comm ((j - i - 1) / c) c]
      omega
    · omega
  · rw [e]
    split
    · refine .inr ?_
      have q := Int.mul_ediv_add_emod (j - i - 1) c
      have r := Int.emod_nonneg (j - i - 1) (show c ≠ 0 by omega)
      have z := Int.ediv_nonneg (show 0 ≤ j - i - 1 by omega) (show 0 ≤ c by omega)
      rw [show ((((j - i - 1) / c + 1).toNat - 1 : Nat) : Int) = (j - i - 1) / c by omega, Int.mul_comm ((j - i - 1) / c) c]
      omega
    · exact .inl rfl
theorem it_enum {K : PySem.W.Frag} {a : Addr} {xs : List V} {B : V → Hp → (Hp → Prop) → Prop} {Qd : Hp → Prop} {H1 : Hp} (Pv : Nat → Hp → Prop) (h0 : Pv 0 H1) (hl : ∀ i H, i ≤ xs.length → Pv i H → SqL K H a xs) (hs : ∀ (i : Nat) y T H, xs[i]? = some y → Pv i H → H T = none → B (.ref T) (upd H T (.tup [.int (i : Nat), y])) (Pv (i + 1))) (hd : ∀ H, Pv xs.length H → Qd H) :
    ∃ W : Nat → Nat → Hp → Prop, (∃ m, W 0 m H1) ∧ ∀ i m H, W i m H → ((Ite K a).stop i H ∧ Qd H) ∨ ((Ite K a).go i H ∧ ∃ Nx : Hp → Prop, (∀ H', Nx H' → ∃ m', m' < m ∧ W (i + 1) m' H') ∧ ∀ x H', (Ite K a).yld i H x H' → B x H' Nx) := by
  refine ⟨fun i m H => m = xs.length - i ∧ i ≤ xs.length ∧ Pv i H, ⟨xs.length, by simp, Nat.zero_le _, h0⟩, fun i m H ⟨em, hi, p⟩ => ?_⟩
  have q := hl i H hi p
  by_cases lt : i < xs.length
  · refine .inr ⟨⟨xs, xs[i], q, by simp [lt]⟩, Pv (i + 1), fun H' p' => ⟨xs.length - (i + 1), by omega, rfl, lt, p'⟩, fun x H' y => ?_⟩
    obtain ⟨T, z, e1, hT, e2, y⟩ := y
    rw [e1, e2]
    exact hs i z T H (y xs q) p hT
  · have e : i = xs.length := by omega
    rw [e] at p
    exact .inl ⟨by rw [e]; exact ⟨xs, q, Nat.le_refl _⟩, hd H p⟩
end Cf
/-! Own layer: a class's methods, properties, operators, its making, as their callers see them. -/
namespace Cf
open PySem PySem.Spec PyProof.Rows L2
section
variable (P : Program) (w : World) (K : PySem.W.Frag) (mg : Str → Option Value) (base : Heap) (k : Nat) (C : Addr)
structure Dm (m : Str) (ps : List Str) (sp : Sp) : Prop where
  ex : ∃ (f : Addr) (fd : FuncData), FnOk P w K mg base CX0 k f fd ps sp ∧ Meth K C m f ∧ Binds K fd ps []
structure Dpr (m : Str) (sp : Sp) : Prop where
  ex : ∃ (p g : Addr) (fd : FuncData), FnOk P w K mg base CX0 k g fd ["self"] sp ∧ PropOf K C m p g ∧ Binds K fd ["self"] []
structure Dmk (ps : List Str) (sp : Sp) : Prop where
  ex : ∃ (f : Addr) (fd : FuncData), FnOk P w K mg base CX0 k f fd ps sp ∧ Mk K C f ∧ Binds K fd ps []
structure Dow (m : Str) (ps : List Str) (sp : Sp) : Prop where
  ex : ∃ (f : Addr) (fd : FuncData), FnOk P w K mg base CX0 k f fd ps sp ∧ Own K C m f ∧ Binds K fd ps []
structure Dcm (m : Str) (ps : List Str) (sp : Sp) : Prop where
  ex : ∃ (p g : Addr) (fd : FuncData) (mc : Value), FnOk P w K mg base CX0 k g fd ps sp ∧ ClX.CRead K C mc ∧ ClX.CMet K C mc m p g ∧ Binds K fd ps []
end
section
variable {X : Cx} {k : Nat} {C : Addr} {m x : Str} {ps : List Str} {sp : Sp} {o e : Expr} {es : List Expr} {ta : TE} {t : TA} {pos apos p : Pos}
theorem pe_dm {pl : Sem Bool} (D : Dm X.prog X.w X.K X.mg X.base k C m ps sp) (c : Cls X.K C) (hr : Room k X.A) (he : PE X o ta) (ha : PA X (e :: es) t)
    (hst : starEach (e :: es) X.env = (false, eval e X.env) :: starEach es X.env := by rfl) (hpl : (backTo pos (starEach es X.env)).any (·.1) = false := by rfl)
    (ht : eval (.Call (.Attribute o m apos) (e :: es) [] pos) X.env = (do
      let ov ← eval o X.env
      standAt apos.atName
      let (f, first) ← holding [ov] (getMethod ov m pl)
      callWith pos f first (backTo pos (starEach (e :: es) X.env)) (backToKw pos (keywordEach [] X.env))) := by rfl) :
    PE X (.Call (.Attribute o m apos) (e :: es) [] pos) (tMeth C m sp [] E0 ta t) := by
  obtain ⟨f, fd, F, M, b⟩ := D.ex
  exact pe_meth he c M F hr b .nil pass0 ha hst hpl ht
theorem pe_dprop (D : Dpr X.prog X.w X.K X.mg X.base k C m sp) (c : Cls X.K C) (hr : Room (k + 1) X.A) (he : PE X o ta) (hab : attributeBase o m X.env (eval o X.env) = eval o X.env := by rfl) : PE X (.Attribute o m pos) (tProp C sp [] E0 ta) := by
  obtain ⟨p, g, fd, F, hp, b⟩ := D.ex
  exact pe_prop he c hp F hr b .nil pass0 hab
theorem pe_dmake (D : Dmk X.prog X.w X.K X.mg X.base k C ps sp) (hm : X.mg x = some (.ref C)) (hr : Room (k + 1) X.A) (ha : PA X (e :: es) t) (hg : Gl X x := by rfl) (hdb : (x == ("__debug__" : Str)) = false := by decide)
    (he : starEach (e :: es) X.env = (false, eval e X.env) :: starEach es X.env := by rfl) (hpl : (backTo pos (starEach es X.env)).any (·.1) = false := by rfl) : PE X (.Call (.Name x p) (e :: es) [] pos) (tMake C sp [] E0 t) := by
  obtain ⟨f, fd, F, M, b⟩ := D.ex
  exact pe_make M F hr hg hm b .nil pass0 ha hdb he hpl
theorem pe_dmakeL {i : Nat} (D : Dmk X.prog X.w X.K X.mg X.base k C ps sp) (hr : Room (k + 1) X.A) (hN : X.N[i]? = some x) (hv : Vis X.env.scope x) (ha : PA X (e :: es) t) (hdb : (x == ("__debug__" : Str)) = false := by decide) (hcd : (x == ("__classdict__" : Str)) = false := by decide)
    (he : starEach (e :: es) X.env = (false, eval e X.env) :: starEach es X.env := by rfl) (hpl : (backTo pos (starEach es X.env)).any (·.1) = false := by rfl) : PE X (.Call (.Name x p) (e :: es) [] pos) (tMakeL i C sp t) := by
  obtain ⟨f, fd, F, M, b⟩ := D.ex
  exact pe_makeL M F hr hN hv b ha hdb hcd he hpl
theorem op_d {op : Operator} (D : Dow X.prog X.w X.K X.mg X.base k C (PySem.dunder op.info.2) ps sp) (hc : PySem.W.selfFirst X.K C = true) (hr : Room k X.A) : OpR X (binaryOp op) (rOwn C sp) := by
  obtain ⟨f, fd, F, o, b⟩ := D.ex
  exact op_own hc o F b hr
theorem op_dEq (D : Dow X.prog X.w X.K X.mg X.base k C "__eq__" ps sp) (hn : PySem.W.notFirst X.K C (.ref C) = true) (hr : Room k X.A) : OpR X (compareOp .Eq) (rOwn C sp) := by
  obtain ⟨f, fd, F, o, b⟩ := D.ex
  exact op_ownEq hn o F b hr (by have := hr.units; omega)
theorem tru_d (D : Dow X.prog X.w X.K X.mg X.base k C "__bool__" ps sp) (hr : Room k X.A) : TruR X (rTru C sp) := by
  obtain ⟨f, fd, F, o, b⟩ := D.ex
  exact tru_own o F b hr
theorem pe_dcm {pl : Sem Bool} (D : Dcm X.prog X.w X.K X.mg X.base k C m ps sp) (hr : Room k X.A) (he : PE X o ta) (ha : PA X (e :: es) t)
    (hst : starEach (e :: es) X.env = (false, eval e X.env) :: starEach es X.env := by rfl) (hpl : (backTo pos (starEach es X.env)).any (·.1) = false := by rfl)
    (ht : eval (.Call (.Attribute o m apos) (e :: es) [] pos) X.env = (do
      let ov ← eval o X.env
      standAt apos.atName
      let (f, first) ← holding [ov] (getMethod ov m pl)
      callWith pos f first (backTo pos (starEach (e :: es) X.env)) (backToKw pos (keywordEach [] X.env))) := by rfl) :
    PE X (.Call (.Attribute o m apos) (e :: es) [] pos) (ClX.tCMeth C sp E0 ta t) := by
  obtain ⟨p, g, fd, mc, F, r, c, b⟩ := D.ex
  refine ClX.pe_cmeth he r c ((F.raw b .nil).imp fun vs H Q E h => ?_) hr pass0 ha hst hpl ht
  rw [List.append_nil]
  exact h
end
/-- what the text has of the class -/
structure Txd (K : PySem.W.Frag) (mg : Str → Option Value) (C : Addr) : Prop where
  cl : Cls K C
  nP : NoAttr K C "_period"
  nS : NoAttr K C "_start"
  nH : NoAttr K C "_head"
  nC : NoAttr K C "_cycle"
  mgC : mg "DaySet" = some (.ref C)
  sf : PySem.W.selfFirst K C = true
  nf : PySem.W.notFirst K C (.ref C) = true
  ha : PySem.W.findIn K (.ref C) "__class__" = some (some (.builtin "object.__class__"))
  hn : PySem.W.specialIn K (.builtin "object.__class__") "__get__" = some (some (.builtin "getset_descriptor.__get__"))
  htk : PySem.W.takesIn K (.builtin "object.__class__") = some true
  hm : PySem.W.mroIn K C (.type "object") = some true
  me : PySem.W.kitOne K (.ref C) (.ref C) = some true
theorem Txd.ty {K : PySem.W.Frag} {mg : Str → Option Value} {C : Addr} (T : Txd K mg C) {H : Hp} {a dx : Addr} {fs : List (Str × V)} (e : H a = some (.ins C dx fs)) : TyX K H (.ref a) (.ref C) := .base (.ins e T.cl T.ha T.hn T.htk T.hm)
end Cf
/-! Own layer: ~x and y in x of an own class. -/
namespace Cf
open PySem PySem.Spec PyProof.Rows L2
section
variable {X : Cx} {k : Nat} {C f : Addr} {fd : FuncData} {ps : List Str} {sp : Sp}
/-- an instance, as the def's promise says -/
def rUnO (C : Addr) (sp : Sp) : V → Hp → VK → Prop := fun x H Q => ∃ a dx fs, x = .ref a ∧ H a = some (.ins C dx fs) ∧ sp [.ref a] H Q E0
theorem un_own (o : Own X.K C "__invert__" f) (F : FnOk X.prog X.w X.K X.mg X.base CX0 k f fd ps sp) (hb : Binds X.K fd ps []) (hr : Room k X.A) : UnR X (unaryOp .Invert) (rUnO C sp) := by
  intro pins s σ H x v Q I rx h
  obtain ⟨a, dx, fs, rfl, ha, q⟩ := h
  cases rx
  obtain ⟨mA, J, _⟩ := ins_get I.hok ha
  obtain ⟨od, J, _⟩ := J.look
  obtain ⟨m, hF⟩ := I.fr
  refine wpAny_holding (wpAny_bind ?_)
  refine PySem.W.special_fn (I.ok.mod.kin.keeps hF.keep) J o.at_ (beq_iff_eq.mp o.fn) (thn (run_fn (us := [.ref a]) (vs := [.ref a]) F hr hb .nil pass0 I (.cons rfl .nil) q) fun v s' z => ?_)
  exact wpAny_pure z
/-- y in x, x an instance -/
def rInO (C : Addr) (sp : Sp) : R2 := fun y x H Q => ∃ a dx fs, x = .ref a ∧ H a = some (.ins C dx fs) ∧ sp [.ref a, y] H (fun v H' => ∃ b, v = .bl b ∧ Q (.bl b) H') E0
theorem op_inOwn (o : Own X.K C "__contains__" f) (F : FnOk X.prog X.w X.K X.mg X.base CX0 k f fd ps sp) (hb : Binds X.K fd ps []) (hr : Room k X.A) : OpR X (compareOp .In) (rInO C sp) := by
  intro pins s σ H y x u v Q I ry rx h
  obtain ⟨a, dx, fs, rfl, ha, q⟩ := h
  cases rx
  obtain ⟨mA, J, _⟩ := ins_get I.hok ha
  obtain ⟨od, J, _⟩ := J.look
  obtain ⟨m, hF⟩ := I.fr
  show wpAny _ _ (contains _ _ >>= fun b => pure (Value.bool b)) _ _ _
  refine wpAny_bind (PySem.W.contains_K hF I.ok.mod.kin J o.at_ o.fn (thn (run_fn (us := [.ref a, u]) (vs := [.ref a, y]) F hr hb .nil pass0 I (.cons rfl (.cons ry .nil)) q) fun v s' z => ?_))
  obtain ⟨z, H', I', r, b, rfl, q⟩ := z
  cases r
  exact wpAny_truthy_bool (wpAny_pure ⟨.bl b, H', I', rfl, q⟩)
theorem op_ninOwn (o : Own X.K C "__contains__" f) (F : FnOk X.prog X.w X.K X.mg X.base CX0 k f fd ps sp) (hb : Binds X.K fd ps []) (hr : Room k X.A) : OpR X (compareOp .NotIn) (fun y x H Q => rInO C sp y x H fun v H' => ∃ b, v = .bl b ∧ Q (.bl (!b)) H') := by
  intro pins s σ H y x u v Q I ry rx h
  obtain ⟨a, dx, fs, rfl, ha, q⟩ := h
  cases rx
  obtain ⟨mA, J, _⟩ := ins_get I.hok ha
  obtain ⟨od, J, _⟩ := J.look
  obtain ⟨m, hF⟩ := I.fr
  show wpAny _ _ (contains _ _ >>= fun b => pure (Value.bool !b)) _ _ _
  refine wpAny_bind (PySem.W.contains_K hF I.ok.mod.kin J o.at_ o.fn (thn (run_fn (us := [.ref a, u]) (vs := [.ref a, y]) F hr hb .nil pass0 I (.cons rfl (.cons ry .nil)) q) fun v s' z => ?_))
  obtain ⟨z, H', I', r, b, rfl, b', e, q⟩ := z
  cases r
  cases e
  exact wpAny_truthy_bool (wpAny_pure ⟨.bl (!b), H', I', rfl, q⟩)
theorem un_d (D : Dow X.prog X.w X.K X.mg X.base k C "__invert__" ps sp) (hr : Room k X.A) : UnR X (unaryOp .Invert) (rUnO C sp) := by
  obtain ⟨f, fd, F, o, b⟩ := D.ex
  exact un_own o F b hr
theorem op_dIn (D : Dow X.prog X.w X.K X.mg X.base k C "__contains__" ps sp) (hr : Room k X.A) : OpR X (compareOp .In) (rInO C sp) := by
  obtain ⟨f, fd, F, o, b⟩ := D.ex
  exact op_inOwn o F b hr
theorem op_dNin (D : Dow X.prog X.w X.K X.mg X.base k C "__contains__" ps sp) (hr : Room k X.A) : OpR X (compareOp .NotIn) (fun y x H Q => rInO C sp y x H fun v H' => ∃ b, v = .bl b ∧ Q (.bl (!b)) H') := by
  obtain ⟨f, fd, F, o, b⟩ := D.ex
  exact op_ninOwn o F b hr
end
end Cf
/-! How many days of a set are before a day. -/
namespace Cf
def cb (S : Int → Bool) (d : Int) : Nat := (els S 0 d).length
section
variable {S T : Int → Bool} {s p : Int}
theorem Rk.cb (F : Fr S s p) {day : Int} {c : Nat} (R : Rk S s p day c) : c = cb S day := by
  have A : Asc ((List.range c).map fun i => dAt S s p i) := by
    rw [Asc, List.pairwise_map]
    refine List.Pairwise.imp_of_mem (fun {i j} _ hj h => ?_) List.pairwise_lt_range
    exact dAt_lt F h (R.lo j (List.mem_range.mp hj)).1
  have e : ((List.range c).map fun i => dAt S s p i) = els S 0 day := by
    refine asc_ext A (asc_els _ _ _) fun d => ?_
    rw [List.mem_map, mem_els]
    constructor
    · rintro ⟨i, hi, rfl⟩
      have l := R.lo i (List.mem_range.mp hi)
      have m := dAt_mem F l.1
      exact ⟨⟨m.2, l.2⟩, m.1⟩
    · rintro ⟨⟨h0, h1⟩, h2⟩
      obtain ⟨i, v, e⟩ := dAt_all F h2 h0
      refine ⟨i, List.mem_range.mpr ?_, e⟩
      rcases Nat.lt_or_ge i c with z | z
      · exact z
      · have := R.hi i z v; omega
  unfold Cf.cb
  rw [← e, List.length_map, List.length_range]
theorem rk_dAt (F : Fr S s p) {i : Nat} (v : Val S s p i) : Rk S s p (dAt S s p i) i := by
  refine ⟨fun j hj => ?_, fun j hj w => ?_⟩
  · have l := dAt_lt F hj v
    refine ⟨?_, l⟩
    rcases v with v | v
    · exact .inl (by omega)
    · exact .inr v
  · rcases Nat.lt_or_ge i j with z | z
    · have := dAt_lt F z w; omega
    · have : i = j := by omega
      subst this; exact Int.le_refl _
theorem cb_dAt (F : Fr S s p) {i : Nat} (v : Val S s p i) : cb S (dAt S s p i) = i := ((rk_dAt F v).cb F).symm
/-- the day with a number -/
theorem at_cb (F : Fr S s p) {d : Int} (h : S d = true) (h0 : 0 ≤ d) : Val S s p (cb S d) ∧ dAt S s p (cb S d) = d := by
  obtain ⟨i, v, e⟩ := dAt_all F h h0
  have c := cb_dAt F v
  rw [e] at c
  rw [c]
  exact ⟨v, e⟩
theorem day_of_cb (F : Fr S s p) (hc : els S s (s + p) ≠ []) (i : Nat) : ∃ d, 0 ≤ d ∧ S d = true ∧ cb S d = i := by
  have v : Val S s p i := .inr hc
  have m := dAt_mem F v
  exact ⟨_, m.2, m.1, cb_dAt F v⟩
theorem cb_cut {a b : Int} (h0 : 0 ≤ a) (h : a ≤ b) : cb S b = cb S a + (els S a b).length := by
  unfold cb
  rw [els_cut S h0 h, List.length_append]
theorem cb_neg {a : Int} (h : a ≤ 0) : cb S a = 0 := by
  unfold cb
  rw [els_nil S h]; rfl
theorem cb_mono {a b : Int} (h : a ≤ b) : cb S a ≤ cb S b := by
  rcases Int.lt_or_le a 0 with z | z
  · rw [cb_neg (by omega)]; exact Nat.zero_le _
  · rw [cb_cut z h]; omega
theorem cb_lt {a b : Int} (h0 : 0 ≤ a) (h : a < b) (m : S a = true) : cb S a + 1 ≤ cb S b := by
  rw [cb_cut h0 (Int.le_of_lt h)]
  have : els S a b ≠ [] := List.ne_nil_of_mem (mem_els.mpr ⟨⟨Int.le_refl _, h⟩, m⟩)
  have := List.length_pos_iff.mpr this
  omega
theorem cb_same {a b : Int} (h0 : 0 ≤ a) (h : a ≤ b) (no : ∀ d, a ≤ d → d < b → S d = false) : cb S a = cb S b := by
  rw [cb_cut h0 h, seg_empty S a b 0 no]; rfl
theorem cb_next {a : Int} (h0 : 0 ≤ a) (m : S a = true) : cb S (a + 1) = cb S a + 1 := by
  rw [cb_cut h0 (show a ≤ a + 1 by omega)]
  have e : els S a (a + 1) = [a] := by
    refine asc_ext (asc_els _ _ _) (by simp [Asc]) fun d => ?_
    rw [mem_els, List.mem_singleton]
    constructor
    · rintro ⟨⟨x, y⟩, _⟩; omega
    · rintro rfl; exact ⟨⟨Int.le_refl _, by omega⟩, m⟩
  rw [e]; rfl
theorem cb_inj {a b : Int} (a0 : 0 ≤ a) (b0 : 0 ≤ b) (ma : S a = true) (mb : S b = true) (e : cb S a = cb S b) : a = b := by
  rcases Int.lt_trichotomy a b with z | z | z
  · have := cb_lt a0 z ma; omega
  · exact z
  · have := cb_lt b0 z mb; omega
theorem len_or (l : List Int) : (l.filter fun d => S d || T d).length + (l.filter fun d => S d && T d).length = (l.filter S).length + (l.filter T).length := by
  induction l with
  | nil => rfl
  | cons x r ih => cases e1 : S x <;> cases e2 : T x <;> simp [List.filter_cons, e1, e2] <;> omega
theorem len_less (l : List Int) : (l.filter fun d => S d && !T d).length + (l.filter fun d => S d && T d).length = (l.filter S).length := by
  induction l with
  | nil => rfl
  | cons x r ih => cases e1 : S x <;> cases e2 : T x <;> simp [List.filter_cons, e1, e2] <;> omega
theorem len_odd (l : List Int) : (l.filter fun d => S d != T d).length + (l.filter fun d => S d && T d).length = (l.filter fun d => S d || T d).length := by
  induction l with
  | nil => rfl
  | cons x r ih => cases e1 : S x <;> cases e2 : T x <;> simp [List.filter_cons, e1, e2] <;> omega
theorem cb_or (d : Int) : cb (fun d => S d || T d) d + cb (fun d => S d && T d) d = cb S d + cb T d := len_or _
theorem cb_less (d : Int) : cb (fun d => S d && !T d) d + cb (fun d => S d && T d) d = cb S d := len_less _
theorem cb_odd (d : Int) : cb (fun d => S d != T d) d + cb (fun d => S d && T d) d = cb (fun d => S d || T d) d := len_odd _
theorem len_not : ∀ (l : List Int), (∀ d ∈ l, 0 ≤ d) → (l.filter fun d => decide (0 ≤ d) && !S d).length + (l.filter S).length = l.length
  | [], _ => rfl
  | x :: r, h => by
    have ih := len_not r fun d hd => h d (List.mem_cons_of_mem _ hd)
    have x0 := h x List.mem_cons_self
    cases e1 : S x <;> simp [List.filter_cons, e1, x0] at ih ⊢ <;> omega
theorem Can.div {S : Int → Bool} {s p s' q : Int} (A : Can S s p) (G : Fr S s' q) : p.natAbs ∣ q.natAbs := by
  have p1 := A.fr.p1
  have Kf := Fr.gcd _ (Nat.le_refl _) A.fr (A.fr.also G)
  have le := A.lp _ _ Kf
  have d1 : Int.gcd p q ∣ p.natAbs := Nat.gcd_dvd_left _ _
  have d2 : Int.gcd p q ∣ q.natAbs := Nat.gcd_dvd_right _ _
  have := Nat.le_of_dvd (by omega) d1
  have e : Int.gcd p q = p.natAbs := by omega
  rw [← e]; exact d2
end
end Cf
/-! The least form of a set that is told by truths. -/
namespace Cf
theorem appL {a b : List Bool} {i : Nat} (h : i < a.length) : (a ++ b).getD i false = a.getD i false := by
  rw [List.getD_eq_getElem?_getD, List.getD_eq_getElem?_getD, List.getElem?_append_left h]
theorem appR {a b : List Bool} {i : Nat} (h : a.length ≤ i) : (a ++ b).getD i false = b.getD (i - a.length) false := by
  rw [List.getD_eq_getElem?_getD, List.getD_eq_getElem?_getD, List.getElem?_append_right h]
theorem getD_get {a : List Bool} {i : Nat} (h : i < a.length) : a.getD i false = a[i] := by
  rw [List.getD_eq_getElem?_getD, List.getElem?_eq_getElem h]; rfl
theorem flat_get (xs : List Bool) : ∀ (k i : Nat), i < k * xs.length → ((List.replicate k xs).flatten).getD i false = xs.getD (i % xs.length) false
  | 0, i, h => by omega
  | k + 1, i, h => by
    rw [List.replicate_succ, List.flatten_cons]
    rw [Nat.succ_mul] at h
    by_cases c : i < xs.length
    · rw [Nat.mod_eq_of_lt c, appL c]
    · rw [appR (by omega), flat_get xs k (i - xs.length) (by omega), ← Nat.mod_eq_sub_mod (by omega)]
theorem flat_size (xs : List Bool) : ∀ k : Nat, ((List.replicate k xs).flatten).length = k * xs.length
  | 0 => by simp
  | k + 1 => by rw [List.replicate_succ, List.flatten_cons, List.length_append, flat_size xs k, Nat.succ_mul]; omega
theorem patS_tail (hb cb : List Bool) (i : Nat) : patS hb cb ((hb.length + i : Nat) : Int) = cb.getD (i % cb.length) false := by
  unfold patS
  rw [if_neg (by omega), if_neg (by omega), show (((hb.length + i : Nat) : Int).toNat - hb.length) = i by omega]
theorem patS_head (hb cb : List Bool) {i : Nat} (h : i < hb.length) : patS hb cb (i : Int) = hb.getD i false := by
  unfold patS
  rw [if_neg (by omega), if_pos (by omega), Int.toNat_natCast]
theorem patS_ext {hb cb cb' : List Bool} (h : ∀ i, cb.getD (i % cb.length) false = cb'.getD (i % cb'.length) false) : patS hb cb = patS hb cb' := by
  funext d
  unfold patS
  split
  · rfl
  · split
    · rfl
    · exact h _
theorem getD_take' {cb : List Bool} {n i : Nat} (h : i < n) : (cb.take n).getD i false = cb.getD i false := by
  rw [List.getD_eq_getElem?_getD, List.getD_eq_getElem?_getD, List.getElem?_take, if_pos h]
section
variable {hb cb : List Bool} {n : Nat}
theorem rep_of_fr (n1 : 1 ≤ n) (dv : n ∣ cb.length) (F : Fr (patS hb cb) hb.length n) : (List.replicate (cb.length / n) (cb.take n)).flatten = cb := by
  obtain ⟨k, hk⟩ := dv
  by_cases k0 : k = 0
  · subst k0
    have : cb = [] := List.length_eq_zero_iff.mp (by rw [hk]; simp)
    subst this
    simp
  have nl : n ≤ cb.length := by rw [hk]; exact Nat.le_mul_of_pos_right n (by omega)
  have lt : (cb.take n).length = n := by rw [List.length_take]; omega
  have ek : cb.length / n = k := by rw [hk]; exact Nat.mul_div_cancel_left k n1
  have el : ((List.replicate (cb.length / n) (cb.take n)).flatten).length = cb.length := by rw [flat_size, lt, ek, hk, Nat.mul_comm]
  have key : ∀ i, i < cb.length → ((List.replicate (cb.length / n) (cb.take n)).flatten).getD i false = cb.getD i false := fun i hi => by
    rw [flat_get _ _ _ (by rw [lt, ek, Nat.mul_comm, ← hk]; exact hi), lt, getD_take' (Nat.mod_lt _ n1)]
    have a := patS_tail hb cb i
    have b := patS_tail hb cb (i % n)
    rw [Nat.mod_eq_of_lt hi] at a
    rw [Nat.mod_eq_of_lt (Nat.lt_of_lt_of_le (Nat.mod_lt _ n1) nl)] at b
    have m := F.mod (d := ((hb.length + i : Nat) : Int)) (by omega)
    have e : (hb.length : Int) + (((hb.length + i : Nat) : Int) - hb.length) % (n : Int) = ((hb.length + i % n : Nat) : Int) := by
      rw [show ((hb.length + i : Nat) : Int) - hb.length = (i : Int) by omega, ← Int.natCast_emod]; omega
    rw [e, a, b] at m
    exact m
  refine List.ext_getElem el fun i h1 h2 => ?_
  have q := key i h2
  rw [getD_get h1, getD_get h2] at q
  exact q
theorem fr_of_rep (n1 : 1 ≤ n) (dv : n ∣ cb.length) (c1 : cb ≠ []) (h : (List.replicate (cb.length / n) (cb.take n)).flatten = cb) : Fr (patS hb cb) hb.length n := by
  have L := List.length_pos_iff.mpr c1
  have nl : n ≤ cb.length := Nat.le_of_dvd L dv
  have lt : (cb.take n).length = n := by rw [List.length_take]; omega
  have g : ∀ i, cb.getD (i % cb.length) false = cb.getD (i % n) false := fun i => by
    have hl : i % cb.length < cb.length := Nat.mod_lt _ L
    have q : ((List.replicate (cb.length / n) (cb.take n)).flatten).getD (i % cb.length) false = cb.getD (i % cb.length) false := by rw [h]
    rw [flat_get _ _ _ (by rw [lt, Nat.div_mul_cancel dv]; exact hl), lt, getD_take' (Nat.mod_lt _ n1), Nat.mod_mod_of_dvd _ dv] at q
    exact q.symm
  refine ⟨by omega, by omega, fun d hd => ?_⟩
  obtain ⟨i, rfl⟩ : ∃ i : Nat, d = ((hb.length + i : Nat) : Int) := ⟨(d - hb.length).toNat, by omega⟩
  rw [show ((hb.length + i : Nat) : Int) + (n : Int) = ((hb.length + (i + n) : Nat) : Int) by omega, patS_tail, patS_tail, g, g, Nat.add_mod_right]
theorem patS_take (n1 : 1 ≤ n) (dv : n ∣ cb.length) (c1 : cb ≠ []) (F : Fr (patS hb cb) hb.length n) : patS hb (cb.take n) = patS hb cb := by
  have L := List.length_pos_iff.mpr c1
  have nl : n ≤ cb.length := Nat.le_of_dvd L dv
  have lt : (cb.take n).length = n := by rw [List.length_take]; omega
  have h := rep_of_fr n1 dv F
  refine patS_ext fun i => ?_
  have hl : i % cb.length < cb.length := Nat.mod_lt _ L
  have q : ((List.replicate (cb.length / n) (cb.take n)).flatten).getD (i % cb.length) false = cb.getD (i % cb.length) false := by rw [h]
  rw [flat_get _ _ _ (by rw [lt, Nat.div_mul_cancel dv]; exact hl), lt, Nat.mod_mod_of_dvd _ dv] at q
  rw [lt]
  exact q
end
/-- the last truth of the head is the last of the round: both turn -/
theorem patS_rot (hb cb : List Bool) (x : Bool) : patS (hb ++ [x]) (cb ++ [x]) = patS hb (x :: cb) := by
  funext d
  rcases Int.lt_or_le d 0 with z | z
  · rw [patS_neg _ _ _ z, patS_neg _ _ _ z]
  obtain ⟨i, rfl⟩ : ∃ i : Nat, d = (i : Int) := ⟨d.toNat, by omega⟩
  rcases Nat.lt_trichotomy i hb.length with c | c | c
  · rw [patS_head _ _ (by rw [List.length_append]; omega), patS_head _ _ c, appL c]
  · subst c
    have b := patS_tail hb (x :: cb) 0
    rw [Nat.add_zero] at b
    rw [b, patS_head _ _ (by rw [List.length_append]; simp), appR (Nat.le_refl _), Nat.sub_self, Nat.zero_mod]
    rfl
  · obtain ⟨j, rfl⟩ : ∃ j, i = hb.length + (j + 1) := ⟨i - hb.length - 1, by omega⟩
    have b := patS_tail hb (x :: cb) (j + 1)
    have a := patS_tail (hb ++ [x]) (cb ++ [x]) j
    rw [List.length_append, List.length_singleton] at a
    rw [show hb.length + (j + 1) = hb.length + 1 + j by omega] at b ⊢
    rw [a, b, List.length_append, List.length_singleton, List.length_cons]
    have lt : j % (cb.length + 1) < cb.length + 1 := Nat.mod_lt _ (by omega)
    rcases Nat.lt_or_ge (j % (cb.length + 1)) cb.length with d | d
    · have e : (j + 1) % (cb.length + 1) = j % (cb.length + 1) + 1 := by
        rw [Nat.add_mod]
        by_cases o : cb.length = 0
        · omega
        · rw [Nat.mod_eq_of_lt (show 1 < cb.length + 1 by omega), Nat.mod_eq_of_lt (by omega)]
      rw [e, List.getD_cons_succ, appL d]
    · have e0 : j % (cb.length + 1) = cb.length := by omega
      have e : (j + 1) % (cb.length + 1) = 0 := by
        rw [Nat.add_mod, e0]
        by_cases o : cb.length = 0
        · rw [o]
        · rw [Nat.mod_eq_of_lt (show 1 < cb.length + 1 by omega), Nat.mod_self]
      rw [e, e0, appR (Nat.le_refl _), Nat.sub_self]
      rfl
end Cf
/-! Lists of truths compared. -/
namespace Cf
open PySem PySem.Spec PyProof.Rows L2
def pdB (l : List Bool) : PyData := .list (l.map PyData.bool)
theorem dpB_all {K : PySem.W.Frag} {H : Hp} : ∀ l : List Bool, DpAll K H (l.map V.bl) (l.map PyData.bool)
  | [] => .nil
  | x :: l => .cons (.bl x) (dpB_all l)
theorem dpB {K : PySem.W.Frag} {H : Hp} {a : Addr} {l : List Bool} (h : SqL K H a (l.map V.bl)) : Dp K H (.ref a) (pdB l) := .lst h (dpB_all l)
theorem eqvB_all : ∀ a b : List Bool, PyData.eqvAll (a.map PyData.bool) (b.map PyData.bool) = decide (a = b)
  | [], [] => rfl
  | [], _ :: _ => rfl
  | _ :: _, [] => rfl
  | x :: a, y :: b => by
    show (PyData.eqv (.bool x) (.bool y) && PyData.eqvAll (a.map PyData.bool) (b.map PyData.bool)) = _
    rw [eqvB_all a b]
    have e : PyData.eqv (.bool x) (.bool y) = decide (x = y) := by cases x <;> cases y <;> rfl
    rw [e, Bool.eq_iff_iff]
    simp
theorem eqvB (a b : List Bool) : PyData.eqv (pdB a) (pdB b) = decide (a = b) := by
  unfold pdB
  rw [PyData.eqv]
  exact eqvB_all a b
theorem canB_all : ∀ l : List Bool, PyData.canLayAll0 (l.map PyData.bool) = true
  | [] => rfl
  | x :: l => by
    show (PyData.canLay0 (.bool x) && PyData.canLayAll0 (l.map PyData.bool)) = true
    rw [canB_all l]
    rfl
theorem depthB_all : ∀ l : List Bool, PyData.depthAll (l.map PyData.bool) ≤ 1
  | [] => by decide
  | x :: l => by
    have h := depthB_all l
    show max (PyData.depth (.bool x)) (PyData.depthAll (l.map PyData.bool)) ≤ 1
    have : PyData.depth (.bool x) ≤ 1 := by simp [PyData.depth]
    omega
theorem shB (l : List Bool) : SeqAt.shaped (pdB l) = true := by
  unfold SeqAt.shaped pdB
  rw [Bool.and_eq_true]
  refine ⟨?_, decide_eq_true ?_⟩
  · rw [PyData.canLay0]; exact canB_all l
  · rw [PyData.depth]; have := depthB_all l; omega
theorem cut_last (a : List V) (x : V) : cutV (a ++ [x]) none (some (-1)) = a := by
  unfold cutV HT.sIx
  simp
  rw [show (-1 + ((a.length : Int) + 1)).toNat = a.length by omega]
  exact List.take_left
theorem cut_only (a : List V) (x : V) : cutV (a ++ [x]) (some (-1)) none = [x] := by
  unfold cutV HT.sIx
  simp
  rw [show (-1 + ((a.length : Int) + 1)).toNat = a.length by omega, show a.length + 1 - a.length = 1 by omega, List.drop_left]
  rfl
theorem atI_bool {l : List Bool} {i : Int} (h0 : 0 ≤ i) (h1 : i < l.length) : atI (l.map V.bl) i = some (V.bl (l.getD i.toNat false)) := by
  have e : (l.map V.bl)[i.toNat]? = some (V.bl (l.getD i.toNat false)) := by
    rw [List.getElem?_map, List.getD_eq_getElem?_getD, List.getElem?_eq_getElem (by omega)]; rfl
  have := atI_nat e
  rwa [Int.toNat_of_nonneg h0] at this
theorem at_last (a : List V) (x : V) : atI (a ++ [x]) (-1) = some x := by
  unfold atI ixN
  rw [if_neg (by omega), if_pos (by rw [List.length_append]; simp; omega)]
  show (a ++ [x])[_]? = _
  rw [show (-1 + ((a ++ [x]).length : Int)).toNat = a.length by rw [List.length_append, List.length_singleton]; omega, List.getElem?_append_right (Nat.le_refl _), Nat.sub_self]
  rfl
end Cf
set_option maxHeartbeats 2000000
/-! Own layer: bool(x) of an own class. -/
namespace Cf
open PySem PySem.Spec PyProof.Rows L2
theorem bool_new_in {prog : Program} {w : World} (x : Value) : MeetsIn prog w (Builtin.«bool.__new__» ⟨[.type "bool", x], []⟩) (fun A R s => wpAny (model prog w) A.in1 (truthy x) (fun b s' => R (.ok (.ret (.bool b))) s') (fun e s' => R (.error e) s') s) :=
  .of_wp fun A R s hs => by
    have f1 := F.conv_sub_bool
    obtain ⟨hp, g, d, tk, os⟩ := s
    repeat (any_goals (first | assumption | (with_reducible refine wpAny_bind (wpAny_mono hs (fun b s' h => ?_) ?_)) | wp_step))
    · exact ⟨_, rfl, h⟩
    · exact fun _ _ z => z
section
variable {X : Cx} {k : Nat} {C f : Addr} {fd : FuncData} {ps : List Str} {sp : Sp}
theorem truthy_in {A1 : Around} {pins : List (Addr × Obj)} {σ : L2.St} {H : Hp} {s : Shared} {a dx : Addr} {fs : List (Str × V)} {Q : Bool → Hp → Prop} (sb : Sub X k A1) (o : Own X.K C "__bool__" f) (F : FnOk X.prog X.w X.K X.mg X.base CX0 k f fd ps sp) (hb : Binds X.K fd ps [])
    (I : Inv X pins σ H s) (ha : H a = some (.ins C dx fs)) (h : sp [.ref a] H (fun v H' => ∃ b, v = .bl b ∧ Q b H') E0) :
    wpAny (model X.prog X.w) A1 (truthy (.ref a)) (fun b s' => ∃ H', Inv X pins σ H' s' ∧ Q b H') X.xe s := by
  obtain ⟨mA, J, _⟩ := ins_get I.hok ha
  obtain ⟨od, J, _⟩ := J.look
  obtain ⟨m, hF⟩ := I.fr
  have e0 : Env0 X.prog X.w X.K X.mg X.base A1 X.stack s H := by
    have e := I.env0
    exact ⟨by rw [sb.fr]; exact e.frames, e.mod, e.bs, e.bsz, e.funs, e.frf, e.hok, e.bare⟩
  have hl := F.len _ _ _ _ h
  have r2 : Vals [V.ref a] [Value.ref a] := .cons rfl .nil
  refine PySem.W.truthy_K hF I.ok.mod.kin J o.at_ o.fn ?_
  refine wpAny_call (codeAny_mono (F.run A1 X.stack s H ⟨[.ref a], []⟩ [.ref a] [.ref a] _ _ sb.room e0 (by
    have := hb s [.ref a] I.kIn (by simpa using hl)
    simpa using this) r2 h) fun r s' hq => ?_)
  cases r with
  | error e => exact pass0 pins σ H s e s' I hq
  | ok fl =>
    cases fl with
    | ret u =>
      obtain ⟨z, H', I', r, b, rfl, q⟩ := I.after hq
      cases r
      exact ⟨H', I', q⟩
    | next => exact False.elim hq
    | brk => exact False.elim hq
    | cont => exact False.elim hq
/-- bool(x), x an instance with an own __bool__ -/
theorem call_boolO (o : Own X.K C "__bool__" f) (Fo : FnOk X.prog X.w X.K X.mg X.base CX0 k f fd ps sp) (hb : Binds X.K fd ps []) (hr : Room (k + 2) X.A) : CallR X (.type "bool") (fun xs H Q => ∃ x, xs = [x] ∧ rTru C sp x H fun b H' => Q (.bl b) H') := by
  intro pins s σ H xs us Q I r h
  obtain ⟨x, rfl, a, dx, fs, rfl, ha, q⟩ := h
  obtain rfl := Vals.ref1 r
  have sb : Sub X k X.A.in1.in1 := (Sub.in1 (Sub.in1 (⟨hr, rfl⟩ : Sub X (k + 2) X.A)))
  refine callType_newIn F.called_bool F.newNe_bool (F.typeCall_bool_1 _) (F.newCall_bool_1 _) (fun obj => F.args_object_init_2 obj _) F.entry_bool_new (bool_new_in _) ?_
  refine wpAny_mono (truthy_in sb o Fo hb I ha q) (fun b s' h => ?_) fun e s' h => h
  obtain ⟨H', I', q⟩ := h
  exact ⟨rfl, .bl b, H', I', rfl, q⟩
theorem call_dBool (D : Dow X.prog X.w X.K X.mg X.base k C "__bool__" ps sp) (hr : Room (k + 2) X.A) : CallR X (.type "bool") (fun xs H Q => ∃ x, xs = [x] ∧ rTru C sp x H fun b H' => Q (.bl b) H') := by
  obtain ⟨f, fd, F, o, b⟩ := D.ex
  exact call_boolO o F b hr
end
end Cf
/-! Own layer: methods and class methods whose last parameters have defaults that a caller leaves out. -/
namespace Cf
open PySem PySem.Spec PyProof.Rows L2
section
variable (P : Program) (w : World) (K : PySem.W.Frag) (mg : Str → Option Value) (base : Heap) (k : Nat) (C : Addr)
structure DmD (m : Str) (ps : List Str) (dvs : List V) (sp : Sp) : Prop where
  ex : ∃ (f : Addr) (fd : FuncData) (ds : List Value), FnOk P w K mg base CX0 k f fd ps sp ∧ Meth K C m f ∧ Binds K fd ps ds ∧ Vals dvs ds
structure DcmD (m : Str) (ps : List Str) (dvs : List V) (sp : Sp) : Prop where
  ex : ∃ (p g : Addr) (fd : FuncData) (mc : Value) (ds : List Value), FnOk P w K mg base CX0 k g fd ps sp ∧ ClX.CRead K C mc ∧ ClX.CMet K C mc m p g ∧ Binds K fd ps ds ∧ Vals dvs ds
end
section
variable {X : Cx} {k : Nat} {C : Addr} {m x : Str} {ps : List Str} {dvs : List V} {sp : Sp} {o e : Expr} {es : List Expr} {ta : TE} {t : TA} {pos apos p : Pos}
theorem pe_dmD {pl : Sem Bool} (D : DmD X.prog X.w X.K X.mg X.base k C m ps dvs sp) (c : Cls X.K C) (hr : Room k X.A) (he : PE X o ta) (ha : PA X (e :: es) t)
    (hst : starEach (e :: es) X.env = (false, eval e X.env) :: starEach es X.env := by rfl) (hpl : (backTo pos (starEach es X.env)).any (·.1) = false := by rfl)
    (ht : eval (.Call (.Attribute o m apos) (e :: es) [] pos) X.env = (do
      let ov ← eval o X.env
      standAt apos.atName
      let (f, first) ← holding [ov] (getMethod ov m pl)
      callWith pos f first (backTo pos (starEach (e :: es) X.env)) (backToKw pos (keywordEach [] X.env))) := by rfl) :
    PE X (.Call (.Attribute o m apos) (e :: es) [] pos) (tMeth C m sp dvs E0 ta t) := by
  obtain ⟨f, fd, ds, F, M, b, v⟩ := D.ex
  exact pe_meth he c M F hr b v pass0 ha hst hpl ht
/-- a promise of all arguments, the last ones being these -/
def spWith (sp : Sp) (dvs : List V) : Sp := fun vs H Q E => sp (vs ++ dvs) H Q E
theorem pe_dcmD {pl : Sem Bool} (D : DcmD X.prog X.w X.K X.mg X.base k C m ps dvs sp) (hr : Room k X.A) (he : PE X o ta) (ha : PA X (e :: es) t)
    (hst : starEach (e :: es) X.env = (false, eval e X.env) :: starEach es X.env := by rfl) (hpl : (backTo pos (starEach es X.env)).any (·.1) = false := by rfl)
    (ht : eval (.Call (.Attribute o m apos) (e :: es) [] pos) X.env = (do
      let ov ← eval o X.env
      standAt apos.atName
      let (f, first) ← holding [ov] (getMethod ov m pl)
      callWith pos f first (backTo pos (starEach (e :: es) X.env)) (backToKw pos (keywordEach [] X.env))) := by rfl) :
    PE X (.Call (.Attribute o m apos) (e :: es) [] pos) (ClX.tCMeth C (spWith sp dvs) E0 ta t) := by
  obtain ⟨p, g, fd, mc, ds, F, r, c, b, v⟩ := D.ex
  exact ClX.pe_cmeth he r c ((F.raw b v).imp fun vs H Q E h => h) hr pass0 ha hst hpl ht
/-- an instance as a test -/
def tOwnT (r : V → Hp → (Bool → Hp → Prop) → Prop) (ta : TE) : TT := fun σ H Q => ta σ H fun x H1 => r x H1 Q
theorem pt_own {r : V → Hp → (Bool → Hp → Prop) → Prop} {a : Expr} {ta : TE} (ht : TruR X r) (ha : PE X a ta) (he : ∀ whole, isTrue a X.env whole = (do let v ← whole; standAt a.pos; holding [v] (truthy v)) := by intro _; rfl) : PT X a (tOwnT r ta) := by
  refine ⟨fun pins s σ H Q I h => ?_⟩
  exact isTrue_plain (thn (ha.run pins s σ H _ I h) fun v s1 ⟨x, H1, I1, r1, q1⟩ => ht pins s1 σ H1 x v Q I1 r1 q1) (he _)
end
end Cf
/-! Own layer: xs[f::k], f not below 0, k from 1 on. -/
namespace Cf
open PySem PySem.Spec PyProof.Rows L2
/-- the places f, f + k, .. below n -/
def stepI (n f k : Nat) : List Nat := (List.range n).filter fun i => decide (f ≤ i ∧ (i - f) % k = 0)
theorem nat_ext : ∀ {a b : List Nat}, a.Pairwise (· < ·) → b.Pairwise (· < ·) → (∀ d, d ∈ a ↔ d ∈ b) → a = b
  | [], [], _, _, _ => rfl
  | [], y :: b, _, _, h => by have := (h y).mpr List.mem_cons_self; cases this
  | x :: a, [], _, _, h => by have := (h x).mp List.mem_cons_self; cases this
  | x :: a, y :: b, A, B, h => by
    rw [List.pairwise_cons] at A B
    have e : x = y := by
      have h1 := (h x).mp List.mem_cons_self
      have h2 := (h y).mpr List.mem_cons_self
      rcases List.mem_cons.mp h1 with z | z
      · exact z
      · rcases List.mem_cons.mp h2 with w | w
        · exact w.symm
        · have := A.1 y w; have := B.1 x z; omega
    subst e
    congr 1
    refine nat_ext A.2 B.2 fun d => ?_
    constructor
    · intro m
      rcases List.mem_cons.mp ((h d).mp (List.mem_cons_of_mem _ m)) with z | z
      · have := A.1 d m; omega
      · exact z
    · intro m
      rcases List.mem_cons.mp ((h d).mpr (List.mem_cons_of_mem _ m)) with z | z
      · have := B.1 d m; omega
      · exact z
theorem stepI_eq (n f k : Nat) (hk : 1 ≤ k) : sliceRange (sliceBounds (some (f : Int)) none (some (k : Int)) n).1 (sliceBounds (some (f : Int)) none (some (k : Int)) n).2.1 (sliceBounds (some (f : Int)) none (some (k : Int)) n).2.2 = stepI n f k := by
  have b : sliceBounds (some (f : Int)) none (some (k : Int)) n = (max 0 (min (f : Int) n), (n : Int), (k : Int)) := by
    unfold sliceBounds
    simp only [Option.getD_some]
    rw [if_neg (show ¬ (f : Int) < 0 by omega), if_pos (show (k : Int) > 0 by omega), if_pos (show (k : Int) > 0 by omega)]
  rw [b]
  show sliceRange (max 0 (min (f : Int) n)) n k = _
  unfold sliceRange
  rw [if_pos (show (k : Int) > 0 by omega)]
  refine nat_ext ?_ (List.Pairwise.filter _ List.pairwise_lt_range) fun d => ?_
  · rw [List.pairwise_map]
    refine List.Pairwise.imp (fun {i j} h => ?_) List.pairwise_lt_range
    have h1 : (k : Int) * i < k * j := Int.mul_lt_mul_of_pos_left (by omega) (by omega)
    have h2 : 0 ≤ (k : Int) * i := Int.mul_nonneg (by omega) (by omega)
    omega
  · rw [List.mem_map]
    unfold stepI
    rw [List.mem_filter, List.mem_range, decide_eq_true_iff]
    by_cases c : f < n
    · rw [if_pos (show max 0 (min (f : Int) n) < n by omega), show max 0 (min (f : Int) n) = (f : Int) by omega]
      constructor
      · rintro ⟨j, hj, rfl⟩
        rw [List.mem_range] at hj
        have e : ((f : Int) + k * j).toNat = f + k * j := by omega
        rw [e]
        have q : (j : Int) < ((n : Int) - f + k - 1) / k := by omega
        have q2 : ((j : Int) + 1) * k ≤ (n : Int) - f + k - 1 := (Int.le_ediv_iff_mul_le (by omega)).mp (by omega)
        have q3 : ((j : Int) + 1) * k = (k * j : Nat) + k := by rw [Int.add_mul, Int.one_mul, Int.mul_comm]; rfl
        refine ⟨by omega, by omega, ?_⟩
        rw [show f + k * j - f = k * j by omega, Nat.mul_mod_right]
      · rintro ⟨h1, h2, h3⟩
        have dm := Nat.div_add_mod (d - f) k
        rw [h3] at dm
        refine ⟨(d - f) / k, List.mem_range.mpr ?_, ?_⟩
        · have q2 : ((((d - f) / k : Nat) : Int) + 1) * k ≤ (n : Int) - f + k - 1 := by
            have : ((((d - f) / k : Nat) : Int) + 1) * k = ((k * ((d - f) / k) : Nat) : Int) + k := by rw [Int.add_mul, Int.one_mul, Int.mul_comm]; rfl
            omega
          have := (Int.le_ediv_iff_mul_le (show (0 : Int) < k by omega)).mpr q2
          omega
        · have : ((k : Int) * (((d - f) / k : Nat) : Int)) = ((k * ((d - f) / k) : Nat) : Int) := rfl
          omega
    · rw [if_neg (show ¬ max 0 (min (f : Int) n) < n by omega)]
      constructor
      · rintro ⟨j, hj, _⟩
        simp at hj
      · rintro ⟨h1, h2, h3⟩
        omega
theorem vals_pick {xs : List V} {us : List Value} (r : Vals xs us) : ∀ is : List Nat, Vals (is.filterMap (xs[·]?)) (is.filterMap (us[·]?))
  | [] => .nil
  | i :: is => by
    rw [List.filterMap_cons, List.filterMap_cons]
    cases e : xs[i]? with
    | none => rw [r.none_of e]; exact vals_pick r is
    | some x =>
      obtain ⟨u, hu, rx⟩ := r.get e
      rw [hu]
      exact .cons rx (vals_pick r is)
/-- the items of a list at places f, f + k, .. -/
def stepV (xs : List V) (f k : Nat) : List V := (stepI xs.length f k).filterMap (xs[·]?)
theorem stepI_len (n f k : Nat) : (stepI n f k).length ≤ n := by
  unfold stepI
  have := List.length_filter_le (fun i => decide (f ≤ i ∧ (i - f) % k = 0)) (List.range n)
  rw [List.length_range] at this
  exact this
theorem stepV_len (xs : List V) (f k : Nat) : (stepV xs f k).length ≤ xs.length := Nat.le_trans (List.length_filterMap_le _ _) (stepI_len _ _ _)
def tStep (K : PySem.W.Frag) (te ta tk : TE) : TE := fun σ H Q => te σ H fun x H1 => ta σ H1 fun y H2 => tk σ H2 fun z H3 => ∃ (a : Addr) (xs : List V) (f k : Nat), x = .ref a ∧ y = .int f ∧ z = .int k ∧ 1 ≤ k ∧ SqL K H3 a xs ∧ ∀ p, H3 p = none → Q (.ref p) (upd H3 p (.lst (stepV xs f k)))
theorem pe_step {X : Cx} {e e1 e2 : Expr} {te ta tk : TE} {p3 pos : Pos} (he : PE X e te) (h1 : PE X e1 ta) (h2 : PE X e2 tk)
    (hs : ∀ a sl : Value, subscripted (.Slice (some e1) none (some e2) p3) false a sl = operate [a, sl] (getItem a sl) := by intro _ _; with_unfolding_all rfl) :
    PE X (.Subscript e (.Slice (some e1) none (some e2) p3) pos) (tStep X.K te ta tk) := by
  refine ⟨fun pins s σ H Q I h => ?_⟩
  refine Subscript_ (thn (he.run pins s σ H _ I h) fun v s1 ⟨x, H1, I1, r1, q1⟩ => ?_)
  refine wpAny_Slice ?_
  rw [evalPart_some]
  refine thn (h1.run pins s1 σ H1 _ I1 q1) fun vl s2 ⟨y, H2, I2, r2, q2⟩ => ?_
  rw [evalPart_none]
  refine wpAny_pure ?_
  rw [evalPart_some]
  refine thn (h2.run pins s2 σ H2 _ I2 q2) fun vs s3 ⟨z, H3, I3, r3, q3⟩ => ?_
  obtain ⟨a, xs, f, k, rfl, rfl, rfl, hk, hx, q⟩ := q3
  cases r1
  obtain ⟨tf, rfl⟩ := r2
  obtain ⟨tk', rfl⟩ := r3
  have I5 : Inv X pins σ H3 { s3 with heap := s3.heap.push { cls := .type "slice", data := .fields #[.int f tf, .none, .int k tk'] } } := I3.kept (t' := s3.toks) fun b ob q => Heap.get?_push_of_some _ q
  obtain ⟨its, r, ht, hz⟩ := I5.list hx
  have hlen := r.length
  show wpAny (model X.prog X.w) X.A (subscriptTail e (.Slice (some e1) none (some e2) p3) (.ref a) (.ref s3.heap.objs.size)) (EP X pins σ Q) X.xe { s3 with heap := s3.heap.push { cls := .type "slice", data := .fields #[.int f tf, .none, .int k tk'] } }
  refine tail_any (ops := [.ref a, .ref s3.heap.objs.size]) ht.isList.typeIs (PySem.slot_list_getitem.lookup) ?_ (hs _ _)
  refine wpAny_getItem_list_slice ht.isList (Heap.IsSliceOf.new _ _ _ _) (.int _ _) .none (.int _ _) (by intro w; injection w with w; omega) ?_ (by rw [List.size_toArray]; omega)
  have ep : slicePick its.toArray (some (f : Int)) none (some (k : Int)) = ((stepI xs.length f k).filterMap (its[·]?)).toArray := by
    unfold slicePick
    rw [stepI_eq _ _ _ hk, List.size_toArray, hlen]
    have e : (fun i : Nat => its.toArray[i]?) = fun i : Nat => its[i]? := funext fun i => by simp
    show (List.filterMap (fun i : Nat => its.toArray[i]?) _).toArray = _
    rw [e]
  rw [ep]
  have rv := vals_pick r (stepI xs.length f k)
  refine ⟨.ref _, _, I5.laid (t' := s3.toks) (o := .lst (stepV xs f k)) (fun b ob q => Heap.get?_push_of_some _ q) (Nat.le_refl _) ?_, rfl, q _ (I5.hok.fresh (Nat.le_refl _))⟩
  have := stepV_len xs f k
  exact ⟨by omega, _, 0, rv, Heap.get?_push_size _ rfl⟩
end Cf
/-! Each so many days of a set: the mathematics. -/
namespace Cf
open PySem L2
section
variable {S : Int → Bool} {s p : Int}
theorem dAt_tail {i : Nat} (h : (els S 0 s).length ≤ i) : dAt S s p i = cdy p (els S s (s + p)) ((i - (els S 0 s).length : Nat) : Int) := by
  unfold dAt
  rw [if_neg (by omega)]
theorem dAt_add1 (F : Fr S s p) (hc : els S s (s + p) ≠ []) {i : Nat} (h : (els S 0 s).length ≤ i) : dAt S s p (i + (els S s (s + p)).length) = dAt S s p i + p := by
  rw [dAt_tail h, dAt_tail (by omega)]
  have e : ((i + (els S s (s + p)).length - (els S 0 s).length : Nat) : Int) = ((i - (els S 0 s).length : Nat) : Int) + ((els S s (s + p)).length : Int) := by omega
  rw [e, cdy_step (S := S) (s := s) F hc]
theorem dAt_add (F : Fr S s p) (hc : els S s (s + p) ≠ []) {i : Nat} (h : (els S 0 s).length ≤ i) : ∀ r : Nat, dAt S s p (i + r * (els S s (s + p)).length) = dAt S s p i + r * p
  | 0 => by rw [Nat.zero_mul, Nat.add_zero]; show _ = _ + (0 : Int) * p; rw [Int.zero_mul, Int.add_zero]
  | r + 1 => by
    have e : i + (r + 1) * (els S s (s + p)).length = (i + r * (els S s (s + p)).length) + (els S s (s + p)).length := by rw [Nat.add_mul, Nat.one_mul]; omega
    rw [e, dAt_add1 F hc (by omega), dAt_add F hc h r, show ((r + 1 : Nat) : Int) * p = r * p + p by rw [show ((r + 1 : Nat) : Int) = (r : Int) + 1 by omega, Int.add_mul, Int.one_mul]]
    omega
theorem num_ge (F : Fr S s p) {i : Nat} (v : Val S s p i) (h : s ≤ dAt S s p i) : (els S 0 s).length ≤ i := by
  rcases Nat.lt_or_ge i (els S 0 s).length with z | z
  · have e : dAt S s p i = (els S 0 s).getD i 0 := by unfold dAt; rw [if_pos z]
    have := (mem_els.mp (getD_mem z)).1.2
    omega
  · exact z
theorem dAt_head {i : Nat} (h : i < (els S 0 s).length) : dAt S s p i < s := by
  unfold dAt
  rw [if_pos h]
  exact (mem_els.mp (getD_mem h)).1.2
theorem dAt_ge_s (F : Fr S s p) (hc : els S s (s + p) ≠ []) {i : Nat} (h : (els S 0 s).length ≤ i) : s ≤ dAt S s p i := by
  rw [dAt_tail h]
  have z := cdy_zero (S := S) F hc
  exact Int.le_trans z (cdy_le F hc (by omega))
/-- the days with the numbers f, f + k, .. -/
def eachS (S : Int → Bool) (k f : Nat) : Int → Bool := fun d => S d && decide (f ≤ cb S d ∧ (cb S d - f) % k = 0)
theorem eachS_iff {k f : Nat} {d : Int} : eachS S k f d = true ↔ S d = true ∧ f ≤ cb S d ∧ (cb S d - f) % k = 0 := by
  unfold eachS
  rw [Bool.and_eq_true, decide_eq_true_iff]
theorem eachS_neg (neg : ∀ d, d < 0 → S d = false) {k f : Nat} (d : Int) (h : d < 0) : eachS S k f d = false := by
  unfold eachS
  rw [neg d h]; rfl
theorem mod_add_mul {a k m f : Nat} (h : f ≤ a) (e : m % k = 0) : (a + m - f) % k = (a - f) % k := by
  rw [show a + m - f = (a - f) + m by omega, Nat.add_mod, e, Nat.add_zero, Nat.mod_mod]
/-- how the walk of `each` goes on: late is the first number from the head's end on, r rounds make steps many of k -/
structure Ech (S : Int → Bool) (s p : Int) (k f late steps r : Nat) : Prop where
  k1 : 1 ≤ k
  ge : (els S 0 s).length ≤ late
  fl : f ≤ late
  md : (late - f) % k = 0
  least : ∀ i, (els S 0 s).length ≤ i → f ≤ i → (i - f) % k = 0 → late ≤ i
  eq : r * (els S s (s + p)).length = k * steps
  r1 : 1 ≤ r
theorem each_fr (F : Fr S s p) (neg : ∀ d, d < 0 → S d = false) (hc : els S s (s + p) ≠ []) {k f late steps r : Nat} (E : Ech S s p k f late steps r) : Fr (eachS S k f) (dAt S s p late) (r * p) := by
  have st := dAt_ge_s F hc E.ge
  have s0 := F.s0
  have p1 := F.p1
  have v : Val S s p late := .inr hc
  refine ⟨by omega, ?_, fun d hd => ?_⟩
  · have : (1 : Int) * 1 ≤ r * p := Int.mul_le_mul (by have := E.r1; omega) p1 (by omega) (by omega)
    omega
  · have es : S (d + r * p) = S d := F.mul r d (by omega)
    unfold eachS
    rw [es]
    cases q : S d with
    | false => rfl
    | true =>
      obtain ⟨w, e⟩ := at_cb F q (by omega)
      have g := num_ge F w (by omega)
      have e2 := dAt_add F hc g r
      rw [e] at e2
      have c2 : cb S (d + r * p) = cb S d + r * (els S s (s + p)).length := by rw [← e2]; exact cb_dAt F (.inr hc)
      have lf : late ≤ cb S d := by
        rcases Nat.lt_or_ge (cb S d) late with z | z
        · have := dAt_lt F z v
          rw [e] at this; omega
        · exact z
      have fl := E.fl
      have mk : (r * (els S s (s + p)).length) % k = 0 := by rw [E.eq, Nat.mul_mod_right]
      rw [c2, mod_add_mul (by omega) mk]
      have : (f ≤ cb S d + r * (els S s (s + p)).length) ↔ (f ≤ cb S d) := by omega
      simp only [this]
theorem each_els (F : Fr S s p) (neg : ∀ d, d < 0 → S d = false) (hc : els S s (s + p) ≠ []) {k f late steps r : Nat} (E : Ech S s p k f late steps r) {early : List Int} (A : Asc early)
    (he : ∀ d, d ∈ early ↔ ∃ i, i < (els S 0 s).length ∧ f ≤ i ∧ (i - f) % k = 0 ∧ (els S 0 s).getD i 0 = d) :
    early ++ (List.range steps).map (fun j => dAt S s p (late + j * k)) = els (eachS S k f) 0 (dAt S s p late + r * p) := by
  have k1 := E.k1
  have v : ∀ i, Val S s p i := fun i => .inr hc
  have top : dAt S s p late + r * p = dAt S s p (late + k * steps) := by rw [← E.eq, dAt_add F hc E.ge r]
  refine asc_ext ?_ (asc_els _ _ _) fun d => ?_
  · refine asc_append A ?_ ?_
    · rw [Asc, List.pairwise_map]
      refine List.Pairwise.imp (fun {i j} h => ?_) List.pairwise_lt_range
      exact dAt_lt F (by have := Nat.mul_lt_mul_of_pos_right h (show 0 < k by omega); omega) (v _)
    · intro x hx y hy
      obtain ⟨i, hi, _, _, rfl⟩ := (he x).mp hx
      obtain ⟨j, _, rfl⟩ := List.mem_map.mp hy
      have a := (mem_els.mp (getD_mem hi)).1.2
      have b := dAt_ge_s F hc (show (els S 0 s).length ≤ late + j * k by have := E.ge; omega)
      omega
  · rw [List.mem_append, he, List.mem_map, mem_els, eachS_iff, top]
    constructor
    · rintro (⟨i, hi, h1, h2, rfl⟩ | ⟨j, hj, rfl⟩)
      · have e : dAt S s p i = (els S 0 s).getD i 0 := by unfold dAt; rw [if_pos hi]
        have m := dAt_mem F (v i)
        have c := cb_dAt F (v i)
        have lt := dAt_lt F (show i < late + k * steps by have := E.ge; omega) (v _)
        rw [← e]
        exact ⟨⟨m.2, lt⟩, m.1, by rw [c]; exact h1, by rw [c]; exact h2⟩
      · rw [List.mem_range] at hj
        have m := dAt_mem F (v (late + j * k))
        have c := cb_dAt F (v (late + j * k))
        have lj : j * k < k * steps := by rw [Nat.mul_comm k]; exact Nat.mul_lt_mul_of_pos_right hj (by omega)
        refine ⟨⟨m.2, dAt_lt F (by omega) (v _)⟩, m.1, by rw [c]; have := E.fl; omega, ?_⟩
        rw [c, mod_add_mul E.fl (Nat.mul_mod_left _ _)]
        exact E.md
    · rintro ⟨⟨d0, d1⟩, h, h1, h2⟩
      obtain ⟨w, e⟩ := at_cb F h d0
      generalize cb S d = i at h1 h2 w e
      have il : i < late + k * steps := by
        rcases Nat.lt_or_ge i (late + k * steps) with z | z
        · exact z
        · rcases Nat.lt_or_ge (late + k * steps) i with z2 | z2
          · have := dAt_lt F z2 w; omega
          · have : i = late + k * steps := by omega
            subst this; omega
      rcases Nat.lt_or_ge i (els S 0 s).length with z | z
      · refine .inl ⟨i, z, h1, h2, ?_⟩
        rw [← e]; unfold dAt; rw [if_pos z]
      · have ll := E.least i z h1 h2
        have fl := E.fl
        have md := E.md
        have d1 : (i - late) % k = 0 := by
          have q : (i - f) % k = ((late - f) + (i - late)) % k := by rw [show i - f = (late - f) + (i - late) by omega]
          rw [q, Nat.add_mod, md, Nat.zero_add, Nat.mod_mod] at h2
          exact h2
        have dm := Nat.div_add_mod (i - late) k
        rw [d1, Nat.add_zero] at dm
        refine .inr ⟨(i - late) / k, List.mem_range.mpr ?_, ?_⟩
        · refine Nat.div_lt_of_lt_mul ?_
          omega
        · rw [Nat.mul_comm, dm, show late + (i - late) = i by omega]
          exact e
theorem ech_of {k f : Nat} (hc : els S s (s + p) ≠ []) (k1 : 1 ≤ k) : ∃ late : Nat, (late : Int) = (if (f : Int) ≥ ((els S 0 s).length : Int) then (f : Int) else ((els S 0 s).length : Int) + ((f : Int) - ((els S 0 s).length : Int)) % (k : Int)) ∧
    Ech S s p k f late ((els S s (s + p)).length / Nat.gcd k (els S s (s + p)).length) (k * ((els S s (s + p)).length / Nat.gcd k (els S s (s + p)).length) / (els S s (s + p)).length) ∧ late ≤ (els S 0 s).length + f + k := by
  have L1 : 0 < (els S s (s + p)).length := List.length_pos_iff.mpr hc
  generalize hLL : (els S s (s + p)).length = L at L1 ⊢
  generalize hm : (els S 0 s).length = many
  have g1 : 0 < Nat.gcd k L := Nat.gcd_pos_of_pos_left _ (by omega)
  obtain ⟨k', hk⟩ := Nat.gcd_dvd_left k L
  obtain ⟨L', hL⟩ := Nat.gcd_dvd_right k L
  have e1 : L / Nat.gcd k L = L' := by
    conv => lhs; rw [show L = Nat.gcd k L * L' from hL]
    rw [← hL]
    exact Nat.div_eq_of_eq_mul_right g1 hL
  have kk : k * L' = k' * L := by
    conv => lhs; rw [hk]
    conv => rhs; rw [hL]
    rw [Nat.mul_assoc, Nat.mul_left_comm]
  have e2 : k * L' / L = k' := by rw [kk, Nat.mul_div_cancel _ L1]
  have r1 : 1 ≤ k' := by
    rcases Nat.eq_zero_or_pos k' with z | z
    · rw [z, Nat.mul_zero] at hk; omega
    · exact z
  rw [e1, e2]
  have eq : k' * (els S s (s + p)).length = k * L' := by rw [hLL]; exact kk.symm
  by_cases c : f ≥ many
  · refine ⟨f, by rw [if_pos (show (f : Int) ≥ (many : Int) by omega)], ⟨k1, by rw [hm]; exact c, Nat.le_refl _, by rw [Nat.sub_self, Nat.zero_mod], fun i _ h _ => h, eq, r1⟩, by omega⟩
  · have m0 := Int.emod_nonneg ((f : Int) - many) (show (k : Int) ≠ 0 by omega)
    have m1 := Int.emod_lt_of_pos ((f : Int) - many) (show (0 : Int) < k by omega)
    have dm := Int.mul_ediv_add_emod ((f : Int) - many) k
    generalize ((f : Int) - many) % (k : Int) = m at m0 m1 dm ⊢
    generalize ((f : Int) - many) / (k : Int) = q at dm
    obtain ⟨a, rfl⟩ : ∃ a : Nat, m = a := ⟨m.toNat, by omega⟩
    have q0 : q ≤ 0 := by
      rcases Int.lt_or_le 0 q with z | z
      · have : (k : Int) * 1 ≤ k * q := Int.mul_le_mul_of_nonneg_left (by omega) (by omega)
        omega
      · exact z
    obtain ⟨b, rfl⟩ : ∃ b : Nat, q = -(b : Int) := ⟨(-q).toNat, by omega⟩
    have e3 : many + a - f = k * b := by
      have : (k : Int) * -(b : Int) = -((k * b : Nat) : Int) := by rw [Int.mul_neg]; rfl
      omega
    refine ⟨many + a, by rw [if_neg (show ¬ (f : Int) ≥ (many : Int) by omega)]; omega, ⟨k1, by rw [hm]; omega, by omega, by rw [e3, Nat.mul_mod_right], fun i h1 h2 h3 => ?_, eq, r1⟩, by omega⟩
    rw [hm] at h1
    rcases Nat.lt_or_ge i (many + a) with z | z
    · have dj := Nat.div_add_mod (i - f) k
      rw [h3, Nat.add_zero] at dj
      generalize (i - f) / k = j at dj
      have lt : j < b := by
        refine Nat.lt_of_mul_lt_mul_left (a := k) ?_
        omega
      have : k * (j + 1) ≤ k * b := Nat.mul_le_mul_left k lt
      rw [Nat.mul_add, Nat.mul_one] at this
      omega
    · exact z
/-- the items of a list of days at places f, f + k, .. -/
def stepL (l : List Int) (f k : Nat) : List Int := (stepI l.length f k).map fun i => l.getD i 0
theorem stepV_ints (l : List Int) (f k : Nat) : stepV (l.map L2.V.int) f k = (stepL l f k).map L2.V.int := by
  unfold stepV stepL
  rw [List.length_map, List.map_map]
  have : ∀ is : List Nat, (∀ i ∈ is, i < l.length) → is.filterMap (fun i => (l.map L2.V.int)[i]?) = is.map (L2.V.int ∘ fun i => l.getD i 0) := fun is => by
    induction is with
    | nil => intro _; rfl
    | cons x xs ih =>
      intro h
      have hx := h x List.mem_cons_self
      rw [List.filterMap_cons, List.map_cons, List.getElem?_map, List.getElem?_eq_getElem hx, ← ih fun i hi => h i (List.mem_cons_of_mem _ hi)]
      show _ :: _ = _ :: _
      congr 1
      show L2.V.int _ = L2.V.int _
      show L2.V.int l[x] = L2.V.int (l.getD x 0)
      rw [List.getD_eq_getElem?_getD, List.getElem?_eq_getElem hx]; rfl
  exact this _ fun i hi => by
    unfold stepI at hi
    exact List.mem_range.mp (List.mem_filter.mp hi).1
theorem stepL_mem {l : List Int} {f k : Nat} {d : Int} : d ∈ stepL l f k ↔ ∃ i, i < l.length ∧ f ≤ i ∧ (i - f) % k = 0 ∧ l.getD i 0 = d := by
  unfold stepL stepI
  rw [List.mem_map]
  constructor
  · rintro ⟨i, hi, e⟩
    rw [List.mem_filter, List.mem_range, decide_eq_true_iff] at hi
    exact ⟨i, hi.1, hi.2.1, hi.2.2, e⟩
  · rintro ⟨i, h1, h2, h3, e⟩
    refine ⟨i, ?_, e⟩
    rw [List.mem_filter, List.mem_range, decide_eq_true_iff]
    exact ⟨h1, h2, h3⟩
theorem stepL_asc {l : List Int} (A : Asc l) (f k : Nat) : Asc (stepL l f k) := by
  unfold stepL
  rw [Asc, List.pairwise_map]
  refine List.Pairwise.imp_of_mem (fun {i j} _ hj h => ?_) (List.Pairwise.filter _ List.pairwise_lt_range)
  exact asc_lt A h (List.mem_range.mp (List.mem_filter.mp hj).1)
theorem stepL_len (l : List Int) (f k : Nat) : (stepL l f k).length ≤ l.length := by
  unfold stepL
  rw [List.length_map]
  exact stepI_len _ _ _
theorem each_fin (F : Fr S s p) (emp : els S s (s + p) = []) (k f : Nat) : stepL (els S 0 s) f k = els (eachS S k f) 0 s := by
  refine asc_ext (stepL_asc (asc_els _ _ _) _ _) (asc_els _ _ _) fun d => ?_
  rw [stepL_mem, mem_els, eachS_iff]
  constructor
  · rintro ⟨i, h0, h1, h2, rfl⟩
    have e : dAt S s p i = (els S 0 s).getD i 0 := by unfold dAt; rw [if_pos h0]
    have m := mem_els.mp (getD_mem h0)
    have c := cb_dAt F (show Val S s p i from .inl h0)
    rw [e] at c
    exact ⟨m.1, m.2, by rw [c]; exact h1, by rw [c]; exact h2⟩
  · rintro ⟨⟨d0, d1⟩, h, h1, h2⟩
    obtain ⟨w, e⟩ := at_cb F h d0
    have z := w.resolve_right fun n => n emp
    refine ⟨cb S d, z, h1, h2, ?_⟩
    generalize cb S d = i at z w e
    rw [← e]
    unfold dAt
    rw [if_pos z]
theorem dAt_up (F : Fr S s p) (hc : els S s (s + p) ≠ []) {i m : Nat} (h : (els S 0 s).length ≤ i) (hm : i ≤ (els S 0 s).length + m) : dAt S s p i ≤ s + p * (m + 1) := by
  rw [dAt_tail h]
  obtain ⟨e, _, e1, _, e2⟩ := cdy_mem (S := S) F hc ((i - (els S 0 s).length : Nat) : Int)
  rw [e2]
  have L1 : 0 < (els S s (s + p)).length := List.length_pos_iff.mpr hc
  have p1 := F.p1
  have q : ((i - (els S 0 s).length : Nat) : Int) / ((els S s (s + p)).length : Int) ≤ m := by
    have := Int.ediv_le_self ((els S s (s + p)).length : Int) (show 0 ≤ ((i - (els S 0 s).length : Nat) : Int) by omega)
    omega
  have := Int.mul_le_mul_of_nonneg_right q (show 0 ≤ p by omega)
  have e3 : p * ((m : Int) + 1) = m * p + p := by rw [Int.mul_add, Int.mul_one, Int.mul_comm]
  omega
end
end Cf
/-! Own layer: how often a truth stands in a list of truths. -/
namespace Cf
open PySem PySem.Spec PyProof.Rows L2
def eqb (k : Bool) (v : Value) : Bool := match v with
  | .bool b => b == k
  | _ => false
theorem eqb_count (k : Bool) : ∀ bs : List Bool, (bs.map Value.bool).countP (eqb k) = bs.count k
  | [] => rfl
  | b :: bs => by
    have ih := eqb_count k bs
    rw [List.map_cons, List.countP_cons, List.count_cons, ih] <;> rfl
def rCntB (K : PySem.W.Frag) : V → List V → Hp → VK → Prop := fun x xs H Q => ∃ (p : Addr) (bs : List Bool) (k : Bool), x = .ref p ∧ xs = [.bl k] ∧ SqL K H p (bs.map V.bl) ∧ Q (.int (bs.count k : Nat)) H
theorem mt_bcount {X : Cx} : MtR X "list.count" (rCntB X.K) := by
  intro pins s σ H x xs v us Q I rx rxs h
  obtain ⟨p, bs, k, rfl, rfl, hs, q⟩ := h
  cases rx
  obtain ⟨u, rfl, ru⟩ := rxs.one
  cases ru
  obtain ⟨its, rv, ⟨⟨cls, dd, data, sl⟩, n, ho, hc, hdn, hd⟩, hlen⟩ := I.list hs
  simp only at hc hd
  subst hc hd
  have hi := rv.bls
  refine call_meets PySem.F.slot_list_count ⟨_, ho, rfl⟩ PySem.F.entry_list_count (PySem.F.args_list_count_2 _ _)
    (SeqAt.list_countAt p its.toArray n dd sl (.bool k) (eqb k)) ⟨ho, fun y hy => ?_, ?_⟩
  · have hy' : y ∈ bs.map Value.bool := by rw [← hi]; simpa using hy
    obtain ⟨b, _, rfl⟩ := List.mem_map.mp hy'
    exact SeqAt.EqAt.bool_bool b k
  have ec : its.toArray.toList.countP (eqb k) = bs.count k := by
    show its.countP (eqb k) = _
    rw [hi, eqb_count]
  refine ⟨.int (bs.count k : Nat), H, I.tok _, ⟨s.toks, ?_⟩, q⟩
  show Value.int ((its.toArray.toList.countP (eqb k) : Nat) : Int) s.toks = Value.int ((bs.count k : Nat) : Int) s.toks
  rw [ec]
end Cf
/-! Sets told by truths, one by one: the mathematics. -/
namespace Cf
/-- the truths of the first days, and of those that then repeat -/
theorem patS_of_fr {R : Int → Bool} {b q : Nat} (neg : ∀ d, d < 0 → R d = false) (F : Fr R b q) : patS ((List.range b).map fun (i : Nat) => R (i : Int)) ((List.range q).map fun (j : Nat) => R ((b + j : Nat) : Int)) = R := by
  have q1 := F.p1
  funext d
  rcases Int.lt_or_le d 0 with z | z
  · rw [neg d z]; exact patS_neg _ _ d z
  obtain ⟨i, rfl⟩ : ∃ i : Nat, d = i := ⟨d.toNat, by omega⟩
  rcases Nat.lt_or_ge i b with lt | ge
  · rw [patS_head _ _ (by rw [List.length_map, List.length_range]; exact lt), List.getD_eq_getElem?_getD, List.getElem?_map, List.getElem?_range lt]; rfl
  · obtain ⟨m, rfl⟩ : ∃ m, i = b + m := ⟨i - b, by omega⟩
    have e := patS_tail ((List.range b).map fun (i : Nat) => R (i : Int)) ((List.range q).map fun (j : Nat) => R ((b + j : Nat) : Int)) m
    rw [List.length_map, List.length_range, List.length_map, List.length_range] at e
    have ml : m % q < q := Nat.mod_lt _ (by omega)
    rw [e, List.getD_eq_getElem?_getD, List.getElem?_map, List.getElem?_range ml]
    show R _ = R _
    have fm := F.mod (d := ((b + m : Nat) : Int)) (by omega)
    rw [← fm]
    congr 1
    rw [show ((b + m : Nat) : Int) - (b : Int) = (m : Int) by omega]
    rw [← Int.natCast_emod]
    omega
theorem count_filter : ∀ l : List Bool, ((List.range l.length).filter fun i => l.getD i false).length = l.count true := fun l => by
  rw [← List.countP_eq_length_filter, List.count_eq_countP]
  have e : l = (List.range l.length).map fun i => l.getD i false := by
    refine List.ext_getElem (by simp) fun i h1 h2 => ?_
    rw [List.getElem_map, List.getElem_range, List.getD_eq_getElem?_getD, List.getElem?_eq_getElem h1]; rfl
  conv => rhs; rw [e]
  rw [List.countP_map]
  congr 1
  funext i
  show l.getD i false = (l.getD i false == true)
  cases l.getD i false <;> rfl
theorem patS_count (hb cl : List Bool) : (els (patS hb cl) hb.length ((hb.length : Int) + cl.length)).length = cl.count true := by
  rw [← count_filter]
  unfold els seg
  rw [List.filter_map, List.length_map, show ((hb.length : Int) + cl.length - hb.length).toNat = cl.length by omega]
  congr 1
  refine List.filter_congr fun i hi => ?_
  rw [List.mem_range] at hi
  show patS hb cl ((hb.length : Int) + i) = _
  rw [show (hb.length : Int) + (i : Int) = ((hb.length + i : Nat) : Int) by omega, patS_tail, Nat.mod_eq_of_lt hi]
theorem cb_turn {S : Int → Bool} {s p : Int} (F : Fr S s p) (q : Nat) {d : Int} (h : s ≤ d) : cb S (d + q * p) = cb S d + q * (els S d (d + p)).length := by
  have s0 := F.s0
  have p1 := F.p1
  have := Int.mul_nonneg (show (0 : Int) ≤ q by omega) (show 0 ≤ p by omega)
  rw [cb_cut (by omega) (show d ≤ d + q * p by omega), els_times F d h q]
/-- where each so many days of a pattern repeat at the latest -/
theorem chosen_fr (hb cl : List Bool) (ne : cl ≠ []) {k f turns : Nat} (k1 : 1 ≤ k) (ht : 0 < cl.count true → f ≤ turns * cl.count true) : Fr (eachS (patS hb cl) k f) ((hb.length + turns * cl.length : Nat) : Int) ((k * cl.length : Nat) : Int) := by
  have F := patS_fr hb cl ne
  have LC := List.length_pos_iff.mpr ne
  have kl : 1 * 1 ≤ k * cl.length := Nat.mul_le_mul k1 LC
  refine ⟨by omega, by omega, fun d hd => ?_⟩
  have es : patS hb cl (d + ((k * cl.length : Nat) : Int)) = patS hb cl d := by
    rw [Int.natCast_mul]
    exact F.mul k d (by omega)
  unfold eachS
  rw [es]
  cases q : patS hb cl d with
  | false => rfl
  | true =>
    have c2 : cb (patS hb cl) (d + ((k * cl.length : Nat) : Int)) = cb (patS hb cl) d + k * (els (patS hb cl) d (d + cl.length)).length := by
      rw [Int.natCast_mul]
      exact cb_turn F k (by omega)
    have cf : f ≤ cb (patS hb cl) d := by
      rcases Nat.eq_zero_or_pos (cl.count true) with z | z
      · have emp : els (patS hb cl) hb.length ((hb.length : Int) + cl.length) = [] := List.length_eq_zero_iff.mp (by rw [patS_count]; exact z)
        exfalso
        have p1 := F.p1
        have m0 := Int.emod_nonneg (d - hb.length) (show (cl.length : Int) ≠ 0 by omega)
        have m1 := Int.emod_lt_of_pos (d - hb.length) (show (0 : Int) < cl.length by omega)
        have : (hb.length : Int) + (d - hb.length) % cl.length ∈ els (patS hb cl) hb.length ((hb.length : Int) + cl.length) := mem_els.mpr ⟨⟨by omega, by omega⟩, (F.mod (by omega)).trans q⟩
        rw [emp] at this; cases this
      · have h1 := ht z
        have h2 := cb_turn F turns (Int.le_refl (hb.length : Int))
        rw [patS_count] at h2
        have h3 := cb_mono (S := patS hb cl) (show (hb.length : Int) + turns * (cl.length : Int) ≤ d by rw [Int.natCast_add, Int.natCast_mul] at hd; exact hd)
        omega
    have mk : (k * (els (patS hb cl) d (d + cl.length)).length) % k = 0 := Nat.mul_mod_right _ _
    rw [c2, mod_add_mul cf mk]
    have : (f ≤ cb (patS hb cl) d + k * (els (patS hb cl) d (d + cl.length)).length) ↔ (f ≤ cb (patS hb cl) d) := by omega
    simp only [this]
theorem fin_off {S : Int → Bool} {s p : Int} (F : Fr S s p) (e : els S s (s + p) = []) : ∀ d, s ≤ d → S d = false := fun d hd => by
  have p1 := F.p1
  have m0 := Int.emod_nonneg (d - s) (show p ≠ 0 by omega)
  have m1 := Int.emod_lt_of_pos (d - s) (show 0 < p by omega)
  cases c : S d with
  | false => rfl
  | true =>
    have : s + (d - s) % p ∈ els S s (s + p) := mem_els.mpr ⟨⟨by omega, by omega⟩, (F.mod hd).trans c⟩
    rw [e] at this; cases this
theorem dAt_ge0 {S : Int → Bool} {s p : Int} (F : Fr S s p) (hc : els S s (s + p) ≠ []) : ∀ i : Nat, (i : Int) ≤ dAt S s p i
  | 0 => (dAt_mem F (.inr hc)).2
  | i + 1 => by
    have a := dAt_ge0 F hc i
    have b := dAt_lt F (show i < i + 1 by omega) (.inr hc)
    omega
theorem cb_step (S : Int → Bool) (i : Nat) : cb S ((i + 1 : Nat) : Int) = cb S (i : Int) + (if S (i : Int) = true then 1 else 0) := by
  unfold cb
  rw [els_nat_succ]
  split <;> simp
theorem each_num {S : Int → Bool} {s p : Int} (F : Fr S s p) (hc : els S s (s + p) ≠ []) {k : Nat} (f : Nat) (k1 : 1 ≤ k) (m : Nat) : eachS S k f (dAt S s p (f + k * m)) = true ∧ cb (eachS S k f) (dAt S s p (f + k * m)) = m ∧ 0 ≤ dAt S s p (f + k * m) ∧ S (dAt S s p (f + k * m)) = true ∧ cb S (dAt S s p (f + k * m)) = f + k * m := by
  have v : ∀ i, Val S s p i := fun i => .inr hc
  have md : ∀ j, (f + k * j - f) % k = 0 := fun j => by rw [show f + k * j - f = k * j by omega, Nat.mul_mod_right]
  have one : ∀ j, eachS S k f (dAt S s p (f + k * j)) = true := fun j => eachS_iff.mpr ⟨(dAt_mem F (v _)).1, by rw [cb_dAt F (v _)]; omega, by rw [cb_dAt F (v _)]; exact md j⟩
  refine ⟨one m, ?_, (dAt_mem F (v _)).2, (dAt_mem F (v _)).1, cb_dAt F (v _)⟩
  have e : (List.range m).map (fun j => dAt S s p (f + k * j)) = els (eachS S k f) 0 (dAt S s p (f + k * m)) := by
    refine asc_ext ?_ (asc_els _ _ _) fun d => ?_
    · rw [Asc, List.pairwise_map]
      refine List.Pairwise.imp (fun {i j} h => ?_) List.pairwise_lt_range
      exact dAt_lt F (by have := Nat.mul_lt_mul_of_pos_left h (show 0 < k by omega); omega) (v _)
    · rw [List.mem_map, mem_els]
      constructor
      · rintro ⟨j, hj, rfl⟩
        rw [List.mem_range] at hj
        exact ⟨⟨(dAt_mem F (v _)).2, dAt_lt F (by have := Nat.mul_lt_mul_of_pos_left hj (show 0 < k by omega); omega) (v _)⟩, one j⟩
      · rintro ⟨⟨d0, d1⟩, h⟩
        obtain ⟨h1, h2, h3⟩ := eachS_iff.mp h
        obtain ⟨w, e⟩ := at_cb F h1 d0
        generalize cb S d = i at h2 h3 w e
        have dm := Nat.div_add_mod (i - f) k
        rw [h3, Nat.add_zero] at dm
        generalize (i - f) / k = j at dm
        have ei : i = f + k * j := by omega
        subst ei
        refine ⟨j, List.mem_range.mpr ?_, e⟩
        rcases Nat.lt_or_ge j m with z | z
        · exact z
        · rcases Nat.lt_or_ge m j with z2 | z2
          · have := dAt_lt F (show f + k * m < f + k * j by have := Nat.mul_lt_mul_of_pos_left z2 (show 0 < k by omega); omega) (v _)
            omega
          · have : j = m := by omega
            subst this; omega
  unfold cb
  rw [← e, List.length_map, List.length_range]
/-- each so many of a finite set are finitely many -/
theorem each_emp {S : Int → Bool} {s p s' p' : Int} {k f : Nat} (F : Fr S s p) (emp : els S s (s + p) = []) (G : Fr (eachS S k f) s' p') : els (eachS S k f) s' (s' + p') = [] := by
  have off := fin_off F emp
  refine List.eq_nil_iff_forall_not_mem.mpr fun d hd => ?_
  have m := mem_els.mp hd
  have p1 := G.p1
  have q := G.mul (s.toNat + d.toNat) d m.1.1
  rw [m.2] at q
  have : S (d + ((s.toNat + d.toNat : Nat) : Int) * p') = true := (eachS_iff.mp q).1
  have b : ((s.toNat + d.toNat : Nat) : Int) * 1 ≤ ((s.toNat + d.toNat : Nat) : Int) * p' := Int.mul_le_mul_of_nonneg_left p1 (by omega)
  rw [off _ (by have := G.s0; omega)] at this
  cases this
theorem each_inf {S : Int → Bool} {s p s' p' : Int} {k f : Nat} (F : Fr S s p) (hc : els S s (s + p) ≠ []) (k1 : 1 ≤ k) (G : Fr (eachS S k f) s' p') : els (eachS S k f) s' (s' + p') ≠ [] := fun emp => by
  have off := fin_off G emp
  have n := each_num F hc f k1 (s'.toNat)
  have ge := dAt_ge0 F hc (f + k * s'.toNat)
  have : s'.toNat * 1 ≤ k * s'.toNat := by rw [Nat.mul_comm k]; exact Nat.mul_le_mul_left _ k1
  rw [off _ (by omega)] at n
  exact Bool.noConfusion n.1
theorem each_one (S : Int → Bool) (d : Int) : eachS S 1 0 d = S d := by
  unfold eachS
  rw [decide_eq_true ⟨Nat.zero_le _, Nat.mod_one _⟩, Bool.and_true]
end Cf
/-! Own layer: one of two readings, one of two promises. -/
namespace Cf
open PySem PySem.Spec PyProof.Rows L2
section
variable {P : Program} {w : World} {K : PySem.W.Frag} {mg : Str → Option Value} {base : Heap} {k : Nat} {C f : Addr} {fd : FuncData} {x m : Str} {ps : List Str} {dvs : List V} {sp sp' sp1 sp2 : Sp}
theorem _root_.L2.FnOk.or {CX : CXT} (a : FnOk P w K mg base CX k f fd ps sp1) (b : FnOk P w K mg base CX k f fd ps sp2) : FnOk P w K mg base CX k f fd ps (fun vs H Q E => sp1 vs H Q E ∨ sp2 vs H Q E) :=
  ⟨fun vs H Q E h => h.elim (a.len vs H Q E) (b.len vs H Q E), fun A o s H ar us vs Q E r e bi v h => h.elim (a.run A o s H ar us vs Q E r e bi v) (b.run A o s H ar us vs Q E r e bi v)⟩
theorem _root_.L2.FnOk.weak {CX : CXT} (a : FnOk P w K mg base CX k f fd ps sp) (h : ∀ vs H Q E, sp' vs H Q E → sp vs H Q E) : FnOk P w K mg base CX k f fd ps sp' :=
  ⟨fun vs H Q E q => a.len vs H Q E (h _ _ _ _ q), fun A o s H ar us vs Q E r e bi v q => a.run A o s H ar us vs Q E r e bi v (h _ _ _ _ q)⟩
theorem _root_.L2.FnOk.up {CX : CXT} {k' : Nat} (a : FnOk P w K mg base CX k f fd ps sp) (h : k ≤ k') : FnOk P w K mg base CX k' f fd ps sp :=
  ⟨a.len, fun A o s H ar us vs Q E r => a.run A o s H ar us vs Q E (r.mono h)⟩
theorem Df.weak (a : Df P w K mg base k x ps dvs sp) (h : ∀ vs H Q E, sp' vs H Q E → sp vs H Q E) : Df P w K mg base k x ps dvs sp' :=
  let ⟨f, fd, ds, F, r⟩ := a.ex
  ⟨⟨f, fd, ds, F.weak h, r⟩⟩
theorem Df.l (a : Df P w K mg base k x ps dvs (fun vs H Q E => sp1 vs H Q E ∨ sp2 vs H Q E)) : Df P w K mg base k x ps dvs sp1 := a.weak fun _ _ _ _ h => .inl h
theorem Dcm.weak (a : Dcm P w K mg base k C m ps sp) (h : ∀ vs H Q E, sp' vs H Q E → sp vs H Q E) : Dcm P w K mg base k C m ps sp' :=
  let ⟨p, g, fd, mc, F, r⟩ := a.ex
  ⟨⟨p, g, fd, mc, F.weak h, r⟩⟩
end
section
variable {X : Cx}
theorem callR_or {f : Value} {r1 r2 : List V → Hp → VK → Prop} (a : CallR X f r1) (b : CallR X f r2) : CallR X f (fun xs H Q => r1 xs H Q ∨ r2 xs H Q) :=
  fun pins s σ H xs us Q I v h => h.elim (a pins s σ H xs us Q I v) (b pins s σ H xs us Q I v)
theorem pi_or {tg it : Expr} {t1 t2 : TI} (a : PI X tg it t1) (b : PI X tg it t2) : PI X tg it (fun σ H R => t1 σ H R ∨ t2 σ H R) :=
  ⟨fun pins s σ H R I h => h.elim (a.run pins s σ H R I) (b.run pins s σ H R I)⟩
theorem opR_or {o : Value → Value → Sem Value} {r1 r2 : R2} (a : OpR X o r1) (b : OpR X o r2) : OpR X o (fun x y H Q => r1 x y H Q ∨ r2 x y H Q) :=
  fun pins s σ H x y v u Q I rx ry h => h.elim (a pins s σ H x y v u Q I rx ry) (b pins s σ H x y v u Q I rx ry)
end
/-- a list or a tuple -/
def LT (H : Hp) (a : Addr) (xs : List V) : Prop := H a = some (.lst xs) ∨ H a = some (.tup xs)
theorem LT.same {H H' : Hp} {a : Addr} {xs : List V} (h : LT H a xs) (e : Same H H') : LT H' a xs := h.imp (e _ _) (e _ _)
theorem LT.sq {K : PySem.W.Frag} {H : Hp} {a : Addr} {xs : List V} (h : LT H a xs) : SqL K H a xs ∨ SqT K H a xs := h.imp (fun e => SqL.of e) (fun e => SqT.of e)
theorem LT.qs {K : PySem.W.Frag} {H : Hp} {a : Addr} {xs : List V} (h : LT H a xs) : SqT K H a xs ∨ SqL K H a xs := h.sq.symm
end Cf
/-! Own layer: x == y and x != y by the own __eq__, y of any kind. -/
namespace Cf
open PySem PySem.Spec PyProof.Rows L2
/-- a value that is no instance, and its type -/
inductive TyN (H : Hp) : V → Value → Prop where
  | non : TyN H .non (.type "NoneType")
  | bl (b : Bool) : TyN H (.bl b) (.type "bool")
  | int (z : Int) : TyN H (.int z) (.type "int")
  | str (z : Str) : TyN H (.str z) (.type "str")
  | lst {a : Addr} {xs : List V} (h : H a = some (.lst xs)) : TyN H (.ref a) (.type "list")
  | tup {a : Addr} {xs : List V} (h : H a = some (.tup xs)) : TyN H (.ref a) (.type "tuple")
  | dK {a : Addr} {kvs : List (Key × V)} (h : H a = some (.dK kvs)) : TyN H (.ref a) (.type "dict")
section
variable {X : Cx} {pins : List (Addr × Obj)} {σ : L2.St} {H : Hp} {s : Shared}
theorem looks_at {M : Model} {h : Heap} {a : Addr} {o : Obj} (e : h.get? a = some o) : PySem.W.Looks M h (typeOf (.ref a)) o.cls := fun A Q E s k q => wpAny_typeOf_ref (k _ _ e) q
theorem TyN.looks {x : V} {u t : Value} (I : Inv X pins σ H s) (rx : RelV x u) (ty : TyN H x t) : PySem.W.Looks (model X.prog X.w) s.heap (typeOf u) t := by
  cases ty with
  | non => cases (show u = Value.none from rx); exact PySem.W.Looks.of_pure rfl
  | bl y => cases (show u = Value.bool y from rx); exact PySem.W.Looks.of_pure rfl
  | int i => obtain ⟨t, q⟩ := (show ∃ t, u = Value.int i t from rx); cases q; exact PySem.W.Looks.of_pure rfl
  | str y => obtain ⟨t, q⟩ := (show ∃ t, u = Value.str y t from rx); cases q; exact PySem.W.Looks.of_pure rfl
  | @lst a xs ea =>
    cases (show u = Value.ref a from rx)
    obtain ⟨_, _, n, _, h1⟩ := (show ObjOk X.prog X.w H s.heap a (.lst xs) from I.hok a _ ea)
    exact looks_at h1
  | @tup a xs ea =>
    cases (show u = Value.ref a from rx)
    obtain ⟨_, _, _, o, h1, h2, _⟩ := (show ObjOk X.prog X.w H s.heap a (.tup xs) from I.hok a _ ea)
    rw [← h2]
    exact looks_at h1
  | @dK a kvs ea =>
    cases (show u = Value.ref a from rx)
    obtain ⟨_, _, vs, _, o, es, ep, h1, h2, _⟩ := (show ObjOk X.prog X.w H s.heap a (.dK kvs) from I.hok a _ ea)
    rw [← h2.1]
    exact looks_at h1
end
/-- an instance of the class at C and a value of another kind -/
def rOwnN (K : PySem.W.Frag) (C : Addr) (sp : Sp) : R2 := fun x y H Q => ∃ a dx fs t, x = .ref a ∧ H a = some (.ins C dx fs) ∧ TyN H y t ∧ PySem.W.notFirst K C t = true ∧ sp [.ref a, y] H Q E0
section
variable {X : Cx} {k : Nat} {C f : Addr} {fd : FuncData} {ps : List Str} {sp : Sp}
theorem op_ownEqN (o : Own X.K C "__eq__" f) (F : FnOk X.prog X.w X.K X.mg X.base CX0 k f fd ps sp) (hb : Binds X.K fd ps []) (hr : Room k X.A) (hu : X.A.units < cLine) : OpR X (compareOp .Eq) (rOwnN X.K C sp) := by
  intro pins s σ H x y v u Q I rx ry h
  obtain ⟨a, dx, fs, t, rfl, ha, ty, hn, q⟩ := h
  cases rx
  have L := ty.looks I ry
  obtain ⟨mA, J, _⟩ := ins_get I.hok ha
  obtain ⟨od, J, _⟩ := J.look
  obtain ⟨m, hF⟩ := I.fr
  show wpAny (model X.prog X.w) X.A (richCompare .Eq (.ref a) u) (EP X pins σ Q) X.xe s
  exact PySem.W.cmp_K (op := .Eq) (tb := t) hu hF I.ok.mod.kin J L hn o.at_ o.fn (thn (run_fn (us := [.ref a, u]) (vs := [.ref a, y]) F hr hb .nil pass0 I (.cons rfl (.cons ry .nil)) q) fun v s' z => back_of z)
end
/-! ### x != y: object.__ne__ turns what the own __eq__ says -/
section
variable {prog : Program} {w : World} {A : Around} {E : Value → Shared → Prop} {s : Shared} {K : PySem.W.Frag} {x C L f : Addr} {h₀ : Heap} {m : Str → Option Value} {ox : Obj} {od : Option Obj} {b tb : Value}
open Builtin in
theorem call_objNe {Q : Value → Shared → Prop} (room0 : A.in1.units < cLine) (X : K.In s.heap) (At : PySem.W.InstAt s.heap x ox C od) (hm : PySem.W.mroIn K C (.type "object") = some true) (he : PySem.W.findIn K (.ref C) "__eq__" = some (some (.ref f))) (hf : PySem.W.isFn K (.ref f) = true)
    (h : wpAny (model prog w) A.in1 (call (.ref f) [.ref x, b]) (fun v s' => ∃ c, v = .bool c ∧ Q (.bool (!c)) s') E s) : wpAny (model prog w) A (call (.builtin "object.__ne__") [.ref x, b]) Q E s := by
  refine wpAny_call (codeAny_call_builtin F.cmp_object.ne.plain F.cmpEntry_ne (PySem.W.check_slot F.cmpKind_ne F.cmpSplit_ne (At.type.andThen (PySem.W.looks_mroIn X hm)) (F.cmpArgs_ne _ _) ?_))
  unfold «Builtin».«object.__ne__»
  refine wpAny_bind (m := slotArgs "__ne__" 1 _) (wpAny_pure ?_)
  refine wpAny_bind (m := cRoomFor _ _) (wpAny_cRoomFor room0 ?_)
  refine wpAny_bind (m := callSpecialIfBound? (.ref x) (Str.ofString "__eq__") _) (PySem.W.ifBound_K X At he hf (wpAny_mono h (fun r s' got => ?_) fun _ _ y => y))
  obtain ⟨c, rfl, got⟩ := got
  exact wpAny_bind (m := truthy (.bool _)) (wpAny_truthy_bool (wpAny_pure got))
theorem ifBound_objNe {M : Model} {args : List Value} {Q : Option Value → Shared → Prop} (X : K.In s.heap) (At : PySem.W.InstAt s.heap x ox C od) (hs : PySem.W.findIn K (.ref C) "__ne__" = some (some (.builtin "object.__ne__")))
    (h : wpAny M A (call (.builtin "object.__ne__") (.ref x :: args)) (fun v => Q (some v)) E s) : wpAny M A (callSpecialIfBound? (.ref x) "__ne__" args) Q E s := by
  simp only [bindSpecialIfBound?, callSpecialIfBound?]
  refine wpAny_holding (wpAny_bind (wpAny_bind (wpAny_bind (At.type.here ((PySem.W.looks_findIn X hs).here ?_)))))
  refine wpAny_bind (wpAny_askSetting (wpAny_ite ?_))
  have rest1 : wpAny M A (call (.builtin "object.__ne__") ([.ref x] ++ args) >>= fun v => pure (some v)) Q E s := wpAny_bind (wpAny_mono h (fun v s' hh => wpAny_pure hh) fun _ _ hh => hh)
  split
  · exact wpAny_bind (wpAny_of_eq (F.cmp_object.ne.bind _) (wpAny_pure (by exact rest1)))
  · exact wpAny_tryCatch (wpAny_bind (wpAny_of_eq (F.cmp_object.ne.bind _) (wpAny_pure (by exact rest1))))
theorem ne_K {Q : Value → Shared → Prop} (room0 : A.units < cLine) (room1 : A.in1.units < cLine) (X : K.In s.heap) (At : PySem.W.InstAt s.heap x ox C od) (look : PySem.W.Looks (model prog w) s.heap (typeOf b) tb) (nofirst : PySem.W.notFirst K C tb = true)
    (hs : PySem.W.findIn K (.ref C) "__ne__" = some (some (.builtin "object.__ne__"))) (hm : PySem.W.mroIn K C (.type "object") = some true) (he : PySem.W.findIn K (.ref C) "__eq__" = some (some (.ref f))) (hf : PySem.W.isFn K (.ref f) = true)
    (h : wpAny (model prog w) A.in1 (call (.ref f) [.ref x, b]) (fun v s' => ∃ c, v = .bool c ∧ Q (.bool (!c)) s') E s) : wpAny (model prog w) A (richCompare .NotEq (.ref x) b) Q E s := by
  have slot1 : wpAny (model prog w) A (tryCompare (.ref x) "__ne__" b) (fun r s' => ∃ v, r = some v ∧ Q v s') E s := by
    unfold tryCompare
    refine wpAny_bind (ifBound_objNe X At hs (call_objNe room1 X At hm he hf (wpAny_mono h (fun v s' got2 => ?_) fun _ _ e => e)))
    obtain ⟨c, rfl, got⟩ := got2
    exact ⟨c, rfl, wpAny_pure ⟨_, rfl, got⟩⟩
  unfold richCompare
  simp only [oneThing_ref]
  refine wpAny_holding (wpAny_bind (wpAny_cRoomFor room0 ?_))
  rw [cmpInfo_NotEq]
  dsimp only
  refine wpAny_bind (At.type.here (wpAny_bind (look.here ?_)))
  split
  · rename_i other1
    have e : PySem.W.subIn K tb (.ref C) = some false := by
      rcases Bool.or_eq_true_iff.mp nofirst with e | e
      · rw [beq_iff_eq.mp e] at other1; simp at other1
      · exact beq_iff_eq.mp e
    refine wpAny_bind ((PySem.W.looks_subIn X e).here ?_)
    simp only [Bool.false_eq_true, if_false]
    refine wpAny_bind (wpAny_mono slot1 (fun r s' zz => ?_) fun _ _ e => e)
    obtain ⟨v, rfl, got⟩ := zz
    exact wpAny_pure got
  · refine wpAny_bind (wpAny_pure ?_)
    simp only [Bool.false_eq_true, if_false]
    refine wpAny_bind (wpAny_mono slot1 (fun r s' zz => ?_) fun _ _ e => e)
    obtain ⟨v, rfl, got⟩ := zz
    exact wpAny_pure got
end
section
variable {X : Cx} {k : Nat} {C f : Addr} {fd : FuncData} {ps : List Str} {sp : Sp}
/-- the own __eq__ in a deeper place: a truth -/
theorem eq_in {A1 : Around} {pins : List (Addr × Obj)} {σ : L2.St} {H : Hp} {s : Shared} {a : Addr} {y : V} {u : Value} {Q : Bool → Hp → Prop} (sb : Sub X k A1) (F : FnOk X.prog X.w X.K X.mg X.base CX0 k f fd ps sp) (hb : Binds X.K fd ps [])
    (I : Inv X pins σ H s) (ry : RelV y u) (h : sp [.ref a, y] H (fun v H' => ∃ b, v = .bl b ∧ Q b H') E0) :
    wpAny (model X.prog X.w) A1 (call (.ref f) [.ref a, u]) (fun v s' => ∃ c, v = .bool c ∧ ∃ H', Inv X pins σ H' s' ∧ Q c H') X.xe s := by
  have e0 : Env0 X.prog X.w X.K X.mg X.base A1 X.stack s H := by
    have e := I.env0
    exact ⟨by rw [sb.fr]; exact e.frames, e.mod, e.bs, e.bsz, e.funs, e.frf, e.hok, e.bare⟩
  have hl := F.len _ _ _ _ h
  have r2 : Vals [V.ref a, y] [Value.ref a, u] := .cons rfl (.cons ry .nil)
  refine wpAny_call (codeAny_mono (F.run A1 X.stack s H ⟨[.ref a, u], []⟩ [.ref a, u] [.ref a, y] _ _ sb.room e0 (by
    have := hb s [.ref a, u] I.kIn (by simpa using hl)
    simpa using this) r2 h) fun r s' hq => ?_)
  cases r with
  | error e => exact pass0 pins σ H s e s' I hq
  | ok fl =>
    cases fl with
    | ret u =>
      obtain ⟨z, H', I', r, b, rfl, q⟩ := I.after hq
      cases r
      exact ⟨b, rfl, H', I', q⟩
    | next => exact False.elim hq
    | brk => exact False.elim hq
    | cont => exact False.elim hq
/-- what the class has for != -/
structure HasNe (K : PySem.W.Frag) (C : Addr) : Prop where
  ne : PySem.W.findIn K (.ref C) "__ne__" = some (some (.builtin "object.__ne__"))
  mro : PySem.W.mroIn K C (.type "object") = some true
def rNeO (C : Addr) (sp : Sp) : R2 := fun x y H Q => ∃ a b dx dy fs gs, x = .ref a ∧ y = .ref b ∧ H a = some (.ins C dx fs) ∧ H b = some (.ins C dy gs) ∧ sp [.ref a, .ref b] H (fun v H' => ∃ c, v = .bl c ∧ Q (.bl (!c)) H') E0
def rNeN (K : PySem.W.Frag) (C : Addr) (sp : Sp) : R2 := fun x y H Q => ∃ a dx fs t, x = .ref a ∧ H a = some (.ins C dx fs) ∧ TyN H y t ∧ PySem.W.notFirst K C t = true ∧ sp [.ref a, y] H (fun v H' => ∃ c, v = .bl c ∧ Q (.bl (!c)) H') E0
theorem op_ownNe (n : HasNe X.K C) (hn : PySem.W.notFirst X.K C (.ref C) = true) (o : Own X.K C "__eq__" f) (F : FnOk X.prog X.w X.K X.mg X.base CX0 k f fd ps sp) (hb : Binds X.K fd ps []) (hr : Room (k + 1) X.A) (hu : X.A.units + 64 < cLine) : OpR X (compareOp .NotEq) (rNeO C sp) := by
  intro pins s σ H x y v u Q I rx ry h
  obtain ⟨a, b, dx, dy, fs, gs, rfl, rfl, ha, hb', q⟩ := h
  cases rx
  have ry' := ry
  cases ry
  obtain ⟨mA, J, _⟩ := ins_get I.hok ha
  obtain ⟨mB, J', _⟩ := ins_get I.hok hb'
  obtain ⟨od, J, _⟩ := J.look
  obtain ⟨od', J', _⟩ := J'.look
  have sb : Sub X k X.A.in1 := Sub.in1 (⟨hr, rfl⟩ : Sub X (k + 1) X.A)
  have hu1 : X.A.in1.units < cLine := by show X.A.units + 1 < cLine; omega
  show wpAny (model X.prog X.w) X.A (richCompare .NotEq (.ref a) (.ref b)) (EP X pins σ Q) X.xe s
  exact ne_K (tb := .ref C) (by omega) hu1 I.kIn J J'.type hn n.ne n.mro o.at_ o.fn (thn (eq_in (Q := fun c H' => Q (.bl (!c)) H') sb F hb I ry' q) fun v s' ⟨c, e, H', I', q'⟩ => ⟨c, e, .bl (!c), H', I', rfl, q'⟩)
theorem op_ownNeN (n : HasNe X.K C) (o : Own X.K C "__eq__" f) (F : FnOk X.prog X.w X.K X.mg X.base CX0 k f fd ps sp) (hb : Binds X.K fd ps []) (hr : Room (k + 1) X.A) (hu : X.A.units + 64 < cLine) : OpR X (compareOp .NotEq) (rNeN X.K C sp) := by
  intro pins s σ H x y v u Q I rx ry h
  obtain ⟨a, dx, fs, t, rfl, ha, ty, hn, q⟩ := h
  cases rx
  have L := ty.looks I ry
  obtain ⟨mA, J, _⟩ := ins_get I.hok ha
  obtain ⟨od, J, _⟩ := J.look
  have sb : Sub X k X.A.in1 := Sub.in1 (⟨hr, rfl⟩ : Sub X (k + 1) X.A)
  have hu1 : X.A.in1.units < cLine := by show X.A.units + 1 < cLine; omega
  show wpAny (model X.prog X.w) X.A (richCompare .NotEq (.ref a) u) (EP X pins σ Q) X.xe s
  exact ne_K (tb := t) (by omega) hu1 I.kIn J L hn n.ne n.mro o.at_ o.fn (thn (eq_in (Q := fun c H' => Q (.bl (!c)) H') sb F hb I ry q) fun v s' ⟨c, e, H', I', q'⟩ => ⟨c, e, .bl (!c), H', I', rfl, q'⟩)
end
section
variable {X : Cx} {k : Nat} {C : Addr} {ps : List Str} {sp : Sp}
theorem op_dEqN (D : Dow X.prog X.w X.K X.mg X.base k C "__eq__" ps sp) (hr : Room k X.A) : OpR X (compareOp .Eq) (rOwnN X.K C sp) := by
  obtain ⟨f, fd, F, o, b⟩ := D.ex
  exact op_ownEqN o F b hr (by have := hr.units; omega)
theorem op_dNe (D : Dow X.prog X.w X.K X.mg X.base k C "__eq__" ps sp) (n : HasNe X.K C) (hn : PySem.W.notFirst X.K C (.ref C) = true) (hr : Room (k + 1) X.A) : OpR X (compareOp .NotEq) (rNeO C sp) := by
  obtain ⟨f, fd, F, o, b⟩ := D.ex
  exact op_ownNe n hn o F b hr (by have := hr.units; omega)
theorem op_dNeN (D : Dow X.prog X.w X.K X.mg X.base k C "__eq__" ps sp) (n : HasNe X.K C) (hr : Room (k + 1) X.A) : OpR X (compareOp .NotEq) (rNeN X.K C sp) := by
  obtain ⟨f, fd, F, o, b⟩ := D.ex
  exact op_ownNeN n o F b hr (by have := hr.units; omega)
end
end Cf
namespace Cf
open PySem L2
def top (i : Nat) : Stmt := PySem.Challenge.pw_clockfolds_k18_whole_one_form_of_many_ma.main.body.getD i (.Pass ⟨0, 0, 0, 0⟩)
abbrev sWall : Stmt := top 1
abbrev clClockError : Stmt := top 3
abbrev clBadNumber : Stmt := top 4
abbrev sBadNumberInit : Stmt := inClass (top 4) 0
abbrev clBadDays : Stmt := top 5
abbrev sBadDaysInit : Stmt := inClass (top 5) 0
abbrev sIsNumber : Stmt := top 7
abbrev sCheckNumber : Stmt := top 8
abbrev sIsDayList : Stmt := top 10
abbrev sIsTruthList : Stmt := top 11
abbrev sPlaceOf : Stmt := top 12
abbrev sCycleDay : Stmt := top 13
abbrev sPrimesOf : Stmt := top 14
abbrev sRepeats : Stmt := top 15
abbrev sLeastPeriod : Stmt := top 16
abbrev sLeastStart : Stmt := top 17
abbrev sCommonFrame : Stmt := top 18
abbrev sInEither : Stmt := top 19
abbrev sInBoth : Stmt := top 20
abbrev sInFirst : Stmt := top 21
abbrev sInOne : Stmt := top 22
abbrev sFollowers : Stmt := top 23
abbrev clDaySet : Stmt := top 24
abbrev sDsInit : Stmt := inClass (top 24) 0
abbrev sDsOf : Stmt := inClass (top 24) 1
abbrev sDsSpan : Stmt := inClass (top 24) 2
abbrev sDsEvery : Stmt := inClass (top 24) 3
abbrev sDsWeekdays : Stmt := inClass (top 24) 4
abbrev sDsPattern : Stmt := inClass (top 24) 5
abbrev sDsStart : Stmt := inClass (top 24) 6
abbrev sDsPeriod : Stmt := inClass (top 24) 7
abbrev sDsHead : Stmt := inClass (top 24) 8
abbrev sDsCycle : Stmt := inClass (top 24) 9
abbrev sDsIsFinite : Stmt := inClass (top 24) 10
abbrev sDsEq : Stmt := inClass (top 24) 11
abbrev sDsBool : Stmt := inClass (top 24) 12
abbrev sDsContains : Stmt := inClass (top 24) 13
abbrev sDsOr : Stmt := inClass (top 24) 14
abbrev sDsAnd : Stmt := inClass (top 24) 15
abbrev sDsSub : Stmt := inClass (top 24) 16
abbrev sDsXor : Stmt := inClass (top 24) 17
abbrev sDsInvert : Stmt := inClass (top 24) 18
abbrev sDsWithin : Stmt := inClass (top 24) 19
abbrev sDsFirstBeyond : Stmt := inClass (top 24) 20
abbrev sDsFirstUnlike : Stmt := inClass (top 24) 21
abbrev sDsShifted : Stmt := inClass (top 24) 22
abbrev sDsHowMany : Stmt := inClass (top 24) 23
abbrev sDsNth : Stmt := inClass (top 24) 24
abbrev sDsNextFrom : Stmt := inClass (top 24) 25
abbrev sDsLastTo : Stmt := inClass (top 24) 26
abbrev sDsDays : Stmt := inClass (top 24) 27
abbrev sDsFollowing : Stmt := inClass (top 24) 28
abbrev sDsEach : Stmt := inClass (top 24) 29
abbrev sDsDayAt : Stmt := inClass (top 24) 30
abbrev sDsCountBefore : Stmt := inClass (top 24) 31
abbrev sDsAmong : Stmt := inClass (top 24) 32
abbrev sDsListed : Stmt := inClass (top 24) 33
abbrev sLawBegun : Stmt := top 26
abbrev sLawMixed : Stmt := top 27
abbrev sLawTake : Stmt := top 28
abbrev sLawTruths : Stmt := top 29
abbrev sLawSet : Stmt := top 30
abbrev sLawTold : Stmt := top 31
abbrev sLawPattern : Stmt := top 32
abbrev sLawMakings : Stmt := top 33
abbrev sLawAlike : Stmt := top 34
abbrev sLaw : Stmt := top 35
set_option hygiene false
local macro_rules | `(tactic| walk_at "len") => `(tactic| repeat (first | (obtain ⟨e, _⟩ := h; subst e; rfl; done) | (obtain ⟨_, h⟩ := h)))
local macro_rules | `(tactic| walk_at "rd") => `(tactic| repeat (first | refine ⟨_, rfl, ?_⟩ | refine ⟨_, _, rfl, rfl, ?_⟩ | refine ⟨rfl, ?_⟩ | refine ⟨_, _, rfl, ?_⟩))
local macro_rules | `(tactic| walk_at "yes") => `(tactic| (dsimp only [tYes]; rw [if_pos rfl]))
set_option hygiene true
/-! ### the law's draws: a dict with the lists wide and cells and the numbers rest and turn -/
/-- the state of the draws at p: its lists at a and b, at most n numbers mixed so far -/
def stK (a b : Addr) (rest turn : Int) : List (Key × V) := [(Sum.inr "wide", V.ref a), (Sum.inr "cells", V.ref b), (Sum.inr "rest", V.int rest), (Sum.inr "turn", V.int turn)]
theorem kwc : ¬ (Sum.inr ("wide" : Str) : Key) = Sum.inr ("cells" : Str) := by decide +kernel
theorem kwr : ¬ (Sum.inr ("wide" : Str) : Key) = Sum.inr ("rest" : Str) := by decide +kernel
theorem kcr : ¬ (Sum.inr ("cells" : Str) : Key) = Sum.inr ("rest" : Str) := by decide +kernel
theorem kwt : ¬ (Sum.inr ("wide" : Str) : Key) = Sum.inr ("turn" : Str) := by decide +kernel
theorem kct : ¬ (Sum.inr ("cells" : Str) : Key) = Sum.inr ("turn" : Str) := by decide +kernel
theorem krt : ¬ (Sum.inr ("rest" : Str) : Key) = Sum.inr ("turn" : Str) := by decide +kernel
theorem ktr : ¬ (Sum.inr ("turn" : Str) : Key) = Sum.inr ("rest" : Str) := by decide +kernel
theorem stK_wide {a b : Addr} {r t : Int} : valV (stK a b r t) (Sum.inr ("wide" : Str) : Key) = some (V.ref a) := by
  unfold stK
  exact valV_pos rfl
theorem stK_cells {a b : Addr} {r t : Int} : valV (stK a b r t) (Sum.inr ("cells" : Str) : Key) = some (V.ref b) := by
  unfold stK
  rw [valV_neg kwc]
  exact valV_pos rfl
theorem stK_rest {a b : Addr} {r t : Int} : valV (stK a b r t) (Sum.inr ("rest" : Str) : Key) = some (V.int r) := by
  unfold stK
  rw [valV_neg kwr, valV_neg kcr]
  exact valV_pos rfl
theorem stK_turn {a b : Addr} {r t : Int} : valV (stK a b r t) (Sum.inr ("turn" : Str) : Key) = some (V.int t) := by
  unfold stK
  rw [valV_neg kwt, valV_neg kct, valV_neg krt]
  exact valV_pos rfl
theorem nkk {x y : Str} (h : (x == y) = false) : ¬ (Sum.inr x : Key) = Sum.inr y := fun e => by
  have e2 := Sum.inr.inj e
  rw [e2] at h
  simp at h
theorem stK_put_rest (a b : Addr) (r t z : Int) : putK (stK a b r t) (Sum.inr ("rest" : Str) : Key) (V.int z) = stK a b z t := by
  unfold putK
  rw [valV_any, stK_rest]
  rw [if_pos (by rfl)]
  unfold stK
  simp only [List.map_cons, List.map_nil, if_neg kwr, if_neg kcr, if_neg ktr, if_true]
theorem stK_put_turn (a b : Addr) (r t z : Int) : putK (stK a b r t) (Sum.inr ("turn" : Str) : Key) (V.int z) = stK a b r z := by
  unfold putK
  rw [valV_any, stK_turn]
  rw [if_pos (by rfl)]
  unfold stK
  simp only [List.map_cons, List.map_nil, if_neg kwt, if_neg kct, if_neg krt, if_true]
theorem stK_merge (a b : Addr) (r t : Int) : mergeK [] (stK a b r t) = stK a b r t := by
  unfold mergeK stK
  simp only [List.foldl_cons, List.foldl_nil]
  rw [putK_new (kvs := []) _ valV_nil, List.nil_append, putK_new, putK_new, putK_new]
  · rfl
  · rw [valV_neg kwc, valV_nil]
  · rw [valV_put, if_neg (fun e => kcr e.symm), valV_neg kwr, valV_nil]
  · rw [valV_put, if_neg (fun e => krt e.symm), valV_put, if_neg (fun e => kct e.symm), valV_neg kwt, valV_nil]
section
variable {H : Hp} {p a b : Addr} {r t z : Int}
theorem get_wide (h : H p = some (.dK (stK a b r t))) : DGet H p (.str "wide") (some (.ref a)) := by
  have q := DGet.k (k := Sum.inr ("wide" : Str)) h
  rw [stK_wide] at q
  exact q
theorem get_cells (h : H p = some (.dK (stK a b r t))) : DGet H p (.str "cells") (some (.ref b)) := by
  have q := DGet.k (k := Sum.inr ("cells" : Str)) h
  rw [stK_cells] at q
  exact q
theorem get_rest (h : H p = some (.dK (stK a b r t))) : DGet H p (.str "rest") (some (.int r)) := by
  have q := DGet.k (k := Sum.inr ("rest" : Str)) h
  rw [stK_rest] at q
  exact q
theorem get_turn (h : H p = some (.dK (stK a b r t))) : DGet H p (.str "turn") (some (.int t)) := by
  have q := DGet.k (k := Sum.inr ("turn" : Str)) h
  rw [stK_turn] at q
  exact q
theorem put_rest (z : Int) (h : H p = some (.dK (stK a b r t))) : DPut H p (.str "rest") (.int z) (upd H p (.dK (stK a b z t))) := by
  have q := DPut.k (k := Sum.inr ("rest" : Str)) (v := V.int z) h (by show 4 < sizeLine; decide)
  rw [stK_put_rest] at q
  exact q
theorem put_turn (z : Int) (h : H p = some (.dK (stK a b r t))) : DPut H p (.str "turn") (.int z) (upd H p (.dK (stK a b r z))) := by
  have q := DPut.k (k := Sum.inr ("turn" : Str)) (v := V.int z) h (by show 4 < sizeLine; decide)
  rw [stK_put_turn] at q
  exact q
end
structure Stt (p a b : Addr) (n : Nat) (H : Hp) : Prop where
  ex : ∃ (ws cs : List Int) (rest turn : Int), H p = some (.dK (stK a b rest turn)) ∧ H a = some (.lst (ws.map V.int)) ∧ H b = some (.lst (cs.map V.int)) ∧ 0 ≤ turn ∧ turn ≤ (n : Int) ∧ cs.length ≤ 63 ∧ ws.length ≤ 63
  ab : a ≠ b
theorem Stt.pa {p a b : Addr} {n : Nat} {H : Hp} (S : Stt p a b n H) : p ≠ a := by
  obtain ⟨ws, cs, rest, turn, h1, h2, _⟩ := S.ex
  exact ne_of h1 h2 (by intro z; cases z)
theorem Stt.pb {p a b : Addr} {n : Nat} {H : Hp} (S : Stt p a b n H) : p ≠ b := by
  obtain ⟨ws, cs, rest, turn, h1, _, h2, _⟩ := S.ex
  exact ne_of h1 h2 (by intro z; cases z)
theorem Stt.mono {p a b : Addr} {n m : Nat} {H : Hp} (S : Stt p a b n H) (h : n ≤ m) : Stt p a b m H := by
  obtain ⟨⟨ws, cs, rest, turn, h1, h2, h3, h4, h5, h6, h7⟩, h8⟩ := S
  exact ⟨⟨ws, cs, rest, turn, h1, h2, h3, h4, by omega, h6, h7⟩, h8⟩
theorem Stt.same {p a b : Addr} {n : Nat} {H H' : Hp} (S : Stt p a b n H) (h : Same H H') : Stt p a b n H' := by
  obtain ⟨⟨ws, cs, rest, turn, h1, h2, h3, h4⟩, h8⟩ := S
  exact ⟨⟨ws, cs, rest, turn, h _ _ h1, h _ _ h2, h _ _ h3, h4⟩, h8⟩
theorem Stt.there {p a b : Addr} {n : Nat} {H : Hp} (S : Stt p a b n H) : ∃ u v w, H p = some (.dK u) ∧ H a = some (.lst v) ∧ H b = some (.lst w) := by
  obtain ⟨⟨ws, cs, rest, turn, h1, h2, h3, _⟩, _⟩ := S
  exact ⟨_, _, _, h1, h2, h3⟩
theorem eqv_ints_nil (ws : List Int) : PyData.eqv (.list (ws.map PyData.int)) (.list []) = ws.isEmpty := by
  cases ws with
  | nil => rfl
  | cons w ws => simp [PyData.eqv, PyData.eqvAll]
theorem dpInts {K : PySem.W.Frag} {H : Hp} : ∀ ws : List Int, DpAll K H (ws.map V.int) (ws.map PyData.int)
  | [] => .nil
  | w :: ws => .cons (.int w) (dpInts ws)
theorem canLay_ints : ∀ ws : List Int, PyData.canLayAll0 (ws.map PyData.int) = true
  | [] => rfl
  | w :: ws => by simp [PyData.canLayAll0, PyData.canLay0, canLay_ints ws]
theorem depth_ints : ∀ ws : List Int, PyData.depthAll (ws.map PyData.int) ≤ 1
  | [] => by simp [PyData.depthAll]
  | w :: ws => by have := depth_ints ws; simp only [List.map_cons, PyData.depthAll, PyData.depth]; omega
theorem shaped_ints (ws : List Int) : SeqAt.shaped (.list (ws.map PyData.int)) = true := by
  unfold SeqAt.shaped
  rw [Bool.and_eq_true]
  refine ⟨?_, decide_eq_true ?_⟩
  · simp only [PyData.canLay0]; exact canLay_ints ws
  · have := depth_ints ws
    simp only [PyData.depth]; omega
theorem seq0 {y : Int} (xs : List V) : seqIndex? 0 (V.int y :: xs).length = some 0 := by
  unfold seqIndex?
  simp
/-! ### what the text's built-in names mean -/
structure Nm (mg : Str → Option Value) : Prop where
  gcd : mg "gcd" = some (.builtin "math.gcd")
  abs : mg "abs" = none
  int : mg "int" = none
  bool : mg "bool" = none
  isinstance : mg "isinstance" = none
  sum : mg "sum" = none
  divmod : mg "divmod" = none
  min : mg "min" = none
  max : mg "max" = none
  len : mg "len" = none
  range : mg "range" = none
  sorted : mg "sorted" = none
  set : mg "set" = none
  list : mg "list" = none
  tuple : mg "tuple" = none
  all : mg "all" = none
  enumerate : mg "enumerate" = none
  zip : mg "zip" = none
  lcm : mg "lcm" = some (.builtin "math.lcm")
section
variable {P : Program} {w : World} {K : PySem.W.Frag} {mg : Str → Option Value} {base : Heap}
/-! ### _law_begun -/
def spBegun (K : PySem.W.Frag) : Sp := fun vs H Q _ => ∃ (l : Addr) (ns : List Int), vs = [.ref l] ∧ SqL K H l (ns.map V.int) ∧ ns.length ≤ 63 ∧
  ∀ (H' : Hp) (p a b : Addr), H p = none → H a = none → H b = none → Same H H' → Stt p a b 0 H' → Q (.ref p) H'
theorem scLawBegun : FnScope ["script", "wide", "cell"] ["script"] (defScope sLawBegun) := ⟨rfl, rfl, rfl, by decide +kernel, rfl, by decide +kernel, by decide +kernel⟩
theorem absI (z : Int) : (if z < 0 then -z else z) = (z.natAbs : Int) := by
  by_cases h : z < 0
  · rw [if_pos h]; omega
  · rw [if_neg h]; omega
theorem ok_begun {f : Addr} {fd : FuncData} (F : Fun K "_law_begun" "_law_begun" sLawBegun f fd) (T : Nm mg) : FnOk P w K mg base CX0 1 f fd ["script"] (spBegun K) := by
  refine F.ok scLawBegun (fun vs H Q E h => ?_) (fun cdv A outer s H vs Q E hr h => ?_)
  · obtain ⟨l, ns, rfl, _⟩ := h
    rfl
  · obtain ⟨l, ns, rfl, hS, hlen, k⟩ := h
    have nd := scLawBegun.nd
    refine ⟨_, pss_cons (ps_setLc (i := 1) (own := [("cell", 2)]) (g := gName 2) rfl nd rfl rfl (sw_true rfl rfl rfl (by decide +kernel)) (pi_list (pv 0))
        (blkOk_by (N := ["script", "wide", "cell"]) (sc := defScope sLawBegun) (by decide +kernel)) (fun _ _ _ _ _ => pg_name (i := 2) nd rfl (Or.inl rfl))
        (fun _ _ _ _ _ => pts_one (pt_cmpR op_ge (pe_callB call_abs (by rfl) T.abs (by decide +kernel) (pa_cons (pv 2) pa_nil)) (pe_op op_pow pe_int pe_int) (nomark _)))
        (fun _ _ _ _ _ => pe_op op_sub (pe_callB call_abs (by rfl) T.abs (by decide +kernel) (pa_cons (pv 2) pa_nil)) (pe_op op_pow pe_int pe_int)))
      (pss_one (ps_ret (pe_disp (pps_cons pe_str (pv 1) (pps_cons pe_str
        (pe_lc (own := [("cell", 2)]) (g := gName 2) (tt := tYes) rfl nd (pi_list (pv 0)) (blkOk_by (N := ["script", "wide", "cell"]) (sc := defScope sLawBegun) (by decide +kernel)) (fun _ _ _ _ _ => pg_name (i := 2) nd rfl (Or.inl rfl)) (fun _ _ _ _ _ => pts_nil)
          (fun _ _ _ _ _ => pe_op op_mod (pe_callTy call_int1 (by rfl) T.int (by decide +kernel) (pa_cons (pe_callB call_abs (by rfl) T.abs (by decide +kernel) (pa_cons (pv 2) pa_nil)) pa_nil)) pe_int))
        (pps_cons pe_str pe_int (pps_cons pe_str pe_int pps_nil)))) (by rfl) (by rfl) (fun z => by cases z) (by decide)))), ?_⟩
    have cp : CPow 10 18 := ⟨by decide, by decide, by decide⟩
    -- the first list
    refine ⟨_, rfl, l, rfl, ⟨_, hS⟩, fun D hD => lc_list (K := K) (a := l) (xs := ns.map V.int) (fun i H' => Same H H' ∧ ∃ acc : List Int, acc.length ≤ i ∧ H' D = some (.lst (acc.map V.int)))
      ⟨Same.new hD, [], Nat.le_refl _, upd_same⟩ (fun i H' _ ⟨s1, _⟩ => s1.seq hS) ?_ ?_⟩
    · rintro i y H' hi ⟨s1, acc, hacc, hDl⟩
      have hil := lt_of_get hi
      rw [List.length_map] at hil
      obtain ⟨z, hz, rfl⟩ := ints_get hi
      refine ⟨rfl, ?_⟩
      refine ⟨_, rfl, _, rfl, _, _, rfl, rfl, cp, _, _, rfl, rfl, _, rfl, ?_⟩
      refine ite2 (fun _ => ?_) (fun _ => ?_)
      · refine ⟨_, rfl, _, rfl, _, _, rfl, rfl, cp, _, _, rfl, rfl, acc.map V.int, hDl, ?_, ?_⟩
        · rw [List.length_map]
          exact small1000 (by omega)
        · refine ⟨s1.wr hD, acc ++ [(if z < 0 then -z else z) - 10 ^ 18], ?_, ?_⟩
          · rw [List.length_append, List.length_singleton]; omega
          · rw [upd_same, List.map_append]; rfl
      · exact ⟨s1, acc, by omega, hDl⟩
    · rintro H1 ⟨s1, acc, hacc, hDl⟩
      rw [List.length_map] at hacc
      -- the dict, empty; its pairs
      intro p hp
      have npD : D ≠ p := ne_of_none hDl hp
      have s2 : Same H (upd H1 p (.dK [])) := s1.step hp
      refine ⟨_, rfl, _, rfl, l, rfl, ⟨_, s2.seq hS⟩, fun B hB => lc_list (K := K) (a := l) (xs := ns.map V.int) (fun i H' => Same (upd H1 p (.dK [])) H' ∧ ∃ cs : List Int, cs.length ≤ i ∧ H' B = some (.lst (cs.map V.int)))
        ⟨Same.new hB, [], Nat.le_refl _, upd_same⟩ (fun i H' _ ⟨s3, _⟩ => (s2.trans s3).seq hS) ?_ ?_⟩
      · rintro i y H' hi ⟨s3, cs, hcs, hBl⟩
        have hil := lt_of_get hi
        rw [List.length_map] at hil
        obtain ⟨z, hz, rfl⟩ := ints_get hi
        refine ⟨rfl, ?_⟩
        dsimp only [tYes]
        rw [if_pos rfl]
        refine ⟨_, rfl, _, rfl, .inl ⟨_, rfl, _, _, rfl, rfl, (by show (0 : Int) < 2147483629; decide), cs.map V.int, hBl, ?_, ?_⟩⟩
        · rw [List.length_map]
          exact small1000 (by omega)
        · refine ⟨s3.wr hB, cs ++ [(if z < 0 then -z else z) % 2147483629], ?_, ?_⟩
          · rw [List.length_append, List.length_singleton]; omega
          · rw [upd_same, List.map_append]; rfl
      · rintro H2 ⟨s3, cs, hcs, hBl⟩
        rw [List.length_map] at hcs
        have hp2 : H2 p = some (.dK []) := s3 _ _ upd_same
        refine ⟨hp2, stK D B 0 0, rfl, (by show 4 ≤ 15; decide), ?_⟩
        have nBp : B ≠ p := ne_of hBl hp2 (by intro z; cases z)
        have hDl2 : H2 D = some (.lst (acc.map V.int)) := s3 _ _ (by rw [upd_ne npD]; exact hDl)
        have nDB : D ≠ B := ne_of_none (show (upd H1 p (.dK [])) D = some _ by rw [upd_ne npD]; exact hDl) hB
        refine k _ p D B (s1.free hp) hD (s1.free (by rw [upd_ne nBp] at hB; exact hB)) ?_ ⟨⟨acc, cs, 0, 0, ?_, ?_, ?_, by decide, by decide, by omega, by omega⟩, nDB⟩
        · exact (s2.trans s3).wr (s1.free hp)
        · rw [upd_same, stK_merge]
        · rw [upd_ne npD]; exact hDl2
        · rw [upd_ne nBp]; exact hBl
/-! ### _law_mixed -/
def spMixed : Sp := fun vs H Q _ => ∃ (p a b : Addr) (n : Nat), vs = [.ref p] ∧ Stt p a b n H ∧ n ≤ 1000000 ∧
  ∀ (z : Int) (H' : Hp), Stt p a b (n + 1) H' → But p a H H' → Q (.int z) H'
theorem scLawMixed : FnScope ["state", "turn", "found", "prime", "blend", "cell"] ["state"] (defScope sLawMixed) := ⟨rfl, rfl, rfl, by decide +kernel, rfl, by decide +kernel, by decide +kernel⟩
theorem ok_mixed {f : Addr} {fd : FuncData} (F : Fun K "_law_mixed" "_law_mixed" sLawMixed f fd) (T : Nm mg) : FnOk P w K mg base CX0 1 f fd ["state"] spMixed := by
  refine F.ok scLawMixed (fun vs H Q E h => ?_) (fun cdv A outer s H vs Q E hr h => ?_)
  · obtain ⟨p, a, b, n, rfl, _⟩ := h
    rfl
  · obtain ⟨p, a, b, n, rfl, S, hn, k⟩ := h
    have nd := scLawMixed.nd
    have hu := hu_of hr
    have npa := S.pa
    have npb := S.pb
    obtain ⟨⟨ws, cs, rest, turn, h1, h2, h3, t0, t1, hcs, hws⟩, nab⟩ := S
    refine ⟨_, pss_cons (ps_par (i := 1) (j := 2) (by rfl) nd rfl rfl (by decide) rfl rfl (pa_cons (pe_op op_add (pe_dget hu (pv 0) pe_str (fun _ _ => rfl)) pe_int) (pa_cons pe_int pa_nil)) (by rfl))
      (pss_cons (ps_dput hu (pv 0) pe_str (pv 1) rfl)
      (pss_cons (ps_for PassesOwn.never rfl (pi_list (pe_lst (pa_cons pe_int (pa_cons pe_int (pa_cons pe_int (pa_cons pe_int pa_nil)))))) (pg_name (i := 3) nd rfl (Or.inl rfl))
        (pss_cons (ps_set (i := 4) nd rfl (Or.inl rfl) (pe_op op_add (pe_op op_mul pe_int (pv 1)) (pe_op op_fdiv (pv 3) pe_int)))
        (pss_cons (ps_for PassesOwn.never rfl (pi_list (pe_dget hu (pv 0) pe_str (fun _ _ => rfl))) (pg_name (i := 5) nd rfl (Or.inl rfl))
          (pss_one (ps_set (i := 4) nd rfl (Or.inl rfl) (pe_op op_mod (pe_callTy call_int1 (by rfl) T.int (by decide +kernel) (pa_cons (pe_op op_add (pe_op op_add (pe_op op_mul (pv 4) pe_int) (pv 5)) (pv 1)) pa_nil)) (pv 3)))))
        (pss_one (ps_set (i := 2) nd rfl (Or.inl rfl) (pe_op op_add (pe_op op_mul (pv 2) pe_int) (pe_op op_mod (pe_callTy call_int1 (by rfl) T.int (by decide +kernel) (pa_cons (pe_op op_pow (pv 4) pe_int) pa_nil)) (pv 3))))))))
      (pss_one (ps_ret (pv 2))))), ?_⟩
    -- turn, found = state['turn'] + 1, 0; state['turn'] = turn
    refine ⟨_, rfl, p, V.int turn, rfl, get_turn h1, _, _, rfl, rfl, _, _, rfl, ?_⟩
    refine ⟨_, rfl, _, rfl, p, _, rfl, put_turn (turn + 1) h1, ?_⟩
    -- the primes
    refine ⟨by show 4 ≤ sizeLine; decide, fun D hD => ?_⟩
    have npD : p ≠ D := ne_of_none (upd_same) hD
    have naD : a ≠ D := ne_of_none (show upd H p _ a = some _ by rw [upd_ne npa.symm]; exact h2) hD
    have nbD : b ≠ D := ne_of_none (show upd H p _ b = some _ by rw [upd_ne npb.symm]; exact h3) hD
    have hp' : upd (upd H p (.dK (stK a b rest (turn + 1)))) D (.lst [V.int 2147483629, V.int 2147483587, V.int 2147483579, V.int 2147483563]) p = some (.dK (stK a b rest (turn + 1))) := by rw [upd_ne npD, upd_same]
    have ha' : upd (upd H p (.dK (stK a b rest (turn + 1)))) D (.lst [V.int 2147483629, V.int 2147483587, V.int 2147483579, V.int 2147483563]) a = some (.lst (ws.map V.int)) := by rw [upd_ne naD, upd_ne npa.symm]; exact h2
    have hb' : upd (upd H p (.dK (stK a b rest (turn + 1)))) D (.lst [V.int 2147483629, V.int 2147483587, V.int 2147483579, V.int 2147483563]) b = some (.lst (cs.map V.int)) := by rw [upd_ne nbD, upd_ne npb.symm]; exact h3
    have hB : But p a H (upd (upd H p (.dK (stK a b rest (turn + 1)))) D (.lst [V.int 2147483629, V.int 2147483587, V.int 2147483579, V.int 2147483563])) := fun c o e c1 c2 => by
      have e2 : upd H p (.dK (stK a b rest (turn + 1))) c = some o := by rw [upd_ne c1]; exact e
      rw [upd_ne (ne_of_none e2 hD)]
      exact e2
    generalize hH2 : upd (upd H p (.dK (stK a b rest (turn + 1)))) D (.lst [V.int 2147483629, V.int 2147483587, V.int 2147483579, V.int 2147483563]) = H2 at hp' ha' hb' hB
    have hDl : H2 D = some (.lst ([2147483629, 2147483587, 2147483579, 2147483563].map V.int)) := by rw [← hH2]; exact upd_same
    have tb : turn + 1 ≤ 1000001 := by omega
    refine ⟨D, rfl, ⟨_, SqL.of hDl⟩, for_list (K := K) (a := D) (xs := [2147483629, 2147483587, 2147483579, 2147483563].map V.int)
      (fun i σ H' => H' = H2 ∧ ∃ (fo : Int) (v4 v5 v6 : Option V), σ = [some (.ref p), some (.int (turn + 1)), some (.int fo), v4, v5, v6]) ⟨rfl, 0, none, none, none, rfl⟩ (fun i σ H' _ ⟨e, _⟩ => by subst e; exact SqL.of hDl) ?_ ?_⟩
    · rintro i y σ H' hi ⟨rfl, fo, v4, v5, v6, rfl⟩
      obtain ⟨pr, hpr, rfl⟩ := ints_get hi
      have hp1 : 1000 < pr ∧ pr < 2147483648 := by
        have hm := List.mem_of_getElem? hpr
        simp only [List.mem_cons, List.not_mem_nil, or_false] at hm
        omega
      refine ⟨_, rfl, _, _, rfl, rfl, .inl ⟨by decide, by decide⟩, _, rfl, _, _, rfl, rfl, ⟨by decide, by decide⟩, _, _, rfl, rfl, ?_⟩
      refine ⟨_, rfl, p, V.ref b, rfl, get_cells hp', b, rfl, ⟨_, SqL.of hb'⟩, for_list (K := K) (a := b) (xs := cs.map V.int)
        (fun j σ H'' => H'' = H' ∧ ∃ (bl : Int) (v6 : Option V), 0 ≤ bl ∧ bl < 2 ^ 63 ∧ σ = [some (.ref p), some (.int (turn + 1)), some (.int fo), some (.int pr), some (.int bl), v6]) ⟨rfl, 61441 * (turn + 1) + pr / 19, v6, ?_, ?_, rfl⟩ (fun i σ H' _ ⟨e, _⟩ => by subst e; exact SqL.of hb') ?_ ?_⟩
      · omega
      · omega
      · rintro j y σ H' hj ⟨rfl, bl, v6, b0, b1, rfl⟩
        obtain ⟨c, hc, rfl⟩ := ints_get hj
        refine ⟨_, rfl, _, _, rfl, rfl, .inr ⟨by decide, by decide⟩, _, rfl, _, _, rfl, rfl, _, rfl, _, _, rfl, rfl, .inl ⟨_, rfl, _, rfl, _, _, rfl, rfl, (by show 0 < pr; omega), ?_⟩⟩
        have m1 := Int.emod_nonneg (bl * 48271 + c + (turn + 1)) (show pr ≠ 0 by omega)
        have m2 := Int.emod_lt_of_pos (bl * 48271 + c + (turn + 1)) (show 0 < pr by omega)
        exact ⟨rfl, (bl * 48271 + c + (turn + 1)) % pr, _, m1, by omega, rfl⟩
      · rintro σ H' ⟨rfl, bl, v6, b0, b1, rfl⟩
        refine ⟨_, rfl, _, _, rfl, rfl, .inr ⟨by decide, by decide⟩, _, rfl, _, _, rfl, rfl, ⟨by decide, by decide, by omega⟩, .inl ⟨_, rfl, _, rfl, _, _, rfl, rfl, (by show 0 < pr; omega), _, _, rfl, rfl, ?_⟩⟩
        exact ⟨rfl, _, _, _, _, rfl⟩
    · rintro σ H' ⟨rfl, fo, v4, v5, v6, rfl⟩
      refine ⟨_, rfl, ?_⟩
      refine k fo H' ⟨⟨ws, cs, rest, turn + 1, hp', ha', hb', by omega, by omega, hcs, hws⟩, nab⟩ hB
/-! ### _law_take -/
theorem wide_log {j : Int} (h0 : 0 < j) (h : j ≤ 10 ^ 30) : j.natAbs.log2 < 9000 := by
  refine (Nat.log2_lt (by omega)).mpr (Nat.lt_of_lt_of_le (m := 2 ^ 100) ?_ (Nat.pow_le_pow_right (by decide) (by decide)))
  have e : (10 : Int) ^ 30 = 1000000000000000000000000000000 := by decide
  have e2 : (2 : Nat) ^ 100 = 1267650600228229401496703205376 := by decide
  rw [e2]
  omega
def spTake : Sp := fun vs H Q _ => ∃ (p a b : Addr) (n : Nat) (size : Int), vs = [.ref p, .int size] ∧ Stt p a b n H ∧ n ≤ 1000000 ∧ 0 < size ∧ size ≤ 10 ^ 30 ∧
  ∀ (z : Int) (H' : Hp), 0 ≤ z → z < size → Stt p a b (n + 1) H' → But p a H H' → Q (.int z) H'
theorem scLawTake : FnScope ["state", "size", "found"] ["state", "size"] (defScope sLawTake) := ⟨rfl, rfl, rfl, by decide +kernel, rfl, by decide +kernel, by decide +kernel⟩
theorem ok_take {f : Addr} {fd : FuncData} (F : Fun K "_law_take" "_law_take" sLawTake f fd) (T : Nm mg) (DM : Df P w K mg base 1 "_law_mixed" ["state"] [] spMixed) : FnOk P w K mg base CX0 2 f fd ["state", "size"] spTake := by
  refine F.ok scLawTake (fun vs H Q E h => ?_) (fun cdv A outer s H vs Q E hr h => ?_)
  · obtain ⟨p, a, b, n, size, rfl, _⟩ := h
    rfl
  · obtain ⟨p, a, b, n, size, rfl, S, hn, z0, z1, k⟩ := h
    have nd := scLawTake.nd
    have hu := hu_of hr
    refine ⟨_, pss_cons (ps_if (pt_cmpR op_eq (pe_dget hu (pv 0) pe_str (fun _ _ => rfl)) pe_int (nomark _))
        (pss_one (ps_dput hu (pv 0) pe_str (pe_ifExp (pt_cmpR (op_neD hr.units) (pe_dget hu (pv 0) pe_str (fun _ _ => rfl)) (pe_lst pa_nil) (nomark _))
            (pe_bm PySem.F.plainAttrs_list PySem.F.slot_list_pop PySem.F.type_list_pop mt_popAt (pe_dget hu (pv 0) pe_str (fun _ _ => rfl)) (pa_cons pe_int pa_nil))
            (pe_df DM hr (pa_cons (pv 0) pa_nil))) rfl)) pss_nil)
      (pss_cons (ps_set (i := 2) nd rfl (Or.inl rfl) (pe_op op_mod (pe_callTy call_int1 (by rfl) T.int (by decide +kernel) (pa_cons (pe_dget hu (pv 0) pe_str (fun _ _ => rfl)) pa_nil)) (pv 1)))
      (pss_cons (ps_dput hu (pv 0) pe_str (pe_op op_fdivW (pe_dget hu (pv 0) pe_str (fun _ _ => rfl)) (pv 1)) rfl)
      (pss_one (ps_ret (pv 2))))), ?_⟩
    have npa := S.pa
    have npb := S.pb
    have nab := S.ab
    obtain ⟨⟨ws, cs, rest, turn, h1, h2, h3, t0, t1, hcs, hws⟩, _⟩ := id S
    have fin : ∀ (H1 : Hp) (r1 : Int), (∃ (ws' cs' : List Int) (t' : Int), H1 p = some (.dK (stK a b r1 t')) ∧ H1 a = some (.lst (ws'.map V.int)) ∧ H1 b = some (.lst (cs'.map V.int)) ∧ 0 ≤ t' ∧ t' ≤ ((n + 1 : Nat) : Int) ∧ cs'.length ≤ 63 ∧ ws'.length ≤ 63) → But p a H H1 →
        tAsg (tOp (rI (fun _ j => 0 < j) fun i j => .int (i % j)) (tCB (fun xs H Q => (∃ i, xs = [.int i] ∧ Q (.int i) H) ∨ ∃ k, xs = [.bl k] ∧ Q (.int (if k = true then 1 else 0)) H) (tCons (tDGet (tVar 0) (tC (.str "rest"))) tNil)) (tVar 1)) (gName 2)
          { nx := fun σ1 H1 => sDPut (tVar 0) (tC (.str "rest")) (tOp (rI CDivW fun i j => .int (i / j)) (tDGet (tVar 0) (tC (.str "rest"))) (tVar 1)) { nx := fun σ2 H2 => tRet (tVar 2) { nx := fun _ H' => Q .non H', rt := Q } σ2 H2, rt := Q } σ1 H1, rt := Q } [some (.ref p), some (.int size), none] H1 := by
      intro H1 r1 hh bb
      obtain ⟨ws', cs', t', g1, g2, g3, g4⟩ := hh
      refine ⟨_, rfl, p, V.int r1, rfl, get_rest g1, .inl ⟨_, rfl, _, rfl, _, _, rfl, rfl, z0, ?_⟩⟩
      refine ⟨_, rfl, p, V.int r1, rfl, get_rest g1, _, rfl, _, _, rfl, rfl, ⟨z0, wide_log z0 z1⟩, _, rfl, p, _, rfl, put_rest _ g1, _, rfl, ?_⟩
      refine k _ _ (Int.emod_nonneg _ (by omega)) (Int.emod_lt_of_pos _ z0) ⟨⟨ws', cs', _, t', upd_same, ?_, ?_, g4⟩, nab⟩ ?_
      · rw [upd_ne npa.symm]; exact g2
      · rw [upd_ne npb.symm]; exact g3
      · exact fun c o e c1 c2 => by rw [upd_ne c1]; exact bb c o e c1 c2
    refine ⟨_, rfl, p, V.int rest, rfl, get_rest h1, rfl, _, rfl, ?_⟩
    refine ite2 (fun _ => ?_) (fun _ => ?_)
    · -- rest is 0
      refine ⟨_, rfl, p, V.ref a, rfl, get_wide h1, Nat.zero_le _, fun D hD => ?_⟩
      have n1 : p ≠ D := ne_of_none h1 hD
      have n2 : a ≠ D := ne_of_none h2 hD
      have n3 : b ≠ D := ne_of_none h3 hD
      have d1 : upd H D (.lst []) p = some (.dK (stK a b rest turn)) := by rw [upd_ne n1]; exact h1
      have d2 : upd H D (.lst []) a = some (.lst (ws.map V.int)) := by rw [upd_ne n2]; exact h2
      have d3 : upd H D (.lst []) b = some (.lst (cs.map V.int)) := by rw [upd_ne n3]; exact h3
      have d4 : But p a H (upd H D (.lst [])) := But.of (Same.new hD)
      refine ⟨.list (ws.map PyData.int), .list [], .lst (SqL.of d2) (dpInts ws), .lst (SqL.of upd_same) .nil, shaped_ints ws, by decide, _, rfl, ?_⟩
      rw [eqv_ints_nil]
      cases ws with
      | nil =>
        refine iteFF rfl ?_
        refine ⟨_, rfl, p, a, b, n, rfl, ⟨⟨[], cs, rest, turn, d1, d2, d3, t0, t1, hcs, hws⟩, nab⟩, hn, fun y H2 S2 B2 => ?_⟩
        obtain ⟨⟨ws2, cs2, r2, t2, e1, e2, e3, e4⟩, _⟩ := S2
        refine ⟨_, rfl, p, _, rfl, put_rest _ e1, ?_⟩
        refine fin _ y ⟨ws2, cs2, t2, upd_same, ?_, ?_, e4⟩ ?_
        · rw [upd_ne npa.symm]; exact e2
        · rw [upd_ne npb.symm]; exact e3
        · exact fun c o e c1 c2 => by rw [upd_ne c1]; exact B2 c o (d4 c o e c1 c2) c1 c2
      | cons y ws =>
        refine iteTT rfl ?_
        refine ⟨_, rfl, p, V.ref a, rfl, get_wide d1, .inl ⟨rfl, _, SqL.of d2⟩, a, _, 0, 0, V.int y, rfl, rfl, d2, by decide, by decide, seq0 _, rfl, ?_⟩
        have e1 : upd (upd H D (.lst [])) a (.lst (((y :: ws).map V.int).eraseIdx 0)) p = some (.dK (stK a b rest turn)) := by rw [upd_ne npa]; exact d1
        refine ⟨_, rfl, p, _, rfl, put_rest y e1, ?_⟩
        refine fin _ y ⟨ws, cs, turn, upd_same, ?_, ?_, t0, by omega, hcs, ?_⟩ ?_
        · rw [upd_ne npa.symm, upd_same]; rfl
        · rw [upd_ne npb.symm, upd_ne nab.symm]; exact d3
        · rw [List.length_cons] at hws; omega
        · exact fun c o e c1 c2 => by rw [upd_ne c1, upd_ne c2]; exact d4 c o e c1 c2
    · exact fin H rest ⟨ws, cs, turn, h1, h2, h3, t0, by omega, hcs, hws⟩ But.refl
end
end Cf
namespace Cf
open PySem L2
set_option hygiene false
local macro_rules | `(tactic| walk_at "len") => `(tactic| repeat (first | (obtain ⟨e, _⟩ := h; subst e; rfl; done) | (obtain ⟨_, h⟩ := h)))
local macro_rules | `(tactic| walk_at "rd") => `(tactic| repeat (first | refine ⟨_, rfl, ?_⟩ | refine ⟨_, _, rfl, rfl, ?_⟩ | refine ⟨rfl, ?_⟩ | refine ⟨_, _, rfl, ?_⟩))
local macro_rules | `(tactic| walk_at "yes") => `(tactic| (dsimp only [tYes]; rw [if_pos rfl]))
set_option hygiene true
section
variable {P : Program} {w : World} {K : PySem.W.Frag} {mg : Str → Option Value} {base : Heap}
/-! ### place_of -/
def spPlaceOf (K : PySem.W.Frag) : Sp := fun vs H Q _ => ∃ (a : Addr) (l : List Int) (b : Int), vs = [.ref a, .int b] ∧ LI K H a l ∧ Asc l ∧ Q (.int (cnt l b)) H
theorem scPlaceOf : FnScope ["days", "bound", "low", "high", "middle"] ["days", "bound"] (defScope sPlaceOf) := ⟨rfl, rfl, rfl, by decide +kernel, rfl, by decide +kernel, by decide +kernel⟩
theorem ok_place_of {f : Addr} {fd : FuncData} (F : Fun K "place_of" "place_of" sPlaceOf f fd) (T : Nm mg) : FnOk P w K mg base CX0 1 f fd ["days", "bound"] (spPlaceOf K) := by
  refine F.ok scPlaceOf (fun vs H Q E h => ?_) (fun cdv A outer s H vs Q E hr h => ?_)
  · walk_at "len"
  · obtain ⟨a, l, b, rfl, hl, asc, k⟩ := h
    have nd := scPlaceOf.nd
    refine ⟨_, (pss_cons (ps_set (i := 2) nd rfl (Or.inl rfl) pe_int)
      (pss_cons (ps_set (i := 3) nd rfl (Or.inl rfl) (pe_callB call_len_seq (by rfl) T.len (by decide +kernel) (pa_cons (pv 0) pa_nil)))
      (pss_cons (ps_while PassesOwn.never (pt_cmpR op_lt (pv 2) (pv 3) (nomark _))
        (pss_cons (ps_set (i := 4) nd rfl (Or.inl rfl) (pe_op op_fdiv (pe_op op_add (pv 2) (pv 3)) pe_int))
        (pss_one (ps_if (pt_cmpR op_lt (pe_ix ix_list (pv 0) (pv 4) (fun _ _ => rfl)) (pv 1) (nomark _))
          (pss_one (ps_set (i := 2) nd rfl (Or.inl rfl) (pe_op op_add (pv 4) pe_int)))
          (pss_one (ps_set (i := 3) nd rfl (Or.inl rfl) (pv 4)))))))
      (pss_one (ps_ret (pv 2)))))), ?_⟩
    walk_at "rd"
    refine ⟨a, _, rfl, .inl hl, ?_⟩
    refine while_d (fun σ H' => H' = H ∧ ∃ (lo hi : Nat) (m : Option V), lo ≤ cnt l b ∧ cnt l b ≤ hi ∧ hi ≤ l.length ∧ σ = [some (.ref a), some (.int b), some (.int lo), some (.int hi), m])
      (fun σ _ => match σ with | [_, _, some (.int lo), some (.int hi), _] => (hi - lo).toNat | _ => 0) ⟨rfl, 0, l.length, none, Nat.zero_le _, cnt_le _ _, Nat.le_refl _, by rw [List.length_map]; rfl⟩ ?_
    rintro σ H' ⟨rfl, lo, hi, m, h1, h2, h3, rfl⟩
    walk_at "rd"
    refine ite2 (fun c => ?_) (fun c => ?_)
    · have c' : (lo : Int) < hi := of_decide_eq_true c
      refine ⟨fun σ' H'' => H'' = H' ∧ ∃ (lo' hi' : Nat) (m' : Option V), lo' ≤ cnt l b ∧ cnt l b ≤ hi' ∧ hi' ≤ l.length ∧ hi' - lo' < hi - lo ∧ σ' = [some (.ref a), some (.int b), some (.int lo'), some (.int hi'), m'],
        fun σ' H'' ⟨e, lo', hi', m', g1, g2, g3, g4, e2⟩ => ⟨_, ?_, rfl, e, lo', hi', m', g1, g2, g3, e2⟩, ?_⟩
      · subst e2
        show ((hi' : Int) - lo').toNat < ((hi : Int) - lo).toNat
        omega
      · walk_at "rd"
        refine ⟨⟨by decide, by decide⟩, ?_⟩
        walk_at "rd"
        have mid : ((lo : Int) + hi) / 2 = ((lo + hi) / 2 : Nat) := by omega
        refine ⟨a, _, _, _, rfl, rfl, hl, atI_int (by omega) (by omega), ?_⟩
        walk_at "rd"
        have key := cnt_iff (b := b) asc (show (lo + hi) / 2 < l.length by omega)
        rw [mid, Int.toNat_natCast]
        refine ite2 (fun c2 => ?_) (fun c2 => ?_)
        · have := key.mp (of_decide_eq_true c2)
          walk_at "rd"
          exact ⟨(lo + hi) / 2 + 1, hi, _, by omega, h2, h3, by omega, rfl⟩
        · have : ¬ (lo + hi) / 2 < cnt l b := fun q => c2 (decide_eq_true (key.mpr q))
          walk_at "rd"
          exact ⟨lo, (lo + hi) / 2, _, h1, by omega, by omega, by omega, rfl⟩
    · have c' : ¬ (lo : Int) < hi := fun q => c (decide_eq_true q)
      have e : lo = cnt l b := by omega
      subst e
      exact ⟨_, rfl, k⟩
/-! ### cycle_day -/
def spCycleDay (K : PySem.W.Frag) : Sp := fun vs H Q _ => ∃ (p : Int) (a : Addr) (c : List Int) (i : Int), vs = [.int p, .ref a, .int i] ∧ LI K H a c ∧ 0 < c.length ∧ c.length < 1000000 ∧ 0 < p ∧ p < 1000000000 ∧ ∀ H', Same H H' → Q (.int (cdy p c i)) H'
theorem scCycleDay : FnScope ["period", "cycle", "number", "turns", "at"] ["period", "cycle", "number"] (defScope sCycleDay) := ⟨rfl, rfl, rfl, by decide +kernel, rfl, by decide +kernel, by decide +kernel⟩
theorem ok_cycle_day {f : Addr} {fd : FuncData} (F : Fun K "cycle_day" "cycle_day" sCycleDay f fd) (T : Nm mg) : FnOk P w K mg base CX0 1 f fd ["period", "cycle", "number"] (spCycleDay K) := by
  refine F.ok scCycleDay (fun vs H Q E h => ?_) (fun cdv A outer s H vs Q E hr h => ?_)
  · walk_at "len"
  · obtain ⟨p, a, c, i, rfl, hl, n0, n1, p0, p1, k⟩ := h
    have nd := scCycleDay.nd
    refine ⟨_, (pss_cons (ps_asg (pe_callB call_divmod (by rfl) T.divmod (by decide +kernel) (pa_cons (pv 2) (pa_cons (pe_callB call_len_seq (by rfl) T.len (by decide +kernel) (pa_cons (pv 1) pa_nil)) pa_nil))) (pg_tup (by rfl) (pgs_cons (pg_name (i := 3) nd rfl (Or.inl rfl)) (pgs_cons (pg_name (i := 4) nd rfl (Or.inl rfl)) pgs_nil))))
      (pss_one (ps_ret (pe_op op_add (pe_ix ix_list (pv 1) (pv 4) (fun _ _ => rfl)) (pe_op op_mul (pv 3) (pv 0)))))), ?_⟩
    walk_at "rd"
    refine ⟨a, _, rfl, .inl hl, ?_⟩
    rw [List.length_map]
    refine ⟨i, c.length, rfl, ⟨by omega, by omega⟩, fun t ht => ?_⟩
    refine ⟨t, _, rfl, SqT.of upd_same, rfl, ?_⟩
    walk_at "rd"
    have hn : (c.length : Int) ≠ 0 := by omega
    have m0 := Int.emod_nonneg i hn
    have m1 := Int.emod_lt_of_pos i (show 0 < (c.length : Int) by omega)
    refine ⟨a, _, _, _, rfl, rfl, (Same.new ht).seq hl, atI_int m0 m1, ?_⟩
    walk_at "rd"
    refine ⟨.inr ⟨by show -18446744073709551616 < p; omega, by show p < 18446744073709551616; omega⟩, ?_⟩
    walk_at "rd"
    exact k _ (Same.new ht)
end
end Cf
namespace Cf
open PySem L2
set_option hygiene false
local macro_rules | `(tactic| walk_at "len") => `(tactic| repeat (first | (obtain ⟨e, _⟩ := h; subst e; rfl; done) | (obtain ⟨_, h⟩ := h)))
local macro_rules | `(tactic| walk_at "rd") => `(tactic| repeat (first | refine ⟨_, rfl, ?_⟩ | refine ⟨_, _, rfl, rfl, ?_⟩ | refine ⟨rfl, ?_⟩ | refine ⟨_, _, rfl, ?_⟩))
local macro_rules | `(tactic| walk_at "yes") => `(tactic| (dsimp only [tYes]; rw [if_pos rfl]))
set_option hygiene true
section
variable {P : Program} {w : World} {K : PySem.W.Frag} {mg : Str → Option Value} {base : Heap}
/-! ### primes_of -/
abbrev nI (k : Nat) : V := V.int k
def spPrimesOf : Sp := fun vs H Q _ => ∃ n : Nat, vs = [.int n] ∧ 1 ≤ n ∧ n < 1000000 ∧ ∀ (H' : Hp) (q : Addr) (ps : List Nat), Same H H' → H q = none → H' q = some (.lst (ps.map nI)) → (∀ r, Pr r → r ∣ n → r ∈ ps) → (∀ r ∈ ps, 2 ≤ r) → ps.length ≤ n + 1 → (∀ r ∈ ps, r ≤ n) → Q (.ref q) H'
theorem scPrimesOf : FnScope ["number", "primes", "rest", "factor"] ["number"] (defScope sPrimesOf) := ⟨rfl, rfl, rfl, by decide +kernel, rfl, by decide +kernel, by decide +kernel⟩
structure Pw (n : Nat) (ps : List Nat) (rest f : Nat) : Prop where
  st : Pst n ps rest f
  rn : rest ≤ n
  len : ps.length + 2 ≤ f
  le : ∀ r ∈ ps, r ≤ n
theorem ok_primes_of {f : Addr} {fd : FuncData} (F : Fun K "primes_of" "primes_of" sPrimesOf f fd) (T : Nm mg) : FnOk P w K mg base CX0 1 f fd ["number"] spPrimesOf := by
  refine F.ok scPrimesOf (fun vs H Q E h => ?_) (fun cdv A outer s H vs Q E hr h => ?_)
  · walk_at "len"
  · obtain ⟨n, rfl, n0, n1, k⟩ := h
    have nd := scPrimesOf.nd
    have n64 : n < 18446744073709551616 := by omega
    refine ⟨_, (pss_cons (ps_set (i := 1) nd rfl (Or.inl rfl) (pe_lst pa_nil))
      (pss_cons (ps_set (i := 2) nd rfl (Or.inl rfl) (pv 0))
      (pss_cons (ps_set (i := 3) nd rfl (Or.inl rfl) pe_int)
      (pss_cons (ps_while PassesOwn.never (pt_cmpR op_le (pe_op op_mul (pv 3) (pv 3)) (pv 2) (nomark _))
        (C8.pss_cut (ps_if (pt_cmpR op_eq (pe_op op_mod (pv 2) (pv 3)) pe_int (nomark _))
          (pss_one (ps_expr (pe_bm PySem.F.plainAttrs_list PySem.F.slot_list_append PySem.F.type_list_append mt_append (pv 1) (pa_cons (pv 3) pa_nil))))
          pss_nil)
        (pss_cons (ps_while PassesOwn.never (pt_cmpR op_eq (pe_op op_mod (pv 2) (pv 3)) pe_int (nomark _))
          (pss_one (ps_set (i := 2) nd rfl (Or.inl rfl) (pe_op op_fdiv (pv 2) (pv 3)))))
        (pss_one (ps_aug (i := 3) nd rfl (Or.inl rfl) pe_int ip_add)))))
      (pss_one (ps_ret (pe_ifExp (pt_cmpR op_gt (pv 2) pe_int (nomark _)) (pe_op op_cat (pv 1) (pe_lst (pa_cons (pv 2) pa_nil))) (pv 1)))))))), ?_⟩
    refine ⟨by show 0 ≤ sizeLine; decide, fun D hD => ?_⟩
    walk_at "rd"
    refine while_d (fun σ H' => Same H H' ∧ ∃ (ps : List Nat) (rest fa : Nat), Pw n ps rest fa ∧ fa ≤ n + 2 ∧ H' D = some (.lst (ps.map nI)) ∧ σ = [some (.int n), some (.ref D), some (.int rest), some (.int fa)])
      (fun σ _ => match σ with | [_, _, some (.int rest), some (.int fa)] => (rest + 1 - fa).toNat | _ => 0)
      ⟨Same.new hD, [], n, 2, ⟨Pst.start n0, Nat.le_refl _, Nat.le_refl _, fun r h => by cases h⟩, by omega, upd_same, rfl⟩ ?_
    rintro σ H' ⟨S1, ps, rest, fa, W, fn, hL, rfl⟩
    have f2 := W.st.f2
    have r1 := W.st.r1
    have rn := W.rn
    have wl := W.len
    walk_at "rd"
    refine ⟨.inl ⟨by show -18446744073709551616 < (fa : Int); omega, by show (fa : Int) < 18446744073709551616; omega⟩, ?_⟩
    walk_at "rd"
    refine ite2 (fun c => ?_) (fun c => ?_)
    · have c1 : fa * fa ≤ rest := by have := of_decide_eq_true c; exact_mod_cast this
      have c2 : 2 * fa ≤ fa * fa := Nat.mul_le_mul_right fa f2
      refine ⟨fun σ' H'' => Same H H'' ∧ ∃ (ps' : List Nat) (rest' : Nat), Pw n ps' rest' (fa + 1) ∧ rest' ≤ rest ∧ H'' D = some (.lst (ps'.map nI)) ∧ σ' = [some (.int n), some (.ref D), some (.int rest'), some (.int ((fa + 1 : Nat) : Int))],
        fun σ' H'' ⟨S2, ps', rest', W', rl, hL', e⟩ => ⟨_, ?_, rfl, S2, ps', rest', fa + 1, W', by omega, hL', e⟩, ?_⟩
      · subst e
        show ((rest' : Int) + 1 - ((fa + 1 : Nat) : Int)).toNat < ((rest : Int) + 1 - (fa : Int)).toNat
        omega
      · refine ⟨fun σ2 H2 => Same H H2 ∧ ∃ ps2 : List Nat, Pst n ps2 rest fa ∧ (fa ∈ ps2 ∨ rest % fa ≠ 0) ∧ ps2.length + 1 ≤ fa ∧ (∀ r ∈ ps2, r ≤ n) ∧ H2 D = some (.lst (ps2.map nI)) ∧ σ2 = [some (.int n), some (.ref D), some (.int rest), some (.int fa)], ?_, ?_⟩
        · walk_at "rd"
          refine ⟨by show (0 : Int) < fa; omega, ?_⟩
          walk_at "rd"
          rw [mod_z]
          refine ite2 (fun d => ?_) (fun d => ?_)
          · walk_at "rd"
            refine ⟨.inl ⟨rfl, _, SqL.of hL⟩, ?_⟩
            walk_at "rd"
            refine ⟨D, _, _, rfl, rfl, hL, by rw [List.length_map]; exact szl (by omega), S1.wr hD, ps ++ [fa], W.st.found, .inl (by simp), by simp; omega, fun r hr => ?_, ?_, rfl⟩
            · rcases List.mem_append.mp hr with h | h
              · exact W.le r h
              · rw [List.mem_singleton] at h; omega
            · rw [upd_same, List.map_append]; rfl
          · exact ⟨S1, ps, W.st, .inr (fun q => d (decide_eq_true q)), by omega, W.le, hL, rfl⟩
        · rintro σ2 H2 ⟨S2, ps2, P2, mem2, len2, le2, hL2, rfl⟩
          refine while_d (fun σ' H' => Same H H' ∧ H' D = some (.lst (ps2.map nI)) ∧ ∃ r2 : Nat, Pst n ps2 r2 fa ∧ (fa ∈ ps2 ∨ r2 % fa ≠ 0) ∧ r2 ≤ rest ∧ σ' = [some (.int n), some (.ref D), some (.int r2), some (.int fa)])
            (fun σ _ => match σ with | [_, _, some (.int r), _] => r.toNat | _ => 0) ⟨S2, hL2, rest, P2, mem2, Nat.le_refl _, rfl⟩ ?_
          rintro σ3 H3 ⟨S3, hL3, r2, P3, mem3, le3, rfl⟩
          walk_at "rd"
          refine ⟨by show (0 : Int) < fa; omega, ?_⟩
          walk_at "rd"
          rw [mod_z]
          refine ite2 (fun d => ?_) (fun d => ?_)
          · have d' : r2 % fa = 0 := of_decide_eq_true d
            have fm : fa ∈ ps2 := mem3.elim id fun q => absurd d' q
            have r21 := P3.r1
            have lt : r2 / fa < r2 := Nat.div_lt_self (by omega) (by omega)
            refine ⟨fun σ' H'' => Same H H'' ∧ H'' D = some (.lst (ps2.map nI)) ∧ σ' = [some (.int n), some (.ref D), some (.int ((r2 / fa : Nat) : Int)), some (.int fa)],
              fun σ' H'' ⟨a, b, e⟩ => ⟨_, ?_, rfl, a, b, r2 / fa, P3.div fm d', .inl fm, by omega, e⟩, ?_⟩
            · subst e
              show (((r2 / fa : Nat) : Int)).toNat < ((r2 : Nat) : Int).toNat
              omega
            · walk_at "rd"
              refine ⟨⟨by show (0 : Int) < fa; omega, by show (fa : Int) < 1073741824; omega⟩, ?_⟩
              exact ⟨S3, hL3, rfl⟩
          · walk_at "rd"
            have d' : r2 % fa ≠ 0 := fun q => d (decide_eq_true q)
            exact ⟨S3, ps2, r2, ⟨P3.next d', by omega, by omega, le2⟩, le3, hL3, rfl⟩
    · have c1 : rest < fa * fa := by
        have c' : ¬ ((fa : Int) * fa ≤ rest) := fun q => c (decide_eq_true q)
        have e : ((fa * fa : Nat) : Int) = (fa : Int) * fa := by simp
        omega
      have P4 := fun q hq d => W.st.fin c1 q hq d
      have rI : decide ((rest : Int) > 1) = decide (1 < rest) := by rw [Bool.eq_iff_iff, decide_eq_true_iff, decide_eq_true_iff]; omega
      walk_at "rd"
      rw [rI]
      refine ite2 (fun d => ?_) (fun d => ?_)
      · have d' : 1 < rest := of_decide_eq_true d
        walk_at "rd"
        refine ⟨by show 1 ≤ sizeLine; decide, fun B hB => ?_⟩
        have nDB : D ≠ B := ne_of_none hL hB
        refine ⟨D, B, _, _, rfl, rfl, by rw [upd_ne nDB]; exact hL, upd_same, by rw [List.length_map]; exact szle (by simp; omega), fun q hq => ?_⟩
        refine k _ q (ps ++ [rest]) ((S1.step hB).step hq) ((S1.step hB).free hq) (by rw [upd_same, List.map_append]; rfl) (fun r hr h => by have := P4 r hr h; rw [if_pos d'] at this; exact this) (fun r hr => ?_) (by simp; omega) (fun r hr => ?_)
        · rcases List.mem_append.mp hr with h | h
          · exact W.st.mem r h
          · rw [List.mem_singleton] at h; omega
        · rcases List.mem_append.mp hr with h | h
          · exact W.le r h
          · rw [List.mem_singleton] at h; omega
      · have d' : ¬ 1 < rest := fun q => d (decide_eq_true q)
        walk_at "rd"
        exact k _ D ps S1 hD hL (fun r hr h => by have := P4 r hr h; rw [if_neg d'] at this; exact this) W.st.mem (by omega) W.le
end
end Cf
namespace Cf
open PySem L2
set_option hygiene false
local macro_rules | `(tactic| walk_at "len") => `(tactic| repeat (first | (obtain ⟨e, _⟩ := h; subst e; rfl; done) | (obtain ⟨_, h⟩ := h)))
local macro_rules | `(tactic| walk_at "rd") => `(tactic| repeat (first | refine ⟨_, rfl, ?_⟩ | refine ⟨_, _, rfl, rfl, ?_⟩ | refine ⟨rfl, ?_⟩ | refine ⟨_, _, rfl, ?_⟩))
local macro_rules | `(tactic| walk_at "yes") => `(tactic| (dsimp only [tYes]; rw [if_pos rfl]))
set_option hygiene true
section
variable {P : Program} {w : World} {K : PySem.W.Frag} {mg : Str → Option Value} {base : Heap}
/-! ### repeats -/
def spRepeats (K : PySem.W.Frag) : Sp := fun vs H Q _ => ∃ (p : Int) (a : Addr) (c : List Int) (q : Nat), vs = [.int p, .ref a, .int q] ∧ LI K H a c ∧ 1 ≤ q ∧ q < 1000000 ∧ c.length < 1000000 ∧ ∀ (b : Bool) (H' : Hp), Same H H' → (b = true ↔ Rep c p q) → Q (.bl b) H'
theorem scRepeats : FnScope ["period", "cycle", "parts", "step", "many", "day"] ["period", "cycle", "parts"] (defScope sRepeats) := ⟨rfl, rfl, rfl, by decide +kernel, rfl, by decide +kernel, by decide +kernel⟩
theorem ok_repeats {f : Addr} {fd : FuncData} (F : Fun K "repeats" "repeats" sRepeats f fd) (T : Nm mg) : FnOk P w K mg base CX0 1 f fd ["period", "cycle", "parts"] (spRepeats K) := by
  refine F.ok scRepeats (fun vs H Q E h => ?_) (fun cdv A outer s H vs Q E hr h => ?_)
  · walk_at "len"
  · obtain ⟨p, a, c, q, rfl, hl, q1, q2, cl, k⟩ := h
    have nd := scRepeats.nd
    have hu := hr.units
    refine ⟨_, (pss_cons (ps_if (PW.pt (pw_or (pt_cmpR op_ne (pe_op op_mod (pe_callB call_len_seq (by rfl) T.len (by decide +kernel) (pa_cons (pv 1) pa_nil)) (pv 2)) pe_int (nomark _)) (pw_or1 (pt_cmpR op_ne (pe_op op_mod (pv 0) (pv 2)) pe_int (nomark _)))))
        (pss_one (ps_ret pe_bl))
        pss_nil)
      (pss_cons (ps_set (i := 3) nd rfl (Or.inr rfl) (pe_op op_fdiv (pv 0) (pv 2)))
      (pss_cons (ps_set (i := 4) nd rfl (Or.inl rfl) (pe_op op_fdiv (pe_callB call_len_seq (by rfl) T.len (by decide +kernel) (pa_cons (pv 1) pa_nil)) (pv 2)))
      (pss_one (ps_ret (pe_cmpR (op_eqD hu) (pe_slice sl_list (pv 1) (po_some (pv 4)) po_none) (pe_lc (own := [("day", 5)]) (g := (gName 5)) (tt := tYes) rfl nd (pi_list (pe_slice sl_list (pv 1) po_none (po_some (pe_op op_sub (pe_callB call_len_seq (by rfl) T.len (by decide +kernel) (pa_cons (pv 1) pa_nil)) (pv 4))))) (blkOk_by (N := ["period", "cycle", "parts", "step", "many", "day"]) (sc := defScope sRepeats) (by decide +kernel)) (fun _ _ _ _ _ => pg_name (i := 5) nd rfl (Or.inl rfl)) (fun _ _ _ _ _ => pts_nil) (fun _ _ _ _ _ => (pe_op op_add (pv 5) (pv 3)))) (nomark _))))))), ?_⟩
    walk_at "rd"
    refine ⟨a, _, rfl, .inl hl, ?_⟩
    rw [List.length_map]
    walk_at "rd"
    refine ⟨by show (0 : Int) < q; omega, ?_⟩
    walk_at "rd"
    rw [mod_z]
    refine ite2 (fun d => ?_) (fun d => ?_)
    · walk_at "rd"
      refine iteT ?_
      refine k false H (Same.refl H) ⟨(fun z => by cases z), fun z => ?_⟩
      have := z.1
      rw [decide_eq_true this] at d
      cases d
    · have d' : c.length % q = 0 := by
        cases e : decide (c.length % q = 0) with
        | true => exact of_decide_eq_true e
        | false => rw [e] at d; exact absurd rfl d
      walk_at "rd"
      refine ⟨by show (0 : Int) < q; omega, ?_⟩
      walk_at "rd"
      rw [dec_int]
      refine ite2 (fun d2 => ?_) (fun d2 => ?_)
      · walk_at "rd"
        refine k false H (Same.refl H) ⟨(fun z => by cases z), fun z => ?_⟩
        have := z.2.1
        rw [this] at d2
        cases d2
      · have d3 : p % (q : Int) = 0 := by
          cases e : (p % (q : Int) == 0) with
          | true => exact beq_iff_eq.mp e
          | false => rw [e] at d2; exact absurd rfl d2
        walk_at "rd"
        refine ⟨⟨by show (0 : Int) < q; omega, by show (q : Int) < 1073741824; omega⟩, ?_⟩
        walk_at "rd"
        refine ⟨a, _, rfl, .inl hl, ?_⟩
        rw [List.length_map]
        walk_at "rd"
        refine ⟨⟨by show (0 : Int) < q; omega, by show (q : Int) < 1073741824; omega⟩, ?_⟩
        walk_at "rd"
        refine ⟨a, _, rfl, hl, fun B hB => ?_⟩
        have m0 : c.length / q ≤ c.length := Nat.div_le_self _ _
        have nn : 0 ≤ (c.length : Int) / (q : Int) := Int.ediv_nonneg (by omega) (by omega)
        have nl : (c.length : Int) / (q : Int) ≤ c.length := Int.ofNat_le.mpr m0
        rw [cut_from nn, show ((c.length : Int) / (q : Int)).toNat = c.length / q from rfl]
        walk_at "rd"
        refine ⟨a, _, rfl, .inl ((Same.new hB).seq hl), ?_⟩
        rw [List.length_map]
        walk_at "rd"
        refine ⟨a, _, rfl, (Same.new hB).seq hl, fun C hC => ?_⟩
        rw [cut_to (by omega), show ((c.length : Int) - (c.length : Int) / (q : Int)).toNat = c.length - c.length / q from Int.toNat_sub c.length (c.length / q)]
        have hB2 : LI K (upd (upd H B (.lst ((c.drop (c.length / q)).map V.int))) C (.lst ((c.take (c.length - c.length / q)).map V.int))) B (c.drop (c.length / q)) := (Same.new hC).seq (LI.new upd_same)
        have hC2 : LI K (upd (upd H B (.lst ((c.drop (c.length / q)).map V.int))) C (.lst ((c.take (c.length - c.length / q)).map V.int))) C (c.take (c.length - c.length / q)) := LI.new upd_same
        have S2 : Same H (upd (upd H B (.lst ((c.drop (c.length / q)).map V.int))) C (.lst ((c.take (c.length - c.length / q)).map V.int))) := (Same.new hB).step hC
        generalize hH2 : upd (upd H B (.lst ((c.drop (c.length / q)).map V.int))) C (.lst ((c.take (c.length - c.length / q)).map V.int)) = H2 at hB2 hC2 S2
        refine ⟨C, rfl, ⟨_, hC2⟩, fun D hD => lc_list (K := K) (a := C) (xs := (c.take (c.length - c.length / q)).map V.int)
          (fun i H' => Same H2 H' ∧ H' D = some (.lst (((c.take (c.length - c.length / q)).take i).map fun d => V.int (d + p / (q : Int)))))
          ⟨Same.new hD, upd_same⟩ (fun i H' _ ⟨s1, _⟩ => s1.seq hC2) ?_ ?_⟩
        · rintro i y H' hi ⟨s1, hDl⟩
          have hil := lt_of_get hi
          rw [List.length_map, List.length_take] at hil
          obtain ⟨z, hz, rfl⟩ := ints_get hi
          walk_at "rd"
          exact acc_step s1 hD hDl (by rw [List.length_map, List.length_take, List.length_take]; exact szl (by omega)) (take_map_succ (f := fun d => V.int (d + p / (q : Int))) hz)
        · rintro H' ⟨s1, hDl⟩
          rw [List.length_map, List.take_length] at hDl
          have hDl2 : LI K H' D ((c.take (c.length - c.length / q)).map (· + p / (q : Int))) := LI.new (by rw [hDl, List.map_map]; rfl)
          refine ⟨pdL _, pdL _, dpL (s1.seq hB2), dpL hDl2, shapedL _, shapedL _, ?_⟩
          rw [eqvL]
          refine k _ H' (S2.trans (s1)) ?_
          rw [decide_eq_true_iff]
          exact ⟨fun e => ⟨d', d3, e⟩, fun r => r.2.2⟩
/-! ### least_period -/
def spLeastPeriod (K : PySem.W.Frag) : Sp := fun vs H Q _ => ∃ (p : Int) (a : Addr) (S : Int → Bool) (s : Int), vs = [.int p, .ref a] ∧ Fr S s p ∧ LI K H a (els S s (s + p)) ∧ p < 1000000 ∧
  ∀ (H' : Hp) (t b : Addr) (p' : Int), Same H H' → H t = none → H' t = some (.tup [.int p', .ref b]) → (b = a ∨ H b = none) → LI K H' b (els S s (s + p')) → Fr S s p' → p' ≤ p → (∀ s' q, Fr S s' q → p' ≤ q) → Q (.ref t) H'
theorem scLeastPeriod : FnScope ["period", "cycle", "prime"] ["period", "cycle"] (defScope sLeastPeriod) := ⟨rfl, rfl, rfl, by decide +kernel, rfl, by decide +kernel, by decide +kernel⟩
theorem ok_least_period {f : Addr} {fd : FuncData} (F : Fun K "least_period" "least_period" sLeastPeriod f fd) (T : Nm mg) (D_primes_of : Df P w K mg base 1 "primes_of" ["number"] [] spPrimesOf) (D_repeats : Df P w K mg base 1 "repeats" ["period", "cycle", "parts"] [] (spRepeats K)) : FnOk P w K mg base CX0 2 f fd ["period", "cycle"] (spLeastPeriod K) := by
  refine F.ok scLeastPeriod (fun vs H Q E h => ?_) (fun cdv A outer s H vs Q E hr h => ?_)
  · walk_at "len"
  · obtain ⟨p, a, S, st, rfl, F0, hl, pb, k⟩ := h
    have nd := scLeastPeriod.nd
    have p1 := F0.p1
    have ll := els_length_le S st (st + p)
    refine ⟨_, (pss_cons (ps_if (pt_not (pt_truth (pv 1) (fun _ => rfl)))
        (pss_one (ps_ret (pe_tup (pa_cons pe_int (pa_cons (pe_lst pa_nil) pa_nil)))))
        pss_nil)
      (pss_cons (ps_for PassesOwn.never rfl (pi_list (pe_df D_primes_of (hr.mono (by decide)) (pa_cons (pe_callB call_len_seq (by rfl) T.len (by decide +kernel) (pa_cons (pv 1) pa_nil)) pa_nil))) (pg_name (i := 2) nd rfl (Or.inl rfl))
        (pss_one (ps_while PassesOwn.never (pt_val (pe_df D_repeats (hr.mono (by decide)) (pa_cons (pv 0) (pa_cons (pv 1) (pa_cons (pv 2) pa_nil)))))
          (pss_cons (ps_set (i := 0) nd rfl (Or.inl rfl) (pe_op op_fdiv (pv 0) (pv 2)))
          (pss_one (ps_set (i := 1) nd rfl (Or.inl rfl) (pe_slice sl_list (pv 1) po_none (po_some (pe_op op_fdiv (pe_callB call_len_seq (by rfl) T.len (by decide +kernel) (pa_cons (pv 1) pa_nil)) (pv 2))))))))))
      (pss_one (ps_ret (pe_tup (pa_cons (pv 0) (pa_cons (pv 1) pa_nil))))))), ?_⟩
    walk_at "rd"
    refine ⟨_, .inl ⟨_, hl, rfl⟩, ?_⟩
    cases hc : els S st (st + p) with
    | nil =>
      walk_at "rd"
      refine iteT ?_
      refine ⟨by show 0 ≤ sizeLine; decide, fun B hB => ?_⟩
      walk_at "rd"
      refine ⟨by show 2 ≤ sizeLine; decide, fun t ht => ?_⟩
      have nBt : B ≠ t := ne_of_none upd_same ht
      have off : ∀ d, st ≤ d → S d = false := fun d hd => by
        rw [← F0.mod hd]
        cases e : S (st + (d - st) % p) with
        | false => rfl
        | true =>
          have m0 := Int.emod_nonneg (d - st) (show p ≠ 0 by omega)
          have m1 := Int.emod_lt_of_pos (d - st) (show 0 < p by omega)
          have : st + (d - st) % p ∈ els S st (st + p) := mem_els.mpr ⟨⟨by omega, by omega⟩, e⟩
          rw [hc] at this; cases this
      have e0 : els S st (st + 1) = [] := List.eq_nil_iff_forall_not_mem.mpr fun d hd => by
        have m := mem_els.mp hd
        rw [off d m.1.1] at m; exact Bool.noConfusion m.2
      refine k _ t B 1 ((Same.new hB).step ht) ((Same.new hB).free ht) upd_same (.inr hB) ?_ ⟨F0.s0, by omega, fun d hd => by rw [off _ (by omega), off _ hd]⟩ p1 (fun s' q G => G.p1)
      rw [e0]
      exact (Same.new ht).seq (LI.new upd_same)
    | cons x xs =>
      refine iteF ?_
      have npos : 0 < (els S st (st + p)).length := by rw [hc]; exact Nat.succ_pos _
      walk_at "rd"
      refine ⟨a, _, rfl, .inl hl, ?_⟩
      rw [List.length_map]
      refine ⟨_, rfl, npos, by omega, fun H1 q ps S1 hq hps all two len le => ?_⟩
      refine ⟨q, rfl, ⟨_, SqL.of hps⟩, for_list (K := K) (a := q) (xs := ps.map nI)
        (fun i σ H' => Same H1 H' ∧ ∃ (b : Addr) (p' : Int) (v : Option V), Fr S st p' ∧ p' ≤ p ∧ (b = a ∨ H b = none) ∧ LI K H' b (els S st (st + p')) ∧ (∃ m : Nat, (els S st (st + p)).length = (els S st (st + p')).length * m) ∧
          (∀ r ∈ ps.take i, ∀ t, p' = (r : Int) * t → ¬ Fr S st t) ∧ σ = [some (.int p'), some (.ref b), v])
        ⟨Same.refl H1, a, p, none, F0, Int.le_refl _, .inl rfl, S1.seq hl, ⟨1, by omega⟩, (fun r h => by simp at h), rfl⟩ (fun i σ H' _ ⟨s1, _⟩ => s1.seq (SqL.of hps)) ?_ ?_⟩
      · rintro i y σ H' hi ⟨s1, b, p', v, F1, pp, hb, hlb, ⟨m, em⟩, done, rfl⟩
        obtain ⟨r, hr', rfl⟩ : ∃ r, ps[i]? = some r ∧ y = nI r := by
          rw [List.getElem?_map] at hi
          cases e : ps[i]? with
          | none => rw [e] at hi; cases hi
          | some r => rw [e] at hi; exact ⟨r, rfl, (Option.some.inj hi).symm⟩
        have rm : r ∈ ps := List.mem_of_getElem? hr'
        have r2 := two r rm
        have rle := le r rm
        walk_at "rd"
        refine while_d (fun σ H' => Same H1 H' ∧ ∃ (b : Addr) (p' : Int), Fr S st p' ∧ p' ≤ p ∧ (b = a ∨ H b = none) ∧ LI K H' b (els S st (st + p')) ∧ (∃ m : Nat, (els S st (st + p)).length = (els S st (st + p')).length * m) ∧
          (∀ r ∈ ps.take i, ∀ t, p' = (r : Int) * t → ¬ Fr S st t) ∧ σ = [some (.int p'), some (.ref b), some (.int r)])
          (fun σ _ => match σ with | [some (.int p'), _, _] => p'.toNat | _ => 0) ⟨s1, b, p', F1, pp, hb, hlb, ⟨m, em⟩, done, rfl⟩ ?_
        rintro σ2 H2 ⟨s2, b2, p2, F2, pp2, hb2, hlb2, ⟨m2, em2⟩, done2, rfl⟩
        have p21 := F2.p1
        have ll2 := els_length_le S st (st + p2)
        walk_at "rd"
        refine ⟨p2, b2, _, r, rfl, hlb2, by omega, by omega, by omega, fun bb H3 S3 hbb => ?_⟩
        walk_at "rd"
        refine ite2 (fun d => ?_) (fun d => ?_)
        · have R := hbb.mp d
          obtain ⟨t, et, Ft, ed⟩ := rep_to (by omega) F2 R
          have t1 := Ft.p1
          have lr := els_times Ft st (Int.le_refl _) r
          rw [← et] at lr
          refine ⟨fun σ' H' => Same H1 H' ∧ ∃ (b : Addr), (b = a ∨ H b = none) ∧ LI K H' b (els S st (st + t)) ∧ σ' = [some (.int t), some (.ref b), some (.int r)], fun σ' H' ⟨s4, b4, hb4, hl4, e⟩ => ⟨_, ?_, rfl, s4, b4, t, Ft, ?_, hb4, hl4, ⟨r * m2, ?_⟩, ?_, e⟩, ?_⟩
          · subst e
            show t.toNat < p2.toNat
            have : (2 : Int) * t ≤ r * t := Int.mul_le_mul_of_nonneg_right (by omega) (by omega)
            omega
          · have : (1 : Int) * t ≤ r * t := Int.mul_le_mul_of_nonneg_right (by omega) (by omega)
            omega
          · rw [em2, lr, Nat.mul_comm r, Nat.mul_assoc]
          · intro r' hr2 t' et' G
            refine done2 r' hr2 (r * t') ?_ (by exact_mod_cast G.times (k := r) (by omega))
            rw [et, et', ← Int.mul_assoc, ← Int.mul_assoc, Int.mul_comm (r : Int) (r' : Int)]
          · walk_at "rd"
            refine ⟨⟨by show (0 : Int) < r; omega, by show (r : Int) < 1073741824; omega⟩, ?_⟩
            walk_at "rd"
            refine ⟨b2, _, rfl, .inl (S3.seq hlb2), ?_⟩
            rw [List.length_map]
            walk_at "rd"
            refine ⟨⟨by show (0 : Int) < r; omega, by show (r : Int) < 1073741824; omega⟩, ?_⟩
            walk_at "rd"
            have nn : 0 ≤ ((els S st (st + p2)).length : Int) / (r : Int) := Int.ediv_nonneg (by omega) (by omega)
            refine ⟨b2, _, rfl, S3.seq hlb2, fun C hC => ?_⟩
            rw [cut_to nn]
            have dl : (els S st (st + p2)).length / r = (els S st (st + t)).length := by rw [lr]; exact Nat.mul_div_cancel_left _ (by omega)
            have tk : (els S st (st + p2)).take (((els S st (st + p2)).length : Int) / (r : Int)).toNat = els S st (st + t) := by
              show (els S st (st + p2)).take ((els S st (st + p2)).length / r) = _
              rw [dl]
              have tp : t ≤ p2 := by
                have : (1 : Int) * t ≤ r * t := Int.mul_le_mul_of_nonneg_right (by omega) (by omega)
                omega
              conv => lhs; rw [els_cut S (show st ≤ st + t by omega) (show st + t ≤ st + p2 by omega)]
              exact List.take_left
            rw [tk]
            refine ⟨(s2.trans S3).step hC, C, .inr (((S1.trans s2).trans S3).free hC), LI.new upd_same, ?_⟩
            show [some (V.int (p2 / (r : Int))), some (V.ref C), some (V.int r)] = _
            rw [ed]
        · refine ⟨s2.trans S3, b2, p2, _, F2, pp2, hb2, S3.seq hlb2, ⟨m2, em2⟩, fun r' hr2 t et G => ?_, rfl⟩
          rw [List.take_succ, hr'] at hr2
          rcases List.mem_append.mp hr2 with h | h
          · exact done2 r' h t et G
          · have : r' = r := by simpa using h
            subst this
            refine d ?_
            rw [hbb.mpr (rep_of (by omega) et G)]
      · rintro σ H' ⟨s1, b, p', v, F1, pp, hb, hlb, ⟨m, em⟩, done, rfl⟩
        rw [List.length_map, List.take_length] at done
        walk_at "rd"
        refine ⟨by show 2 ≤ sizeLine; decide, fun t ht => ?_⟩
        refine k _ t b p' ((S1.trans s1).step ht) ((S1.trans s1).free ht) upd_same hb ((Same.new ht).seq hlb) F1 pp fun s' q G => ?_
        refine F1.least (fun r hr t et Ft => ?_) s' q G
        refine done r (all r hr ?_) t et Ft
        have := els_times Ft st (Int.le_refl _) r
        rw [← et] at this
        rw [em, this]
        exact ⟨_, Nat.mul_assoc _ _ _⟩
end
end Cf
namespace Cf
open PySem L2
set_option hygiene false
local macro_rules | `(tactic| walk_at "len") => `(tactic| repeat (first | (obtain ⟨e, _⟩ := h; subst e; rfl; done) | (obtain ⟨_, h⟩ := h)))
local macro_rules | `(tactic| walk_at "rd") => `(tactic| repeat (first | refine ⟨_, rfl, ?_⟩ | refine ⟨_, _, rfl, rfl, ?_⟩ | refine ⟨rfl, ?_⟩ | refine ⟨_, _, rfl, ?_⟩))
local macro_rules | `(tactic| walk_at "yes") => `(tactic| (dsimp only [tYes]; rw [if_pos rfl]))
set_option hygiene true
section
variable {P : Program} {w : World} {K : PySem.W.Frag} {mg : Str → Option Value} {base : Heap}
/-! ### least_start -/
theorem getD_at {l : List Int} {i : Nat} (h : i < l.length) : l.getD i 0 = l[i] := by rw [List.getD_eq_getElem?_getD, List.getElem?_eq_getElem h]; rfl
theorem cdy_turn (p : Int) (c : List Int) (hc : 0 < c.length) (kk : Nat) :
    (c.drop ((-(kk : Int)) % (c.length : Int)).toNat).map (· + (-(kk : Int)) / (c.length : Int) * p) ++ (c.take ((-(kk : Int)) % (c.length : Int)).toNat).map (· + ((-(kk : Int)) / (c.length : Int) + 1) * p) = (List.range c.length).map fun (j : Nat) => cdy p c ((j : Int) - kk) := by
  have n0 : (c.length : Int) ≠ 0 := by omega
  have q := (Int.mul_ediv_add_emod (-(kk : Int)) (c.length : Int)).symm
  have a0 := Int.emod_nonneg (-(kk : Int)) n0
  have a1 := Int.emod_lt_of_pos (-(kk : Int)) (show 0 < (c.length : Int) by omega)
  generalize (-(kk : Int)) / (c.length : Int) = t at q ⊢
  generalize (-(kk : Int)) % (c.length : Int) = a' at q a0 a1 ⊢
  obtain ⟨a, rfl⟩ : ∃ a : Nat, a' = a := ⟨a'.toNat, by omega⟩
  rw [Int.toNat_natCast]
  have al : a < c.length := by omega
  refine List.ext_getElem (by simp; omega) fun j h1 h2 => ?_
  have hj : j < c.length := by simpa using h2
  have rr : (List.map (fun (j : Nat) => cdy p c ((j : Int) - kk)) (List.range c.length))[j] = cdy p c ((j : Int) - kk) := by rw [List.getElem_map, List.getElem_range]
  refine Eq.trans ?_ rr.symm
  unfold cdy
  by_cases r : j < c.length - a
  · rw [List.getElem_append_left (by simp; omega), List.getElem_map, List.getElem_drop]
    have e1 : ((j : Int) - kk) = ((a + j : Nat) : Int) + (c.length : Int) * t := by omega
    rw [e1, Int.add_mul_emod_self_left, Int.add_mul_ediv_left _ _ n0, Int.emod_eq_of_lt (by omega) (by omega), Int.ediv_eq_zero_of_lt (by omega) (by omega), Int.toNat_natCast, getD_at (show a + j < c.length by omega), Int.zero_add]
  · rw [List.getElem_append_right (by simp; omega), List.getElem_map, List.getElem_take]
    simp only [List.length_map, List.length_drop]
    have e1 : ((j : Int) - kk) = ((a + j - c.length : Nat) : Int) + (c.length : Int) * (t + 1) := by rw [Int.mul_add]; omega
    rw [e1, Int.add_mul_emod_self_left, Int.add_mul_ediv_left _ _ n0, Int.emod_eq_of_lt (by omega) (by omega), Int.ediv_eq_zero_of_lt (by omega) (by omega), Int.toNat_natCast, getD_at (show a + j - c.length < c.length by omega), Int.zero_add]
    congr 2
    omega
def spLeastStart (K : PySem.W.Frag) : Sp := fun vs H Q _ => ∃ (p : Int) (h c : Addr) (S : Int → Bool) (s : Int), vs = [.int p, .ref h, .ref c] ∧ Fr S s p ∧ LI K H h (els S 0 s) ∧ LI K H c (els S s (s + p)) ∧ p < 1000000 ∧ (els S 0 s).length < 1000000 ∧ (els S s (s + p) = [] → p = 1) ∧
  ∀ (H' : Hp) (t h' c' : Addr) (s' : Int), Same H H' → H t = none → H' t = some (.tup [.int s', .ref h', .ref c']) → (h' = h ∨ H h' = none) → (c' = c ∨ H c' = none) → LI K H' h' (els S 0 s') → LI K H' c' (els S s' (s' + p)) → s' ≤ s → (Fr S s' p ∧ ∀ s'', Fr S s'' p → s' ≤ s'') → Q (.ref t) H'
theorem scLeastStart : FnScope ["period", "head", "cycle", "same", "rest", "unlike", "turns", "at", "early", "day"] ["period", "head", "cycle"] (defScope sLeastStart) := ⟨rfl, rfl, rfl, by decide +kernel, rfl, by decide +kernel, by decide +kernel⟩
theorem ok_least_start {f : Addr} {fd : FuncData} (F : Fun K "least_start" "least_start" sLeastStart f fd) (T : Nm mg) (D_cycle_day : Df P w K mg base 1 "cycle_day" ["period", "cycle", "number"] [] (spCycleDay K)) : FnOk P w K mg base CX0 2 f fd ["period", "head", "cycle"] (spLeastStart K) := by
  refine F.ok scLeastStart (fun vs H Q E h => ?_) (fun cdv A outer s H vs Q E hr h => ?_)
  · walk_at "len"
  · obtain ⟨p, h, c, S, st, rfl, F0, hh, hc, pb, sb, emp, k⟩ := h
    have nd := scLeastStart.nd
    have p1 := F0.p1
    have s0 := F0.s0
    have lh := sb
    have lc := els_length_le S st (st + p)
    refine ⟨_, (pss_cons (ps_if (pt_not (pt_truth (pv 2) (fun _ => rfl)))
        (pss_one (ps_ret (pe_tup (pa_cons (pe_ifExp (pt_truth (pv 1) (fun _ => rfl)) (pe_op op_add (pe_ix ix_list (pv 1) (pe_un un_neg pe_int) (fun _ _ => rfl)) pe_int) pe_int) (pa_cons (pv 1) (pa_cons (pv 2) pa_nil))))))
        pss_nil)
      (pss_cons (ps_set (i := 3) nd rfl (Or.inl rfl) pe_int)
      (C8.pss_cut (ps_while PassesOwn.never (PW.pt (pw_and (pt_cmpR op_lt (pv 3) (pe_callB call_len_seq (by rfl) T.len (by decide +kernel) (pa_cons (pv 1) pa_nil)) (nomark _)) (pw_and1 (pt_cmpR op_eq (pe_ix ix_list (pv 1) (pe_op op_sub (pe_un un_neg pe_int) (pv 3)) (fun _ _ => rfl)) (pe_df D_cycle_day (hr.mono (by decide)) (pa_cons (pv 0) (pa_cons (pv 2) (pa_cons (pe_op op_sub (pe_un un_neg pe_int) (pv 3)) pa_nil)))) (nomark _)))))
        (pss_one (ps_aug (i := 3) nd rfl (Or.inl rfl) pe_int ip_add)))
      (pss_cons (ps_set (i := 4) nd rfl (Or.inl rfl) (pe_slice sl_list (pv 1) po_none (po_some (pe_op op_sub (pe_callB call_len_seq (by rfl) T.len (by decide +kernel) (pa_cons (pv 1) pa_nil)) (pv 3)))))
      (pss_cons (ps_set (i := 5) nd rfl (Or.inl rfl) (pe_df D_cycle_day (hr.mono (by decide)) (pa_cons (pv 0) (pa_cons (pv 2) (pa_cons (pe_op op_sub (pe_un un_neg pe_int) (pv 3)) pa_nil)))))
      (C8.pss_cut (ps_if (PW.pt (pw_and (pt_truth (pv 4) (fun _ => rfl)) (pw_and1 (pt_cmpR op_gt (pe_ix ix_list (pv 4) (pe_un un_neg pe_int) (fun _ _ => rfl)) (pv 5) (nomark _)))))
        (pss_one (ps_set (i := 5) nd rfl (Or.inl rfl) (pe_ix ix_list (pv 4) (pe_un un_neg pe_int) (fun _ _ => rfl))))
        pss_nil)
      (pss_cons (ps_asg (pe_callB call_divmod (by rfl) T.divmod (by decide +kernel) (pa_cons (pe_un un_neg (pv 3)) (pa_cons (pe_callB call_len_seq (by rfl) T.len (by decide +kernel) (pa_cons (pv 2) pa_nil)) pa_nil))) (pg_tup (by rfl) (pgs_cons (pg_name (i := 6) nd rfl (Or.inr rfl)) (pgs_cons (pg_name (i := 7) nd rfl (Or.inl rfl)) pgs_nil))))
      (pss_cons (ps_setLc (i := 8) (own := [("day", 9)]) (g := (gName 9)) (tt := tYes) rfl nd rfl rfl (sw_true rfl rfl rfl (by decide +kernel)) (pi_list (pe_slice sl_list (pv 2) (po_some (pv 7)) po_none)) (blkOk_by (N := ["period", "head", "cycle", "same", "rest", "unlike", "turns", "at", "early", "day"]) (sc := defScope sLeastStart) (by decide +kernel)) (fun _ _ _ _ _ => pg_name (i := 9) nd rfl (Or.inl rfl)) (fun _ _ _ _ _ => pts_nil) (fun _ _ _ _ _ => (pe_op op_add (pv 9) (pe_op op_mul (pv 6) (pv 0)))))
      (pss_one (ps_ret (pe_tup (pa_cons (pe_callB (call_max2 rfl) (by rfl) T.max (by decide +kernel) (pa_cons pe_int (pa_cons (pe_op op_add (pv 5) pe_int) pa_nil))) (pa_cons (pv 4) (pa_cons (pe_op op_cat (pv 8) (pe_lc (own := [("day", 9)]) (g := (gName 9)) (tt := tYes) rfl nd (pi_list (pe_slice sl_list (pv 2) po_none (po_some (pv 7)))) (blkOk_by (N := ["period", "head", "cycle", "same", "rest", "unlike", "turns", "at", "early", "day"]) (sc := defScope sLeastStart) (by decide +kernel)) (fun _ _ _ _ _ => pg_name (i := 9) nd rfl (Or.inl rfl)) (fun _ _ _ _ _ => pts_nil) (fun _ _ _ _ _ => (pe_op op_add (pv 9) (pe_op op_mul (pe_op op_add (pv 6) pe_int) (pv 0)))))) pa_nil)))))))))))))), ?_⟩
    walk_at "rd"
    refine ⟨_, .inl ⟨_, hc, rfl⟩, ?_⟩
    cases ec : els S st (st + p) with
    | nil =>
      have ep := emp ec
      subst ep
      refine iteT ?_
      walk_at "rd"
      have fin : ∀ s', ((els S 0 st = [] ∧ s' = 0) ∨ (els S 0 st ≠ [] ∧ s' = (els S 0 st).getD ((els S 0 st).length - 1) 0 + 1)) → ∀ t, H t = none → Q (.ref t) (upd H t (.tup [.int s', .ref h, .ref c])) := fun s' hs t ht => by
        obtain ⟨a1, a2, a3, a4⟩ := start_nil F0 ec hs
        refine k _ t h c s' (Same.new ht) ht upd_same (.inl rfl) (.inl rfl) ?_ ?_ a2 a1
        · rw [← a3]; exact (Same.new ht).seq hh
        · rw [a4, ← ec]; exact (Same.new ht).seq hc
      refine ⟨_, .inl ⟨_, hh, rfl⟩, ?_⟩
      cases eh : els S 0 st with
      | nil =>
        refine iteF ?_
        walk_at "rd"
        exact ⟨by show 3 ≤ sizeLine; decide, fun t ht => fin 0 (.inl ⟨eh, rfl⟩) t ht⟩
      | cons x xs =>
        refine iteT ?_
        walk_at "rd"
        have pos : 0 < (els S 0 st).length := by rw [eh]; exact Nat.succ_pos _
        refine ⟨h, _, _, _, rfl, rfl, hh, atI_neg (by decide) (by omega), ?_⟩
        walk_at "rd"
        exact ⟨by show 3 ≤ sizeLine; decide, fun t ht => fin _ (.inr ⟨by rw [eh]; simp, rfl⟩) t ht⟩
    | cons x xs =>
      refine iteF ?_
      have ne : els S st (st + p) ≠ [] := by rw [ec]; simp
      have npos : 0 < (els S st (st + p)).length := by rw [ec]; exact Nat.succ_pos _
      walk_at "rd"
      refine ⟨fun σ H' => Same H H' ∧ ∃ kk : Nat, Bak S st p kk ∧ (kk = (els S 0 st).length ∨ (els S 0 st).getD ((els S 0 st).length - 1 - kk) 0 ≠ cdy p (els S st (st + p)) (-1 - (kk : Int))) ∧ σ = [some (.int p), some (.ref h), some (.ref c), some (.int kk), none, none, none, none, none, none], ?_, ?_⟩
      · refine while_d (fun σ H' => Same H H' ∧ ∃ kk : Nat, Bak S st p kk ∧ σ = [some (.int p), some (.ref h), some (.ref c), some (.int kk), none, none, none, none, none, none])
          (fun σ _ => match σ with | [_, _, _, some (.int kk), _, _, _, _, _, _] => ((els S 0 st).length - kk.toNat) | _ => 0) ⟨Same.refl H, 0, ⟨Nat.zero_le _, fun j hj => absurd hj (Nat.not_lt_zero _)⟩, rfl⟩ ?_
        rintro σ H1 ⟨S1, kk, B, rfl⟩
        have ble := B.le
        walk_at "rd"
        refine ⟨h, _, rfl, .inl (S1.seq hh), ?_⟩
        rw [List.length_map]
        walk_at "rd"
        refine ite2 (fun d => ?_) (fun d => ?_)
        · have d' : kk < (els S 0 st).length := by have := of_decide_eq_true d; omega
          walk_at "rd"
          refine ⟨h, _, _, _, rfl, rfl, S1.seq hh, atI_neg (by show (-1 : Int) - kk < 0; omega) (by show -((els S 0 st).length : Int) ≤ -1 - kk; omega), ?_⟩
          walk_at "rd"
          refine ⟨p, c, _, _, rfl, S1.seq hc, npos, by omega, by omega, by omega, fun H2 S2 => ?_⟩
          walk_at "rd"
          rw [dec_int, show (els S 0 st).length - (-((-1 : Int) - (kk : Int))).toNat = (els S 0 st).length - 1 - kk by omega]
          refine ite2 (fun e => ?_) (fun e => ?_)
          · have e' := beq_iff_eq.mp e
            refine ⟨fun σ' H' => Same H H' ∧ σ' = [some (.int p), some (.ref h), some (.ref c), some (.int ((kk + 1 : Nat) : Int)), none, none, none, none, none, none], fun σ' H' ⟨s3, e3⟩ => ⟨_, ?_, rfl, s3, kk + 1, ⟨by omega, fun j hj => ?_⟩, e3⟩, ?_⟩
            · subst e3
              show (els S 0 st).length - ((kk + 1 : Nat) : Int).toNat < (els S 0 st).length - ((kk : Nat) : Int).toNat
              omega
            · rcases Nat.lt_or_ge j kk with q | q
              · exact B.same j q
              · have : j = kk := by omega
                subst this
                exact e'
            · walk_at "rd"
              exact ⟨S1.trans S2, rfl⟩
          · exact ⟨S1.trans S2, kk, B, .inr (fun q => e (beq_iff_eq.mpr q)), rfl⟩
        · have d' : ¬ kk < (els S 0 st).length := fun q => d (decide_eq_true (by omega))
          exact iteF ⟨S1, kk, B, .inl (by omega), rfl⟩
      · rintro σ H1 ⟨S1, kk, B, stop, rfl⟩
        have R := start_of F0 ne B stop
        have ble := B.le
        generalize hs' : (if 0 < apart S st p kk + 1 then apart S st p kk + 1 else 0) = s' at R
        walk_at "rd"
        refine ⟨h, _, rfl, .inl (S1.seq hh), ?_⟩
        rw [List.length_map]
        walk_at "rd"
        refine ⟨h, _, rfl, S1.seq hh, fun B1 hB1 => ?_⟩
        rw [cut_to (by omega), show (((els S 0 st).length : Int) - (kk : Int)).toNat = (els S 0 st).length - kk by omega]
        walk_at "rd"
        refine ⟨p, c, _, _, rfl, (S1.step hB1).seq hc, npos, by omega, by omega, by omega, fun H2 S2 => ?_⟩
        have hB2 := S2 _ _ upd_same
        have S12 := (S1.step hB1).trans S2
        walk_at "rd"
        have hB2' : LI K H2 B1 ((els S 0 st).take ((els S 0 st).length - kk)) := LI.new hB2
        refine ⟨fun σ' H' => H' = H2 ∧ σ' = [some (.int p), some (.ref h), some (.ref c), some (.int kk), some (.ref B1), some (.int (apart S st p kk)), none, none, none, none], ?_, ?_⟩
        · walk_at "rd"
          refine ⟨_, .inl ⟨_, hB2', rfl⟩, ?_⟩
          unfold apart
          generalize (els S 0 st).take ((els S 0 st).length - kk) = r at hB2'
          dsimp only
          cases er : r with
          | nil =>
            refine iteF (iteF ?_)
            exact ⟨rfl, by simp⟩
          | cons y ys =>
            refine iteT ?_
            rw [← er]
            have rn : r ≠ [] := by rw [er]; simp
            have rp : 0 < r.length := List.length_pos_iff.mpr rn
            walk_at "rd"
            refine ⟨B1, _, _, _, rfl, rfl, hB2', atI_neg (by decide) (by omega), ?_⟩
            walk_at "rd"
            rw [show r.length - (-(-1 : Int)).toNat = r.length - 1 from rfl]
            refine ite2 (fun d => ?_) (fun d => ?_)
            · have d' : cdy p (els S st (st + p)) (-1 - (kk : Int)) < r.getD (r.length - 1) 0 := of_decide_eq_true d
              rw [if_pos ⟨rn, d'⟩]
              walk_at "rd"
              refine ⟨B1, _, _, _, rfl, rfl, hB2', atI_neg (by decide) (by omega), ?_⟩
              exact ⟨rfl, rfl⟩
            · have d' : ¬ cdy p (els S st (st + p)) (-1 - (kk : Int)) < r.getD (r.length - 1) 0 := fun q => d (decide_eq_true q)
              rw [if_neg fun q => d' q.2]
              exact ⟨rfl, rfl⟩
        · rintro σ' H' ⟨rfl, rfl⟩
          walk_at "rd"
          refine ⟨c, _, rfl, .inl (S12.seq hc), ?_⟩
          rw [List.length_map]
          have ct := cdy_turn p (els S st (st + p)) npos kk
          have m0 := Int.emod_nonneg (-(kk : Int)) (show ((els S st (st + p)).length : Int) ≠ 0 by omega)
          have m1 := Int.emod_lt_of_pos (-(kk : Int)) (show 0 < ((els S st (st + p)).length : Int) by omega)
          refine ⟨-(kk : Int), ((els S st (st + p)).length : Int), rfl, ⟨by omega, by omega⟩, fun t1 ht1 => ?_⟩
          generalize hT : -(kk : Int) / ((els S st (st + p)).length : Int) = turns at ct ⊢
          generalize hA : -(kk : Int) % ((els S st (st + p)).length : Int) = at' at ct m0 m1 ⊢
          have S13 := S12.step (o := .tup [.int turns, .int at']) ht1
          refine ⟨t1, _, rfl, SqT.of upd_same, rfl, ?_⟩
          walk_at "rd"
          refine ⟨c, _, rfl, S13.seq hc, fun B2 hB2 => ?_⟩
          rw [cut_from m0]
          walk_at "rd"
          have S14' := (Same.new (o := .tup [.int turns, .int at']) ht1).step (o := .lst (((els S st (st + p)).drop at'.toNat).map V.int)) hB2
          have S14 := S13.step (o := .lst (((els S st (st + p)).drop at'.toNat).map V.int)) hB2
          have hB2l : SqL K (upd (upd H' t1 (HO.tup [V.int turns, V.int at'])) B2 (HO.lst (((els S st (st + p)).drop at'.toNat).map V.int))) B2 (((els S st (st + p)).drop at'.toNat).map V.int) := SqL.of upd_same
          generalize upd (upd H' t1 (HO.tup [V.int turns, V.int at'])) B2 (HO.lst (((els S st (st + p)).drop at'.toNat).map V.int)) = H3 at S14 S14' hB2l ⊢
          refine ⟨⟨_, hB2l⟩, fun D hD => ?_⟩
          generalize hX : (els S st (st + p)).drop at'.toNat = X at ct hB2l ⊢
          have lX : X.length ≤ (els S st (st + p)).length := by rw [← hX, List.length_drop]; omega
          refine lc_list (K := K) (a := B2) (xs := X.map V.int) (fun i H4 => Same H3 H4 ∧ H4 D = some (.lst (((X.take i).map (· + turns * p)).map V.int)))
            ⟨Same.new hD, upd_same⟩ (fun i H4 _ ⟨s1, _⟩ => s1.seq hB2l) ?_ ?_
          · rintro i y H4 hi ⟨s1, hDl⟩
            obtain ⟨z, hz, rfl⟩ := ints_get hi
            have hil := lt_of_get hz
            walk_at "rd"
            refine ⟨.inr ⟨by show -18446744073709551616 < p; omega, by show p < 18446744073709551616; omega⟩, ?_⟩
            walk_at "rd"
            refine acc_step s1 hD hDl (by rw [List.length_map, List.length_map, List.length_take]; exact szl (by omega)) ?_
            rw [List.take_succ, hz, List.map_append, List.map_append]; rfl
          · rintro H4 ⟨s4, hDl⟩
            rw [List.length_map, List.take_length] at hDl
            walk_at "rd"
            refine ⟨c, _, rfl, (S14.trans s4).seq hc, fun B3 hB3 => ?_⟩
            rw [cut_to m0]
            have S15 := s4.step (o := .lst (((els S st (st + p)).take at'.toNat).map V.int)) hB3
            have hD5 := S15
            have hDl5 : upd H4 B3 (HO.lst (((els S st (st + p)).take at'.toNat).map V.int)) D = some (.lst ((X.map (· + turns * p)).map V.int)) := by rw [upd_ne (ne_of_none hDl hB3)]; exact hDl
            have hB3l : SqL K (upd H4 B3 (HO.lst (((els S st (st + p)).take at'.toNat).map V.int))) B3 (((els S st (st + p)).take at'.toNat).map V.int) := SqL.of upd_same
            have nD3 : ∀ b, H3 b = none → H4 b = none → b ≠ B3 → upd H4 B3 (HO.lst (((els S st (st + p)).take at'.toNat).map V.int)) b = none := fun b _ h q => by rw [upd_ne q]; exact h
            generalize upd H4 B3 (HO.lst (((els S st (st + p)).take at'.toNat).map V.int)) = H5 at S15 hB3l hDl5 nD3 ⊢
            refine ⟨_, rfl, ⟨_, hB3l⟩, fun D2 hD2 => ?_⟩
            generalize hY : (els S st (st + p)).take at'.toNat = Y at ct hB3l ⊢
            have lY : Y.length ≤ (els S st (st + p)).length := by rw [← hY, List.length_take]; omega
            refine lc_list (K := K) (a := B3) (xs := Y.map V.int) (fun i H6 => Same H5 H6 ∧ H6 D2 = some (.lst (((Y.take i).map (· + (turns + 1) * p)).map V.int)))
              ⟨Same.new hD2, upd_same⟩ (fun i H6 _ ⟨s1, _⟩ => s1.seq hB3l) ?_ ?_
            · rintro i y H6 hi ⟨s1, hDl⟩
              obtain ⟨z, hz, rfl⟩ := ints_get hi
              have hil := lt_of_get hz
              walk_at "rd"
              refine ⟨.inr ⟨by show -18446744073709551616 < p; omega, by show p < 18446744073709551616; omega⟩, ?_⟩
              walk_at "rd"
              refine acc_step s1 hD2 hDl (by rw [List.length_map, List.length_map, List.length_take]; exact szl (by omega)) ?_
              rw [List.take_succ, hz, List.map_append, List.map_append]; rfl
            · rintro H6 ⟨s6, hDl6⟩
              rw [List.length_map, List.take_length] at hDl6
              walk_at "rd"
              have lXY : X.length + Y.length = (els S st (st + p)).length := by rw [← hX, ← hY, List.length_drop, List.length_take]; omega
              have nD : D ≠ D2 := ne_of_none hDl5 hD2
              refine ⟨D, D2, _, _, rfl, rfl, s6 _ _ hDl5, hDl6, by rw [List.length_map, List.length_map, List.length_map, List.length_map]; exact szle (by omega), fun L hL => ?_⟩
              refine ⟨by show 3 ≤ sizeLine; decide, fun t ht => ?_⟩
              have es : (if (apart S st p kk + 1 > 0) then apart S st p kk + 1 else 0) = s' := hs'
              have S16 := ((S14.trans S15).trans s6)
              have S18 := (S16.step (o := .lst ((X.map (· + turns * p)).map V.int ++ (Y.map (· + (turns + 1) * p)).map V.int)) hL).step (o := .tup [.int (if (apart S st p kk + 1 > 0) then apart S st p kk + 1 else 0), .ref B1, .ref L]) ht
              refine k _ t B1 L s' S18 ((S16.step hL).free ht) (by rw [upd_same, es]) (.inr (S1.free hB1)) (.inr (S16.free hL)) ?_ ?_ R.le R.can
              · rw [← R.head]
                have q : Same H' H6 := fun b o e => s6 _ _ (S15 _ _ (S14' _ _ e))
                exact ((q.step hL).step ht).seq hB2'
              · rw [← R.cyc, ← ct]
                refine LI.new ?_
                rw [upd_ne (ne_of_none upd_same ht), upd_same, List.map_append]
end
end Cf
namespace Cf
open PySem L2
set_option hygiene false
local macro_rules | `(tactic| walk_at "len") => `(tactic| repeat (first | (obtain ⟨e, _⟩ := h; subst e; rfl; done) | (obtain ⟨_, h⟩ := h)))
local macro_rules | `(tactic| walk_at "rd") => `(tactic| repeat (first | refine ⟨_, rfl, ?_⟩ | refine ⟨_, _, rfl, rfl, ?_⟩ | refine ⟨rfl, ?_⟩ | refine ⟨_, _, rfl, ?_⟩))
local macro_rules | `(tactic| walk_at "yes") => `(tactic| (dsimp only [tYes]; rw [if_pos rfl]))
set_option hygiene true
section
variable {P : Program} {w : World} {K : PySem.W.Frag} {mg : Str → Option Value} {base : Heap}
/-! ### lists of days -/
def spInEither : Sp := fun vs H Q _ => ∃ (a b : Addr) (l m : List Int), vs = [.ref a, .ref b] ∧ H a = some (.lst (l.map V.int)) ∧ H b = some (.lst (m.map V.int)) ∧ l.length + m.length < 4000 ∧
  ∀ (H' : Hp) (q : Addr) (ns : List Int), Same H H' → H q = none → H' q = some (.lst (ns.map V.int)) → Asc ns → (∀ d, d ∈ ns ↔ d ∈ l ∨ d ∈ m) → Q (.ref q) H'
theorem scInEither : FnScope ["days", "others"] ["days", "others"] (defScope sInEither) := ⟨rfl, rfl, rfl, by decide +kernel, rfl, by decide +kernel, by decide +kernel⟩
theorem ok_in_either {f : Addr} {fd : FuncData} (F : Fun K "in_either" "in_either" sInEither f fd) (T : Nm mg) : FnOk P w K mg base CX0 1 f fd ["days", "others"] spInEither := by
  refine F.ok scInEither (fun vs H Q E h => ?_) (fun cdv A outer s H vs Q E hr h => ?_)
  · walk_at "len"
  · obtain ⟨a, b, l, m, rfl, ha, hb, sz, k⟩ := h
    have nd := scInEither.nd
    refine ⟨_, (pss_one (ps_ret (pe_callB (cr_sortedS2 rfl) (by rfl) T.sorted (by decide +kernel) (pa_cons (pe_callTy (cr_setL rfl) (by rfl) T.set (by decide +kernel) (pa_cons (pe_op op_cat (pv 0) (pv 1)) pa_nil)) pa_nil)))), ?_⟩
    walk_at "rd"
    refine ⟨a, b, _, _, rfl, rfl, ha, hb, by rw [List.length_map, List.length_map]; exact szle (by omega), fun C hC => ?_⟩
    walk_at "rd"
    refine ⟨C, l ++ m, rfl, LI.new (by rw [upd_same, List.map_append]), by rw [List.length_append]; omega, fun c D cl hD => ?_⟩
    walk_at "rd"
    refine ⟨D, _, c, rfl, upd_same, by rw [List.length_append] at cl; omega, fun ns q asc mem hq => ?_⟩
    refine k _ q ns (((Same.new hC).step hD).step hq) (((Same.new hC).step hD).free hq) upd_same asc fun d => ?_
    rw [mem d, decide_eq_true_iff, List.mem_append]
def spInFirst (K : PySem.W.Frag) : Sp := fun vs H Q _ => ∃ (a b : Addr) (l m : List Int), vs = [.ref a, .ref b] ∧ LI K H a l ∧ LI K H b m ∧ l.length < 4000 ∧ m.length < 4000 ∧
  ∀ (H' : Hp) (q : Addr), Same H H' → H q = none → H' q = some (.lst ((l.filter fun d => decide (d ∉ m)).map V.int)) → Q (.ref q) H'
theorem scInFirst : FnScope ["days", "others", "there", "day"] ["days", "others"] (defScope sInFirst) := ⟨rfl, rfl, rfl, by decide +kernel, rfl, by decide +kernel, by decide +kernel⟩
theorem ok_in_first {f : Addr} {fd : FuncData} (F : Fun K "in_first" "in_first" sInFirst f fd) (T : Nm mg) : FnOk P w K mg base CX0 1 f fd ["days", "others"] (spInFirst K) := by
  refine F.ok scInFirst (fun vs H Q E h => ?_) (fun cdv A outer s H vs Q E hr h => ?_)
  · walk_at "len"
  · obtain ⟨a, b, l, m, rfl, ha, hb, sz, sm, k⟩ := h
    have nd := scInFirst.nd
    refine ⟨_, (pss_cons (ps_set (i := 2) nd rfl (Or.inr rfl) (pe_callTy (cr_setL rfl) (by rfl) T.set (by decide +kernel) (pa_cons (pv 1) pa_nil)))
      (pss_one (ps_ret (pe_lc (own := [("day", 3)]) (g := (gName 3)) rfl nd (pi_list (pv 0)) (blkOk_by (N := ["days", "others", "there", "day"]) (sc := defScope sInFirst) (by decide +kernel)) (fun _ _ _ _ _ => pg_name (i := 3) nd rfl (Or.inl rfl)) (fun _ _ _ _ _ => (pts_one (pt_cmpR (show OpR _ _ (rSNotIn w) from or_snotin) (pv 3) (pv 2) rfl))) (fun _ _ _ _ _ => (pv 3)))))), ?_⟩
    walk_at "rd"
    refine ⟨b, m, rfl, hb, by omega, fun c B cl hB => ?_⟩
    walk_at "rd"
    have ha2 := (Same.new (o := SetO w B (fun z => decide (z ∈ m)) c) hB).seq ha
    refine ⟨⟨_, ha2⟩, fun D hD => ?_⟩
    refine lc_list (K := K) (a := a) (xs := l.map V.int) (fun i H' => Same (upd H B (SetO w B (fun z => decide (z ∈ m)) c)) H' ∧ H' D = some (.lst (((l.take i).filter fun d => decide (d ∉ m)).map V.int)))
      ⟨Same.new hD, upd_same⟩ (fun i H' _ ⟨s1, _⟩ => s1.seq ha2) ?_ ?_
    · rintro i y H' hi ⟨s1, hDl⟩
      obtain ⟨z, hz, rfl⟩ := ints_get hi
      have hil := lt_of_get hz
      walk_at "rd"
      refine ⟨z, B, _, c, rfl, rfl, s1 _ _ upd_same, ?_⟩
      walk_at "rd"
      have e : (l.take (i + 1)).filter (fun d => decide (d ∉ m)) = (l.take i).filter (fun d => decide (d ∉ m)) ++ (if decide (z ∉ m) = true then [z] else []) := by
        rw [List.take_succ, hz, List.filter_append]
        congr 1
        show List.filter _ [z] = _
        rw [List.filter_cons, List.filter_nil]
      have lz : ((l.take i).filter (fun d => decide (d ∉ m))).length ≤ l.length := Nat.le_trans (List.length_filter_le _ _) (by rw [List.length_take]; omega)
      rw [show (!decide (z ∈ m)) = decide (z ∉ m) by rw [Bool.eq_iff_iff]; simp]
      refine ite2 (fun d => ?_) (fun d => ?_)
      · walk_at "rd"
        refine acc_step s1 hD hDl (by rw [List.length_map]; exact szl (by omega)) ?_
        rw [e, if_pos d, List.map_append]; rfl
      · refine ⟨s1, ?_⟩
        rw [e, if_neg d, List.append_nil]; exact hDl
    · rintro H' ⟨s1, hDl⟩
      rw [List.length_map, List.take_length] at hDl
      exact k _ D ((Same.new hB).trans s1) ((Same.new hB).free hD) hDl
def spInOne (K : PySem.W.Frag) : Sp := fun vs H Q _ => ∃ (a b : Addr) (l m : List Int), vs = [.ref a, .ref b] ∧ LI K H a l ∧ LI K H b m ∧ l.length + m.length < 4000 ∧
  ∀ (H' : Hp) (q : Addr) (ns : List Int), Same H H' → H q = none → H' q = some (.lst (ns.map V.int)) → Asc ns → (∀ d, d ∈ ns ↔ (d ∈ l ∧ d ∉ m) ∨ (d ∈ m ∧ d ∉ l)) → Q (.ref q) H'
theorem scInOne : FnScope ["days", "others"] ["days", "others"] (defScope sInOne) := ⟨rfl, rfl, rfl, by decide +kernel, rfl, by decide +kernel, by decide +kernel⟩
theorem ok_in_one {f : Addr} {fd : FuncData} (F : Fun K "in_one" "in_one" sInOne f fd) (D_in_either : Df P w K mg base 1 "in_either" ["days", "others"] [] spInEither) (D_in_first : Df P w K mg base 1 "in_first" ["days", "others"] [] (spInFirst K)) : FnOk P w K mg base CX0 2 f fd ["days", "others"] (spInOne K) := by
  refine F.ok scInOne (fun vs H Q E h => ?_) (fun cdv A outer s H vs Q E hr h => ?_)
  · walk_at "len"
  · obtain ⟨a, b, l, m, rfl, ha, hb, sz, k⟩ := h
    refine ⟨_, (pss_one (ps_ret (pe_df D_in_either (hr.mono (by decide)) (pa_cons (pe_df D_in_first (hr.mono (by decide)) (pa_cons (pv 0) (pa_cons (pv 1) pa_nil))) (pa_cons (pe_df D_in_first (hr.mono (by decide)) (pa_cons (pv 1) (pa_cons (pv 0) pa_nil))) pa_nil))))), ?_⟩
    walk_at "rd"
    refine ⟨a, b, l, m, rfl, ha, hb, by omega, by omega, fun H1 q1 S1 n1 h1 => ?_⟩
    walk_at "rd"
    refine ⟨b, a, m, l, rfl, S1.seq hb, S1.seq ha, by omega, by omega, fun H2 q2 S2 n2 h2 => ?_⟩
    have z1 := List.length_filter_le (fun d => decide (d ∉ m)) l
    have z2 := List.length_filter_le (fun d => decide (d ∉ l)) m
    refine ⟨q1, q2, _, _, rfl, S2 _ _ h1, h2, by omega, fun H3 q ns S3 n3 h3 asc mem => ?_⟩
    refine k H3 q ns ((S1.trans S2).trans S3) ((S1.trans S2).free n3) h3 asc fun d => ?_
    rw [mem d, List.mem_filter, List.mem_filter, decide_eq_true_iff, decide_eq_true_iff]
end
end Cf
namespace Cf
open PySem L2
set_option hygiene false
local macro_rules | `(tactic| walk_at "len") => `(tactic| repeat (first | (obtain ⟨e, _⟩ := h; subst e; rfl; done) | (obtain ⟨_, h⟩ := h)))
local macro_rules | `(tactic| walk_at "rd") => `(tactic| repeat (first | refine ⟨_, rfl, ?_⟩ | refine ⟨_, _, rfl, rfl, ?_⟩ | refine ⟨rfl, ?_⟩ | refine ⟨_, _, rfl, ?_⟩))
local macro_rules | `(tactic| walk_at "yes") => `(tactic| (dsimp only [tYes]; rw [if_pos rfl]))
set_option hygiene true
section
variable {P : Program} {w : World} {K : PySem.W.Frag} {mg : Str → Option Value} {base : Heap}
def spTruthList (K : PySem.W.Frag) : Sp := fun vs H Q _ => ∃ (a : Addr) (bs : List Bool), vs = [.ref a] ∧ H a = some (.lst (bs.map V.bl)) ∧ bs.length < 100000 ∧ ∀ H', Same H H' → Q (.bl true) H'
theorem scIsTruthList : FnScope ["value", "truth"] ["value"] (defScope sIsTruthList) := ⟨rfl, rfl, rfl, by decide +kernel, rfl, by decide +kernel, by decide +kernel⟩
theorem ok_is_truth_list {f : Addr} {fd : FuncData} (F : Fun K "is_truth_list" "is_truth_list" sIsTruthList f fd) (T : Nm mg) : FnOk P w K mg base CX0 1 f fd ["value"] (spTruthList K) := by
  refine F.ok scIsTruthList (fun vs H Q E h => ?_) (fun cdv A outer s H vs Q E hr h => ?_)
  · walk_at "len"
  · obtain ⟨a, bs, rfl, ha, sz, k⟩ := h
    have nd := scIsTruthList.nd
    refine ⟨_, (pss_one (ps_ret (pe_and (pe_callB call_isiT (by rfl) T.isinstance (by decide +kernel) (pa_cons (pv 0) (pa_cons (pe_tup (pa_cons (pe_bltn (v := .ty "list") (by rfl) T.list (by decide +kernel) rfl) (pa_cons (pe_bltn (v := .ty "tuple") (by rfl) T.tuple (by decide +kernel) rfl) pa_nil))) pa_nil))) (pe_one (pe_callB (cr_all rfl) (by rfl) T.all (by decide +kernel) (pa_cons (pe_lc (own := [("truth", 1)]) (g := (gName 1)) (tt := tYes) rfl nd (pi_list (pv 0)) (blkOk_by (N := ["value", "truth"]) (sc := defScope sIsTruthList) (by decide +kernel)) (fun _ _ _ _ _ => pg_name (i := 1) nd rfl (Or.inl rfl)) (fun _ _ _ _ _ => pts_nil) (fun _ _ _ _ _ => (pe_callB (show CallR _ _ (rIsi K) from call_isi) (by rfl) T.isinstance (by decide +kernel) (pa_cons (pv 1) (pa_cons (pe_bltn (v := .ty "bool") (by rfl) T.bool (by decide +kernel) rfl) pa_nil))))) pa_nil)))))), ?_⟩
    walk_at "rd"
    refine ⟨by show 2 ≤ sizeLine; decide, fun t ht => ?_⟩
    walk_at "rd"
    refine ⟨_, t, _, _, _, true, rfl, upd_same, .cons (.ty _) (.cons (.ty _) .nil), .base (.lst (Same.new ht _ _ ha)), kitAny_cons (b := true) (kit_ty (by decide +kernel)) (fun z => Bool.noConfusion z) (fun _ => rfl), ?_⟩
    walk_at "rd"
    have ha2 : SqL K (upd H t (.tup [.ty "list", .ty "tuple"])) a (bs.map V.bl) := SqL.of (Same.new ht _ _ ha)
    walk_at "rd"
    refine ⟨⟨_, ha2⟩, fun D hD => ?_⟩
    refine lc_list (K := K) (a := a) (xs := bs.map V.bl) (fun i H' => Same (upd H t (.tup [.ty "list", .ty "tuple"])) H' ∧ H' D = some (.lst ((List.replicate i true).map V.bl)))
      ⟨Same.new hD, upd_same⟩ (fun i H' _ ⟨s1, _⟩ => s1.seq ha2) ?_ ?_
    · rintro i y H' hi ⟨s1, hDl⟩
      have hil := lt_of_get hi
      rw [List.length_map] at hil
      obtain ⟨z, hz, rfl⟩ : ∃ z, bs[i]? = some z ∧ y = V.bl z := by
        rw [List.getElem?_map] at hi
        cases e : bs[i]? with
        | none => rw [e] at hi; cases hi
        | some z => rw [e] at hi; exact ⟨z, rfl, (Option.some.inj hi).symm⟩
      walk_at "rd"
      refine ⟨_, _, _, _, true, rfl, .ty "bool", .base (.bl _), kit_ty (by decide +kernel), ?_⟩
      refine acc_step s1 hD hDl (by rw [List.length_map, List.length_replicate]; exact szl (by omega)) ?_
      rw [List.replicate_succ', List.map_append]; rfl
    · rintro H' ⟨s1, hDl⟩
      rw [List.length_map] at hDl
      refine ⟨D, _, rfl, SqL.of hDl, ?_⟩
      have e : (List.replicate bs.length true).all id = true := by rw [List.all_eq_true]; intro x hx; exact List.eq_of_mem_replicate hx
      rw [e]
      exact k H' ((Same.new ht).trans s1)
/-! ### __init__ -/
def spInit (K : PySem.W.Frag) (C : Addr) : Sp := fun vs H Q _ => ∃ (x dx l : Addr) (S : Int → Bool) (st p : Int), vs = [.ref x, .int st, .int p, .ref l] ∧ H x = some (.ins C dx []) ∧ Fr S st p ∧ (∀ d, d < 0 → S d = false) ∧ LI K H l (els S 0 (st + p)) ∧ l ≠ x ∧ (els S 0 st).length < 1000000 ∧ p < 1000000 ∧
  ∀ (H' : Hp) (h c : Addr) (s' p' : Int), (∀ b o, H b = some o → b ≠ x → H' b = some o) → DayAt K C H' x dx h c S s' p' → H h = none → H c = none → s' ≤ st → p' ≤ p → Q .non H'
theorem scDsInit : FnScope ["self", "start", "period", "days", "known", "cycle"] ["self", "start", "period", "days"] (defScope sDsInit) := ⟨rfl, rfl, rfl, by decide +kernel, rfl, by decide +kernel, by decide +kernel⟩
theorem ok_init {f C : Addr} {fd : FuncData} (F : Fun K "__init__" "DaySet.__init__" sDsInit f fd) (T2 : Txd K mg C) (D_place_of : Df P w K mg base 1 "place_of" ["days", "bound"] [] (spPlaceOf K)) (D_least_period : Df P w K mg base 2 "least_period" ["period", "cycle"] [] (spLeastPeriod K))
    (D_least_start : Df P w K mg base 2 "least_start" ["period", "head", "cycle"] [] (spLeastStart K)) : FnOk P w K mg base CX0 3 f fd ["self", "start", "period", "days"] (spInit K C) := by
  refine F.ok scDsInit (fun vs H Q E h => ?_) (fun cdv A outer s H vs Q E hr h => ?_)
  · walk_at "len"
  · obtain ⟨x, dx, l, S, st, p, rfl, hx, F0, neg, hl, nlx, sb, pb, k⟩ := h
    have nd := scDsInit.nd
    refine ⟨_, (pss_cons (ps_set (i := 4) nd rfl (Or.inl rfl) (pe_df D_place_of (hr.mono (by decide)) (pa_cons (pv 3) (pa_cons (pv 1) pa_nil))))
      (pss_cons (ps_asg (pe_df D_least_period (hr.mono (by decide)) (pa_cons (pv 2) (pa_cons (pe_slice sl_list (pv 3) (po_some (pv 4)) po_none) pa_nil))) (pg_tup (by rfl) (pgs_cons (pg_fld (pv 0)) (pgs_cons (pg_name (i := 5) nd rfl (Or.inl rfl)) pgs_nil))))
      (pss_one (ps_asg (pe_df D_least_start (hr.mono (by decide)) (pa_cons (pe_fld (pv 0) rfl) (pa_cons (pe_slice sl_list (pv 3) po_none (po_some (pv 4))) (pa_cons (pv 5) pa_nil)))) (pg_tup (by rfl) (pgs_cons (pg_fld (pv 0)) (pgs_cons (pg_fld (pv 0)) (pgs_cons (pg_fld (pv 0)) pgs_nil)))))))), ?_⟩
    walk_at "rd"
    have s0 := F0.s0
    have p1 := F0.p1
    have A := asc_els S 0 (st + p)
    have e1 : (els S 0 (st + p)).drop (cnt (els S 0 (st + p)) st) = els S st (st + p) := by rw [drop_cnt A, els_filter_ge S s0]
    have e2 : (els S 0 (st + p)).take (cnt (els S 0 (st + p)) st) = els S 0 st := by rw [take_cnt A, els_filter_lt S (by omega)]
    refine ⟨l, _, st, rfl, hl, A, ?_⟩
    walk_at "rd"
    refine ⟨l, _, rfl, hl, fun B hB => ?_⟩
    rw [cut_from (by omega), Int.toNat_natCast, e1]
    walk_at "rd"
    refine ⟨p, B, S, st, rfl, F0, LI.new upd_same, pb, fun H1 t b p' S1 ht htt hb hlb F1 pp mn => ?_⟩
    have S01 : Same H H1 := (Same.new hB).trans S1
    have nb : H b = none := hb.elim (fun e => by rw [e]; exact hB) fun e => (Same.new hB).free e
    have hx1 := S01 _ _ hx
    have nxb : b ≠ x := (ne_of_none hx nb).symm
    have nxt : t ≠ x := (ne_of_none hx ((Same.new hB).free ht)).symm
    refine ⟨t, _, rfl, SqT.of htt, rfl, ?_⟩
    walk_at "rd"
    refine ⟨x, C, dx, _, rfl, hx1, T2.cl, T2.nP, by show 0 < 1000; decide, ?_⟩
    walk_at "rd"
    -- the second row
    have hl2 : ∀ o, LI K (upd H1 x o) l (els S 0 (st + p)) := fun o => by
      have q := S01.seq hl
      rcases q with (q | ⟨u, q⟩) | q
      · exact .inl (.inl (by rw [upd_ne nlx]; exact q))
      · exact .inl (.inr ⟨u, by rw [upd_ne nlx]; exact q⟩)
      · exact .inr q
    refine ⟨x, C, dx, _, _, rfl, upd_same, T2.cl, T2.nP, (by rw [lookup_putF, if_pos rfl]), ?_⟩
    walk_at "rd"
    refine ⟨l, _, rfl, hl2 _, fun D hD => ?_⟩
    rw [cut_to (by omega), Int.toNat_natCast, e2]
    walk_at "rd"
    have S12 := Same.new (H := upd H1 x (.ins C dx (putF "_period" (.int p') []))) (o := .lst ((els S 0 st).map V.int)) hD
    have hlb2 : LI K (upd H1 x (.ins C dx (putF "_period" (.int p') []))) b (els S st (st + p')) := by
      rcases hlb with (q | ⟨u, q⟩) | q
      · exact .inl (.inl (by rw [upd_ne nxb]; exact q))
      · exact .inl (.inr ⟨u, by rw [upd_ne nxb]; exact q⟩)
      · exact .inr q
    have nD : H D = none := by
      have nDx : D ≠ x := (ne_of_none (show upd H1 x _ x = some _ from upd_same) hD).symm
      rw [upd_ne nDx] at hD
      exact S01.free hD
    refine ⟨p', D, b, S, st, rfl, F1, LI.new upd_same, S12.seq hlb2, by omega, sb, fun emp => ?_, fun H2 u h c s' S2 hu huu hh hc hlh hlc ss can => ?_⟩
    · have p1' := F1.p1
      have off : ∀ d, st ≤ d → S d = false := fun d hd => by
        rw [← F1.mod hd]
        cases e : S (st + (d - st) % p') with
        | false => rfl
        | true =>
          have m0 := Int.emod_nonneg (d - st) (show p' ≠ 0 by omega)
          have m1 := Int.emod_lt_of_pos (d - st) (show 0 < p' by omega)
          have : st + (d - st) % p' ∈ els S st (st + p') := mem_els.mpr ⟨⟨by omega, by omega⟩, e⟩
          rw [emp] at this; cases this
      have := mn st 1 ⟨F0.s0, by omega, fun d hd => by rw [off _ (by omega), off _ hd]⟩
      omega
    · have hx2 : H2 x = some (.ins C dx (putF "_period" (.int p') [])) := S2 _ _ (S12 _ _ upd_same)
      have nh : H h = none := by
        rcases hh with e | e
        · rw [e]; exact nD
        · have e2 := S12.free e
          have nhx : h ≠ x := (ne_of_none (show upd H1 x _ x = some _ from upd_same) e2).symm
          rw [upd_ne nhx] at e2
          exact S01.free e2
      have nc : H c = none := by
        rcases hc with e | e
        · rw [e]; exact nb
        · have e2 := S12.free e
          have ncx : c ≠ x := (ne_of_none (show upd H1 x _ x = some _ from upd_same) e2).symm
          rw [upd_ne ncx] at e2
          exact S01.free e2
      have nhx : h ≠ x := (ne_of_none hx nh).symm
      have ncx : c ≠ x := (ne_of_none hx nc).symm
      refine ⟨u, _, rfl, SqT.of huu, rfl, ?_⟩
      walk_at "rd"
      refine ⟨x, C, dx, _, rfl, hx2, T2.cl, T2.nS, len1, ?_⟩
      walk_at "rd"
      refine ⟨x, C, dx, _, rfl, upd_same, T2.cl, T2.nH, len2, ?_⟩
      walk_at "rd"
      refine ⟨x, C, dx, _, rfl, upd_same, T2.cl, T2.nC, len3, ?_⟩
      walk_at "rd"
      have away : ∀ (q : Addr) (m : List Int) (o1 o2 o3 : HO), q ≠ x → LI K H2 q m → LI K (upd (upd (upd H2 x o1) x o2) x o3) q m := fun q m o1 o2 o3 nq hq => by
        rcases hq with (z | ⟨v, z⟩) | z
        · exact .inl (.inl (by rw [upd_ne nq, upd_ne nq, upd_ne nq]; exact z))
        · exact .inl (.inr ⟨v, by rw [upd_ne nq, upd_ne nq, upd_ne nq]; exact z⟩)
        · exact .inr z
      refine k _ h c s' p' (fun q o e nq => ?_) ⟨upd_same, away h _ _ _ _ nhx hlh, away c _ _ _ _ ncx hlc, ⟨can.1, mn, can.2⟩, neg⟩ nh nc ss pp
      rw [upd_ne nq, upd_ne nq, upd_ne nq]
      exact S2 _ _ (S12 _ _ (by rw [upd_ne nq]; exact S01 _ _ e))
end
end Cf
namespace Cf
open PySem L2
set_option hygiene false
local macro_rules | `(tactic| walk_at "len") => `(tactic| repeat (first | (obtain ⟨e, _⟩ := h; subst e; rfl; done) | (obtain ⟨_, h⟩ := h)))
local macro_rules | `(tactic| walk_at "rd") => `(tactic| repeat (first | refine ⟨_, rfl, ?_⟩ | refine ⟨_, _, rfl, rfl, ?_⟩ | refine ⟨rfl, ?_⟩ | refine ⟨_, _, rfl, ?_⟩))
local macro_rules | `(tactic| walk_at "yes") => `(tactic| (dsimp only [tYes]; rw [if_pos rfl]))
set_option hygiene true
section
variable {P : Program} {w : World} {K : PySem.W.Frag} {mg : Str → Option Value} {base : Heap}
/-! ### properties, the common frame -/
def spStart (K : PySem.W.Frag) (C : Addr) : Sp := fun vs H Q _ => ∃ (x : Addr) (S : Int → Bool) (s p : Int), vs = [.ref x] ∧ Ds K C H x S s p ∧ Q (.int s) H
def spPeriod (K : PySem.W.Frag) (C : Addr) : Sp := fun vs H Q _ => ∃ (x : Addr) (S : Int → Bool) (s p : Int), vs = [.ref x] ∧ Ds K C H x S s p ∧ Q (.int p) H
theorem scDsStart : FnScope ["self"] ["self"] (defScope sDsStart) := ⟨rfl, rfl, rfl, by decide +kernel, rfl, by decide +kernel, by decide +kernel⟩
theorem ok_start {f C : Addr} {fd : FuncData} (F : Fun K "start" "DaySet.start" sDsStart f fd) (T2 : Txd K mg C) : FnOk P w K mg base CX0 1 f fd ["self"] (spStart K C) := by
  refine F.ok scDsStart (fun vs H Q E h => ?_) (fun cdv A outer s H vs Q E hr h => ?_)
  · walk_at "len"
  · obtain ⟨x, S, st, p, rfl, ⟨dx, h, c, D⟩, k⟩ := h
    refine ⟨_, (pss_one (ps_ret (pe_fld (pv 0) rfl))), ?_⟩
    walk_at "rd"
    exact ⟨x, C, dx, _, _, rfl, D.ob, T2.cl, T2.nS, dsF_start, k⟩
theorem scDsPeriod : FnScope ["self"] ["self"] (defScope sDsPeriod) := ⟨rfl, rfl, rfl, by decide +kernel, rfl, by decide +kernel, by decide +kernel⟩
theorem ok_period {f C : Addr} {fd : FuncData} (F : Fun K "period" "DaySet.period" sDsPeriod f fd) (T2 : Txd K mg C) : FnOk P w K mg base CX0 1 f fd ["self"] (spPeriod K C) := by
  refine F.ok scDsPeriod (fun vs H Q E h => ?_) (fun cdv A outer s H vs Q E hr h => ?_)
  · walk_at "len"
  · obtain ⟨x, S, st, p, rfl, ⟨dx, h, c, D⟩, k⟩ := h
    refine ⟨_, (pss_one (ps_ret (pe_fld (pv 0) rfl))), ?_⟩
    walk_at "rd"
    exact ⟨x, C, dx, _, _, rfl, D.ob, T2.cl, T2.nP, dsF_period, k⟩
def maxI (a b : Int) : Int := if a > b then a else b
def lcmI (a b : Int) : Int := ((Nat.lcm a.natAbs b.natAbs : Nat) : Int)
def spCommonFrame (K : PySem.W.Frag) (C : Addr) : Sp := fun vs H Q _ => ∃ (x y : Addr) (S T : Int → Bool) (s p s' p' : Int), vs = [.ref x, .ref y] ∧ Ds K C H x S s p ∧ Ds K C H y T s' p' ∧ p < 1000000 ∧ p' < 1000000 ∧
  ∀ (H' : Hp) (t : Addr), Same H H' → H t = none → H' t = some (.tup [.int (maxI s s'), .int (lcmI p p')]) → Q (.ref t) H'
theorem scCommonFrame : FnScope ["one", "other", "start"] ["one", "other"] (defScope sCommonFrame) := ⟨rfl, rfl, rfl, by decide +kernel, rfl, by decide +kernel, by decide +kernel⟩
theorem ok_common_frame {f C : Addr} {fd : FuncData} (F : Fun K "common_frame" "common_frame" sCommonFrame f fd) (T : Nm mg) (T2 : Txd K mg C) (D_start : Dpr P w K mg base 1 C "start" (spStart K C)) (D_period : Dpr P w K mg base 1 C "period" (spPeriod K C)) : FnOk P w K mg base CX0 3 f fd ["one", "other"] (spCommonFrame K C) := by
  refine F.ok scCommonFrame (fun vs H Q E h => ?_) (fun cdv A outer s H vs Q E hr h => ?_)
  · walk_at "len"
  · obtain ⟨x, y, S, U, st, p, st', p', rfl, Dx, Dy, pb, pb', k⟩ := h
    have nd := scCommonFrame.nd
    obtain ⟨dx, hx, cx, X1⟩ := id Dx
    obtain ⟨dy, hy, cy, Y1⟩ := id Dy
    have px := Dx.can.fr.p1
    have py := Dy.can.fr.p1
    refine ⟨_, (pss_cons (ps_set (i := 2) nd rfl (Or.inl rfl) (pe_ifExp (pt_cmpR op_gt (pe_dprop D_start T2.cl (hr.mono (by decide)) (pv 0)) (pe_dprop D_start T2.cl (hr.mono (by decide)) (pv 1)) (nomark _)) (pe_dprop D_start T2.cl (hr.mono (by decide)) (pv 0)) (pe_dprop D_start T2.cl (hr.mono (by decide)) (pv 1))))
      (pss_one (ps_ret (pe_tup (pa_cons (pv 2) (pa_cons (pe_callBfun cr_lcm rfl T.lcm (pa_cons (pe_dprop D_period T2.cl (hr.mono (by decide)) (pv 0)) (pa_cons (pe_dprop D_period T2.cl (hr.mono (by decide)) (pv 1)) pa_nil))) pa_nil)))))), ?_⟩
    walk_at "rd"
    refine ⟨x, dx, _, rfl, X1.ob, x, S, st, p, rfl, Dx, ?_⟩
    walk_at "rd"
    refine ⟨y, dy, _, rfl, Y1.ob, y, U, st', p', rfl, Dy, ?_⟩
    walk_at "rd"
    have fin : ∀ t, H t = none → Q (.ref t) (upd H t (.tup [.int (maxI st st'), .int (lcmI p p')])) := fun t ht => k _ t (Same.new ht) ht upd_same
    refine ite2 (fun d => ?_) (fun d => ?_)
    · have d' : st > st' := of_decide_eq_true d
      walk_at "rd"
      refine ⟨x, dx, _, rfl, X1.ob, x, S, st, p, rfl, Dx, ?_⟩
      walk_at "rd"
      refine ⟨x, dx, _, rfl, X1.ob, x, S, st, p, rfl, Dx, ?_⟩
      walk_at "rd"
      refine ⟨y, dy, _, rfl, Y1.ob, y, U, st', p', rfl, Dy, ?_⟩
      walk_at "rd"
      refine ⟨by omega, by omega, ?_⟩
      refine ⟨by show 2 ≤ sizeLine; decide, fun t ht => ?_⟩
      have e : maxI st st' = st := if_pos d'
      have := fin t ht
      rw [e] at this
      exact this
    · have d' : ¬ st > st' := fun q => d (decide_eq_true q)
      walk_at "rd"
      refine ⟨y, dy, _, rfl, Y1.ob, y, U, st', p', rfl, Dy, ?_⟩
      walk_at "rd"
      refine ⟨x, dx, _, rfl, X1.ob, x, S, st, p, rfl, Dx, ?_⟩
      walk_at "rd"
      refine ⟨y, dy, _, rfl, Y1.ob, y, U, st', p', rfl, Dy, ?_⟩
      walk_at "rd"
      refine ⟨by omega, by omega, ?_⟩
      refine ⟨by show 2 ≤ sizeLine; decide, fun t ht => ?_⟩
      have e : maxI st st' = st' := if_neg d'
      have := fin t ht
      rw [e] at this
      exact this
end
end Cf
namespace Cf
open PySem L2
set_option hygiene false
local macro_rules | `(tactic| walk_at "len") => `(tactic| repeat (first | (obtain ⟨e, _⟩ := h; subst e; rfl; done) | (obtain ⟨_, h⟩ := h)))
local macro_rules | `(tactic| walk_at "rd") => `(tactic| repeat (first | refine ⟨_, rfl, ?_⟩ | refine ⟨_, _, rfl, rfl, ?_⟩ | refine ⟨rfl, ?_⟩ | refine ⟨_, _, rfl, ?_⟩))
local macro_rules | `(tactic| walk_at "yes") => `(tactic| (dsimp only [tYes]; rw [if_pos rfl]))
set_option hygiene true
section
variable {P : Program} {w : World} {K : PySem.W.Frag} {mg : Str → Option Value} {base : Heap}
/-! ### _listed -/
def spListed (K : PySem.W.Frag) (C : Addr) : Sp := fun vs H Q _ => ∃ (x : Addr) (S : Int → Bool) (s p lo hi : Int), vs = [.ref x, .int lo, .int hi] ∧ Ds K C H x S s p ∧ 0 ≤ lo ∧ lo ≤ hi ∧ hi - lo < 1000000 ∧ s < 1000000 ∧ p < 1000000 ∧
  ∀ (H' : Hp) (q : Addr), Same H H' → H q = none → H' q = some (.lst ((els S lo hi).map V.int)) → Q (.ref q) H'
theorem scDsListed : FnScope ["self", "low", "high", "early", "period", "first", "moves", "late", "move", "day"] ["self", "low", "high"] (defScope sDsListed) := ⟨rfl, rfl, rfl, by decide +kernel, rfl, by decide +kernel, by decide +kernel⟩
theorem listed_eq (S : Int → Bool) {st lo hi f u : Int} (h0 : 0 ≤ f) (h1 : f = 0 ∨ st + f ≤ lo) (h2 : hi - st ≤ f + u) :
    els S lo (if hi < st then hi else st) ++ ((els S (st + f) (st + (f + u))).filter fun d => decide (d < hi)).filter (fun d => decide (lo ≤ d)) = els S lo hi := by
  have hid : ∀ d, d ∈ els S lo (if hi < st then hi else st) → d < st := fun d hd => by
    have := (mem_els.mp hd).1.2
    split at this <;> omega
  have AL := asc_els S (st + f) (st + (f + u))
  refine asc_ext (asc_append (asc_els _ _ _) (List.Pairwise.filter _ (List.Pairwise.filter _ AL)) fun a ha b hb => ?_) (asc_els _ _ _) fun d => ?_
  · rw [List.mem_filter, List.mem_filter, mem_els] at hb
    have := hid a ha
    omega
  · rw [List.mem_append, List.mem_filter, List.mem_filter, mem_els, mem_els, mem_els, decide_eq_true_iff, decide_eq_true_iff]
    constructor
    · rintro (⟨⟨a, b⟩, c⟩ | ⟨⟨⟨⟨a, b⟩, c⟩, d⟩, e⟩)
      · exact ⟨⟨a, by split at b <;> omega⟩, c⟩
      · exact ⟨⟨e, d⟩, c⟩
    · rintro ⟨⟨a, b⟩, c⟩
      by_cases q : d < st
      · exact .inl ⟨⟨a, by split <;> omega⟩, c⟩
      · refine .inr ⟨⟨⟨⟨?_, ?_⟩, c⟩, b⟩, a⟩
        · rcases h1 with z | z <;> omega
        · omega
set_option maxHeartbeats 1000000 in
theorem ok_listed {f C : Addr} {fd : FuncData} (F : Fun K "_listed" "DaySet._listed" sDsListed f fd) (T : Nm mg) (T2 : Txd K mg C) (D_place_of : Df P w K mg base 1 "place_of" ["days", "bound"] [] (spPlaceOf K)) : FnOk P w K mg base CX0 2 f fd ["self", "low", "high"] (spListed K C) := by
  refine F.ok scDsListed (fun vs H Q E h => ?_) (fun cdv A outer s H vs Q E hr h => ?_)
  · walk_at "len"
  · obtain ⟨x, S, st, p, lo, hi, rfl, ⟨dx, h, c, D⟩, l0, l1, hb, sb, pb, k⟩ := h
    have nd := scDsListed.nd
    have p1 := D.can.fr.p1
    have s0 := D.can.fr.s0
    have F0 := D.can.fr
    refine ⟨_, (pss_cons (ps_set (i := 3) nd rfl (Or.inl rfl) (pe_slice sl_list (pe_fld (pv 0) rfl) (po_some (pe_df D_place_of (hr.mono (by decide)) (pa_cons (pe_fld (pv 0) rfl) (pa_cons (pv 1) pa_nil)))) (po_some (pe_df D_place_of (hr.mono (by decide)) (pa_cons (pe_fld (pv 0) rfl) (pa_cons (pv 2) pa_nil))))))
      (pss_cons (ps_if (pt_not (pt_truth (pe_fld (pv 0) rfl) (fun _ => rfl)))
        (pss_one (ps_ret (pv 3)))
        pss_nil)
      (pss_cons (ps_set (i := 4) nd rfl (Or.inl rfl) (pe_fld (pv 0) rfl))
      (pss_cons (ps_set (i := 5) nd rfl (Or.inl rfl) (pe_callB (call_max2 rfl) (by rfl) T.max (by decide +kernel) (pa_cons pe_int (pa_cons (pe_op op_fdiv (pe_op op_sub (pv 1) (pe_fld (pv 0) rfl)) (pv 4)) pa_nil))))
      (pss_cons (ps_set (i := 6) nd rfl (Or.inl rfl) (pe_callTy cr_range3 (by rfl) T.range (by decide +kernel) (pa_cons (pe_op op_mul (pv 5) (pv 4)) (pa_cons (pe_callB (call_max2 rfl) (by rfl) T.max (by decide +kernel) (pa_cons pe_int (pa_cons (pe_op op_sub (pv 2) (pe_fld (pv 0) rfl)) pa_nil))) (pa_cons (pv 4) pa_nil)))))
      (pss_cons (ps_setLc2 (i := 7) (own := [("move", 8), ("day", 9)]) (vs1 := [9]) (g := (gName 8)) (g1 := (gName 9)) (tt := tYes) (tt1 := tYes) rfl nd rfl rfl (sw_true rfl rfl rfl (by decide +kernel)) (pi_rgV (pv 6)) (blkOk_by (N := ["self", "low", "high", "early", "period", "first", "moves", "late", "move", "day"]) (sc := defScope sDsListed) (by decide +kernel)) (by decide) (fun _ _ _ _ _ => pg_name (i := 8) nd rfl (Or.inl rfl)) (fun _ _ _ _ _ => pts_nil) (fun _ _ _ _ _ => (show PI _ _ _ (iList K (tFld K (tVar 0) "_cycle")) from pi_list (pe_fld (pv 0) rfl))) (fun _ _ _ _ _ => pg_name (i := 9) nd rfl (Or.inl rfl)) (fun _ _ _ _ _ => pts_nil) (fun _ _ _ _ _ => (pe_op op_add (pv 9) (pv 8))))
      (pss_one (ps_ret (pe_op op_cat (pv 3) (pe_slice sl_list (pv 7) (po_some (pe_df D_place_of (hr.mono (by decide)) (pa_cons (pv 7) (pa_cons (pv 1) pa_nil)))) (po_some (pe_df D_place_of (hr.mono (by decide)) (pa_cons (pv 7) (pa_cons (pv 2) pa_nil)))))))))))))), ?_⟩
    walk_at "rd"
    have gh : ∀ {H' : Hp}, Same H H' → ∃ dx' fs, H' x = some (.ins C dx' fs) ∧ fs = dsF p st h c := fun {H'} e => ⟨dx, _, e _ _ D.ob, rfl⟩
    refine ⟨x, C, dx, _, _, rfl, D.ob, T2.cl, T2.nH, dsF_head, ?_⟩
    walk_at "rd"
    refine ⟨x, C, dx, _, _, rfl, D.ob, T2.cl, T2.nH, dsF_head, ?_⟩
    walk_at "rd"
    refine ⟨h, _, lo, rfl, D.hd, asc_els _ _ _, ?_⟩
    walk_at "rd"
    refine ⟨x, C, dx, _, _, rfl, D.ob, T2.cl, T2.nH, dsF_head, ?_⟩
    walk_at "rd"
    refine ⟨h, _, hi, rfl, D.hd, asc_els _ _ _, ?_⟩
    walk_at "rd"
    have A := asc_els S 0 st
    have cm : cnt (els S 0 st) lo ≤ cnt (els S 0 st) hi := cnt_mono _ l1
    have cl := cnt_le (els S 0 st) hi
    refine ⟨h, _, rfl, D.hd, fun B hB => ?_⟩
    rw [cut_mid (by omega) (by omega) (by omega), Int.toNat_natCast, Int.toNat_natCast, take_cnt A, drop_sub (asc_els S 0 st) l1]
    have eE : ((els S 0 st).filter fun d => decide (d < hi)).filter (fun d => decide (lo ≤ d)) = els S lo (if hi < st then hi else st) := by
      refine asc_ext (List.Pairwise.filter _ (List.Pairwise.filter _ A)) (asc_els _ _ _) fun d => ?_
      rw [List.mem_filter, List.mem_filter, mem_els, mem_els, decide_eq_true_iff, decide_eq_true_iff]
      constructor
      · rintro ⟨⟨⟨a, b⟩, c⟩, d⟩
        refine ⟨⟨d, ?_⟩, b⟩
        split <;> omega
      · rintro ⟨⟨a, b⟩, c⟩
        refine ⟨⟨⟨⟨by omega, ?_⟩, c⟩, ?_⟩, a⟩ <;> (split at b <;> omega)
    rw [eE]
    walk_at "rd"
    have S1 := Same.new (o := .lst ((els S lo (if hi < st then hi else st)).map V.int)) hB
    refine ⟨x, C, dx, _, _, rfl, S1 _ _ D.ob, T2.cl, T2.nC, dsF_cycle, _, .inl ⟨_, S1.seq D.cy, rfl⟩, ?_⟩
    cases ec : els S st (st + p) with
    | nil =>
      refine iteT ?_
      walk_at "rd"
      have off : ∀ d, st ≤ d → S d = false := fun d hd => by
        rw [← F0.mod hd]
        cases e : S (st + (d - st) % p) with
        | false => rfl
        | true =>
          have m0 := Int.emod_nonneg (d - st) (show p ≠ 0 by omega)
          have m1 := Int.emod_lt_of_pos (d - st) (show 0 < p by omega)
          have : st + (d - st) % p ∈ els S st (st + p) := mem_els.mpr ⟨⟨by omega, by omega⟩, e⟩
          rw [ec] at this; cases this
      refine k _ B S1 hB ?_
      rw [upd_same]
      congr 3
      refine asc_ext (asc_els _ _ _) (asc_els _ _ _) fun d => ?_
      rw [mem_els, mem_els]
      constructor
      · rintro ⟨⟨a, b⟩, c⟩
        exact ⟨⟨a, by split at b <;> omega⟩, c⟩
      · rintro ⟨⟨a, b⟩, c⟩
        refine ⟨⟨a, ?_⟩, c⟩
        have : ¬ st ≤ d := fun q => by rw [off d q] at c; cases c
        split <;> omega
    | cons y ys =>
      refine iteF ?_
      walk_at "rd"
      have ne : els S st (st + p) ≠ [] := by rw [ec]; simp
      refine ⟨x, C, dx, _, _, rfl, S1 _ _ D.ob, T2.cl, T2.nP, dsF_period, ?_⟩
      walk_at "rd"
      refine ⟨x, C, dx, _, _, rfl, S1 _ _ D.ob, T2.cl, T2.nS, dsF_start, ?_⟩
      walk_at "rd"
      refine ⟨⟨by omega, by omega⟩, ?_⟩
      walk_at "rd"
      -- the first turn of the cycle
      obtain ⟨fi, efi, f0, f1, f2⟩ : ∃ fi : Nat, (if (lo - st) / p > 0 then (lo - st) / p else 0) = (fi : Int) ∧ (fi = 0 ∨ st + fi * p ≤ lo) ∧ 0 ≤ (fi : Int) * p ∧ lo < st + fi * p + p := by
        have q := Int.mul_ediv_add_emod (lo - st) p
        have r := Int.emod_nonneg (lo - st) (show p ≠ 0 by omega)
        by_cases z : (lo - st) / p > 0
        · have e : ((((lo - st) / p).toNat : Nat) : Int) = (lo - st) / p := by omega
          have t : (lo - st) / p * 1 ≤ (lo - st) / p * p := Int.mul_le_mul_of_nonneg_left p1 (by omega)
          have cm := Int.mul_comm ((lo - st) / p) p
          have r2 := Int.emod_lt_of_pos (lo - st) (show 0 < p by omega)
          refine ⟨((lo - st) / p).toNat, by rw [if_pos z, e], .inr ?_, ?_, ?_⟩
          · rw [e]; omega
          · rw [e]; omega
          · rw [e]; omega
        · have r2 := Int.emod_lt_of_pos (lo - st) (show 0 < p by omega)
          have z2 : p * ((lo - st) / p) ≤ 0 := by
            have := Int.mul_le_mul_of_nonneg_left (show (lo - st) / p ≤ 0 by omega) (show 0 ≤ p by omega)
            rw [Int.mul_zero] at this; exact this
          refine ⟨0, by rw [if_neg z]; rfl, .inl rfl, by rw [show ((0 : Nat) : Int) * p = 0 by simp]; omega, ?_⟩
          rw [show ((0 : Nat) : Int) * p = 0 by simp]; omega
      rw [efi]
      refine ⟨.inr ⟨by show -18446744073709551616 < p; omega, by show p < 18446744073709551616; omega⟩, ?_⟩
      walk_at "rd"
      refine ⟨x, C, dx, _, _, rfl, S1 _ _ D.ob, T2.cl, T2.nS, dsF_start, ?_⟩
      walk_at "rd"
      have fp0 : 0 ≤ (fi : Int) * p := Int.mul_nonneg (by omega) (by omega)
      obtain ⟨en, een, en0, en1⟩ : ∃ en : Int, (if hi - st > 0 then hi - st else 0) = en ∧ 0 ≤ en ∧ (en = 0 ∨ en = hi - st) := ⟨_, rfl, by split <;> omega, by split <;> omega⟩
      have enh : hi - st ≤ en := by rw [← een]; split <;> omega
      rw [een]
      obtain ⟨n, R, up, dn⟩ := rg_upW (i := (fi : Int) * p) (j := en) (c := p) p1 (by omega)
      refine ⟨(fi : Int) * p, en, p, n, rfl, R, fun M hM => ?_⟩
      walk_at "rd"
      have S2 := S1.step (o := RgO M ((fi : Int) * p) en p) hM
      refine ⟨M, (fi : Int) * p, en, p, n, rfl, upd_same, R, fun L hL => ?_⟩
      have hcy2 : LI K (upd (upd H B (.lst ((els S lo (if hi < st then hi else st)).map V.int))) M (RgO M ((fi : Int) * p) en p)) c (els S st (st + p)) := S2.seq D.cy
      have hob2 := S2 _ _ D.ob
      have hB2 : upd (upd H B (.lst ((els S lo (if hi < st then hi else st)).map V.int))) M (RgO M ((fi : Int) * p) en p) B = some (.lst ((els S lo (if hi < st then hi else st)).map V.int)) := by rw [upd_ne (ne_of_none upd_same hM), upd_same]
      generalize hH2 : upd (upd H B (.lst ((els S lo (if hi < st then hi else st)).map V.int))) M (RgO M ((fi : Int) * p) en p) = H2 at S2 hcy2 hob2 hL hB2
      have lc := els_length_le S st (st + p)
      have np : (n : Int) * p < 4000000 := by
        rcases dn with z | z
        · rw [z]; simp
        · rcases Nat.eq_zero_or_pos n with w | w
          · rw [w]; simp
          · have : (n : Int) * p = ((n - 1 : Nat) : Int) * p + p := by rw [show (n : Int) = ((n - 1 : Nat) : Int) + 1 by omega, Int.add_mul]; simp
            omega
      refine it_rg (lo := (fi : Int) * p) (c := p) (n := n) (fun i H' => Same H2 H' ∧ H' L = some (.lst ((els S (st + (fi : Int) * p) (st + ((fi + i : Nat) : Int) * p)).map V.int)))
        ⟨Same.new hL, by rw [upd_same, els_nil S (by rw [Nat.add_zero]; omega)]; rfl⟩ ?_ ?_
      · rintro i H' hi' ⟨s1, hLl⟩
        walk_at "rd"
        refine ⟨x, C, dx, _, _, rfl, s1 _ _ hob2, T2.cl, T2.nC, dsF_cycle, ?_⟩
        walk_at "rd"
        refine ⟨⟨_, s1.seq hcy2⟩, ?_⟩
        have ip : (i : Int) * p ≤ n * p := Int.mul_le_mul_of_nonneg_right (by omega) (by omega)
        have ip0 : 0 ≤ (i : Int) * p := Int.mul_nonneg (by omega) (by omega)
        have efi2 : ((fi + i : Nat) : Int) * p = (fi : Int) * p + i * p := by rw [Int.natCast_add, Int.add_mul]
        have lz := els_length_le S (st + (fi : Int) * p) (st + ((fi + i : Nat) : Int) * p)
        refine it_list (K := K) (a := c) (xs := (els S st (st + p)).map V.int) (fun j H'' => Same H2 H'' ∧ H'' L = some (.lst (((els S (st + (fi : Int) * p) (st + ((fi + i : Nat) : Int) * p)) ++ ((els S st (st + p)).take j).map (· + ((fi : Int) * p + i * p))).map V.int)))
          ⟨s1, by simpa using hLl⟩ (fun j H'' _ ⟨s2, _⟩ => s2.seq hcy2) ?_ ?_
        · rintro j y H'' hj ⟨s2, hLl2⟩
          obtain ⟨z, hz, rfl⟩ := ints_get hj
          have hjl := lt_of_get hz
          walk_at "rd"
          refine acc_step s2 hL hLl2 (by rw [List.length_map, List.length_append, List.length_map, List.length_take]; exact szl (by omega)) ?_
          rw [List.take_succ, hz]
          simp
        · rintro H'' ⟨s2, hLl2⟩
          refine ⟨s2, ?_⟩
          rw [List.length_map, List.take_length] at hLl2
          rw [hLl2]
          congr 3
          have e3 := els_period F0 (fi + i)
          rw [efi2] at e3 ⊢
          rw [e3]
          have e4 : ((fi + i + 1 : Nat) : Int) * p = (fi : Int) * p + i * p + p := by rw [show ((fi + i + 1 : Nat) : Int) = ((fi + i : Nat) : Int) + 1 by omega, Int.add_mul, efi2]; omega
          rw [show fi + (i + 1) = fi + i + 1 by omega, e4]
          exact (els_cut S (by omega) (by omega)).symm
      · rintro H' ⟨s1, hLl⟩
        have efn : ((fi + n : Nat) : Int) * p = (fi : Int) * p + n * p := by rw [Int.natCast_add, Int.add_mul]
        rw [efn] at hLl
        have AL := asc_els S (st + (fi : Int) * p) (st + ((fi : Int) * p + n * p))
        walk_at "rd"
        refine ⟨L, _, lo, rfl, LI.new hLl, AL, ?_⟩
        walk_at "rd"
        refine ⟨L, _, hi, rfl, LI.new hLl, AL, ?_⟩
        walk_at "rd"
        have cm2 := cnt_mono (els S (st + (fi : Int) * p) (st + ((fi : Int) * p + n * p))) l1
        have cl2 := cnt_le (els S (st + (fi : Int) * p) (st + ((fi : Int) * p + n * p))) hi
        have ll2 := els_length_le S (st + (fi : Int) * p) (st + ((fi : Int) * p + n * p))
        refine ⟨L, _, rfl, LI.new hLl, fun G hG => ?_⟩
        rw [cut_mid (by omega) (by omega) (by omega), Int.toNat_natCast, Int.toNat_natCast, take_cnt AL, drop_sub AL l1]
        have nBG : B ≠ G := ne_of_none (s1 _ _ hB2) hG
        have ll1 := els_length_le S lo (if hi < st then hi else st)
        have ll3 : (((els S (st + (fi : Int) * p) (st + ((fi : Int) * p + n * p))).filter fun d => decide (d < hi)).filter fun d => decide (lo ≤ d)).length ≤ (els S (st + (fi : Int) * p) (st + ((fi : Int) * p + n * p))).length :=
          Nat.le_trans (List.length_filter_le _ _) (List.length_filter_le _ _)
        refine ⟨B, G, _, _, rfl, rfl, by rw [upd_ne nBG]; exact s1 _ _ hB2, upd_same, ?_, fun q hq => ?_⟩
        · rw [List.length_map, List.length_map]
          refine szle ?_
          have hz : (if hi < st then hi else st) < 1000000 := by split <;> omega
          generalize (if hi < st then hi else st) = mz at ll1 hz ⊢
          omega
        · refine k _ q (((S2.trans s1).step hG).step hq) (((S2.trans s1).step hG).free hq) ?_
          rw [upd_same, ← List.map_append]
          rw [listed_eq S fp0 (f0.elim (fun z => .inl (by rw [z]; simp)) .inr) (by omega)]
end
end Cf
namespace Cf
open PySem L2
set_option hygiene false
local macro_rules | `(tactic| walk_at "len") => `(tactic| repeat (first | (obtain ⟨e, _⟩ := h; subst e; rfl; done) | (obtain ⟨_, h⟩ := h)))
local macro_rules | `(tactic| walk_at "rd") => `(tactic| repeat (first | refine ⟨_, rfl, ?_⟩ | refine ⟨_, _, rfl, rfl, ?_⟩ | refine ⟨rfl, ?_⟩ | refine ⟨_, _, rfl, ?_⟩))
local macro_rules | `(tactic| walk_at "yes") => `(tactic| (dsimp only [tYes]; rw [if_pos rfl]))
set_option hygiene true
section
variable {P : Program} {w : World} {K : PySem.W.Frag} {mg : Str → Option Value} {base : Heap}
/-! ### in both -/
def spInBoth (K : PySem.W.Frag) : Sp := fun vs H Q _ => ∃ (a b : Addr) (l m : List Int), vs = [.ref a, .ref b] ∧ LI K H a l ∧ LI K H b m ∧ l.length < 4000 ∧ m.length < 4000 ∧
  ∀ (H' : Hp) (q : Addr), Same H H' → H q = none → H' q = some (.lst ((l.filter fun d => decide (d ∈ m)).map V.int)) → Q (.ref q) H'
theorem scInBoth : FnScope ["days", "others", "there", "day"] ["days", "others"] (defScope sInBoth) := ⟨rfl, rfl, rfl, by decide +kernel, rfl, by decide +kernel, by decide +kernel⟩
theorem ok_in_both {f : Addr} {fd : FuncData} (F : Fun K "in_both" "in_both" sInBoth f fd) (T : Nm mg) : FnOk P w K mg base CX0 1 f fd ["days", "others"] (spInBoth K) := by
  refine F.ok scInBoth (fun vs H Q E h => ?_) (fun cdv A outer s H vs Q E hr h => ?_)
  · walk_at "len"
  · obtain ⟨a, b, l, m, rfl, ha, hb, sz, sm, k⟩ := h
    have nd := scInBoth.nd
    refine ⟨_, (pss_cons (ps_set (i := 2) nd rfl (Or.inr rfl) (pe_callTy (cr_setL rfl) (by rfl) T.set (by decide +kernel) (pa_cons (pv 1) pa_nil)))
      (pss_one (ps_ret (pe_lc (own := [("day", 3)]) (g := (gName 3)) rfl nd (pi_list (pv 0)) (blkOk_by (N := ["days", "others", "there", "day"]) (sc := defScope sInBoth) (by decide +kernel)) (fun _ _ _ _ _ => pg_name (i := 3) nd rfl (Or.inl rfl)) (fun _ _ _ _ _ => (pts_one (pt_cmpR (show OpR _ _ (rSIn w) from or_sin) (pv 3) (pv 2) rfl))) (fun _ _ _ _ _ => (pv 3)))))), ?_⟩
    walk_at "rd"
    refine ⟨b, m, rfl, hb, by omega, fun c B cl hB => ?_⟩
    walk_at "rd"
    have ha2 := (Same.new (o := SetO w B (fun z => decide (z ∈ m)) c) hB).seq ha
    refine ⟨⟨_, ha2⟩, fun D hD => ?_⟩
    refine lc_list (K := K) (a := a) (xs := l.map V.int) (fun i H' => Same (upd H B (SetO w B (fun z => decide (z ∈ m)) c)) H' ∧ H' D = some (.lst (((l.take i).filter fun d => decide (d ∈ m)).map V.int)))
      ⟨Same.new hD, upd_same⟩ (fun i H' _ ⟨s1, _⟩ => s1.seq ha2) ?_ ?_
    · rintro i y H' hi ⟨s1, hDl⟩
      obtain ⟨z, hz, rfl⟩ := ints_get hi
      have hil := lt_of_get hz
      walk_at "rd"
      refine ⟨z, B, _, c, rfl, rfl, s1 _ _ upd_same, ?_⟩
      walk_at "rd"
      have e : (l.take (i + 1)).filter (fun d => decide (d ∈ m)) = (l.take i).filter (fun d => decide (d ∈ m)) ++ (if decide (z ∈ m) = true then [z] else []) := by
        rw [List.take_succ, hz, List.filter_append]
        congr 1
        show List.filter _ [z] = _
        rw [List.filter_cons, List.filter_nil]
      have lz : ((l.take i).filter (fun d => decide (d ∈ m))).length ≤ l.length := Nat.le_trans (List.length_filter_le _ _) (by rw [List.length_take]; omega)
      refine ite2 (fun d => ?_) (fun d => ?_)
      · walk_at "rd"
        refine acc_step s1 hD hDl (by rw [List.length_map]; exact szl (by omega)) ?_
        rw [e, if_pos d, List.map_append]; rfl
      · refine ⟨s1, ?_⟩
        rw [e, if_neg d, List.append_nil]; exact hDl
    · rintro H' ⟨s1, hDl⟩
      rw [List.length_map, List.take_length] at hDl
      exact k _ D ((Same.new hB).trans s1) ((Same.new hB).free hD) hDl
def spFinite (K : PySem.W.Frag) (C : Addr) : Sp := fun vs H Q _ => ∃ (x : Addr) (S : Int → Bool) (s p : Int), vs = [.ref x] ∧ Ds K C H x S s p ∧ (els S s (s + p) = [] → Q (.bl true) H) ∧ (els S s (s + p) ≠ [] → Q (.bl false) H)
theorem scDsIsFinite : FnScope ["self"] ["self"] (defScope sDsIsFinite) := ⟨rfl, rfl, rfl, by decide +kernel, rfl, by decide +kernel, by decide +kernel⟩
theorem ok_is_finite {f C : Addr} {fd : FuncData} (F : Fun K "is_finite" "DaySet.is_finite" sDsIsFinite f fd) (T2 : Txd K mg C) : FnOk P w K mg base CX0 1 f fd ["self"] (spFinite K C) := by
  refine F.ok scDsIsFinite (fun vs H Q E h => ?_) (fun cdv A outer s H vs Q E hr h => ?_)
  · walk_at "len"
  · obtain ⟨x, S, st, p, rfl, Dx, k0, k1⟩ := h
    obtain ⟨dx, hx, cx, X1⟩ := id Dx
    refine ⟨_, (pss_one (ps_ret (pe_notT (pe_fld (pv 0) rfl)))), ?_⟩
    walk_at "rd"
    refine ⟨x, C, dx, _, _, rfl, X1.ob, T2.cl, T2.nC, dsF_cycle, ?_⟩
    refine ⟨_, .inl ⟨_, X1.cy, rfl⟩, ?_⟩
    cases ec : els S st (st + p) with
    | nil => exact k0 ec
    | cons y ys => exact k1 (by rw [ec]; simp)
/-! ### among -/
def spAmong (K : PySem.W.Frag) (C : Addr) : Sp := fun vs H Q _ => ∃ (x a : Addr) (S : Int → Bool) (s p : Int) (l : List Int), vs = [.ref x, .ref a] ∧ Ds K C H x S s p ∧ LI K H a l ∧ Asc l ∧ l.length < 2000 ∧ s < 2000 ∧ p < 2000 ∧
  ∀ (H' : Hp) (q : Addr), Same H H' → H q = none → H' q = some (.lst ((l.filter S).map V.int)) → Q (.ref q) H'
theorem scDsAmong : FnScope ["self", "days", "start", "known", "there", "late", "day"] ["self", "days"] (defScope sDsAmong) := ⟨rfl, rfl, rfl, by decide +kernel, rfl, by decide +kernel, by decide +kernel⟩
theorem ok_among {f C : Addr} {fd : FuncData} (F : Fun K "_among" "DaySet._among" sDsAmong f fd) (T : Nm mg) (T2 : Txd K mg C) (D_place_of : Df P w K mg base 1 "place_of" ["days", "bound"] [] (spPlaceOf K))
    (D_in_both : Df P w K mg base 1 "in_both" ["days", "others"] [] (spInBoth K)) : FnOk P w K mg base CX0 2 f fd ["self", "days"] (spAmong K C) := by
  refine F.ok scDsAmong (fun vs H Q E h => ?_) (fun cdv A outer s H vs Q E hr h => ?_)
  · walk_at "len"
  · obtain ⟨x, a, S, st, p, l, rfl, Dx, ha, asc, la, sb, pb, k⟩ := h
    have nd := scDsAmong.nd
    obtain ⟨dx, hx, cx, X1⟩ := id Dx
    have px := Dx.can.fr.p1
    have sx := Dx.can.fr.s0
    have lc := els_length_le S st (st + p)
    have lh := els_length_le S 0 st
    refine ⟨_, (pss_cons (ps_set (i := 2) nd rfl (Or.inr rfl) (pe_fld (pv 0) rfl))
      (pss_cons (ps_set (i := 3) nd rfl (Or.inl rfl) (pe_df D_place_of (hr.mono (by decide)) (pa_cons (pv 1) (pa_cons (pv 2) pa_nil))))
      (pss_cons (ps_set (i := 4) nd rfl (Or.inr rfl) (pe_callTy (cr_setL rfl) (by rfl) T.set (by decide +kernel) (pa_cons (pe_fld (pv 0) rfl) pa_nil)))
      (pss_cons (ps_setLc (i := 5) (own := [("day", 6)]) (g := (gName 6)) rfl nd rfl rfl (sw_true rfl rfl rfl (by decide +kernel)) (pi_list (pe_slice sl_list (pv 1) (po_some (pv 3)) po_none)) (blkOk_by (N := ["self", "days", "start", "known", "there", "late", "day"]) (sc := defScope sDsAmong) (by decide +kernel)) (fun _ _ _ _ _ => pg_name (i := 6) nd rfl (Or.inl rfl)) (fun _ _ _ _ _ => (pts_one (pt_cmpR (show OpR _ _ (rSIn w) from or_sin) (pe_op op_add (pv 2) (pe_op op_mod (pe_op op_sub (pv 6) (pv 2)) (show PE _ _ (tFld K (tVar 0) "_period") from pe_fld (pv 0) rfl))) (pv 4) rfl))) (fun _ _ _ _ _ => (pv 6)))
      (pss_one (ps_ret (pe_op op_cat (pe_df D_in_both (hr.mono (by decide)) (pa_cons (pe_slice sl_list (pv 1) po_none (po_some (pv 3))) (pa_cons (pe_fld (pv 0) rfl) pa_nil))) (pv 5)))))))), ?_⟩
    walk_at "rd"
    refine ⟨x, C, dx, _, _, rfl, X1.ob, T2.cl, T2.nS, dsF_start, ?_⟩
    walk_at "rd"
    refine ⟨a, l, st, rfl, ha, asc, ?_⟩
    walk_at "rd"
    refine ⟨x, C, dx, _, _, rfl, X1.ob, T2.cl, T2.nC, dsF_cycle, ?_⟩
    refine ⟨cx, _, rfl, X1.cy, by omega, fun c B cl hB => ?_⟩
    walk_at "rd"
    have S1 := Same.new (o := SetO w B (fun z => decide (z ∈ els S st (st + p))) c) hB
    have hset : upd H B (SetO w B (fun z => decide (z ∈ els S st (st + p))) c) B = some (SetO w B (fun z => decide (z ∈ els S st (st + p))) c) := upd_same
    have S1B : H B = none := hB
    refine ⟨a, _, rfl, S1.seq ha, fun B2 hB2 => ?_⟩
    rw [cut_from (by omega), Int.toNat_natCast]
    have cl := cnt_le l st
    obtain ⟨H2, e2⟩ : ∃ H2, H2 = upd (upd H B (SetO w B (fun z => decide (z ∈ els S st (st + p))) c)) B2 (.lst ((l.drop (cnt l st)).map V.int)) := ⟨_, rfl⟩
    have hset2 : H2 B = some (SetO w B (fun z => decide (z ∈ els S st (st + p))) c) := by rw [e2, upd_ne (ne_of_none hset hB2)]; exact hset
    have S2 : Same H H2 := by rw [e2]; exact S1.step hB2
    have hl2 : SqL K H2 B2 ((l.drop (cnt l st)).map V.int) := by rw [e2]; exact SqL.of upd_same
    generalize hX : l.drop (cnt l st) = X at hl2 e2 ⊢
    have lX : X.length ≤ l.length := by rw [← hX, List.length_drop]; omega
    have geX : ∀ z ∈ X, st ≤ z := fun z hz => by
      rw [← hX, drop_cnt asc] at hz
      have := (List.mem_filter.mp hz).2
      exact of_decide_eq_true this
    walk_at "rd"
    refine ⟨⟨_, by rw [e2] at hl2; exact hl2⟩, fun D hD' => ?_⟩
    have hD : H2 D = none := by rw [e2]; exact hD'
    refine lc_list (K := K) (a := B2) (xs := X.map V.int) (fun i H4 => Same H2 H4 ∧ H4 D = some (.lst (((X.take i).filter S).map V.int)))
      ⟨by rw [e2]; exact Same.new hD', upd_same⟩ (fun i H4 _ ⟨s1, _⟩ => s1.seq hl2) ?_ ?_
    · rintro i y H4 hi ⟨s1, hDl⟩
      obtain ⟨z, hz, rfl⟩ := ints_get hi
      have hil := lt_of_get hz
      have zst := geX z (List.mem_of_getElem? hz)
      walk_at "rd"
      refine ⟨x, C, dx, _, _, rfl, s1 _ _ (S2 _ _ X1.ob), T2.cl, T2.nP, dsF_period, ?_⟩
      refine ⟨_, _, rfl, rfl, by omega, ?_⟩
      walk_at "rd"
      refine ⟨_, B, _, c, rfl, rfl, s1 _ _ hset2, ?_⟩
      walk_at "rd"
      have e : (X.take (i + 1)).filter S = (X.take i).filter S ++ (if S z = true then [z] else []) := by
        rw [List.take_succ, hz, List.filter_append]
        congr 1
        show List.filter _ [z] = _
        rw [List.filter_cons, List.filter_nil]
      have lz : ((X.take i).filter S).length ≤ X.length := Nat.le_trans (List.length_filter_le _ _) (by rw [List.length_take]; omega)
      have a1 := Int.emod_nonneg (z - st) (show p ≠ 0 by omega)
      have a2 := Int.emod_lt_of_pos (z - st) (show 0 < p by omega)
      have mz : decide (st + (z - st) % p ∈ els S st (st + p)) = S z := by
        rw [Bool.eq_iff_iff, decide_eq_true_iff, mem_els, Dx.can.fr.mod zst]
        exact ⟨fun q => q.2, fun q => ⟨⟨by omega, by omega⟩, q⟩⟩
      rw [mz]
      refine ite2 (fun d => ?_) (fun d => ?_)
      · walk_at "rd"
        refine acc_step s1 hD hDl (by rw [List.length_map]; exact szl (by omega)) ?_
        rw [e, if_pos d, List.map_append]; rfl
      · refine ⟨s1, ?_⟩
        rw [e, if_neg d, List.append_nil]; exact hDl
    · rintro H4 ⟨s4, hDl⟩
      rw [List.length_map, List.take_length] at hDl
      walk_at "rd"
      refine ⟨a, _, rfl, (S2.trans s4).seq ha, fun B3 hB3 => ?_⟩
      rw [cut_to (by omega), Int.toNat_natCast]
      walk_at "rd"
      have S5 := s4.step (o := .lst ((l.take (cnt l st)).map V.int)) hB3
      have hD5 : upd H4 B3 (.lst ((l.take (cnt l st)).map V.int)) D = some (.lst ((X.filter S).map V.int)) := by rw [upd_ne (ne_of_none hDl hB3)]; exact hDl
      have hl5 : LI K (upd H4 B3 (.lst ((l.take (cnt l st)).map V.int))) B3 (l.take (cnt l st)) := LI.new upd_same
      generalize upd H4 B3 (.lst ((l.take (cnt l st)).map V.int)) = H5 at S5 hD5 hl5 ⊢
      refine ⟨x, C, dx, _, _, rfl, S5 _ _ (S2 _ _ X1.ob), T2.cl, T2.nH, dsF_head, ?_⟩
      walk_at "rd"
      refine ⟨B3, hx, _, _, rfl, hl5, S5.seq (S2.seq X1.hd), by rw [List.length_take]; omega, by omega, fun H6 q S6 hq hql => ?_⟩
      walk_at "rd"
      have eq1 : (l.take (cnt l st)).filter (fun d => decide (d ∈ els S 0 st)) = (l.take (cnt l st)).filter S := by
        refine List.filter_congr fun d hd => ?_
        rw [take_cnt asc] at hd
        have lt : d < st := of_decide_eq_true (List.mem_filter.mp hd).2
        rw [Bool.eq_iff_iff, decide_eq_true_iff, mem_els]
        refine ⟨fun z => z.2, fun z => ⟨⟨?_, lt⟩, z⟩⟩
        rcases Int.lt_or_le d 0 with n | n
        · rw [Dx.neg d n] at z; cases z
        · exact n
      rw [eq1] at hql
      have f1 : ((l.take (cnt l st)).filter S).length ≤ l.length := Nat.le_trans (List.length_filter_le _ _) (by rw [List.length_take]; omega)
      have f2 : (X.filter S).length ≤ l.length := Nat.le_trans (List.length_filter_le _ _) lX
      refine ⟨q, D, _, _, rfl, rfl, hql, S6 _ _ hD5, by rw [List.length_map, List.length_map]; exact szle (by omega), fun L hL => ?_⟩
      have S7 := ((S2.trans S5).trans S6)
      refine k _ L (S7.step hL) (S7.free hL) ?_
      rw [upd_same, ← List.map_append, ← List.filter_append, ← hX, List.take_append_drop]
end
end Cf
namespace Cf
open PySem L2
set_option hygiene false
local macro_rules | `(tactic| walk_at "len") => `(tactic| repeat (first | (obtain ⟨e, _⟩ := h; subst e; rfl; done) | (obtain ⟨_, h⟩ := h)))
local macro_rules | `(tactic| walk_at "rd") => `(tactic| repeat (first | refine ⟨_, rfl, ?_⟩ | refine ⟨_, _, rfl, rfl, ?_⟩ | refine ⟨rfl, ?_⟩ | refine ⟨_, _, rfl, ?_⟩))
local macro_rules | `(tactic| walk_at "yes") => `(tactic| (dsimp only [tYes]; rw [if_pos rfl]))
set_option hygiene true
section
variable {P : Program} {w : World} {K : PySem.W.Frag} {mg : Str → Option Value} {base : Heap}
/-! ### a day set made -/
theorem mk_tailW {C : Addr} {H1 : Hp} {l : Addr} {S : Int → Bool} {st p : Int} {Q : VK} (F0 : Fr S st p) (neg : ∀ d, d < 0 → S d = false) (hl : LI K H1 l (els S 0 (st + p))) (hk : H1 l ≠ none) (sb : (els S 0 st).length < 1000000) (pb : p < 1000000)
    (k : ∀ (H' : Hp) (x : Addr) (s' p' : Int), Same H1 H' → Dn K C H1 H' x S s' p' → s' ≤ st → p' ≤ p → Q (.ref x) H') :
    ∀ x dx, H1 x = none → H1 dx = none → dx ≠ x → spInit K C [.ref x, .int st, .int p, .ref l] (upd (upd H1 dx (.own x)) x (.ins C dx [])) (fun v H2 => v = .non ∧ Q (.ref x) H2) E0 := by
  intro x dx hx hdx ne
  have S1 : Same H1 (upd (upd H1 dx (.own x)) x (.ins C dx [])) := fun b o e => by rw [upd_ne (ne_of_none e hx), upd_ne (ne_of_none e hdx)]; exact e
  refine ⟨x, dx, l, S, st, p, rfl, upd_same, F0, neg, S1.seq hl, fun e => hk (by rw [e]; exact hx), sb, pb, fun H' h c s' p' keep D nh nc ss pp => ⟨rfl, k H' x s' p' (fun b o e => keep b o (S1 b o e) (ne_of_none e hx)) ⟨dx, h, c, D, hx, S1.free nh, S1.free nc⟩ ss pp⟩⟩
theorem mk_tail {C : Addr} {H1 : Hp} {l : Addr} {S : Int → Bool} {st p : Int} {Q : VK} (F0 : Fr S st p) (neg : ∀ d, d < 0 → S d = false) (hl : LI K H1 l (els S 0 (st + p))) (hk : H1 l ≠ none) (sb : st < 1000000) (pb : p < 1000000)
    (k : ∀ (H' : Hp) (x : Addr) (s' p' : Int), Same H1 H' → Dn K C H1 H' x S s' p' → s' ≤ st → p' ≤ p → Q (.ref x) H') :
    ∀ x dx, H1 x = none → H1 dx = none → dx ≠ x → spInit K C [.ref x, .int st, .int p, .ref l] (upd (upd H1 dx (.own x)) x (.ins C dx [])) (fun v H2 => v = .non ∧ Q (.ref x) H2) E0 :=
  mk_tailW F0 neg hl hk (by have := els_length_le S 0 st; have := F0.s0; omega) pb k
/-! ### operators -/
def spBin (K : PySem.W.Frag) (C : Addr) (g : Bool → Bool → Bool) : Sp := fun vs H Q _ => ∃ (x y : Addr) (S T : Int → Bool) (s p s' p' : Int), vs = [.ref x, .ref y] ∧ Ds K C H x S s p ∧ Ds K C H y T s' p' ∧ maxI s s' + lcmI p p' < 1980 ∧
  ∀ (H' : Hp) (z : Addr) (s'' p'' : Int), Same H H' → Dn K C H H' z (fun d => g (S d) (T d)) s'' p'' → s'' ≤ maxI s s' → p'' ≤ lcmI p p' → Q (.ref z) H'
theorem max_le {a b : Int} : a ≤ maxI a b ∧ b ≤ maxI a b := by unfold maxI; split <;> omega
theorem lcm_ge {a b : Int} (ha : 1 ≤ a) (hb : 1 ≤ b) : a ≤ lcmI a b ∧ b ≤ lcmI a b := by
  unfold lcmI
  have h := Nat.lcm_pos (show 0 < a.natAbs by omega) (show 0 < b.natAbs by omega)
  have h1 := Nat.le_of_dvd h (Nat.dvd_lcm_left a.natAbs b.natAbs)
  have h2 := Nat.le_of_dvd h (Nat.dvd_lcm_right a.natAbs b.natAbs)
  omega
theorem scDsSub : FnScope ["self", "other", "start", "period", "end"] ["self", "other"] (defScope sDsSub) := ⟨rfl, rfl, rfl, by decide +kernel, rfl, by decide +kernel, by decide +kernel⟩
theorem fin_fr {S : Int → Bool} {s p : Int} (F : Fr S s p) (e : els S s (s + p) = []) : ∀ d, s ≤ d → S d = false := fun d hd => by
  have p1 := F.p1
  have m0 := Int.emod_nonneg (d - s) (show p ≠ 0 by omega)
  have m1 := Int.emod_lt_of_pos (d - s) (show 0 < p by omega)
  cases c : S d with
  | false => rfl
  | true =>
    have : s + (d - s) % p ∈ els S s (s + p) := mem_els.mpr ⟨⟨by omega, by omega⟩, (F.mod hd).trans c⟩
    rw [e] at this; cases this
theorem fr_off {S : Int → Bool} {s : Int} (h : 0 ≤ s) (off : ∀ d, s ≤ d → S d = false) : Fr S s 1 := ⟨h, by omega, fun d hd => by rw [off _ hd, off _ (by omega)]⟩
theorem els_off {S : Int → Bool} {s : Int} (h : 0 ≤ s) (off : ∀ d, s ≤ d → S d = false) : els S 0 (s + 1) = els S 0 s := by
  rw [els_cut S h (show s ≤ s + 1 by omega), seg_empty S s (s + 1) 0 (fun d h1 _ => off d h1), List.append_nil]
theorem els_with (S T : Int → Bool) (lo hi : Int) : (els S lo hi).filter T = els (fun d => S d && T d) lo hi := by
  refine asc_ext (List.Pairwise.filter _ (asc_els _ _ _)) (asc_els _ _ _) fun d => ?_
  rw [List.mem_filter, mem_els, mem_els, Bool.and_eq_true]
  exact ⟨fun q => ⟨q.1.1, q.1.2, q.2⟩, fun q => ⟨⟨q.1, q.2.1⟩, q.2.2⟩⟩
theorem els_less (S T : Int → Bool) (lo hi : Int) : (els S lo hi).filter (fun d => decide (d ∉ (els S lo hi).filter T)) = els (fun d => S d && !T d) lo hi := by
  refine asc_ext (List.Pairwise.filter _ (asc_els _ _ _)) (asc_els _ _ _) fun d => ?_
  rw [List.mem_filter, decide_eq_true_iff, List.mem_filter, mem_els, mem_els, Bool.and_eq_true]
  cases S d <;> cases T d <;> simp
theorem ok_sub {f C : Addr} {fd : FuncData} (F : Fun K "__sub__" "DaySet.__sub__" sDsSub f fd) (T : Nm mg) (T2 : Txd K mg C) (D_common_frame : Df P w K mg base 3 "common_frame" ["one", "other"] [] (spCommonFrame K C)) (D_listed : Dm P w K mg base 2 C "_listed" ["self", "low", "high"] (spListed K C))
    (D_is_finite : Dpr P w K mg base 1 C "is_finite" (spFinite K C)) (D_among : Dm P w K mg base 2 C "_among" ["self", "days"] (spAmong K C)) (D_in_first : Df P w K mg base 1 "in_first" ["days", "others"] [] (spInFirst K)) (D_init : Dmk P w K mg base 3 C ["self", "start", "period", "days"] (spInit K C)) : FnOk P w K mg base CX0 5 f fd ["self", "other"] (spBin K C fun a b => a && !b) := by
  refine F.ok scDsSub (fun vs H Q E h => ?_) (fun cdv A outer s H vs Q E hr h => ?_)
  · walk_at "len"
  · obtain ⟨x, y, S, U, st, p, st', p', rfl, Dx, Dy, bd, k⟩ := h
    have nd := scDsSub.nd
    obtain ⟨dx, hx, cx, X1⟩ := id Dx
    obtain ⟨dy, hy, cy, Y1⟩ := id Dy
    have px := Dx.can.fr.p1
    have py := Dy.can.fr.p1
    have sx := Dx.can.fr.s0
    have sy := Dy.can.fr.s0
    have mx := @max_le st st'
    have lx := lcm_ge px py
    have lh := els_length_le S 0 st
    refine ⟨_, (pss_cons (ps_if (pt_val (pe_dprop D_is_finite T2.cl (hr.mono (by decide)) (pv 0)))
        (pss_one (ps_ret (pe_dmake D_init T2.mgC (hr.mono (by decide)) (pa_cons (pe_fld (pv 0) rfl) (pa_cons pe_int (pa_cons (pe_df D_in_first (hr.mono (by decide)) (pa_cons (pe_fld (pv 0) rfl) (pa_cons (pe_dm D_among T2.cl (hr.mono (by decide)) (pv 1) (pa_cons (pe_fld (pv 0) rfl) pa_nil)) pa_nil))) pa_nil))))))
        pss_nil)
      (pss_cons (ps_asg (pe_df D_common_frame (hr.mono (by decide)) (pa_cons (pv 0) (pa_cons (pv 1) pa_nil))) (pg_tup (by rfl) (pgs_cons (pg_name (i := 2) nd rfl (Or.inl rfl)) (pgs_cons (pg_name (i := 3) nd rfl (Or.inl rfl)) pgs_nil))))
      (pss_cons (ps_set (i := 4) nd rfl (Or.inl rfl) (pe_op op_add (pv 2) (pv 3)))
      (pss_one (ps_ret (pe_dmake D_init T2.mgC (hr.mono (by decide)) (pa_cons (pv 2) (pa_cons (pv 3) (pa_cons (pe_df D_in_first (hr.mono (by decide)) (pa_cons (pe_dm D_listed T2.cl (hr.mono (by decide)) (pv 0) (pa_cons pe_int (pa_cons (pv 4) pa_nil))) (pa_cons (pe_dm D_listed T2.cl (hr.mono (by decide)) (pv 1) (pa_cons pe_int (pa_cons (pv 4) pa_nil))) pa_nil))) pa_nil))))))))), ?_⟩
    walk_at "rd"
    refine ⟨x, dx, _, rfl, X1.ob, x, S, st, p, rfl, Dx, fun emp => ?_, fun nemp => ?_⟩
    · refine ⟨true, rfl, iteT ?_⟩
      walk_at "rd"
      have off := fin_fr Dx.can.fr emp
      refine ⟨x, C, dx, _, _, rfl, X1.ob, T2.cl, T2.nS, dsF_start, ?_⟩
      walk_at "rd"
      refine ⟨x, C, dx, _, _, rfl, X1.ob, T2.cl, T2.nH, dsF_head, ?_⟩
      walk_at "rd"
      refine ⟨y, dy, _, rfl, Y1.ob, dsF_no (by decide +kernel) (by decide +kernel) (by decide +kernel) (by decide +kernel), ?_⟩
      walk_at "rd"
      refine ⟨x, C, dx, _, _, rfl, X1.ob, T2.cl, T2.nH, dsF_head, ?_⟩
      walk_at "rd"
      refine ⟨y, hx, U, st', p', _, rfl, Dy, X1.hd, asc_els _ _ _, by omega, by omega, by omega, fun H1 q S1 hq hql => ?_⟩
      walk_at "rd"
      refine ⟨hx, q, _, _, rfl, S1.seq X1.hd, LI.new hql, by omega, Nat.lt_of_le_of_lt (List.length_filter_le _ _) (by omega), fun H2 l S2 hl2 hll => ?_⟩
      rw [els_less] at hll
      have S12 := S1.trans S2
      have off2 : ∀ d, st ≤ d → (fun d => S d && !U d) d = false := fun d hd => by show (S d && !U d) = false; rw [off d hd]; rfl
      rw [← els_off sx off2] at hll
      refine mk_tail (S := fun d => S d && !U d) (fr_off sx off2) (fun d hd => by rw [Dx.neg d hd]; rfl) (LI.new hll) (by rw [hll]; simp) (by omega) (by omega) fun H' z s'' p'' S5 D ss pp => ?_
      exact k H' z s'' p'' (S12.trans S5) (D.old S12) (by omega) (by omega)
    refine ⟨false, rfl, iteF ?_⟩
    walk_at "rd"
    refine ⟨x, y, S, U, st, p, st', p', rfl, Dx, Dy, by omega, by omega, fun H1 t S1 ht htt => ?_⟩
    refine ⟨t, _, rfl, SqT.of htt, rfl, ?_⟩
    walk_at "rd"
    refine ⟨x, dx, _, rfl, S1 _ _ X1.ob, dsF_no (by decide +kernel) (by decide +kernel) (by decide +kernel) (by decide +kernel), ?_⟩
    walk_at "rd"
    refine ⟨x, S, st, p, _, _, rfl, Dx.same S1, by omega, by omega, by omega, by omega, by omega, fun H2 q S2 hq hql => ?_⟩
    walk_at "rd"
    refine ⟨y, dy, _, rfl, S2 _ _ (S1 _ _ Y1.ob), dsF_no (by decide +kernel) (by decide +kernel) (by decide +kernel) (by decide +kernel), ?_⟩
    walk_at "rd"
    refine ⟨y, U, st', p', _, _, rfl, (Dy.same S1).same S2, by omega, by omega, by omega, by omega, by omega, fun H3 r S3 hr' hrl => ?_⟩
    walk_at "rd"
    have b1 := els_length_le S 0 (maxI st st' + lcmI p p')
    have b2 := els_length_le U 0 (maxI st st' + lcmI p p')
    refine ⟨q, r, _, _, rfl, LI.new (S3 _ _ hql), LI.new hrl, by omega, by omega, fun H4 l S4 hl4 hll => ?_⟩
    rw [els_minus] at hll
    have S14 := (((S1.trans S2).trans S3).trans S4)
    refine mk_tail (S := fun d => S d && !U d) (Dx.can.fr.both Dy.can.fr (fun a b => a && !b) mx.1 mx.2) (fun d hd => by rw [Dx.neg d hd]; rfl) (LI.new hll) (by rw [hll]; simp) (by omega) (by omega) fun H' z s'' p'' S5 D ss pp => ?_
    exact k H' z s'' p'' (S14.trans S5) (D.old S14) ss pp
end
end Cf
namespace Cf
open PySem L2
set_option hygiene false
local macro_rules | `(tactic| walk_at "len") => `(tactic| repeat (first | (obtain ⟨e, _⟩ := h; subst e; rfl; done) | (obtain ⟨_, h⟩ := h)))
local macro_rules | `(tactic| walk_at "rd") => `(tactic| repeat (first | refine ⟨_, rfl, ?_⟩ | refine ⟨_, _, rfl, rfl, ?_⟩ | refine ⟨rfl, ?_⟩ | refine ⟨_, _, rfl, ?_⟩))
local macro_rules | `(tactic| walk_at "yes") => `(tactic| (dsimp only [tYes]; rw [if_pos rfl]))
set_option hygiene true
section
variable {P : Program} {w : World} {K : PySem.W.Frag} {mg : Str → Option Value} {base : Heap}
theorem els_xor (S T : Int → Bool) (lo hi : Int) {ns : List Int} (asc : Asc ns) (h : ∀ d, d ∈ ns ↔ (d ∈ els S lo hi ∧ d ∉ els T lo hi) ∨ (d ∈ els T lo hi ∧ d ∉ els S lo hi)) : ns = els (fun d => S d != T d) lo hi := by
  refine asc_ext asc (asc_els _ _ _) fun d => ?_
  rw [h d, mem_els, mem_els, mem_els]
  cases S d <;> cases T d <;> simp
theorem scDsXor : FnScope ["self", "other", "start", "period", "end"] ["self", "other"] (defScope sDsXor) := ⟨rfl, rfl, rfl, by decide +kernel, rfl, by decide +kernel, by decide +kernel⟩
theorem ok_xor {f C : Addr} {fd : FuncData} (F : Fun K "__xor__" "DaySet.__xor__" sDsXor f fd) (T : Nm mg) (T2 : Txd K mg C) (D_common_frame : Df P w K mg base 3 "common_frame" ["one", "other"] [] (spCommonFrame K C)) (D_listed : Dm P w K mg base 2 C "_listed" ["self", "low", "high"] (spListed K C))
    (D_in_one : Df P w K mg base 2 "in_one" ["days", "others"] [] (spInOne K)) (D_init : Dmk P w K mg base 3 C ["self", "start", "period", "days"] (spInit K C)) : FnOk P w K mg base CX0 5 f fd ["self", "other"] (spBin K C fun a b => a != b) := by
  refine F.ok scDsXor (fun vs H Q E h => ?_) (fun cdv A outer s H vs Q E hr h => ?_)
  · walk_at "len"
  · obtain ⟨x, y, S, U, st, p, st', p', rfl, Dx, Dy, bd, k⟩ := h
    have nd := scDsXor.nd
    obtain ⟨dx, hx, cx, X1⟩ := id Dx
    obtain ⟨dy, hy, cy, Y1⟩ := id Dy
    have px := Dx.can.fr.p1
    have py := Dy.can.fr.p1
    have sx := Dx.can.fr.s0
    have sy := Dy.can.fr.s0
    have mx := @max_le st st'
    have lx := lcm_ge px py
    refine ⟨_, (pss_cons (ps_asg (pe_df D_common_frame (hr.mono (by decide)) (pa_cons (pv 0) (pa_cons (pv 1) pa_nil))) (pg_tup (by rfl) (pgs_cons (pg_name (i := 2) nd rfl (Or.inl rfl)) (pgs_cons (pg_name (i := 3) nd rfl (Or.inl rfl)) pgs_nil))))
      (pss_cons (ps_set (i := 4) nd rfl (Or.inl rfl) (pe_op op_add (pv 2) (pv 3)))
      (pss_one (ps_ret (pe_dmake D_init T2.mgC (hr.mono (by decide)) (pa_cons (pv 2) (pa_cons (pv 3) (pa_cons (pe_df D_in_one (hr.mono (by decide)) (pa_cons (pe_dm D_listed T2.cl (hr.mono (by decide)) (pv 0) (pa_cons pe_int (pa_cons (pv 4) pa_nil))) (pa_cons (pe_dm D_listed T2.cl (hr.mono (by decide)) (pv 1) (pa_cons pe_int (pa_cons (pv 4) pa_nil))) pa_nil))) pa_nil)))))))), ?_⟩
    walk_at "rd"
    refine ⟨x, y, S, U, st, p, st', p', rfl, Dx, Dy, by omega, by omega, fun H1 t S1 ht htt => ?_⟩
    refine ⟨t, _, rfl, SqT.of htt, rfl, ?_⟩
    walk_at "rd"
    refine ⟨x, dx, _, rfl, S1 _ _ X1.ob, dsF_no (by decide +kernel) (by decide +kernel) (by decide +kernel) (by decide +kernel), ?_⟩
    walk_at "rd"
    refine ⟨x, S, st, p, _, _, rfl, Dx.same S1, by omega, by omega, by omega, by omega, by omega, fun H2 q S2 hq hql => ?_⟩
    walk_at "rd"
    refine ⟨y, dy, _, rfl, S2 _ _ (S1 _ _ Y1.ob), dsF_no (by decide +kernel) (by decide +kernel) (by decide +kernel) (by decide +kernel), ?_⟩
    walk_at "rd"
    refine ⟨y, U, st', p', _, _, rfl, (Dy.same S1).same S2, by omega, by omega, by omega, by omega, by omega, fun H3 r S3 hr' hrl => ?_⟩
    walk_at "rd"
    have b1 := els_length_le S 0 (maxI st st' + lcmI p p')
    have b2 := els_length_le U 0 (maxI st st' + lcmI p p')
    refine ⟨q, r, _, _, rfl, LI.new (S3 _ _ hql), LI.new hrl, by omega, fun H4 l ns S4 hl4 hll asc mem => ?_⟩
    rw [els_xor S U 0 _ asc mem] at hll
    have S14 := (((S1.trans S2).trans S3).trans S4)
    refine mk_tail (S := fun d => S d != U d) (Dx.can.fr.both Dy.can.fr (fun a b => a != b) mx.1 mx.2) (fun d hd => by rw [Dx.neg d hd, Dy.neg d hd]; rfl) (LI.new hll) (by rw [hll]; simp) (by omega) (by omega) fun H' z s'' p'' S5 D ss pp => ?_
    exact k H' z s'' p'' (S14.trans S5) (D.old S14) ss pp
/-! ### truth, equality -/
def spBool (K : PySem.W.Frag) (C : Addr) : Sp := fun vs H Q _ => ∃ (x : Addr) (S : Int → Bool) (s p : Int), vs = [.ref x] ∧ Ds K C H x S s p ∧ ∀ b : Bool, (b = true ↔ ∃ d, S d = true) → Q (.bl b) H
theorem scDsBool : FnScope ["self"] ["self"] (defScope sDsBool) := ⟨rfl, rfl, rfl, by decide +kernel, rfl, by decide +kernel, by decide +kernel⟩
theorem some_day {S : Int → Bool} {s p : Int} (F : Fr S s p) (neg : ∀ d, d < 0 → S d = false) : (els S 0 s ≠ [] ∨ els S s (s + p) ≠ []) ↔ ∃ d, S d = true := by
  constructor
  · rintro (h | h)
    · obtain ⟨d, hd⟩ := List.exists_mem_of_ne_nil _ h
      exact ⟨d, (mem_els.mp hd).2⟩
    · obtain ⟨d, hd⟩ := List.exists_mem_of_ne_nil _ h
      exact ⟨d, (mem_els.mp hd).2⟩
  · rintro ⟨d, hd⟩
    have d0 : 0 ≤ d := by
      rcases Int.lt_or_le d 0 with z | z
      · rw [neg d z] at hd; cases hd
      · exact z
    by_cases c : d < s
    · exact .inl (List.ne_nil_of_mem (mem_els.mpr ⟨⟨d0, c⟩, hd⟩))
    · have p1 := F.p1
      have m0 := Int.emod_nonneg (d - s) (show p ≠ 0 by omega)
      have m1 := Int.emod_lt_of_pos (d - s) (show 0 < p by omega)
      refine .inr (List.ne_nil_of_mem (mem_els.mpr ⟨⟨?_, ?_⟩, (F.mod (by omega)).trans hd⟩ : s + (d - s) % p ∈ _)) <;> omega
theorem ok_bool {f C : Addr} {fd : FuncData} (F : Fun K "__bool__" "DaySet.__bool__" sDsBool f fd) (T : Nm mg) (T2 : Txd K mg C) : FnOk P w K mg base CX0 1 f fd ["self"] (spBool K C) := by
  refine F.ok scDsBool (fun vs H Q E h => ?_) (fun cdv A outer s H vs Q E hr h => ?_)
  · walk_at "len"
  · obtain ⟨x, S, st, p, rfl, ⟨dx, h, c, D⟩, k⟩ := h
    have sd := some_day D.can.fr D.neg
    refine ⟨_, (pss_one (ps_ret (pe_callTy call_boolL (by rfl) T.bool (by decide +kernel) (pa_cons (pe_orT (pe_fld (pv 0) rfl) (pe_one (pe_fld (pv 0) rfl))) pa_nil)))), ?_⟩
    walk_at "rd"
    refine ⟨x, C, dx, _, _, rfl, D.ob, T2.cl, T2.nH, dsF_head, ?_⟩
    refine ⟨_, .inl ⟨_, D.hd, rfl⟩, ?_⟩
    have fin : ∀ l : List Int, ((l ≠ []) ↔ ∃ d, S d = true) → Q (.bl (!(l.map V.int).isEmpty)) H := fun l hl => k _ (by
      rw [← hl]
      cases l <;> simp)
    cases eh : els S 0 st with
    | nil =>
      refine iteF ?_
      walk_at "rd"
      refine ⟨x, C, dx, _, _, rfl, D.ob, T2.cl, T2.nC, dsF_cycle, ?_⟩
      refine ⟨c, _, rfl, D.cy, fin _ ?_⟩
      rw [← sd, eh]; simp
    | cons y ys =>
      refine iteT ?_
      refine ⟨h, _, rfl, D.hd, fin _ ?_⟩
      rw [← sd, eh]; simp
def spEq (K : PySem.W.Frag) (C : Addr) : Sp := fun vs H Q _ => ∃ (x y : Addr) (S T : Int → Bool) (s p s' p' : Int), vs = [.ref x, .ref y] ∧ Ds K C H x S s p ∧ Ds K C H y T s' p' ∧ ∀ b : Bool, (b = true ↔ ∀ d, S d = T d) → Q (.bl b) H
theorem scDsEq : FnScope ["self", "other"] ["self", "other"] (defScope sDsEq) := ⟨rfl, rfl, rfl, by decide +kernel, rfl, by decide +kernel, by decide +kernel⟩
theorem ok_eq {f C : Addr} {fd : FuncData} (F : Fun K "__eq__" "DaySet.__eq__" sDsEq f fd) (T : Nm mg) (T2 : Txd K mg C) : FnOk P w K mg base CX0 1 f fd ["self", "other"] (spEq K C) := by
  refine F.ok scDsEq (fun vs H Q E h => ?_) (fun cdv A outer s H vs Q E hr h => ?_)
  · walk_at "len"
  · obtain ⟨x, y, S, U, st, p, st', p', rfl, ⟨dx, hx, cx, X1⟩, ⟨dy, hy, cy, Y1⟩, k⟩ := h
    have hu := hr.units
    have no : (∀ d, S d = U d) → st = st' ∧ p = p' := fun e => by
      have e2 : S = U := funext e
      subst e2
      exact X1.can.eq Y1.can
    refine ⟨_, (pss_one (ps_ret (pe_and (pe_callB call_isi (by rfl) T.isinstance (by decide +kernel) (pa_cons (pv 1) (pa_cons (pe_glob (v := .ref C) rfl T2.mgC rfl) pa_nil))) (pe_and (pe_cmpR op_eq (pe_fld (pv 0) rfl) (pe_fld (pv 1) rfl) (nomark _)) (pe_and (pe_cmpR op_eq (pe_fld (pv 0) rfl) (pe_fld (pv 1) rfl) (nomark _)) (pe_and (pe_cmpR (op_eqD hu) (pe_fld (pv 0) rfl) (pe_fld (pv 1) rfl) (nomark _)) (pe_one (pe_cmpR (op_eqD hu) (pe_fld (pv 0) rfl) (pe_fld (pv 1) rfl) (nomark _))))))))), ?_⟩
    walk_at "rd"
    refine ⟨_, _, _, _, true, rfl, .own C, T2.ty Y1.ob, T2.me, ?_⟩
    walk_at "rd"
    refine ⟨x, C, dx, _, _, rfl, X1.ob, T2.cl, T2.nS, dsF_start, ?_⟩
    walk_at "rd"
    refine ⟨y, C, dy, _, _, rfl, Y1.ob, T2.cl, T2.nS, dsF_start, ?_⟩
    walk_at "rd"
    rw [dec_int]
    refine ite2 (fun d => ?_) (fun d => ?_)
    · have e1 : st = st' := beq_iff_eq.mp d
      subst e1
      walk_at "rd"
      refine ⟨x, C, dx, _, _, rfl, X1.ob, T2.cl, T2.nP, dsF_period, ?_⟩
      walk_at "rd"
      refine ⟨y, C, dy, _, _, rfl, Y1.ob, T2.cl, T2.nP, dsF_period, ?_⟩
      walk_at "rd"
      rw [dec_int]
      refine ite2 (fun d2 => ?_) (fun d2 => ?_)
      · have e2 : p = p' := beq_iff_eq.mp d2
        subst e2
        walk_at "rd"
        refine ⟨x, C, dx, _, _, rfl, X1.ob, T2.cl, T2.nH, dsF_head, ?_⟩
        walk_at "rd"
        refine ⟨y, C, dy, _, _, rfl, Y1.ob, T2.cl, T2.nH, dsF_head, ?_⟩
        refine ⟨pdL _, pdL _, dpL X1.hd, dpL Y1.hd, shapedL _, shapedL _, ?_⟩
        rw [eqvL]
        walk_at "rd"
        refine ite2 (fun d3 => ?_) (fun d3 => ?_)
        · have e3 := of_decide_eq_true d3
          walk_at "rd"
          refine ⟨x, C, dx, _, _, rfl, X1.ob, T2.cl, T2.nC, dsF_cycle, ?_⟩
          walk_at "rd"
          refine ⟨y, C, dy, _, _, rfl, Y1.ob, T2.cl, T2.nC, dsF_cycle, ?_⟩
          refine ⟨pdL _, pdL _, dpL X1.cy, dpL Y1.cy, shapedL _, shapedL _, ?_⟩
          rw [eqvL]
          refine k _ ?_
          rw [decide_eq_true_iff]
          constructor
          · intro e4 d
            rcases Int.lt_or_le d 0 with z | z
            · rw [X1.neg d z, Y1.neg d z]
            · exact X1.can.fr.same Y1.can.fr e3 e4 z
          · intro e
            exact els_congr fun d _ _ => e d
        · refine k _ ⟨(fun z => by cases z), fun e => ?_⟩
          exact absurd (decide_eq_true (els_congr fun d _ _ => e d)) d3
      · refine k _ ⟨(fun z => by cases z), fun e => ?_⟩
        exact absurd (beq_iff_eq.mpr (no e).2) d2
    · refine k _ ⟨(fun z => by cases z), fun e => ?_⟩
      exact absurd (beq_iff_eq.mpr (no e).1) d
end
end Cf
namespace Cf
open PySem L2
set_option hygiene false
local macro_rules | `(tactic| walk_at "len") => `(tactic| repeat (first | (obtain ⟨e, _⟩ := h; subst e; rfl; done) | (obtain ⟨_, h⟩ := h)))
local macro_rules | `(tactic| walk_at "rd") => `(tactic| repeat (first | refine ⟨_, rfl, ?_⟩ | refine ⟨_, _, rfl, rfl, ?_⟩ | refine ⟨rfl, ?_⟩ | refine ⟨_, _, rfl, ?_⟩))
local macro_rules | `(tactic| walk_at "yes") => `(tactic| (dsimp only [tYes]; rw [if_pos rfl]))
set_option hygiene true
section
variable {P : Program} {w : World} {K : PySem.W.Frag} {mg : Str → Option Value} {base : Heap}
/-! ### numbers of days -/
def spDayAt (K : PySem.W.Frag) (C : Addr) : Sp := fun vs H Q _ => ∃ (x : Addr) (S : Int → Bool) (s p : Int) (i : Nat), vs = [.ref x, .int i] ∧ Ds K C H x S s p ∧ Val S s p i ∧ s < 1000000 ∧ p < 1000000 ∧ ∀ H', Same H H' → Q (.int (dAt S s p i)) H'
theorem scDsDayAt : FnScope ["self", "number", "many"] ["self", "number"] (defScope sDsDayAt) := ⟨rfl, rfl, rfl, by decide +kernel, rfl, by decide +kernel, by decide +kernel⟩
theorem ok_day_at {f C : Addr} {fd : FuncData} (F : Fun K "_day_at" "DaySet._day_at" sDsDayAt f fd) (T : Nm mg) (T2 : Txd K mg C) (D_cycle_day : Df P w K mg base 1 "cycle_day" ["period", "cycle", "number"] [] (spCycleDay K)) : FnOk P w K mg base CX0 2 f fd ["self", "number"] (spDayAt K C) := by
  refine F.ok scDsDayAt (fun vs H Q E h => ?_) (fun cdv A outer s H vs Q E hr h => ?_)
  · walk_at "len"
  · obtain ⟨x, S, st, p, i, rfl, ⟨dx, h, c, D⟩, v, sb, pb, k⟩ := h
    have nd := scDsDayAt.nd
    have p1 := D.can.fr.p1
    have lc := els_length_le S st (st + p)
    refine ⟨_, (pss_cons (ps_set (i := 2) nd rfl (Or.inl rfl) (pe_callB call_len_seq (by rfl) T.len (by decide +kernel) (pa_cons (pe_fld (pv 0) rfl) pa_nil)))
      (pss_cons (ps_if (pt_cmpR op_lt (pv 1) (pv 2) (nomark _))
        (pss_one (ps_ret (pe_ix ix_list (pe_fld (pv 0) rfl) (pv 1) (fun _ _ => rfl))))
        pss_nil)
      (pss_one (ps_ret (pe_df D_cycle_day (hr.mono (by decide)) (pa_cons (pe_fld (pv 0) rfl) (pa_cons (pe_fld (pv 0) rfl) (pa_cons (pe_op op_sub (pv 1) (pv 2)) pa_nil)))))))), ?_⟩
    walk_at "rd"
    refine ⟨x, C, dx, _, _, rfl, D.ob, T2.cl, T2.nH, dsF_head, ?_⟩
    walk_at "rd"
    refine ⟨h, _, rfl, .inl D.hd, ?_⟩
    rw [List.length_map]
    walk_at "rd"
    refine ite2 (fun d => ?_) (fun d => ?_)
    · have d' : i < (els S 0 st).length := by have := of_decide_eq_true d; omega
      walk_at "rd"
      refine ⟨x, C, dx, _, _, rfl, D.ob, T2.cl, T2.nH, dsF_head, ?_⟩
      walk_at "rd"
      refine ⟨h, _, _, _, rfl, rfl, D.hd, atI_int (by omega) (by omega), ?_⟩
      have e : dAt S st p i = (els S 0 st).getD i 0 := by unfold dAt; rw [if_pos d']
      rw [Int.toNat_natCast, ← e]
      exact k H (Same.refl H)
    · have d' : ¬ i < (els S 0 st).length := fun q => d (decide_eq_true (by omega))
      have hc := v.resolve_left d'
      walk_at "rd"
      refine ⟨x, C, dx, _, _, rfl, D.ob, T2.cl, T2.nP, dsF_period, ?_⟩
      walk_at "rd"
      refine ⟨x, C, dx, _, _, rfl, D.ob, T2.cl, T2.nC, dsF_cycle, ?_⟩
      walk_at "rd"
      have e : dAt S st p i = cdy p (els S st (st + p)) ((i : Int) - (els S 0 st).length) := by unfold dAt; rw [if_neg d', show ((i - (els S 0 st).length : Nat) : Int) = (i : Int) - (els S 0 st).length by omega]
      rw [e] at k
      exact ⟨p, c, _, _, rfl, D.cy, List.length_pos_iff.mpr hc, by omega, by omega, by omega, k⟩
def spCountBefore (K : PySem.W.Frag) (C : Addr) : Sp := fun vs H Q _ => ∃ (x : Addr) (S : Int → Bool) (s p day : Int), vs = [.ref x, .int day] ∧ Ds K C H x S s p ∧ s < 1000000 ∧ p < 1000000 ∧ ∀ (H' : Hp) (c : Nat), Same H H' → Rk S s p day c → (els S s (s + p) = [] → c ≤ (els S 0 s).length) → Q (.int c) H'
theorem scDsCountBefore : FnScope ["self", "day", "turns", "rest", "repeated"] ["self", "day"] (defScope sDsCountBefore) := ⟨rfl, rfl, rfl, by decide +kernel, rfl, by decide +kernel, by decide +kernel⟩
theorem ok_count_before {f C : Addr} {fd : FuncData} (F : Fun K "_count_before" "DaySet._count_before" sDsCountBefore f fd) (T : Nm mg) (T2 : Txd K mg C) (D_place_of : Df P w K mg base 1 "place_of" ["days", "bound"] [] (spPlaceOf K)) : FnOk P w K mg base CX0 2 f fd ["self", "day"] (spCountBefore K C) := by
  refine F.ok scDsCountBefore (fun vs H Q E h => ?_) (fun cdv A outer s H vs Q E hr h => ?_)
  · walk_at "len"
  · obtain ⟨x, S, st, p, day, rfl, ⟨dx, h, c, D⟩, sb, pb, k⟩ := h
    have nd := scDsCountBefore.nd
    have F0 := D.can.fr
    have p1 := F0.p1
    have lc := els_length_le S st (st + p)
    refine ⟨_, (pss_cons (ps_if (pt_cmpR op_le (pv 1) (pe_fld (pv 0) rfl) (nomark _))
        (pss_one (ps_ret (pe_df D_place_of (hr.mono (by decide)) (pa_cons (pe_fld (pv 0) rfl) (pa_cons (pv 1) pa_nil)))))
        pss_nil)
      (pss_cons (ps_asg (pe_callB call_divmod (by rfl) T.divmod (by decide +kernel) (pa_cons (pe_op op_sub (pv 1) (pe_fld (pv 0) rfl)) (pa_cons (pe_fld (pv 0) rfl) pa_nil))) (pg_tup (by rfl) (pgs_cons (pg_name (i := 2) nd rfl (Or.inl rfl)) (pgs_cons (pg_name (i := 3) nd rfl (Or.inl rfl)) pgs_nil))))
      (pss_cons (ps_set (i := 4) nd rfl (Or.inl rfl) (pe_op op_add (pe_op op_mul (pv 2) (pe_callB call_len_seq (by rfl) T.len (by decide +kernel) (pa_cons (pe_fld (pv 0) rfl) pa_nil))) (pe_df D_place_of (hr.mono (by decide)) (pa_cons (pe_fld (pv 0) rfl) (pa_cons (pe_op op_add (pe_fld (pv 0) rfl) (pv 3)) pa_nil)))))
      (pss_one (ps_ret (pe_op op_add (pe_callB call_len_seq (by rfl) T.len (by decide +kernel) (pa_cons (pe_fld (pv 0) rfl) pa_nil)) (pv 4))))))), ?_⟩
    walk_at "rd"
    refine ⟨x, C, dx, _, _, rfl, D.ob, T2.cl, T2.nS, dsF_start, ?_⟩
    walk_at "rd"
    refine ite2 (fun d => ?_) (fun d => ?_)
    · have d' : day ≤ st := of_decide_eq_true d
      walk_at "rd"
      refine ⟨x, C, dx, _, _, rfl, D.ob, T2.cl, T2.nH, dsF_head, ?_⟩
      walk_at "rd"
      refine ⟨h, _, day, rfl, D.hd, asc_els _ _ _, ?_⟩
      exact k H _ (Same.refl H) (rk_head F0 d') (fun _ => cnt_le _ _)
    · have d' : st < day := by
        have : ¬ day ≤ st := fun q => d (decide_eq_true q)
        omega
      walk_at "rd"
      refine ⟨x, C, dx, _, _, rfl, D.ob, T2.cl, T2.nS, dsF_start, ?_⟩
      walk_at "rd"
      refine ⟨x, C, dx, _, _, rfl, D.ob, T2.cl, T2.nP, dsF_period, ?_⟩
      refine ⟨day - st, p, rfl, ⟨by omega, by omega⟩, fun t ht => ?_⟩
      have S1 := Same.new (o := .tup [.int ((day - st) / p), .int ((day - st) % p)]) ht
      refine ⟨t, _, rfl, SqT.of upd_same, rfl, ?_⟩
      walk_at "rd"
      refine ⟨x, C, dx, _, _, rfl, S1 _ _ D.ob, T2.cl, T2.nC, dsF_cycle, ?_⟩
      walk_at "rd"
      refine ⟨c, _, rfl, .inl (S1.seq D.cy), ?_⟩
      rw [List.length_map]
      walk_at "rd"
      refine ⟨.inr ⟨by show -18446744073709551616 < ((els S st (st + p)).length : Int); omega, by show ((els S st (st + p)).length : Int) < 18446744073709551616; omega⟩, ?_⟩
      walk_at "rd"
      refine ⟨x, C, dx, _, _, rfl, S1 _ _ D.ob, T2.cl, T2.nC, dsF_cycle, ?_⟩
      walk_at "rd"
      refine ⟨x, C, dx, _, _, rfl, S1 _ _ D.ob, T2.cl, T2.nS, dsF_start, ?_⟩
      walk_at "rd"
      refine ⟨c, _, _, rfl, S1.seq D.cy, asc_els _ _ _, ?_⟩
      walk_at "rd"
      refine ⟨x, C, dx, _, _, rfl, S1 _ _ D.ob, T2.cl, T2.nH, dsF_head, ?_⟩
      walk_at "rd"
      refine ⟨h, _, rfl, .inl (S1.seq D.hd), ?_⟩
      rw [List.length_map]
      walk_at "rd"
      have t0 : 0 ≤ (day - st) / p := Int.ediv_nonneg (by omega) (by omega)
      have e : ((els S 0 st).length : Int) + ((day - st) / p * ((els S st (st + p)).length : Int) + (cnt (els S st (st + p)) (st + (day - st) % p) : Int)) = (((els S 0 st).length + (((day - st) / p).toNat * (els S st (st + p)).length + cnt (els S st (st + p)) (st + (day - st) % p)) : Nat) : Int) := by
        rw [Int.natCast_add, Int.natCast_add, Int.natCast_mul, Int.toNat_of_nonneg t0]
      show Q (V.int (((els S 0 st).length : Int) + ((day - st) / p * ((els S st (st + p)).length : Int) + (cnt (els S st (st + p)) (st + (day - st) % p) : Int)))) _
      rw [e]
      refine k _ _ S1 (rk_tail F0 d') fun emp => ?_
      rw [emp]
      simp [cnt]
end
end Cf
namespace Cf
open PySem L2
set_option hygiene false
local macro_rules | `(tactic| walk_at "len") => `(tactic| repeat (first | (obtain ⟨e, _⟩ := h; subst e; rfl; done) | (obtain ⟨_, h⟩ := h)))
local macro_rules | `(tactic| walk_at "rd") => `(tactic| repeat (first | refine ⟨_, rfl, ?_⟩ | refine ⟨_, _, rfl, rfl, ?_⟩ | refine ⟨rfl, ?_⟩ | refine ⟨_, _, rfl, ?_⟩))
local macro_rules | `(tactic| walk_at "yes") => `(tactic| (dsimp only [tYes]; rw [if_pos rfl]))
set_option hygiene true
section
variable {P : Program} {w : World} {K : PySem.W.Frag} {mg : Str → Option Value} {base : Heap}
def spIsNum : Sp := fun vs H Q _ => ∃ n : Int, vs = [.int n] ∧ Q (.bl true) H
theorem scIsNumber : FnScope ["value"] ["value"] (defScope sIsNumber) := ⟨rfl, rfl, rfl, by decide +kernel, rfl, by decide +kernel, by decide +kernel⟩
theorem ok_isnum {f : Addr} {fd : FuncData} (F : Fun K "is_number" "is_number" sIsNumber f fd) (T : Nm mg) : FnOk P w K mg base CX0 1 f fd ["value"] spIsNum := by
  refine F.ok scIsNumber (fun vs H Q E h => ?_) (fun cdv A outer s H vs Q E hr h => ?_)
  · obtain ⟨n, rfl, _⟩ := h
    rfl
  · obtain ⟨n, rfl, k⟩ := h
    refine ⟨_, pss_one (ps_ret (pe_and (pe_callB call_isi (by rfl) T.isinstance (by decide +kernel) (pa_cons (pv 0) (pa_cons (pe_bltn (v := .ty "int") (by rfl) T.int (by decide +kernel) rfl) pa_nil)))
      (pe_one (pe_not (pe_callB call_isi (by rfl) T.isinstance (by decide +kernel) (pa_cons (pv 0) (pa_cons (pe_bltn (v := .ty "bool") (by rfl) T.bool (by decide +kernel) rfl) pa_nil))))))), ?_⟩
    refine ⟨_, rfl, _, _, _, _, true, rfl, .ty "int", .base (.int _), kit_ty (by decide +kernel), true, rfl, iteT ?_⟩
    exact ⟨_, rfl, _, _, _, _, false, rfl, .ty "bool", .base (.int _), kit_ty (by decide +kernel), false, rfl, k⟩
def spCheck : Sp := fun vs H Q _ => ∃ n : Int, vs = [.int n, .non] ∧ Q .non H
theorem scCheckNumber : FnScope ["value", "least"] ["value", "least"] (defScope sCheckNumber) := ⟨rfl, rfl, rfl, by decide +kernel, rfl, by decide +kernel, by decide +kernel⟩
theorem ok_check {dV : List V} {f : Addr} {fd : FuncData} (F : FunD K "check_number" "check_number" (defArgs sCheckNumber) (defBody sCheckNumber) (defScope sCheckNumber) dV [] f fd) (DN : Df P w K mg base 1 "is_number" ["value"] [] spIsNum) :
    FnOk P w K mg base CX0 2 f fd ["value", "least"] spCheck := by
  refine F.ok scCheckNumber (fun vs H Q E h => ?_) (fun cdv A outer s H vs Q E hr h => ?_)
  · obtain ⟨n, rfl, _⟩ := h
    rfl
  · obtain ⟨n, rfl, k⟩ := h
    refine ⟨_, PSs.nox (pss_one (ps_if (PW.pt (pw_or (pt_not (pt_val (pe_df DN hr (pa_cons (pv 0) pa_nil)))) (pw_or1 (PW.pt (pw_and (pt_cmpR op_notN (pv 1) pe_non (nomark _)) (pw_and1 (pt_cmpR op_lt (pv 0) (pv 1) (nomark _))))))))
      (pss_one ps_never) pss_nil)), ?_⟩
    refine ⟨_, rfl, n, rfl, true, rfl, iteF ?_⟩
    exact ⟨_, rfl, rfl, false, rfl, iteF (iteF k)⟩
end
section
variable {P : Program} {w : World} {K : PySem.W.Frag} {mg : Str → Option Value} {base : Heap}
/-- a number not below the least one -/
def spCheckL : Sp := fun vs H Q _ => ∃ n m : Int, vs = [.int n, .int m] ∧ m ≤ n ∧ Q .non H
theorem ok_checkL {dV : List V} {f : Addr} {fd : FuncData} (F : FunD K "check_number" "check_number" (defArgs sCheckNumber) (defBody sCheckNumber) (defScope sCheckNumber) dV [] f fd) (DN : Df P w K mg base 1 "is_number" ["value"] [] spIsNum) :
    FnOk P w K mg base CX0 2 f fd ["value", "least"] spCheckL := by
  refine F.ok scCheckNumber (fun vs H Q E h => ?_) (fun cdv A outer s H vs Q E hr h => ?_)
  · obtain ⟨n, m, rfl, _⟩ := h
    rfl
  · obtain ⟨n, m, rfl, hm, k⟩ := h
    refine ⟨_, PSs.nox (pss_one (ps_if (PW.pt (pw_or (pt_not (pt_val (pe_df DN hr (pa_cons (pv 0) pa_nil)))) (pw_or1 (PW.pt (pw_and (pt_cmpR op_notN (pv 1) pe_non (nomark _)) (pw_and1 (pt_cmpR op_lt (pv 0) (pv 1) (nomark _))))))))
      (pss_one ps_never) pss_nil)), ?_⟩
    refine ⟨_, rfl, n, rfl, true, rfl, iteF ?_⟩
    exact ⟨_, rfl, rfl, true, rfl, iteT ⟨_, rfl, _, rfl, _, _, rfl, rfl, _, rfl, iteFF (by simpa using hm) k⟩⟩
end
section
variable {P : Program} {w : World} {K : PySem.W.Frag} {mg : Str → Option Value} {base : Heap}
/-! ### next_from, the first days apart -/
def spNext (K : PySem.W.Frag) (C : Addr) : Sp := fun vs H Q _ => ∃ (x : Addr) (S : Int → Bool) (s p day : Int), vs = [.ref x, .int day] ∧ Ds K C H x S s p ∧ s < 1000000 ∧ p < 1000000 ∧
  (∀ H', Same H H' → (∀ d, day ≤ d → S d = false) → Q .non H') ∧ (∀ (H' : Hp) (d : Int), Same H H' → day ≤ d → S d = true → (∀ e, day ≤ e → e < d → S e = false) → Q (.int d) H')
theorem scDsNextFrom : FnScope ["self", "day", "number"] ["self", "day"] (defScope sDsNextFrom) := ⟨rfl, rfl, rfl, by decide +kernel, rfl, by decide +kernel, by decide +kernel⟩
theorem ok_next_from {f C : Addr} {fd : FuncData} (F : Fun K "next_from" "DaySet.next_from" sDsNextFrom f fd) (T : Nm mg) (T2 : Txd K mg C) (D_check_number : Df P w K mg base 2 "check_number" ["value", "least"] [.non] spCheck) (D_count_before : Dm P w K mg base 2 C "_count_before" ["self", "day"] (spCountBefore K C)) (D_day_at : Dm P w K mg base 2 C "_day_at" ["self", "number"] (spDayAt K C)) :
    FnOk P w K mg base CX0 3 f fd ["self", "day"] (spNext K C) := by
  refine F.ok scDsNextFrom (fun vs H Q E h => ?_) (fun cdv A outer s H vs Q E hr h => ?_)
  · walk_at "len"
  · obtain ⟨x, S, st, p, day, rfl, Dx, sb, pb, kn, ks⟩ := h
    obtain ⟨dx, h, c, D⟩ := id Dx
    have nd := scDsNextFrom.nd
    have F0 := D.can.fr
    refine ⟨_, (pss_cons (ps_expr (pe_df D_check_number (hr.mono (by decide)) (pa_cons (pv 1) pa_nil)))
      (pss_cons (ps_set (i := 2) nd rfl (Or.inl rfl) (pe_dm D_count_before T2.cl (hr.mono (by decide)) (pv 0) (pa_cons (pv 1) pa_nil)))
      (pss_cons (ps_if (PW.pt (pw_and (pt_not (pt_truth (pe_fld (pv 0) rfl) (fun _ => rfl))) (pw_and1 (pt_cmpR op_eq (pv 2) (pe_callB call_len_seq (by rfl) T.len (by decide +kernel) (pa_cons (pe_fld (pv 0) rfl) pa_nil)) (nomark _)))))
        (pss_one (ps_ret pe_non))
        pss_nil)
      (pss_one (ps_ret (pe_dm D_day_at T2.cl (hr.mono (by decide)) (pv 0) (pa_cons (pv 2) pa_nil))))))), ?_⟩
    walk_at "rd"
    refine ⟨x, dx, _, rfl, D.ob, dsF_no (by decide +kernel) (by decide +kernel) (by decide +kernel) (by decide +kernel), ?_⟩
    walk_at "rd"
    refine ⟨x, S, st, p, day, rfl, Dx, sb, pb, fun H1 cc S1 rk fin => ?_⟩
    walk_at "rd"
    have some_ : ∀ v : Val S st p cc, tMeth C "_day_at" (spDayAt K C) [] E0 (tVar 0) (tCons (tVar 2) tNil) [some (.ref x), some (.int day), some (.int cc)] H1 Q := fun v => by
      refine ⟨_, rfl, x, dx, _, rfl, S1 _ _ D.ob, dsF_no (by decide +kernel) (by decide +kernel) (by decide +kernel) (by decide +kernel), ?_⟩
      walk_at "rd"
      refine ⟨x, S, st, p, cc, rfl, Dx.same S1, v, sb, pb, fun H2 S2 => ?_⟩
      refine ks H2 _ (S1.trans S2) (rk.hi cc (Nat.le_refl _) v) (dAt_mem F0 v).1 fun e h1 h2 => ?_
      cases q : S e with
      | false => rfl
      | true =>
        exfalso
        have e0 : 0 ≤ e := by
          rcases Int.lt_or_le e 0 with z | z
          · rw [D.neg e z] at q; cases q
          · exact z
        obtain ⟨i, vi, ei⟩ := dAt_all F0 q e0
        rcases Nat.lt_or_ge i cc with z | z
        · have := (rk.lo i z).2; omega
        · rcases Nat.lt_or_ge cc i with y | y
          · have := dAt_lt F0 y vi; omega
          · have : i = cc := by omega
            subst this; omega
    refine ⟨x, C, dx, _, _, rfl, S1 _ _ D.ob, T2.cl, T2.nC, dsF_cycle, ?_⟩
    refine ⟨_, .inl ⟨_, S1.seq D.cy, rfl⟩, ?_⟩
    cases ec : els S st (st + p) with
    | nil =>
      refine iteT ?_
      walk_at "rd"
      refine ⟨x, C, dx, _, _, rfl, S1 _ _ D.ob, T2.cl, T2.nH, dsF_head, ?_⟩
      walk_at "rd"
      refine ⟨h, _, rfl, .inl (S1.seq D.hd), ?_⟩
      rw [List.length_map]
      walk_at "rd"
      rw [dec_int]
      refine ite2 (fun d => ?_) (fun d => ?_)
      · have d' : cc = (els S 0 st).length := by have := beq_iff_eq.mp d; omega
        walk_at "rd"
        refine kn H1 S1 fun e he => ?_
        cases q : S e with
        | false => rfl
        | true =>
          exfalso
          have e0 : 0 ≤ e := by
            rcases Int.lt_or_le e 0 with z | z
            · rw [D.neg e z] at q; cases q
            · exact z
          obtain ⟨i, vi, ei⟩ := dAt_all F0 q e0
          have il : i < (els S 0 st).length := vi.resolve_right (fun z => z ec)
          have := (rk.lo i (by omega)).2
          omega
      · have d' : ¬ cc = (els S 0 st).length := fun q => d (beq_iff_eq.mpr (by omega))
        have := fin ec
        exact some_ (.inl (by omega))
    | cons y ys =>
      refine iteF ?_
      exact some_ (.inr (by rw [ec]; simp))
end
end Cf
namespace Cf
open PySem L2
set_option hygiene false
local macro_rules | `(tactic| walk_at "len") => `(tactic| repeat (first | (obtain ⟨e, _⟩ := h; subst e; rfl; done) | (obtain ⟨_, h⟩ := h)))
local macro_rules | `(tactic| walk_at "rd") => `(tactic| repeat (first | refine ⟨_, rfl, ?_⟩ | refine ⟨_, _, rfl, rfl, ?_⟩ | refine ⟨rfl, ?_⟩ | refine ⟨_, _, rfl, ?_⟩))
local macro_rules | `(tactic| walk_at "yes") => `(tactic| (dsimp only [tYes]; rw [if_pos rfl]))
set_option hygiene true
section
variable {P : Program} {w : World} {K : PySem.W.Frag} {mg : Str → Option Value} {base : Heap}
/-! ### pattern -/
def spPattern (K : PySem.W.Frag) (C : Addr) : Sp := fun vs H Q _ => ∃ (a b : Addr) (hb cb : List Bool), vs = [.ref C, .ref a, .ref b] ∧ H a = some (.lst (hb.map V.bl)) ∧ H b = some (.lst (cb.map V.bl)) ∧ cb ≠ [] ∧ hb.length + cb.length < 100000 ∧
  ∀ (H' : Hp) (x : Addr) (s p : Int), Same H H' → Dn K C H H' x (patS hb cb) s p → s ≤ hb.length → p ≤ cb.length → Q (.ref x) H'
theorem scDsPattern : FnScope ["cls", "head", "cycle", "truths", "day", "truth"] ["cls", "head", "cycle"] (defScope sDsPattern) := ⟨rfl, rfl, rfl, by decide +kernel, rfl, by decide +kernel, by decide +kernel⟩
theorem ok_pattern {f C : Addr} {fd : FuncData} (F : Fun K "pattern" "DaySet.pattern" sDsPattern f fd) (T : Nm mg) (T2 : Txd K mg C) (D_is_truth_list : Df P w K mg base 1 "is_truth_list" ["value"] [] (spTruthList K)) (D_init : Dmk P w K mg base 3 C ["self", "start", "period", "days"] (spInit K C)) : FnOk P w K mg base CX0 5 f fd ["cls", "head", "cycle"] (spPattern K C) := by
  refine F.ok scDsPattern (fun vs H Q E h => ?_) (fun cdv A outer s H vs Q E hr h => ?_)
  · walk_at "len"
  · obtain ⟨a, b, hb, cb, rfl, ha, hbb, ne, sz, k⟩ := h
    have nd := scDsPattern.nd
    refine ⟨_, PSs.nox (pss_cons (ps_if (pt_not (pt_val (pe_df D_is_truth_list (hr.mono (by decide)) (pa_cons (pv 1) pa_nil))))
        (pss_one ps_never)
        pss_nil)
      (pss_cons (ps_if (PW.pt (pw_or (pt_not (pt_val (pe_df D_is_truth_list (hr.mono (by decide)) (pa_cons (pv 2) pa_nil)))) (pw_or1 (pt_not (pt_truth (pv 2) (fun _ => rfl))))))
        (pss_one ps_never)
        pss_nil)
      (pss_cons (ps_set (i := 3) nd rfl (Or.inl rfl) (pe_lst (StX.pa_star (pv 1) (StX.pa_star (pv 2) pa_nil))))
      (pss_one (ps_ret (pe_dmakeL (i := 0) D_init (hr.mono (by decide)) rfl (.inl rfl) (pa_cons (pe_callB call_len_seq (by rfl) T.len (by decide +kernel) (pa_cons (pv 1) pa_nil)) (pa_cons (pe_callB call_len_seq (by rfl) T.len (by decide +kernel) (pa_cons (pv 2) pa_nil)) (pa_cons (pe_lc (own := [("day", 4), ("truth", 5)]) (g := (gTup K 2 (gCons (gName 4) (gCons (gName 5) gNil)))) rfl nd (pi_enum (by rfl) T.enumerate (pa_cons (pv 3) pa_nil)) (blkOk_by (N := ["cls", "head", "cycle", "truths", "day", "truth"]) (sc := defScope sDsPattern) (by decide +kernel)) (fun _ _ _ _ _ => pg_tup (by rfl) (pgs_cons (pg_name (i := 4) nd rfl (Or.inl rfl)) (pgs_cons (pg_name (i := 5) nd rfl (Or.inl rfl)) pgs_nil))) (fun _ _ _ _ _ => (pts_one (pt_val (pv 5)))) (fun _ _ _ _ _ => (pv 4))) pa_nil))))))))), ?_⟩
    walk_at "rd"
    refine ⟨a, hb, rfl, ha, by omega, fun H1 S1 => ?_⟩
    walk_at "rd"
    refine ⟨b, cb, rfl, S1 _ _ hbb, by omega, fun H2 S2 => ?_⟩
    walk_at "rd"
    have S12 := S1.trans S2
    have hb2 : SqL K H2 b (cb.map V.bl) := SqL.of (S12 _ _ hbb)
    have ha2 : SqL K H2 a (hb.map V.bl) := SqL.of (S12 _ _ ha)
    refine ⟨_, .inl ⟨_, hb2, rfl⟩, ?_⟩
    have nn : (cb.map V.bl).isEmpty = false := by cases cb with
      | nil => exact absurd rfl ne
      | cons y ys => rfl
    rw [nn]
    refine iteF ?_
    walk_at "rd"
    refine ⟨a, _, rfl, .inr ha2, ?_⟩
    walk_at "rd"
    refine ⟨b, _, rfl, .inr hb2, ?_⟩
    have tl : (hb.map V.bl ++ (cb.map V.bl ++ [])).length ≤ sizeLine := by
      rw [List.append_nil, List.length_append, List.length_map, List.length_map]; exact szle (by omega)
    refine ⟨tl, fun L hL => ?_⟩
    rw [List.append_nil, ← List.map_append]
    have S3 := S12.step (o := .lst ((hb ++ cb).map V.bl)) hL
    have hL3 : SqL K (upd H2 L (.lst ((hb ++ cb).map V.bl))) L ((hb ++ cb).map V.bl) := SqL.of upd_same
    have hb3 : SqL K (upd H2 L (.lst ((hb ++ cb).map V.bl))) b (cb.map V.bl) := (Same.new hL).seq hb2
    have ha3 : SqL K (upd H2 L (.lst ((hb ++ cb).map V.bl))) a (hb.map V.bl) := (Same.new hL).seq ha2
    generalize upd H2 L (.lst ((hb ++ cb).map V.bl)) = H3 at S3 hL3 hb3 ha3
    refine ⟨rfl, ?_⟩
    walk_at "rd"
    refine ⟨a, _, rfl, .inl ha3, ?_⟩
    walk_at "rd"
    refine ⟨b, _, rfl, .inl hb3, ?_⟩
    walk_at "rd"
    refine ⟨L, _, rfl, hL3, fun D hD => ?_⟩
    refine it_enum (K := K) (a := L) (xs := (hb ++ cb).map V.bl) (fun i H' => Same H3 H' ∧ H' D = some (.lst ((els (patS hb cb) 0 (i : Int)).map V.int)))
      ⟨Same.new hD, by rw [upd_same, els_nil _ (by decide)]; rfl⟩ (fun i H' _ ⟨s1, _⟩ => s1.seq hL3) ?_ ?_
    · rintro i y T' H' hi ⟨s1, hDl⟩ hT
      obtain ⟨z, hz, rfl⟩ : ∃ z, (hb ++ cb)[i]? = some z ∧ y = V.bl z := by
        rw [List.getElem?_map] at hi
        cases e : (hb ++ cb)[i]? with
        | none => rw [e] at hi; cases hi
        | some z => rw [e] at hi; exact ⟨z, rfl, (Option.some.inj hi).symm⟩
      have il := lt_of_get hz
      have pz : patS hb cb (i : Int) = z := by rw [patS_at hb cb il, List.getD_eq_getElem?_getD, hz]; rfl
      have nDT : D ≠ T' := ne_of_none hDl hT
      have lz := els_length_le (patS hb cb) 0 (i : Int)
      rw [List.length_append] at il
      refine ⟨T', _, rfl, SqT.of upd_same, rfl, ?_⟩
      walk_at "rd"
      have nx := els_nat_succ (patS hb cb) i
      rw [pz] at nx
      cases z with
      | true =>
        refine iteT ?_
        walk_at "rd"
        rw [if_pos rfl] at nx
        exact acc_step (s1.step hT) hD (by rw [upd_ne nDT]; exact hDl) (by rw [List.length_map]; exact szl (by omega)) (by rw [nx, List.map_append]; rfl)
      | false =>
        refine iteF ?_
        rw [if_neg (by decide)] at nx
        exact ⟨s1.step hT, by rw [upd_ne nDT, hDl, nx]⟩
    · rintro H' ⟨s1, hDl⟩
      rw [List.length_map, List.length_append, Int.natCast_add] at hDl
      have F := patS_fr hb cb ne
      rw [List.length_map, List.length_map]
      have S4 := S3.trans s1
      refine mk_tail (S := patS hb cb) F (patS_neg hb cb) (LI.new hDl) (by rw [hDl]; simp) (by omega) (by omega) fun H5 z s'' p'' S5 Dz ss pp => ?_
      exact k H5 z s'' p'' (S4.trans S5) (Dz.old S4) ss pp

end
end Cf
namespace Cf
open PySem L2
set_option hygiene false
local macro_rules | `(tactic| walk_at "len") => `(tactic| repeat (first | (obtain ⟨e, _⟩ := h; subst e; rfl; done) | (obtain ⟨_, h⟩ := h)))
local macro_rules | `(tactic| walk_at "rd") => `(tactic| repeat (first | refine ⟨_, rfl, ?_⟩ | refine ⟨_, _, rfl, rfl, ?_⟩ | refine ⟨rfl, ?_⟩ | refine ⟨_, _, rfl, ?_⟩))
local macro_rules | `(tactic| walk_at "yes") => `(tactic| (dsimp only [tYes]; rw [if_pos rfl]))
set_option hygiene true
section
variable {P : Program} {w : World} {K : PySem.W.Frag} {mg : Str → Option Value} {base : Heap}
/-! ### following -/
def spFollowers (K : PySem.W.Frag) : Sp := fun vs H Q _ => ∃ (a b : Addr) (S T : Int → Bool) (hi : Int), vs = [.ref a, .ref b] ∧ LI K H a (els S 0 hi) ∧ LI K H b (els T 0 hi) ∧ 0 ≤ hi ∧ hi < 1000000 ∧
  ∀ (H' : Hp) (q : Addr), Same H H' → H q = none → H' q = some (.lst ((els (folS S T) 0 hi).map V.int)) → Q (.ref q) H'
theorem scFollowers : FnScope ["days", "others", "found", "at", "day", "passed"] ["days", "others"] (defScope sFollowers) := ⟨rfl, rfl, rfl, by decide +kernel, rfl, by decide +kernel, by decide +kernel⟩
set_option maxHeartbeats 1000000 in
theorem ok_followers {f : Addr} {fd : FuncData} (F : Fun K "followers" "followers" sFollowers f fd) (T : Nm mg) : FnOk P w K mg base CX0 1 f fd ["days", "others"] (spFollowers K) := by
  refine F.ok scFollowers (fun vs H Q E h => ?_) (fun cdv A outer s H vs Q E hr h => ?_)
  · walk_at "len"
  · obtain ⟨a, b, S, U, hi, rfl, ha, hb, h0, h1, k⟩ := h
    have nd := scFollowers.nd
    refine ⟨_, (pss_cons (ps_set (i := 2) nd rfl (Or.inl rfl) (pe_lst pa_nil))
      (pss_cons (ps_set (i := 3) nd rfl (Or.inl rfl) pe_int)
      (pss_cons (ps_for PassesOwn.never rfl (pi_list (pv 0)) (pg_name (i := 4) nd rfl (Or.inl rfl))
        (pss_cons (ps_set (i := 5) nd rfl (Or.inl rfl) (pv 3))
        (C8.pss_cut (ps_while PassesOwn.never (PW.pt (pw_and (pt_cmpR op_lt (pv 3) (pe_callB call_len_seq (by rfl) T.len (by decide +kernel) (pa_cons (pv 1) pa_nil)) (nomark _)) (pw_and1 (pt_cmpR op_le (pe_ix ix_list (pv 1) (pv 3) (fun _ _ => rfl)) (pv 4) (nomark _)))))
          (pss_one (ps_aug (i := 3) nd rfl (Or.inl rfl) pe_int ip_add)))
        (pss_one (ps_if (pt_cmpR op_gt (pv 3) (pv 5) (nomark _))
          (pss_one (ps_expr (pe_bm PySem.F.plainAttrs_list PySem.F.slot_list_append PySem.F.type_list_append mt_append (pv 2) (pa_cons (pv 4) pa_nil))))
          pss_nil)))))
      (pss_one (ps_ret (pv 2)))))), ?_⟩
    walk_at "rd"
    refine ⟨by show 0 ≤ sizeLine; decide, fun D hD => ?_⟩
    have SD := Same.new (o := .lst []) hD
    have wD : upd H D (.lst []) D = some (.lst (([] : List Int).map V.int)) := upd_same
    generalize upd H D (.lst []) = H1 at SD wD ⊢
    walk_at "rd"
    refine ⟨⟨_, SD.seq ha⟩, ?_⟩
    refine for_list (xs := (els S 0 hi).map V.int) (fun i σ H' => Same H H' ∧ ∃ (bd : Int) (v4 v5 : Option V), 0 ≤ bd ∧ bd ≤ hi ∧ fw S U bd.toNat = false ∧ els S bd hi = (els S 0 hi).drop i ∧ H' D = some (.lst ((els (folS S U) 0 bd).map V.int)) ∧ σ = [some (.ref a), some (.ref b), some (.ref D), some (.int ((els U 0 bd).length : Nat)), v4, v5])
      ⟨SD, 0, none, none, Int.le_refl _, h0, rfl, rfl, by rw [els_nil _ (Int.le_refl _)]; exact wD, by rw [els_nil U (Int.le_refl _)]; rfl⟩ (fun i σ H' _ ⟨e, _⟩ => e.seq ha) ?_ ?_
    · rintro i y σ H2 hy ⟨S2, bd, v4, v5, b0, b1, fb, dr, hD2, rfl⟩
      obtain ⟨d, hd, rfl⟩ := ints_get hy
      have il := lt_of_get hd
      have e1 : els S bd hi = d :: (els S 0 hi).drop (i + 1) := by
        rw [dr, List.drop_eq_getElem_cons il]
        congr 1
        exact (List.getElem?_eq_some_iff.mp hd).2
      obtain ⟨⟨d0, d1⟩, sd, gap, rest⟩ := els_next e1
      have cE := cnt_els U (show d + 1 ≤ hi by omega)
      have cB := cnt_els U b1
      have asc := asc_els U 0 hi
      have le1 := cnt_mono (els U 0 hi) (show bd ≤ d + 1 by omega)
      have le2 := cnt_le (els U 0 hi) (d + 1)
      rw [cE, cB] at le1
      rw [cE] at le2
      walk_at "rd"
      refine ⟨fun σ' H' => Same H2 H' ∧ σ' = [some (.ref a), some (.ref b), some (.ref D), some (.int ((els U 0 (d + 1)).length : Nat)), some (.int d), some (.int ((els U 0 bd).length : Nat))], ?_, ?_⟩
      · refine while_d (fun σ' H' => Same H2 H' ∧ ∃ c : Nat, (els U 0 bd).length ≤ c ∧ c ≤ (els U 0 (d + 1)).length ∧ σ' = [some (.ref a), some (.ref b), some (.ref D), some (.int (c : Int)), some (.int d), some (.int ((els U 0 bd).length : Nat))])
          (fun σ _ => match σ with | [_, _, _, some (.int c), _, _] => ((els U 0 hi).length - c.toNat) | _ => 0) ⟨Same.refl _, (els U 0 bd).length, Nat.le_refl _, le1, rfl⟩ ?_
        rintro σ' H3 ⟨S3, c, c1, c2, rfl⟩
        walk_at "rd"
        refine ⟨b, _, rfl, .inl ((S2.trans S3).seq hb), ?_⟩
        rw [List.length_map]
        walk_at "rd"
        refine ite2 (fun q => ?_) (fun q => ?_)
        · have q' : c < (els U 0 hi).length := by have := of_decide_eq_true q; omega
          walk_at "rd"
          refine ⟨b, _, _, _, rfl, rfl, (S2.trans S3).seq hb, atI_int (by omega) (by omega), ?_⟩
          walk_at "rd"
          have key := cnt_iff (b := d + 1) asc q'
          rw [cE] at key
          rw [Int.toNat_natCast]
          refine ite2 (fun z => ?_) (fun z => ?_)
          · have z' := key.mp (by have := of_decide_eq_true z; omega)
            refine ⟨fun σ' H' => Same H2 H' ∧ σ' = [some (.ref a), some (.ref b), some (.ref D), some (.int ((c + 1 : Nat) : Int)), some (.int d), some (.int ((els U 0 bd).length : Nat))], fun σ' H' ⟨s3, e3⟩ => ⟨_, ?_, rfl, s3, c + 1, by omega, by omega, e3⟩, ?_⟩
            · subst e3
              show (els U 0 hi).length - ((c + 1 : Nat) : Int).toNat < (els U 0 hi).length - ((c : Nat) : Int).toNat
              omega
            · walk_at "rd"
              exact ⟨S3, rfl⟩
          · have z' : ¬ c < (els U 0 (d + 1)).length := fun y => z (decide_eq_true (by have := key.mpr y; omega))
            have : c = (els U 0 (d + 1)).length := by omega
            subst this
            exact ⟨S3, rfl⟩
        · have q' : ¬ c < (els U 0 hi).length := fun y => q (decide_eq_true (by omega))
          have : c = (els U 0 (d + 1)).length := by omega
          subst this
          exact iteF ⟨S3, rfl⟩
      · rintro σ' H3 ⟨S3, rfl⟩
        have S23 := S2.trans S3
        have nx := els_fol_next (T := U) b0 d0 gap
        have fa := fol_at (T := U) b0 fb d0 gap sd
        have ct := els_cut U b0 (show bd ≤ d + 1 by omega)
        have fd : fw S U (d + 1).toNat = false := by
          rw [show (d + 1).toNat = d.toNat + 1 by omega]
          exact fw_day (by rw [Int.toNat_of_nonneg (by omega)]; exact sd)
        have ll := els_length_le (folS S U) 0 bd
        have hD3 := S3 _ _ hD2
        walk_at "rd"
        refine ite2 (fun q => ?_) (fun q => ?_)
        · have q' := of_decide_eq_true q
          have yes : folS S U d = true := by
            rw [fa]
            cases e : els U bd (d + 1) with
            | nil => rw [e, List.append_nil] at ct; rw [ct] at q'; omega
            | cons x r =>
              have m : x ∈ els U bd (d + 1) := by rw [e]; exact List.mem_cons_self
              have m2 := mem_els.mp m
              exact ⟨x, m2.1.1, by omega, m2.2⟩
          rw [if_pos yes] at nx
          walk_at "rd"
          refine ⟨.inl ⟨rfl, _, SqL.of hD3⟩, ?_⟩
          walk_at "rd"
          refine ⟨D, _, _, rfl, rfl, hD3, by rw [List.length_map]; exact szl (by omega), S23.wr hD, d + 1, _, _, by omega, by omega, fd, rest, ?_, rfl⟩
          rw [upd_same, nx, List.map_append]; rfl
        · have q' : ¬ (els U 0 bd).length < (els U 0 (d + 1)).length := fun y => q (decide_eq_true (by omega))
          have no : folS S U d = false := by
            cases e : folS S U d with
            | false => rfl
            | true =>
              obtain ⟨x, x1, x2, x3⟩ := fa.mp e
              have m : x ∈ els U bd (d + 1) := mem_els.mpr ⟨⟨x1, by omega⟩, x3⟩
              have := List.length_pos_of_mem m
              rw [ct, List.length_append] at q'
              omega
          rw [if_neg (by rw [no]; decide), List.append_nil] at nx
          exact ⟨S23, d + 1, _, _, by omega, by omega, fd, rest, by rw [nx]; exact hD3, rfl⟩
    · rintro σ H2 ⟨S2, bd, v4, v5, b0, b1, fb, dr, hD2, rfl⟩
      rw [List.length_map, List.drop_length] at dr
      have off := els_nil_of dr
      have e2 : els (folS S U) bd hi = [] := by
        cases e : els (folS S U) bd hi with
        | nil => rfl
        | cons x r =>
          have m : x ∈ els (folS S U) bd hi := by rw [e]; exact List.mem_cons_self
          have m2 := mem_els.mp m
          have := fol_sub m2.2
          rw [off x m2.1.1 m2.1.2] at this; cases this
      have ct := els_cut (folS S U) b0 b1
      rw [e2, List.append_nil] at ct
      walk_at "rd"
      exact k _ D S2 hD (by rw [ct]; exact hD2)
def spFollow (K : PySem.W.Frag) (C : Addr) : Sp := fun vs H Q _ => ∃ (x y : Addr) (S T : Int → Bool) (s p s' p' : Int), vs = [.ref x, .ref y] ∧ Ds K C H x S s p ∧ Ds K C H y T s' p' ∧ maxI s s' + lcmI p p' < 100000 ∧
  ∀ (H' : Hp) (z : Addr) (s'' p'' : Int), Same H H' → Dn K C H H' z (folS S T) s'' p'' → s'' ≤ maxI s s' + lcmI p p' → p'' ≤ lcmI p p' → Q (.ref z) H'
theorem scDsFollowing : FnScope ["self", "other", "start", "period", "first", "end"] ["self", "other"] (defScope sDsFollowing) := ⟨rfl, rfl, rfl, by decide +kernel, rfl, by decide +kernel, by decide +kernel⟩
set_option maxHeartbeats 1000000 in
theorem ok_following {f C : Addr} {fd : FuncData} (F : Fun K "following" "DaySet.following" sDsFollowing f fd) (T2 : Txd K mg C) (D_common_frame : Df P w K mg base 3 "common_frame" ["one", "other"] [] (spCommonFrame K C)) (D_next_from : Dm P w K mg base 3 C "next_from" ["self", "day"] (spNext K C)) (D_listed : Dm P w K mg base 2 C "_listed" ["self", "low", "high"] (spListed K C))
    (D_followers : Df P w K mg base 1 "followers" ["days", "others"] [] (spFollowers K)) (D_init : Dmk P w K mg base 3 C ["self", "start", "period", "days"] (spInit K C)) : FnOk P w K mg base CX0 5 f fd ["self", "other"] (spFollow K C) := by
  refine F.ok scDsFollowing (fun vs H Q E h => ?_) (fun cdv A outer s H vs Q E hr h => ?_)
  · walk_at "len"
  · obtain ⟨x, y, S, U, st, p, st', p', rfl, Dx, Dy, bd, k⟩ := h
    have nd := scDsFollowing.nd
    obtain ⟨dx, hx, cx, X1⟩ := id Dx
    obtain ⟨dy, hy, cy, Y1⟩ := id Dy
    have px := Dx.can.fr.p1
    have py := Dy.can.fr.p1
    have sx := Dx.can.fr.s0
    have sy := Dy.can.fr.s0
    have mx := @max_le st st'
    have lx := lcm_ge px py
    have FS : Fr S (maxI st st') (lcmI p p') := (Dx.can.fr.lcm py).later mx.1
    have FU : Fr U (maxI st st') (lcmI p p') := by
      have := (Dy.can.fr.lcm px).later mx.2
      rw [Nat.lcm_comm] at this
      exact this
    have m0 : 0 ≤ maxI st st' := Int.le_trans sx mx.1
    refine ⟨_, (pss_cons (ps_asg (pe_df D_common_frame (hr.mono (by decide)) (pa_cons (pv 0) (pa_cons (pv 1) pa_nil))) (pg_tup (by rfl) (pgs_cons (pg_name (i := 2) nd rfl (Or.inl rfl)) (pgs_cons (pg_name (i := 3) nd rfl (Or.inl rfl)) pgs_nil))))
      (C8.pss_cut (ps_set (i := 4) nd rfl (Or.inl rfl) (pe_dm D_next_from T2.cl (hr.mono (by decide)) (pv 0) (pa_cons (pv 2) pa_nil)))
      (C8.pss_cut (ps_set (i := 2) nd rfl (Or.inl rfl) (pe_ifExp (pt_cmpR op_isN (pv 4) pe_non (nomark _)) (pv 2) (pe_op op_add (pv 4) pe_int)))
      (pss_cons (ps_set (i := 5) nd rfl (Or.inl rfl) (pe_op op_add (pv 2) (pv 3)))
      (pss_one (ps_ret (pe_dmake D_init T2.mgC (hr.mono (by decide)) (pa_cons (pv 2) (pa_cons (pv 3) (pa_cons (pe_df D_followers (hr.mono (by decide)) (pa_cons (pe_dm D_listed T2.cl (hr.mono (by decide)) (pv 0) (pa_cons pe_int (pa_cons (pv 5) pa_nil))) (pa_cons (pe_dm D_listed T2.cl (hr.mono (by decide)) (pv 1) (pa_cons pe_int (pa_cons (pv 5) pa_nil))) pa_nil))) pa_nil)))))))))), ?_⟩
    walk_at "rd"
    refine ⟨x, y, S, U, st, p, st', p', rfl, Dx, Dy, by omega, by omega, fun H1 t S1 nt ht => ?_⟩
    refine ⟨t, _, rfl, SqT.of ht, rfl, ?_⟩
    walk_at "rd"
    generalize maxI st st' = M at *
    generalize lcmI p p' = L at *
    refine ⟨fun σ' H' => Same H H' ∧ ∃ v : V, σ' = [some (.ref x), some (.ref y), some (.int M), some (.int L), some v, none] ∧ ((v = .non ∧ ∀ d, M ≤ d → S d = false) ∨ ∃ d, v = .int d ∧ M ≤ d ∧ S d = true ∧ (∀ e, M ≤ e → e < d → S e = false)), ?_, ?_⟩
    · walk_at "rd"
      refine ⟨x, dx, _, rfl, S1 _ _ X1.ob, dsF_no (by decide +kernel) (by decide +kernel) (by decide +kernel) (by decide +kernel), ?_⟩
      walk_at "rd"
      refine ⟨x, S, st, p, M, rfl, Dx.same S1, by omega, by omega, fun H2 S2 off => ?_, fun H2 d S2 h1 h2 h3 => ?_⟩
      · exact ⟨S1.trans S2, .non, rfl, .inl ⟨rfl, off⟩⟩
      · exact ⟨S1.trans S2, .int d, rfl, .inr ⟨d, rfl, h1, h2, h3⟩⟩
    · rintro σ' H2 ⟨S2, v, rfl, hv⟩
      refine ⟨fun σ' H' => H' = H2 ∧ ∃ s2 : Int, σ' = [some (.ref x), some (.ref y), some (.int s2), some (.int L), some v, none] ∧ M ≤ s2 ∧ s2 ≤ M + L ∧ Fr (folS S U) s2 L, ?_, ?_⟩
      · rcases hv with ⟨rfl, off⟩ | ⟨d, rfl, h1, h2, h3⟩
        · walk_at "rd"
          exact ⟨by omega, by omega, fol_off FS off⟩
        · walk_at "rd"
          have lt : d < M + L := by
            apply Classical.byContradiction
            intro z
            have e := FS.per (d - L) (by omega)
            rw [show d - L + L = d by omega, h2] at e
            rw [h3 (d - L) (by omega) (by omega)] at e
            cases e
          exact ⟨by omega, by omega, fol_per FS FU h1 h2⟩
      · rintro σ' H3 ⟨rfl, s2, rfl, m1, m2, FF⟩
        walk_at "rd"
        refine ⟨x, dx, _, rfl, S2 _ _ X1.ob, dsF_no (by decide +kernel) (by decide +kernel) (by decide +kernel) (by decide +kernel), ?_⟩
        walk_at "rd"
        refine ⟨x, S, st, p, 0, s2 + L, rfl, Dx.same S2, by omega, by omega, by omega, by omega, by omega, fun H4 q1 S4 n1 hq1 => ?_⟩
        walk_at "rd"
        refine ⟨y, dy, _, rfl, (S2.trans S4) _ _ Y1.ob, dsF_no (by decide +kernel) (by decide +kernel) (by decide +kernel) (by decide +kernel), ?_⟩
        walk_at "rd"
        refine ⟨y, U, st', p', 0, s2 + L, rfl, Dy.same (S2.trans S4), by omega, by omega, by omega, by omega, by omega, fun H5 q2 S5 n2 hq2 => ?_⟩
        walk_at "rd"
        refine ⟨q1, q2, S, U, s2 + L, rfl, LI.new (S5 _ _ hq1), LI.new hq2, by omega, by omega, fun H6 q S6 nq hq => ?_⟩
        have S26 := ((S2.trans S4).trans S5).trans S6
        have fl := els_length_le (folS S U) 0 s2
        walk_at "rd"
        refine mk_tail (S := folS S U) FF (fun d hd => fol_neg hd) (LI.new hq) (by rw [hq]; simp) (by omega) (by omega) fun H' z s'' p'' S7 D ss pp => ?_
        exact k H' z s'' p'' (S26.trans S7) (D.old S26) (by omega) pp
end
end Cf
namespace Cf
open PySem L2
set_option hygiene false
local macro_rules | `(tactic| walk_at "len") => `(tactic| repeat (first | (obtain ⟨e, _⟩ := h; subst e; rfl; done) | (obtain ⟨_, h⟩ := h)))
local macro_rules | `(tactic| walk_at "rd") => `(tactic| repeat (first | refine ⟨_, rfl, ?_⟩ | refine ⟨_, _, rfl, rfl, ?_⟩ | refine ⟨rfl, ?_⟩ | refine ⟨_, _, rfl, ?_⟩))
local macro_rules | `(tactic| walk_at "yes") => `(tactic| (dsimp only [tYes]; rw [if_pos rfl]))
set_option hygiene true
section
variable {P : Program} {w : World} {K : PySem.W.Frag} {mg : Str → Option Value} {base : Heap}
/-! ### a day in the set -/
def spContains (K : PySem.W.Frag) (C : Addr) : Sp := fun vs H Q _ => ∃ (x : Addr) (S : Int → Bool) (s p d : Int), vs = [.ref x, .int d] ∧ Ds K C H x S s p ∧ s < 1000000 ∧ p < 1000000 ∧ ∀ H', Same H H' → Q (.bl (S d)) H'
theorem cnt_mem {l : List Int} {b : Int} (A : Asc l) : (cnt l b < l.length ∧ l.getD (cnt l b) 0 = b) ↔ b ∈ l := by
  constructor
  · rintro ⟨h1, h2⟩
    have := getD_mem (l := l) h1
    rw [h2] at this
    exact this
  · intro h
    obtain ⟨i, hi, e⟩ := mem_getD h
    have n1 : ¬ i < cnt l b := fun c => by have := (cnt_iff A hi).mpr c; omega
    rcases Nat.lt_or_ge (cnt l b) i with c | c
    · have z := asc_lt A c hi
      have := cnt_iff (b := b) A (show cnt l b < l.length by omega)
      omega
    · have : cnt l b = i := by omega
      rw [this]
      exact ⟨hi, e⟩
theorem scDsContains : FnScope ["self", "day", "days", "wanted", "at"] ["self", "day"] (defScope sDsContains) := ⟨rfl, rfl, rfl, by decide +kernel, rfl, by decide +kernel, by decide +kernel⟩
theorem ok_contains {f C : Addr} {fd : FuncData} (F : Fun K "__contains__" "DaySet.__contains__" sDsContains f fd) (T : Nm mg) (T2 : Txd K mg C) (D_is_number : Df P w K mg base 1 "is_number" ["value"] [] spIsNum) (D_place_of : Df P w K mg base 1 "place_of" ["days", "bound"] [] (spPlaceOf K)) : FnOk P w K mg base CX0 2 f fd ["self", "day"] (spContains K C) := by
  refine F.ok scDsContains (fun vs H Q E h => ?_) (fun cdv A outer s H vs Q E hr h => ?_)
  · walk_at "len"
  · obtain ⟨x, S, st, p, d, rfl, Dx, sb, pb, k⟩ := h
    have nd := scDsContains.nd
    have hu := hr.units
    obtain ⟨dx, hx, cx, X1⟩ := id Dx
    have px := Dx.can.fr.p1
    have sx := Dx.can.fr.s0
    refine ⟨_, (pss_cons (ps_if (pt_not (pt_val (pe_df D_is_number (hr.mono (by decide)) (pa_cons (pv 1) pa_nil))))
        (pss_one (ps_ret pe_bl))
        pss_nil)
      (C8.pss_cut (ps_if (pt_cmpR op_lt (pv 1) (pe_fld (pv 0) rfl) (nomark _))
        (pss_cons (ps_set (i := 2) nd rfl (Or.inl rfl) (pe_fld (pv 0) rfl))
        (pss_one (ps_set (i := 3) nd rfl (Or.inl rfl) (pv 1))))
        (pss_cons (ps_set (i := 2) nd rfl (Or.inl rfl) (pe_fld (pv 0) rfl))
        (pss_one (ps_set (i := 3) nd rfl (Or.inl rfl) (pe_op op_add (pe_fld (pv 0) rfl) (pe_op op_mod (pe_op op_sub (pv 1) (pe_fld (pv 0) rfl)) (pe_fld (pv 0) rfl)))))))
      (pss_cons (ps_set (i := 4) nd rfl (Or.inl rfl) (pe_df D_place_of (hr.mono (by decide)) (pa_cons (pv 2) (pa_cons (pv 3) pa_nil))))
      (pss_one (ps_ret (pe_and (pe_cmpR op_lt (pv 4) (pe_callB call_len_seq (by rfl) T.len (by decide +kernel) (pa_cons (pv 2) pa_nil)) (nomark _)) (pe_one (pe_cmpR op_eq (pe_ix ix_list (pv 2) (pv 4) (fun _ _ => rfl)) (pv 3) (nomark _))))))))), ?_⟩
    walk_at "rd"
    refine iteF ?_
    -- the list that is asked, and the day that is wanted
    refine ⟨fun σ' H' => H' = H ∧ ∃ l ns b, LI K H l ns ∧ Asc ns ∧ (b ∈ ns ↔ S d = true) ∧ σ' = [some (.ref x), some (.int d), some (.ref l), some (.int b), none], ?_, ?_⟩
    · walk_at "rd"
      refine ⟨x, C, dx, _, _, rfl, X1.ob, T2.cl, T2.nS, dsF_start, ?_⟩
      walk_at "rd"
      refine ite2 (fun e => ?_) (fun e => ?_)
      · have lt : d < st := of_decide_eq_true e
        walk_at "rd"
        refine ⟨x, C, dx, _, _, rfl, X1.ob, T2.cl, T2.nH, dsF_head, ?_⟩
        walk_at "rd"
        refine ⟨hx, _, d, X1.hd, asc_els _ _ _, ?_, rfl⟩
        rw [mem_els]
        constructor
        · exact fun z => z.2
        · intro z
          refine ⟨⟨?_, lt⟩, z⟩
          rcases Int.lt_or_le d 0 with n | n
          · rw [Dx.neg d n] at z; cases z
          · exact n
      · have ge : ¬ d < st := fun z => e (decide_eq_true z)
        walk_at "rd"
        refine ⟨x, C, dx, _, _, rfl, X1.ob, T2.cl, T2.nC, dsF_cycle, ?_⟩
        walk_at "rd"
        refine ⟨x, C, dx, _, _, rfl, X1.ob, T2.cl, T2.nS, dsF_start, ?_⟩
        walk_at "rd"
        refine ⟨x, C, dx, _, _, rfl, X1.ob, T2.cl, T2.nS, dsF_start, ?_⟩
        walk_at "rd"
        refine ⟨x, C, dx, _, _, rfl, X1.ob, T2.cl, T2.nP, dsF_period, ?_⟩
        walk_at "rd"
        refine ⟨by omega, ?_⟩
        walk_at "rd"
        refine ⟨cx, _, st + (d - st) % p, X1.cy, asc_els _ _ _, ?_, rfl⟩
        have a1 := Int.emod_nonneg (d - st) (show p ≠ 0 by omega)
        have a2 := Int.emod_lt_of_pos (d - st) (show 0 < p by omega)
        rw [mem_els, Dx.can.fr.mod (by omega)]
        exact ⟨fun z => z.2, fun z => ⟨⟨by omega, by omega⟩, z⟩⟩
    rintro σ' H' ⟨rfl, l, ns, b, hl, asc, mem, rfl⟩
    walk_at "rd"
    refine ⟨l, ns, b, rfl, hl, asc, ?_⟩
    walk_at "rd"
    refine ⟨l, _, rfl, .inl hl, ?_⟩
    rw [List.length_map]
    walk_at "rd"
    have cm := cnt_mem (b := b) asc
    refine ite2 (fun e => ?_) (fun e => ?_)
    · have lt : cnt ns b < ns.length := by have := of_decide_eq_true e; omega
      walk_at "rd"
      refine ⟨l, _, _, _, rfl, rfl, hl, atI_int (by omega) (by omega), ?_⟩
      walk_at "rd"
      have q := k H' (Same.refl H')
      rw [show S d = decide (V.int (ns.getD (((cnt ns b : Nat) : Int)).toNat 0) = V.int b) by
        rw [Int.toNat_natCast]
        cases e2 : S d with
        | true => rw [(cm.mpr (mem.mpr e2)).2]; exact (decide_eq_true rfl).symm
        | false =>
          symm
          refine decide_eq_false fun z => ?_
          have z2 : ns.getD (cnt ns b) 0 = b := V.int.inj z
          have := mem.mp (cm.mp ⟨lt, z2⟩)
          rw [e2] at this; cases this] at q
      exact q
    · have ge : ¬ cnt ns b < ns.length := fun z => e (decide_eq_true (by omega))
      have q := k H' (Same.refl H')
      rw [show S d = false by
        cases e2 : S d with
        | true => exact absurd (cm.mpr (mem.mpr e2)).1 ge
        | false => rfl] at q
      exact q
end
end Cf
namespace Cf
open PySem L2
set_option hygiene false
local macro_rules | `(tactic| walk_at "len") => `(tactic| repeat (first | (obtain ⟨e, _⟩ := h; subst e; rfl; done) | (obtain ⟨_, h⟩ := h)))
local macro_rules | `(tactic| walk_at "rd") => `(tactic| repeat (first | refine ⟨_, rfl, ?_⟩ | refine ⟨_, _, rfl, rfl, ?_⟩ | refine ⟨rfl, ?_⟩ | refine ⟨_, _, rfl, ?_⟩))
local macro_rules | `(tactic| walk_at "yes") => `(tactic| (dsimp only [tYes]; rw [if_pos rfl]))
set_option hygiene true
section
variable {P : Program} {w : World} {K : PySem.W.Frag} {mg : Str → Option Value} {base : Heap}
def spFirst (K : PySem.W.Frag) (C : Addr) (g : Bool → Bool → Bool) : Sp := fun vs H Q _ => ∃ (x y : Addr) (S T : Int → Bool) (s p s' p' : Int), vs = [.ref x, .ref y] ∧ Ds K C H x S s p ∧ Ds K C H y T s' p' ∧ maxI s s' + lcmI p p' < 1980 ∧
  (∀ H', Same H H' → (∀ d, 0 ≤ d → g (S d) (T d) = false) → Q .non H') ∧ (∀ (H' : Hp) (d : Int), Same H H' → 0 ≤ d → g (S d) (T d) = true → (∀ e, 0 ≤ e → e < d → g (S e) (T e) = false) → Q (.int d) H')
theorem dAt_ge {S : Int → Bool} {s p : Int} (F : Fr S s p) (hc : els S s (s + p) ≠ []) : ∀ i : Nat, (i : Int) ≤ dAt S s p i
  | 0 => (dAt_mem F (.inr hc)).2
  | i + 1 => by
    have a := dAt_ge F hc i
    have b := dAt_lt F (show i < i + 1 by omega) (.inr hc)
    omega
theorem scDsFirstBeyond : FnScope ["self", "other", "number"] ["self", "other"] (defScope sDsFirstBeyond) := ⟨rfl, rfl, rfl, by decide +kernel, rfl, by decide +kernel, by decide +kernel⟩
theorem ok_first_beyond {f C : Addr} {fd : FuncData} (F : Fun K "first_beyond" "DaySet.first_beyond" sDsFirstBeyond f fd) (T : Nm mg) (T2 : Txd K mg C) (D_is_finite : Dpr P w K mg base 1 C "is_finite" (spFinite K C)) (D_day_at : Dm P w K mg base 2 C "_day_at" ["self", "number"] (spDayAt K C)) (D_contains : Dow P w K mg base 2 C "__contains__" ["self", "day"] (spContains K C)) (D_sub : Dow P w K mg base 5 C "__sub__" ["self", "other"] (spBin K C fun a b => a && !b)) (D_next_from : Dm P w K mg base 3 C "next_from" ["self", "day"] (spNext K C)) : FnOk P w K mg base CX0 6 f fd ["self", "other"] (spFirst K C fun a b => a && !b) := by
  refine F.ok scDsFirstBeyond (fun vs H Q E h => ?_) (fun cdv A outer s H vs Q E hr h => ?_)
  · walk_at "len"
  · obtain ⟨x, y, S, U, st, p, st', p', rfl, Dx, Dy, bd, kn, ks⟩ := h
    have nd := scDsFirstBeyond.nd
    obtain ⟨dx, hx, cx, X1⟩ := id Dx
    obtain ⟨dy, hy, cy, Y1⟩ := id Dy
    have mx := @max_le st st'
    have lx := lcm_ge Dx.can.fr.p1 Dy.can.fr.p1
    have s0 := Dx.can.fr.s0
    have p1 := Dx.can.fr.p1
    refine ⟨_, (pss_cons (ps_if (PW.pt (pw_or (pt_val (pe_dprop D_is_finite T2.cl (hr.mono (by decide)) (pv 0))) (pw_or1 (pt_not (pt_val (pe_dprop D_is_finite T2.cl (hr.mono (by decide)) (pv 1)))))))
        (pss_one (ps_ret (pe_dm D_next_from T2.cl (hr.mono (by decide)) (pe_op (op_d D_sub T2.sf (hr.mono (by decide))) (pv 0) (pv 1)) (pa_cons pe_int pa_nil))))
        pss_nil)
      (pss_cons (ps_set (i := 2) nd rfl (Or.inl rfl) pe_int)
      (C8.pss_cut (ps_while PassesOwn.never (pt_cmpR (op_dIn D_contains (hr.mono (by decide))) (pe_dm D_day_at T2.cl (hr.mono (by decide)) (pv 0) (pa_cons (pv 2) pa_nil)) (pv 1) rfl)
        (pss_one (ps_aug (i := 2) nd rfl (Or.inl rfl) pe_int ip_add)))
      (pss_one (ps_ret (pe_dm D_day_at T2.cl (hr.mono (by decide)) (pv 0) (pa_cons (pv 2) pa_nil))))))), ?_⟩
    walk_at "rd"
    refine ⟨x, dx, _, rfl, X1.ob, x, S, st, p, rfl, Dx, fun emp => ⟨true, rfl, iteT ?_⟩, fun hc => ⟨false, rfl, iteF ?_⟩⟩
    · refine iteT ?_
      walk_at "rd"
      refine ⟨x, y, dx, dy, _, _, rfl, rfl, X1.ob, Y1.ob, x, y, S, U, st, p, st', p', rfl, Dx, Dy, bd, fun H' z s'' p'' S1 D ss pp => ?_⟩
      obtain ⟨dz, hz, cz, Z1⟩ := id D.ds
      refine ⟨z, dz, _, rfl, Z1.ob, dsF_no (by decide +kernel) (by decide +kernel) (by decide +kernel) (by decide +kernel), ?_⟩
      walk_at "rd"
      exact ⟨z, _, s'', p'', 0, rfl, D.ds, by omega, by omega, fun H2 S2 a => kn H2 (S1.trans S2) a, fun H2 d S2 a b c => ks H2 d (S1.trans S2) a b c⟩
    walk_at "rd"
    refine ⟨y, dy, _, rfl, Y1.ob, y, U, st', p', rfl, Dy, fun emp => ⟨true, rfl, ?_⟩, fun nemp => ⟨false, rfl, ?_⟩⟩
    · refine iteF ?_
      walk_at "rd"
      have off := fin_fr Dy.can.fr emp
      have F0 := Dx.can.fr
      refine ⟨fun σ H' => Same H H' ∧ ∃ n : Nat, (∀ i, i < n → U (dAt S st p i) = true) ∧ U (dAt S st p n) = false ∧ σ = [some (.ref x), some (.ref y), some (.int n)], ?_, ?_⟩
      · refine while_d (fun σ H' => Same H H' ∧ ∃ n : Nat, (∀ i, i < n → U (dAt S st p i) = true) ∧ σ = [some (.ref x), some (.ref y), some (.int n)])
          (fun σ _ => match σ with | [_, _, some (.int n)] => (st'.toNat + 1 - n.toNat) | _ => 0) ⟨Same.refl H, 0, fun i hi => absurd hi (Nat.not_lt_zero _), rfl⟩ ?_
        rintro σ H1 ⟨S1, n, hn, rfl⟩
        walk_at "rd"
        refine ⟨x, dx, _, rfl, S1 _ _ X1.ob, dsF_no (by decide +kernel) (by decide +kernel) (by decide +kernel) (by decide +kernel), ?_⟩
        walk_at "rd"
        refine ⟨x, S, st, p, n, rfl, Dx.same S1, .inr hc, by omega, by omega, fun H2 S2 => ?_⟩
        walk_at "rd"
        refine ⟨y, dy, _, rfl, S2 _ _ (S1 _ _ Y1.ob), y, U, st', p', _, rfl, (Dy.same S1).same S2, by omega, by omega, fun H3 S3 => ⟨_, rfl, _, rfl, ite2 (fun d => ?_) (fun d => ?_)⟩⟩
        · have lt : dAt S st p n < st' := by
            rcases Int.lt_or_le (dAt S st p n) st' with z | z
            · exact z
            · rw [off _ z] at d; cases d
          have ge := dAt_ge F0 hc n
          refine ⟨fun σ' H' => Same H H' ∧ σ' = [some (.ref x), some (.ref y), some (.int ((n + 1 : Nat) : Int))], fun σ' H' ⟨s3, e3⟩ => ⟨_, ?_, rfl, s3, n + 1, fun i hi => ?_, e3⟩, ?_⟩
          · subst e3
            show st'.toNat + 1 - ((n + 1 : Nat) : Int).toNat < st'.toNat + 1 - ((n : Nat) : Int).toNat
            omega
          · rcases Nat.lt_or_ge i n with q | q
            · exact hn i q
            · have : i = n := by omega
              subst this
              exact d
          · walk_at "rd"
            exact ⟨(S1.trans S2).trans S3, rfl⟩
        · refine ⟨(S1.trans S2).trans S3, n, hn, ?_, rfl⟩
          cases z : U (dAt S st p n) with
          | true => exact absurd z d
          | false => rfl
      · rintro σ H1 ⟨S1, n, hn, un, rfl⟩
        walk_at "rd"
        refine ⟨x, dx, _, rfl, S1 _ _ X1.ob, dsF_no (by decide +kernel) (by decide +kernel) (by decide +kernel) (by decide +kernel), ?_⟩
        walk_at "rd"
        have m := dAt_mem F0 (.inr hc : Val S st p n)
        refine ⟨x, S, st, p, n, rfl, Dx.same S1, .inr hc, by omega, by omega, fun H2 S2 => ?_⟩
        refine ks H2 _ (S1.trans S2) m.2 (by show (S _ && !U _) = true; rw [m.1, un]; rfl) fun e e0 el => ?_
        show (S e && !U e) = false
        cases q : S e with
        | false => rfl
        | true =>
          obtain ⟨i, v, ei⟩ := dAt_all F0 q e0
          have : i < n := by
            rcases Nat.lt_or_ge i n with z | z
            · exact z
            · rcases Nat.lt_or_ge n i with z2 | z2
              · have := dAt_lt F0 z2 v; omega
              · have : i = n := by omega
                subst this; omega
          have u := hn i this
          rw [ei] at u
          rw [u]; rfl
    · refine iteT ?_
      walk_at "rd"
      refine ⟨x, y, dx, dy, _, _, rfl, rfl, X1.ob, Y1.ob, x, y, S, U, st, p, st', p', rfl, Dx, Dy, bd, fun H' z s'' p'' S1 D ss pp => ?_⟩
      obtain ⟨dz, hz, cz, Z1⟩ := id D.ds
      refine ⟨z, dz, _, rfl, Z1.ob, dsF_no (by decide +kernel) (by decide +kernel) (by decide +kernel) (by decide +kernel), ?_⟩
      walk_at "rd"
      exact ⟨z, _, s'', p'', 0, rfl, D.ds, by omega, by omega, fun H2 S2 a => kn H2 (S1.trans S2) a, fun H2 d S2 a b c => ks H2 d (S1.trans S2) a b c⟩
end
end Cf
namespace Cf
open PySem L2
set_option hygiene false
local macro_rules | `(tactic| walk_at "len") => `(tactic| repeat (first | (obtain ⟨e, _⟩ := h; subst e; rfl; done) | (obtain ⟨_, h⟩ := h)))
local macro_rules | `(tactic| walk_at "rd") => `(tactic| repeat (first | refine ⟨_, rfl, ?_⟩ | refine ⟨_, _, rfl, rfl, ?_⟩ | refine ⟨rfl, ?_⟩ | refine ⟨_, _, rfl, ?_⟩))
local macro_rules | `(tactic| walk_at "yes") => `(tactic| (dsimp only [tYes]; rw [if_pos rfl]))
set_option hygiene true
section
variable {P : Program} {w : World} {K : PySem.W.Frag} {mg : Str → Option Value} {base : Heap}
/-! ### within -/
def spWithin (K : PySem.W.Frag) (C : Addr) : Sp := fun vs H Q _ => ∃ (x y : Addr) (S T : Int → Bool) (s p s' p' : Int), vs = [.ref x, .ref y] ∧ Ds K C H x S s p ∧ Ds K C H y T s' p' ∧ maxI s s' + lcmI p p' < 1980 ∧ ∀ (b : Bool) (H' : Hp), Same H H' → (b = true ↔ ∀ d, S d = true → T d = true) → Q (.bl b) H'
theorem scDsWithin : FnScope ["self", "other"] ["self", "other"] (defScope sDsWithin) := ⟨rfl, rfl, rfl, by decide +kernel, rfl, by decide +kernel, by decide +kernel⟩
theorem ok_within {f C : Addr} {fd : FuncData} (F : Fun K "within" "DaySet.within" sDsWithin f fd) (T2 : Txd K mg C) (D_first_beyond : Dm P w K mg base 6 C "first_beyond" ["self", "other"] (spFirst K C fun a b => a && !b)) : FnOk P w K mg base CX0 7 f fd ["self", "other"] (spWithin K C) := by
  refine F.ok scDsWithin (fun vs H Q E h => ?_) (fun cdv A outer s H vs Q E hr h => ?_)
  · walk_at "len"
  · obtain ⟨x, y, S, U, st, p, st', p', rfl, Dx, Dy, bd, k⟩ := h
    obtain ⟨dx, hx, cx, X1⟩ := id Dx
    refine ⟨_, (pss_one (ps_ret (pe_cmpR op_isN (pe_dm D_first_beyond T2.cl (hr.mono (by decide)) (pv 0) (pa_cons (pv 1) pa_nil)) pe_non (nomark _)))), ?_⟩
    walk_at "rd"
    refine ⟨x, dx, _, rfl, X1.ob, dsF_no (by decide +kernel) (by decide +kernel) (by decide +kernel) (by decide +kernel), ?_⟩
    walk_at "rd"
    refine ⟨x, y, S, U, st, p, st', p', rfl, Dx, Dy, bd, fun H' S1 no => ?_, fun H' d S1 d0 yes least => ?_⟩
    · refine ⟨rfl, ?_⟩
      show Q (V.bl (decide (V.non = V.non))) H'
      rw [show decide (V.non = V.non) = true from decide_eq_true rfl]
      refine k true H' S1 ⟨fun _ d hd => ?_, fun _ => rfl⟩
      rcases Int.lt_or_le d 0 with z | z
      · rw [Dx.neg d z] at hd; cases hd
      · have n : (S d && !U d) = false := no d z
        rw [hd] at n
        cases u : U d with
        | true => rfl
        | false => rw [u] at n; cases n
    · refine ⟨rfl, ?_⟩
      show Q (V.bl (decide (V.int d = V.non))) H'
      rw [show decide (V.int d = V.non) = false from decide_eq_false fun z => by cases z]
      refine k false H' S1 ⟨fun z => (by cases z), fun q => ?_⟩
      have n : (S d && !U d) = true := yes
      rw [Bool.and_eq_true] at n
      rw [q d n.1] at n
      exact Bool.noConfusion n.2
end
end Cf
namespace Cf
open PySem L2
set_option hygiene false
local macro_rules | `(tactic| walk_at "len") => `(tactic| repeat (first | (obtain ⟨e, _⟩ := h; subst e; rfl; done) | (obtain ⟨_, h⟩ := h)))
local macro_rules | `(tactic| walk_at "rd") => `(tactic| repeat (first | refine ⟨_, rfl, ?_⟩ | refine ⟨_, _, rfl, rfl, ?_⟩ | refine ⟨rfl, ?_⟩ | refine ⟨_, _, rfl, ?_⟩))
local macro_rules | `(tactic| walk_at "yes") => `(tactic| (dsimp only [tYes]; rw [if_pos rfl]))
set_option hygiene true
section
variable {P : Program} {w : World} {K : PySem.W.Frag} {mg : Str → Option Value} {base : Heap}
/-! ### drawn truths -/
theorem But.step {p q x : Addr} {H0 H : Hp} {o : HO} (b : But p q H0 H) (h : H x = none) : But p q H0 (upd H x o) := b.trans (But.of (Same.new h))
theorem But.wr {p q x : Addr} {H0 H : Hp} {o : HO} (b : But p q H0 H) (h : H0 x = none) : But p q H0 (upd H x o) := fun c u e c1 c2 => by rw [upd_ne (ne_of_none e h)]; exact b c u e c1 c2
theorem Stt.upd {p a b x : Addr} {n : Nat} {H : Hp} {o : HO} (S : Stt p a b n H) (h1 : x ≠ p) (h2 : x ≠ a) (h3 : x ≠ b) : Stt p a b n (upd H x o) := by
  obtain ⟨⟨ws, cs, rest, turn, g1, g2, g3, g4⟩, h8⟩ := S
  exact ⟨⟨ws, cs, rest, turn, by rw [upd_ne h1.symm]; exact g1, by rw [upd_ne h2.symm]; exact g2, by rw [upd_ne h3.symm]; exact g3, g4⟩, h8⟩
/-- what is new keeps apart from the draws -/
theorem Stt.apart {p a b x : Addr} {n : Nat} {H : Hp} (S : Stt p a b n H) (h : H x = none) : x ≠ p ∧ x ≠ a ∧ x ≠ b := by
  obtain ⟨u, v, w, h1, h2, h3⟩ := S.there
  exact ⟨(ne_of_none h1 h).symm, (ne_of_none h2 h).symm, (ne_of_none h3 h).symm⟩
theorem Stt.free {p a b x : Addr} {n m : Nat} {H H' : Hp} (_S : Stt p a b n H) (B : But p a H H') (S' : Stt p a b m H') (h : H' x = none) : H x = none := by
  cases e : H x with
  | none => rfl
  | some o =>
    obtain ⟨c1, c2, _⟩ := S'.apart h
    have := B x o e c1 c2
    rw [h] at this; cases this
/-- a list of drawn truths, one item more -/
theorem grow_bl {p a b D : Addr} {m m' : Nat} {H1 H' H3 : Hp} {i : Nat} {n : Nat} {bs : List Bool} (g : Bool) (S1 : Stt p a b m' H1) (hD : H1 D = none) (lb : bs.length = i) (hDl : H' D = some (.lst (bs.map V.bl))) (B2 : But p a H1 H') (S3 : Stt p a b m H3) (B3 : But p a H' H3) (hi : i < 100000) (hm : m ≤ n) :
    ∃ acc, H3 D = some (.lst acc) ∧ acc.length < sizeLine ∧ (Stt p a b n (upd H3 D (.lst (acc ++ [V.bl g]))) ∧ But p a H1 (upd H3 D (.lst (acc ++ [V.bl g]))) ∧ ∃ bs : List Bool, bs.length = i + 1 ∧ (upd H3 D (.lst (acc ++ [V.bl g]))) D = some (.lst (bs.map V.bl))) := by
  obtain ⟨d1, d2, d3⟩ := S1.apart hD
  exact ⟨bs.map V.bl, B3 _ _ hDl d1 d2, by rw [List.length_map]; exact szl (by omega), (S3.upd d1 d2 d3).mono hm, (B2.trans B3).wr hD, bs ++ [g], by rw [List.length_append, lb]; rfl, by rw [upd_same, List.map_append]; rfl⟩
def spTruths : Sp := fun vs H Q _ => ∃ (p a b : Addr) (n size : Nat), vs = [.ref p, .int size] ∧ Stt p a b n H ∧ n + size + 2 ≤ 1000000 ∧ size ≤ 1000 ∧
  ∀ (H' : Hp) (q : Addr) (bs : List Bool), Stt p a b (n + size + 2) H' → But p a H H' → H q = none → H' q = some (.lst (bs.map V.bl)) → bs.length = size → Q (.ref q) H'
theorem scLawTruths : FnScope ["state", "size", "way", "turn"] ["state", "size"] (defScope sLawTruths) := ⟨rfl, rfl, rfl, by decide +kernel, rfl, by decide +kernel, by decide +kernel⟩
theorem rep_bl (x : Bool) : ∀ n : Nat, (List.replicate n [V.bl x]).flatten = (List.replicate n x).map V.bl
  | 0 => rfl
  | n + 1 => by rw [List.replicate_succ, List.flatten_cons, rep_bl x n, List.replicate_succ]; rfl
theorem ok_truths {f : Addr} {fd : FuncData} (F : Fun K "_law_truths" "_law_truths" sLawTruths f fd) (T : Nm mg) (D_law_take : Df P w K mg base 2 "_law_take" ["state", "size"] [] spTake) : FnOk P w K mg base CX0 3 f fd ["state", "size"] spTruths := by
  refine F.ok scLawTruths (fun vs H Q E h => ?_) (fun cdv A outer s H vs Q E hr h => ?_)
  · walk_at "len"
  · obtain ⟨p, a, b, n, size, rfl, S0, hn, hs, k⟩ := h
    have nd := scLawTruths.nd
    refine ⟨_, (pss_cons (ps_set (i := 2) nd rfl (Or.inr rfl) (pe_df D_law_take (hr.mono (by decide)) (pa_cons (pv 0) (pa_cons pe_int pa_nil))))
      (pss_cons (ps_if (pt_cmpR op_eq (pv 2) pe_int (nomark _))
        (pss_one (ps_ret (pe_lc (own := [("turn", 3)]) (g := (gName 3)) (tt := tYes) rfl nd (pi_range1 (by rfl) T.range (pa_cons (pv 1) pa_nil)) (blkOk_by (N := ["state", "size", "way", "turn"]) (sc := defScope sLawTruths) (by decide +kernel)) (fun _ _ _ _ _ => pg_name (i := 3) nd rfl (Or.inl rfl)) (fun _ _ _ _ _ => pts_nil) (fun _ _ _ _ _ => (pe_cmpR op_eq (pe_df D_law_take (hr.mono (by decide)) (pa_cons (pv 0) (pa_cons pe_int pa_nil))) pe_int (nomark _))))))
        pss_nil)
      (pss_cons (ps_if (pt_cmpR op_eq (pv 2) pe_int (nomark _))
        (pss_one (ps_ret (pe_op op_rep (pe_lst (pa_cons (pe_cmpR op_eq (pe_df D_law_take (hr.mono (by decide)) (pa_cons (pv 0) (pa_cons pe_int pa_nil))) pe_int (nomark _)) pa_nil)) (pv 1))))
        pss_nil)
      (pss_one (ps_ret (pe_lc (own := [("turn", 3)]) (g := (gName 3)) (tt := tYes) rfl nd (pi_range1 (by rfl) T.range (pa_cons (pv 1) pa_nil)) (blkOk_by (N := ["state", "size", "way", "turn"]) (sc := defScope sLawTruths) (by decide +kernel)) (fun _ _ _ _ _ => pg_name (i := 3) nd rfl (Or.inl rfl)) (fun _ _ _ _ _ => pts_nil) (fun _ _ _ _ _ => (pe_cmpR op_eq (pe_cmpR op_eq (pe_df D_law_take (hr.mono (by decide)) (pa_cons (pv 0) (pa_cons pe_int pa_nil))) pe_int (nomark _)) (pe_cmpR op_eq (pv 2) pe_int (nomark _)) (nomark _))))))))), ?_⟩
    walk_at "rd"
    refine ⟨p, a, b, n, 4, rfl, S0, by omega, by decide, by decide, fun wy H1 w0 w1 S1 B1 => ?_⟩
    walk_at "rd"
    rw [dec_int]
    refine ite2 (fun d => ?_) (fun d => ?_)
    · walk_at "rd"
      refine ⟨by omega, by omega, fun D hD => ?_⟩
      refine lc_range (lo := 0) (n := size) (fun i H' => Stt p a b (n + 1 + i) H' ∧ But p a H1 H' ∧ ∃ bs : List Bool, bs.length = i ∧ H' D = some (.lst (bs.map V.bl))) ?_ ?_ ?_
      · obtain ⟨d1, d2, d3⟩ := S1.apart hD
        exact ⟨S1.upd d1 d2 d3, But.of (Same.new hD), [], rfl, upd_same⟩
      · rintro i H' hi ⟨S2, B2, bs, lb, hDl⟩
        walk_at "rd"
        refine ⟨p, a, b, n + 1 + i, 2, rfl, S2, by omega, by decide, by decide, fun z H3 y0 y1 S3 B3 => ?_⟩
        walk_at "rd"
        exact grow_bl _ S1 hD lb hDl B2 S3 B3 (by omega) (by omega)
      · rintro H' ⟨S2, B2, bs, lb, hb⟩
        exact k H' D bs (S2.mono (by omega)) (B1.trans B2) (S0.free B1 S1 hD) hb lb
    · walk_at "rd"
      rw [dec_int]
      refine ite2 (fun d2 => ?_) (fun d2 => ?_)
      · walk_at "rd"
        refine ⟨p, a, b, n + 1, 2, rfl, S1, by omega, by decide, by decide, fun z H2 y0 y1 S2 B2 => ?_⟩
        walk_at "rd"
        refine ⟨by show 1 ≤ sizeLine; decide, fun D hD => ?_⟩
        walk_at "rd"
        refine ⟨D, size, _, rfl, rfl, upd_same, by omega, by omega, by show 1 * (size : Int).toNat ≤ sizeLine; exact szle (by omega), fun q hq => ?_⟩
        have hq2 : H2 q = none := (Same.new hD).free hq
        rw [dec_int] at *
        refine k _ q (List.replicate size (z == 0)) (((S2.same (Same.new hD)).same (Same.new hq)).mono (by omega)) (((B1.trans B2).step hD).step hq) (S0.free (B1.trans B2) S2 hq2) ?_ (by rw [List.length_replicate])
        rw [upd_same, Int.toNat_natCast, rep_bl]
      · walk_at "rd"
        refine ⟨by omega, by omega, fun D hD => ?_⟩
        refine lc_range (lo := 0) (n := size) (fun i H' => Stt p a b (n + 1 + i) H' ∧ But p a H1 H' ∧ ∃ bs : List Bool, bs.length = i ∧ H' D = some (.lst (bs.map V.bl))) ?_ ?_ ?_
        · obtain ⟨d1, d2, d3⟩ := S1.apart hD
          exact ⟨S1.upd d1 d2 d3, But.of (Same.new hD), [], rfl, upd_same⟩
        · rintro i H' hi ⟨S2, B2, bs, lb, hDl⟩
          walk_at "rd"
          refine ⟨p, a, b, n + 1 + i, 5, rfl, S2, by omega, by decide, by decide, fun z H3 y0 y1 S3 B3 => ?_⟩
          walk_at "rd"
          exact grow_bl _ S1 hD lb hDl B2 S3 B3 (by omega) (by omega)
        · rintro H' ⟨S2, B2, bs, lb, hb⟩
          exact k H' D bs (S2.mono (by omega)) (B1.trans B2) (S0.free B1 S1 hD) hb lb
end
end Cf
namespace Cf
open PySem L2
set_option hygiene false
local macro_rules | `(tactic| walk_at "len") => `(tactic| repeat (first | (obtain ⟨e, _⟩ := h; subst e; rfl; done) | (obtain ⟨_, h⟩ := h)))
local macro_rules | `(tactic| walk_at "rd") => `(tactic| repeat (first | refine ⟨_, rfl, ?_⟩ | refine ⟨_, _, rfl, rfl, ?_⟩ | refine ⟨rfl, ?_⟩ | refine ⟨_, _, rfl, ?_⟩))
local macro_rules | `(tactic| walk_at "yes") => `(tactic| (dsimp only [tYes]; rw [if_pos rfl]))
set_option hygiene true
section
variable {P : Program} {w : World} {K : PySem.W.Frag} {mg : Str → Option Value} {base : Heap}
/-! ### drawn sets: a tuple of two lists of truths -/
structure Md (H : Hp) (t h c : Addr) (hb cb : List Bool) : Prop where
  tp : H t = some (.tup [.ref h, .ref c])
  hd : H h = some (.lst (hb.map V.bl))
  cy : H c = some (.lst (cb.map V.bl))
  ne : cb ≠ []
theorem Md.same {H H' : Hp} {t h c : Addr} {hb cb : List Bool} (M : Md H t h c hb cb) (e : Same H H') : Md H' t h c hb cb := ⟨e _ _ M.tp, e _ _ M.hd, e _ _ M.cy, M.ne⟩
theorem Md.but {p a : Addr} {H H' : Hp} {t h c : Addr} {hb cb : List Bool} (M : Md H t h c hb cb) (e : But p a H H') (t1 : t ≠ p ∧ t ≠ a) (h1 : h ≠ p ∧ h ≠ a) (c1 : c ≠ p ∧ c ≠ a) : Md H' t h c hb cb :=
  ⟨e _ _ M.tp t1.1 t1.2, e _ _ M.hd h1.1 h1.2, e _ _ M.cy c1.1 c1.2, M.ne⟩
/-- new since H0 -/
structure Mn (H0 H : Hp) (t h c : Addr) (hb cb : List Bool) : Prop where
  md : Md H t h c hb cb
  nt : H0 t = none
  nh : H0 h = none
  nc : H0 c = none
theorem Mn.but {p a b : Addr} {m : Nat} {H0 H H' : Hp} {t h c : Addr} {hb cb : List Bool} (M : Mn H0 H t h c hb cb) (S : Stt p a b m H0) (e : But p a H H') : Mn H0 H' t h c hb cb :=
  have x1 := S.apart M.nt
  have x2 := S.apart M.nh
  have x3 := S.apart M.nc
  ⟨M.md.but e ⟨x1.1, x1.2.1⟩ ⟨x2.1, x2.2.1⟩ ⟨x3.1, x3.2.1⟩, M.nt, M.nh, M.nc⟩
theorem Mn.same {H0 H H' : Hp} {t h c : Addr} {hb cb : List Bool} (M : Mn H0 H t h c hb cb) (e : Same H H') : Mn H0 H' t h c hb cb := ⟨M.md.same e, M.nt, M.nh, M.nc⟩
def spSet : Sp := fun vs H Q _ => ∃ (p a b : Addr) (n most : Nat), vs = [.ref p, .int most] ∧ Stt p a b n H ∧ n + 300 ≤ 1000000 ∧ 1 ≤ most ∧ most ≤ 100 ∧
  ∀ (H' : Hp) (t h c : Addr) (hb cb : List Bool), Stt p a b (n + 300) H' → But p a H H' → Mn H H' t h c hb cb → hb.length ≤ 2 * most → cb.length ≤ most → Q (.ref t) H'
theorem scLawSet : FnScope ["state", "most", "way", "cycle", "head", "at"] ["state", "most"] (defScope sLawSet) := ⟨rfl, rfl, rfl, by decide +kernel, rfl, by decide +kernel, by decide +kernel⟩
theorem flat_rep (xs : List Bool) : ∀ n : Nat, (List.replicate n (xs.map V.bl)).flatten = ((List.replicate n xs).flatten).map V.bl
  | 0 => rfl
  | n + 1 => by rw [List.replicate_succ, List.flatten_cons, flat_rep xs n, List.replicate_succ, List.flatten_cons, List.map_append]
theorem flat_len (xs : List Bool) : ∀ n : Nat, ((List.replicate n xs).flatten).length = n * xs.length
  | 0 => by simp
  | n + 1 => by rw [List.replicate_succ, List.flatten_cons, List.length_append, flat_len xs n, Nat.succ_mul]; omega
theorem cutB_to {l : List Bool} {k : Int} (h0 : 0 ≤ k) : cutV (l.map V.bl) none (some k) = (l.take k.toNat).map V.bl := by
  unfold cutV
  have e : HT.sIx (l.map V.bl).length (l.map V.bl).length (some k) = min k.toNat l.length := by
    have := HT.sIx_nat (l.map V.bl).length (l.map V.bl).length k.toNat
    rw [Int.toNat_of_nonneg h0] at this
    rw [this, List.length_map]
  rw [HT.sIx_none, e, List.drop_zero, Nat.sub_zero, ← List.map_take]
  congr 1
  rcases Nat.le_total k.toNat l.length with c | c
  · rw [Nat.min_eq_left c]
  · rw [Nat.min_eq_right c, List.take_length, List.take_of_length_le c]
theorem cutB_from {l : List Bool} {k : Int} (h0 : 0 ≤ k) : cutV (l.map V.bl) (some k) none = (l.drop k.toNat).map V.bl := by
  unfold cutV
  have e : HT.sIx (l.map V.bl).length 0 (some k) = min k.toNat l.length := by
    have := HT.sIx_nat (l.map V.bl).length 0 k.toNat
    rw [Int.toNat_of_nonneg h0] at this
    rw [this, List.length_map]
  rw [HT.sIx_none, e, List.length_map, ← List.map_drop, List.take_of_length_le (by rw [List.length_map, List.length_drop]; omega)]
  congr 1
  rcases Nat.le_total k.toNat l.length with c | c
  · rw [Nat.min_eq_left c]
  · rw [Nat.min_eq_right c, List.drop_length, List.drop_of_length_le c]
theorem ok_set {f : Addr} {fd : FuncData} (F : Fun K "_law_set" "_law_set" sLawSet f fd) (T : Nm mg) (D_law_take : Df P w K mg base 2 "_law_take" ["state", "size"] [] spTake) (D_law_truths : Df P w K mg base 3 "_law_truths" ["state", "size"] [] spTruths) : FnOk P w K mg base CX0 4 f fd ["state", "most"] spSet := by
  refine F.ok scLawSet (fun vs H Q E h => ?_) (fun cdv A outer s H vs Q E hr h => ?_)
  · walk_at "len"
  · obtain ⟨p, a, b, n, most, rfl, S0, hn, m1, m2, k⟩ := h
    have nd := scLawSet.nd
    refine ⟨_, (pss_cons (ps_par (i := 2) (j := 3) (by rfl) nd rfl rfl (by decide) rfl rfl (pa_cons (pe_df D_law_take (hr.mono (by decide)) (pa_cons (pv 0) (pa_cons pe_int pa_nil))) (pa_cons (pe_df D_law_truths (hr.mono (by decide)) (pa_cons (pv 0) (pa_cons (pe_op op_add pe_int (pe_df D_law_take (hr.mono (by decide)) (pa_cons (pv 0) (pa_cons (pv 1) pa_nil)))) pa_nil))) pa_nil)) (by rfl))
      (pss_cons (ps_set (i := 4) nd rfl (Or.inl rfl) (pe_df D_law_truths (hr.mono (by decide)) (pa_cons (pv 0) (pa_cons (pe_df D_law_take (hr.mono (by decide)) (pa_cons (pv 0) (pa_cons (pe_op op_add (pv 1) pe_int) pa_nil))) pa_nil))))
      (pss_cons (ps_if (pt_cmpR op_eq (pv 2) pe_int (nomark _))
        (pss_one (ps_ret (pe_tup (pa_cons (pv 4) (pa_cons (pe_op op_rep (pv 3) (pe_op op_add pe_int (pe_df D_law_take (hr.mono (by decide)) (pa_cons (pv 0) (pa_cons (pe_callB (call_max2 rfl) (by rfl) T.max (by decide +kernel) (pa_cons pe_int (pa_cons (pe_op op_fdiv (pv 1) (pe_callB call_len_seq (by rfl) T.len (by decide +kernel) (pa_cons (pv 3) pa_nil))) pa_nil))) pa_nil))))) pa_nil)))))
        pss_nil)
      (pss_cons (ps_if (pt_cmpR op_eq (pv 2) pe_int (nomark _))
        (pss_cons (ps_set (i := 5) nd rfl (Or.inl rfl) (pe_df D_law_take (hr.mono (by decide)) (pa_cons (pv 0) (pa_cons (pe_op op_add (pe_callB call_len_seq (by rfl) T.len (by decide +kernel) (pa_cons (pv 3) pa_nil)) pe_int) pa_nil))))
        (pss_one (ps_ret (pe_tup (pa_cons (pe_op op_cat (pv 4) (pe_slice sl_list (pv 3) po_none (po_some (pv 5)))) (pa_cons (pe_op op_cat (pe_slice sl_list (pv 3) (po_some (pv 5)) po_none) (pe_slice sl_list (pv 3) po_none (po_some (pv 5)))) pa_nil))))))
        pss_nil)
      (pss_one (ps_ret (pe_ifExp (pt_cmpR op_eq (pv 2) pe_int (nomark _)) (pe_tup (pa_cons (pv 4) (pa_cons (pe_lst (pa_cons pe_bl pa_nil)) pa_nil))) (pe_tup (pa_cons (pv 4) (pa_cons (pv 3) pa_nil)))))))))), ?_⟩
    walk_at "rd"
    refine ⟨p, a, b, n, 5, rfl, S0, by omega, by decide, by decide, fun wy H1 w0 w1 S1 B1 => ?_⟩
    walk_at "rd"
    refine ⟨p, a, b, n + 1, most, rfl, S1, by omega, by omega, by omega, fun z1 H2 a1 b1 S2 B2 => ?_⟩
    walk_at "rd"
    have e1 : (1 : Int) + z1 = (((1 + z1.toNat : Nat)) : Int) := by omega
    refine ⟨p, a, b, n + 2, 1 + z1.toNat, congrArg (fun z => [V.ref p, V.int z]) e1, S2, by omega, by omega, fun H3 cy cb S3 B3 ncy hcy lcb => ?_⟩
    walk_at "rd"
    refine ⟨p, a, b, _, (most : Int) + 1, rfl, S3, by omega, by omega, by omega, fun z2 H4 a2 b2 S4 B4 => ?_⟩
    walk_at "rd"
    have e2 : z2 = ((z2.toNat : Nat) : Int) := by omega
    refine ⟨p, a, b, _, z2.toNat, congrArg (fun z => [V.ref p, V.int z]) e2, S4, by omega, by omega, fun H5 hd hb S5 B5 nhd hhd lhb => ?_⟩
    walk_at "rd"
    have cbn : cb ≠ [] := by intro e; rw [e] at lcb; simp at lcb; omega
    have ncy0 : H cy = none := S0.free (B1.trans B2) S2 ncy
    have nhd0 : H hd = none := S0.free (((B1.trans B2).trans B3).trans B4) S4 nhd
    have B05 := (((B1.trans B2).trans B3).trans B4).trans B5
    have xcy := S0.apart ncy0
    have hcy5 : H5 cy = some (.lst (cb.map V.bl)) := (B4.trans B5) _ _ hcy xcy.1 xcy.2.1
    rw [dec_int]
    refine ite2 (fun d => ?_) (fun d => ?_)
    · -- the cycle some times over
      walk_at "rd"
      refine ⟨cy, _, rfl, .inl (SqL.of hcy5), ?_⟩
      rw [List.length_map]
      walk_at "rd"
      have c1 : 1 ≤ cb.length := by omega
      refine ⟨⟨by omega, by omega⟩, ?_⟩
      walk_at "rd"
      have dl : (most : Int) / (cb.length : Int) = ((most / cb.length : Nat) : Int) := rfl
      have dm : most / cb.length ≤ most := Nat.div_le_self _ _
      obtain ⟨mx, emx, x0, x1, x2⟩ : ∃ mx : Nat, (if (most : Int) / (cb.length : Int) > 1 then (most : Int) / (cb.length : Int) else 1) = (mx : Int) ∧ 1 ≤ mx ∧ mx ≤ most ∧ mx * cb.length ≤ most := by
        rw [dl]
        by_cases q : ((most / cb.length : Nat) : Int) > 1
        · exact ⟨most / cb.length, by rw [if_pos q], by omega, dm, Nat.div_mul_le_self _ _⟩
        · exact ⟨1, by rw [if_neg q]; rfl, Nat.le_refl _, m1, by omega⟩
      rw [emx]
      refine ⟨p, a, b, _, mx, rfl, S5, by omega, by omega, by omega, fun z3 H6 a3 b3 S6 B6 => ?_⟩
      walk_at "rd"
      have z3l : (1 + z3).toNat ≤ mx := by omega
      have sz := Nat.mul_le_mul_right cb.length z3l
      have hcy6 := B6 _ _ hcy5 xcy.1 xcy.2.1
      refine ⟨cy, 1 + z3, _, rfl, rfl, hcy6, by omega, by omega, by rw [List.length_map, Nat.mul_comm]; exact szle (by omega), fun q hq => ?_⟩
      rw [flat_rep]
      walk_at "rd"
      refine ⟨by show 2 ≤ sizeLine; decide, fun t ht => ?_⟩
      have B06 := B05.trans B6
      have nq : H q = none := S0.free B06 S6 hq
      have nt : H t = none := S0.free B06 S6 ((Same.new hq).free ht)
      have xhd := S0.apart nhd0
      have S67 := (Same.new (H := H6) (o := .lst (((List.replicate (1 + z3).toNat cb).flatten).map V.bl)) hq).step (o := .tup [.ref hd, .ref q]) ht
      refine k _ t hd q hb ((List.replicate (1 + z3).toNat cb).flatten) ((S6.same S67).mono (by omega)) (B06.trans (But.of S67)) ⟨⟨upd_same, S67 _ _ (B6 _ _ hhd xhd.1 xhd.2.1), ?_, ?_⟩, nt, nhd0, nq⟩ (by omega) (by rw [flat_len]; omega)
      · rw [upd_ne (ne_of_none upd_same ht), upd_same]
      · intro e
        have := congrArg List.length e
        rw [flat_len] at this
        have p1 : 0 < (1 + z3).toNat * cb.length := Nat.mul_pos (by omega) c1
        rw [List.length_nil] at this
        exact Nat.ne_of_gt p1 this
    · walk_at "rd"
      rw [dec_int]
      have xhd := S0.apart nhd0
      refine ite2 (fun d2 => ?_) (fun d2 => ?_)
      · -- a part of the cycle into the head
        walk_at "rd"
        refine ⟨cy, _, rfl, .inl (SqL.of hcy5), ?_⟩
        rw [List.length_map]
        walk_at "rd"
        refine ⟨p, a, b, _, (cb.length : Int) + 1, rfl, S5, by omega, by omega, by omega, fun z3 H6 a3 b3 S6 B6 => ?_⟩
        walk_at "rd"
        have hcy6 := B6 _ _ hcy5 xcy.1 xcy.2.1
        have hhd6 := B6 _ _ hhd xhd.1 xhd.2.1
        have B06 := B05.trans B6
        refine ⟨cy, _, rfl, SqL.of hcy6, fun q1 hq1 => ?_⟩
        rw [cutB_to a3]
        have n1 : hd ≠ q1 := ne_of_none hhd6 hq1
        refine ⟨hd, q1, _, _, rfl, rfl, by rw [upd_ne n1]; exact hhd6, upd_same, by rw [List.length_map, List.length_map, List.length_take]; exact szle (by omega), fun q2 hq2 => ?_⟩
        rw [← List.map_append]
        have T2 := (Same.new (H := H6) (o := .lst ((cb.take z3.toNat).map V.bl)) hq1).step (o := .lst ((hb ++ cb.take z3.toNat).map V.bl)) hq2
        have h2 : (upd (upd H6 q1 (.lst ((cb.take z3.toNat).map V.bl))) q2 (.lst ((hb ++ cb.take z3.toNat).map V.bl))) q2 = some (.lst ((hb ++ cb.take z3.toNat).map V.bl)) := upd_same
        have nq2 : H6 q2 = none := (Same.new hq1).free hq2
        generalize upd (upd H6 q1 (.lst ((cb.take z3.toNat).map V.bl))) q2 (.lst ((hb ++ cb.take z3.toNat).map V.bl)) = H7 at T2 h2
        walk_at "rd"
        refine ⟨cy, _, rfl, SqL.of (T2 _ _ hcy6), fun q3 hq3 => ?_⟩
        rw [cutB_from a3]
        walk_at "rd"
        refine ⟨cy, _, rfl, SqL.of ((Same.new hq3) _ _ (T2 _ _ hcy6)), fun q4 hq4 => ?_⟩
        rw [cutB_to a3]
        have n34 : q3 ≠ q4 := ne_of_none upd_same hq4
        refine ⟨q3, q4, _, _, rfl, rfl, by rw [upd_ne n34, upd_same], upd_same, by rw [List.length_map, List.length_map, List.length_take, List.length_drop]; exact szle (by omega), fun q5 hq5 => ?_⟩
        rw [← List.map_append]
        walk_at "rd"
        refine ⟨by show 2 ≤ sizeLine; decide, fun t ht => ?_⟩
        have T5 := ((Same.new (H := H7) (o := .lst ((cb.drop z3.toNat).map V.bl)) hq3).step (o := .lst ((cb.take z3.toNat).map V.bl)) hq4).step (o := .lst ((cb.drop z3.toNat ++ cb.take z3.toNat).map V.bl)) hq5
        have T6 := T5.step (o := .tup [.ref q2, .ref q5]) ht
        have T26 := T2.trans T6
        have nq5 : H6 q5 = none := T2.free (((Same.new hq3).step hq4).free hq5)
        have nt6 : H6 t = none := T2.free (T5.free ht)
        refine k _ t q2 q5 (hb ++ cb.take z3.toNat) (cb.drop z3.toNat ++ cb.take z3.toNat) ((S6.same T26).mono (by omega)) (B06.trans (But.of T26)) ⟨⟨upd_same, T6 _ _ h2, ?_, ?_⟩, S0.free B06 S6 nt6, S0.free B06 S6 nq2, S0.free B06 S6 nq5⟩ ?_ ?_
        · rw [upd_ne (ne_of_none upd_same ht), upd_same]
        · intro e
          have := congrArg List.length e
          rw [List.length_append, List.length_drop, List.length_take, List.length_nil] at this
          have := List.length_pos_iff.mpr cbn
          omega
        · rw [List.length_append, List.length_take]; omega
        · rw [List.length_append, List.length_drop, List.length_take]; omega
      · walk_at "rd"
        rw [dec_int]
        refine ite2 (fun d3 => ?_) (fun d3 => ?_)
        · walk_at "rd"
          refine ⟨by show 1 ≤ sizeLine; decide, fun q hq => ?_⟩
          walk_at "rd"
          refine ⟨by show 2 ≤ sizeLine; decide, fun t ht => ?_⟩
          have T2 := (Same.new (H := H5) (o := .lst [.bl false]) hq).step (o := .tup [.ref hd, .ref q]) ht
          refine k _ t hd q hb [false] ((S5.same T2).mono (by omega)) (B05.trans (But.of T2)) ⟨⟨upd_same, T2 _ _ hhd, ?_, by simp⟩, S0.free B05 S5 ((Same.new hq).free ht), nhd0, S0.free B05 S5 hq⟩ (by omega) (by simp; omega)
          rw [upd_ne (ne_of_none upd_same ht), upd_same]; rfl
        · walk_at "rd"
          refine ⟨by show 2 ≤ sizeLine; decide, fun t ht => ?_⟩
          have T2 := Same.new (H := H5) (o := .tup [.ref hd, .ref cy]) ht
          exact k _ t hd cy hb cb ((S5.same T2).mono (by omega)) (B05.trans (But.of T2)) ⟨⟨upd_same, T2 _ _ hhd, T2 _ _ hcy5, cbn⟩, S0.free B05 S5 ht, nhd0, ncy0⟩ (by omega) (by omega)
end
end Cf
namespace Cf
open PySem L2
set_option hygiene false
local macro_rules | `(tactic| walk_at "len") => `(tactic| repeat (first | (obtain ⟨e, _⟩ := h; subst e; rfl; done) | (obtain ⟨_, h⟩ := h)))
local macro_rules | `(tactic| walk_at "rd") => `(tactic| repeat (first | refine ⟨_, rfl, ?_⟩ | refine ⟨_, _, rfl, rfl, ?_⟩ | refine ⟨rfl, ?_⟩ | refine ⟨_, _, rfl, ?_⟩))
local macro_rules | `(tactic| walk_at "yes") => `(tactic| (dsimp only [tYes]; rw [if_pos rfl]))
set_option hygiene true
section
variable {P : Program} {w : World} {K : PySem.W.Frag} {mg : Str → Option Value} {base : Heap}
theorem els_both (S T : Int → Bool) (lo hi : Int) : (els S lo hi).filter (fun d => decide (d ∈ els T lo hi)) = els (fun d => S d && T d) lo hi := by
  refine asc_ext (List.Pairwise.filter _ (asc_els _ _ _)) (asc_els _ _ _) fun d => ?_
  rw [List.mem_filter, decide_eq_true_iff, mem_els, mem_els, mem_els]
  cases S d <;> cases T d <;> simp
theorem els_or (S T : Int → Bool) (lo hi : Int) {ns : List Int} (asc : Asc ns) (h : ∀ d, d ∈ ns ↔ d ∈ els S lo hi ∨ d ∈ els T lo hi) : ns = els (fun d => S d || T d) lo hi := by
  refine asc_ext asc (asc_els _ _ _) fun d => ?_
  rw [h d, mem_els, mem_els, mem_els]
  cases S d <;> cases T d <;> simp
theorem els_not (S : Int → Bool) (hi : Int) : ((List.range hi.toNat).map fun (i : Nat) => (i : Int)).filter (fun d => decide (d ∉ els S 0 hi)) = els (fun d => decide (0 ≤ d) && !S d) 0 hi := by
  have A : Asc ((List.range hi.toNat).map fun (i : Nat) => (i : Int)) := by
    rw [Asc, List.pairwise_map]
    exact List.Pairwise.imp (fun h => by omega) List.pairwise_lt_range
  refine asc_ext (List.Pairwise.filter _ A) (asc_els _ _ _) fun d => ?_
  rw [List.mem_filter, decide_eq_true_iff, mem_els, mem_els, List.mem_map]
  constructor
  · rintro ⟨⟨i, hi', rfl⟩, h⟩
    rw [List.mem_range] at hi'
    refine ⟨⟨by omega, by omega⟩, ?_⟩
    cases e : S (i : Int) with
    | true => exact absurd ⟨⟨by omega, by omega⟩, e⟩ h
    | false => simp
  · rintro ⟨⟨h1, h2⟩, h3⟩
    refine ⟨⟨d.toNat, List.mem_range.mpr (by omega), by omega⟩, fun h => ?_⟩
    rw [h.2] at h3
    simp at h3
end
end Cf
namespace Cf
open PySem L2
set_option hygiene false
local macro_rules | `(tactic| walk_at "len") => `(tactic| repeat (first | (obtain ⟨e, _⟩ := h; subst e; rfl; done) | (obtain ⟨_, h⟩ := h)))
local macro_rules | `(tactic| walk_at "rd") => `(tactic| repeat (first | refine ⟨_, rfl, ?_⟩ | refine ⟨_, _, rfl, rfl, ?_⟩ | refine ⟨rfl, ?_⟩ | refine ⟨_, _, rfl, ?_⟩))
local macro_rules | `(tactic| walk_at "yes") => `(tactic| (dsimp only [tYes]; rw [if_pos rfl]))
set_option hygiene true
section
variable {P : Program} {w : World} {K : PySem.W.Frag} {mg : Str → Option Value} {base : Heap}
/-! ### or, and -/
theorem scDsOr : FnScope ["self", "other", "start", "period", "end"] ["self", "other"] (defScope sDsOr) := ⟨rfl, rfl, rfl, by decide +kernel, rfl, by decide +kernel, by decide +kernel⟩
theorem ok_or {f C : Addr} {fd : FuncData} (F : Fun K "__or__" "DaySet.__or__" sDsOr f fd) (T : Nm mg) (T2 : Txd K mg C) (D_common_frame : Df P w K mg base 3 "common_frame" ["one", "other"] [] (spCommonFrame K C)) (D_listed : Dm P w K mg base 2 C "_listed" ["self", "low", "high"] (spListed K C))
    (D_in_either : Df P w K mg base 1 "in_either" ["days", "others"] [] spInEither) (D_init : Dmk P w K mg base 3 C ["self", "start", "period", "days"] (spInit K C)) : FnOk P w K mg base CX0 5 f fd ["self", "other"] (spBin K C fun a b => a || b) := by
  refine F.ok scDsOr (fun vs H Q E h => ?_) (fun cdv A outer s H vs Q E hr h => ?_)
  · walk_at "len"
  · obtain ⟨x, y, S, U, st, p, st', p', rfl, Dx, Dy, bd, k⟩ := h
    have nd := scDsOr.nd
    obtain ⟨dx, hx, cx, X1⟩ := id Dx
    obtain ⟨dy, hy, cy, Y1⟩ := id Dy
    have px := Dx.can.fr.p1
    have py := Dy.can.fr.p1
    have sx := Dx.can.fr.s0
    have sy := Dy.can.fr.s0
    have mx := @max_le st st'
    have lx := lcm_ge px py
    refine ⟨_, (pss_cons (ps_asg (pe_df D_common_frame (hr.mono (by decide)) (pa_cons (pv 0) (pa_cons (pv 1) pa_nil))) (pg_tup (by rfl) (pgs_cons (pg_name (i := 2) nd rfl (Or.inl rfl)) (pgs_cons (pg_name (i := 3) nd rfl (Or.inl rfl)) pgs_nil))))
      (pss_cons (ps_set (i := 4) nd rfl (Or.inl rfl) (pe_op op_add (pv 2) (pv 3)))
      (pss_one (ps_ret (pe_dmake D_init T2.mgC (hr.mono (by decide)) (pa_cons (pv 2) (pa_cons (pv 3) (pa_cons (pe_df D_in_either (hr.mono (by decide)) (pa_cons (pe_dm D_listed T2.cl (hr.mono (by decide)) (pv 0) (pa_cons pe_int (pa_cons (pv 4) pa_nil))) (pa_cons (pe_dm D_listed T2.cl (hr.mono (by decide)) (pv 1) (pa_cons pe_int (pa_cons (pv 4) pa_nil))) pa_nil))) pa_nil)))))))), ?_⟩
    walk_at "rd"
    refine ⟨x, y, S, U, st, p, st', p', rfl, Dx, Dy, by omega, by omega, fun H1 t S1 ht htt => ?_⟩
    refine ⟨t, _, rfl, SqT.of htt, rfl, ?_⟩
    walk_at "rd"
    refine ⟨x, dx, _, rfl, S1 _ _ X1.ob, dsF_no (by decide +kernel) (by decide +kernel) (by decide +kernel) (by decide +kernel), ?_⟩
    walk_at "rd"
    refine ⟨x, S, st, p, _, _, rfl, Dx.same S1, by omega, by omega, by omega, by omega, by omega, fun H2 q S2 hq hql => ?_⟩
    walk_at "rd"
    refine ⟨y, dy, _, rfl, S2 _ _ (S1 _ _ Y1.ob), dsF_no (by decide +kernel) (by decide +kernel) (by decide +kernel) (by decide +kernel), ?_⟩
    walk_at "rd"
    refine ⟨y, U, st', p', _, _, rfl, (Dy.same S1).same S2, by omega, by omega, by omega, by omega, by omega, fun H3 r S3 hr' hrl => ?_⟩
    walk_at "rd"
    have b1 := els_length_le S 0 (maxI st st' + lcmI p p')
    have b2 := els_length_le U 0 (maxI st st' + lcmI p p')
    refine ⟨q, r, _, _, rfl, S3 _ _ hql, hrl, by omega, fun H4 l ns S4 hl4 hll asc mem => ?_⟩
    rw [els_or S U 0 _ asc mem] at hll
    have S14 := (((S1.trans S2).trans S3).trans S4)
    refine mk_tail (S := fun d => S d || U d) (Dx.can.fr.both Dy.can.fr (fun a b => a || b) mx.1 mx.2) (fun d hd => by rw [Dx.neg d hd, Dy.neg d hd]; rfl) (LI.new hll) (by rw [hll]; simp) (by omega) (by omega) fun H' z s'' p'' S5 D ss pp => ?_
    exact k H' z s'' p'' (S14.trans S5) (D.old S14) ss pp
theorem scDsAnd : FnScope ["self", "other", "start", "period", "end"] ["self", "other"] (defScope sDsAnd) := ⟨rfl, rfl, rfl, by decide +kernel, rfl, by decide +kernel, by decide +kernel⟩
theorem ok_and {f C : Addr} {fd : FuncData} (F : Fun K "__and__" "DaySet.__and__" sDsAnd f fd) (T : Nm mg) (T2 : Txd K mg C) (D_common_frame : Df P w K mg base 3 "common_frame" ["one", "other"] [] (spCommonFrame K C)) (D_listed : Dm P w K mg base 2 C "_listed" ["self", "low", "high"] (spListed K C))
    (D_is_finite : Dpr P w K mg base 1 C "is_finite" (spFinite K C)) (D_among : Dm P w K mg base 2 C "_among" ["self", "days"] (spAmong K C)) (D_in_both : Df P w K mg base 1 "in_both" ["days", "others"] [] (spInBoth K)) (D_init : Dmk P w K mg base 3 C ["self", "start", "period", "days"] (spInit K C)) : FnOk P w K mg base CX0 5 f fd ["self", "other"] (spBin K C fun a b => a && b) := by
  refine F.ok scDsAnd (fun vs H Q E h => ?_) (fun cdv A outer s H vs Q E hr h => ?_)
  · walk_at "len"
  · obtain ⟨x, y, S, U, st, p, st', p', rfl, Dx, Dy, bd, k⟩ := h
    have nd := scDsAnd.nd
    obtain ⟨dx, hx, cx, X1⟩ := id Dx
    obtain ⟨dy, hy, cy, Y1⟩ := id Dy
    have px := Dx.can.fr.p1
    have py := Dy.can.fr.p1
    have sx := Dx.can.fr.s0
    have sy := Dy.can.fr.s0
    have mx := @max_le st st'
    have lx := lcm_ge px py
    have lh := els_length_le S 0 st
    have lh' := els_length_le U 0 st'
    refine ⟨_, (pss_cons (ps_if (pt_val (pe_dprop D_is_finite T2.cl (hr.mono (by decide)) (pv 0)))
        (pss_one (ps_ret (pe_dmake D_init T2.mgC (hr.mono (by decide)) (pa_cons (pe_fld (pv 0) rfl) (pa_cons pe_int (pa_cons (pe_dm D_among T2.cl (hr.mono (by decide)) (pv 1) (pa_cons (pe_fld (pv 0) rfl) pa_nil)) pa_nil))))))
        pss_nil)
      (pss_cons (ps_if (pt_val (pe_dprop D_is_finite T2.cl (hr.mono (by decide)) (pv 1)))
        (pss_one (ps_ret (pe_dmake D_init T2.mgC (hr.mono (by decide)) (pa_cons (pe_fld (pv 1) rfl) (pa_cons pe_int (pa_cons (pe_dm D_among T2.cl (hr.mono (by decide)) (pv 0) (pa_cons (pe_fld (pv 1) rfl) pa_nil)) pa_nil))))))
        pss_nil)
      (pss_cons (ps_asg (pe_df D_common_frame (hr.mono (by decide)) (pa_cons (pv 0) (pa_cons (pv 1) pa_nil))) (pg_tup (by rfl) (pgs_cons (pg_name (i := 2) nd rfl (Or.inl rfl)) (pgs_cons (pg_name (i := 3) nd rfl (Or.inl rfl)) pgs_nil))))
      (pss_cons (ps_set (i := 4) nd rfl (Or.inl rfl) (pe_op op_add (pv 2) (pv 3)))
      (pss_one (ps_ret (pe_dmake D_init T2.mgC (hr.mono (by decide)) (pa_cons (pv 2) (pa_cons (pv 3) (pa_cons (pe_df D_in_both (hr.mono (by decide)) (pa_cons (pe_dm D_listed T2.cl (hr.mono (by decide)) (pv 0) (pa_cons pe_int (pa_cons (pv 4) pa_nil))) (pa_cons (pe_dm D_listed T2.cl (hr.mono (by decide)) (pv 1) (pa_cons pe_int (pa_cons (pv 4) pa_nil))) pa_nil))) pa_nil)))))))))), ?_⟩
    walk_at "rd"
    refine ⟨x, dx, _, rfl, X1.ob, x, S, st, p, rfl, Dx, fun emp => ?_, fun nemp => ?_⟩
    · refine ⟨true, rfl, iteT ?_⟩
      walk_at "rd"
      have off := fin_fr Dx.can.fr emp
      refine ⟨x, C, dx, _, _, rfl, X1.ob, T2.cl, T2.nS, dsF_start, ?_⟩
      walk_at "rd"
      refine ⟨y, dy, _, rfl, Y1.ob, dsF_no (by decide +kernel) (by decide +kernel) (by decide +kernel) (by decide +kernel), ?_⟩
      walk_at "rd"
      refine ⟨x, C, dx, _, _, rfl, X1.ob, T2.cl, T2.nH, dsF_head, ?_⟩
      walk_at "rd"
      refine ⟨y, hx, U, st', p', _, rfl, Dy, X1.hd, asc_els _ _ _, by omega, by omega, by omega, fun H1 q S1 hq hql => ?_⟩
      walk_at "rd"
      rw [els_with] at hql
      have off2 : ∀ d, st ≤ d → (fun d => S d && U d) d = false := fun d hd => by show (S d && U d) = false; rw [off d hd]; rfl
      rw [← els_off sx off2] at hql
      refine mk_tail (S := fun d => S d && U d) (fr_off sx off2) (fun d hd => by rw [Dx.neg d hd]; rfl) (LI.new hql) (by rw [hql]; simp) (by omega) (by omega) fun H' z s'' p'' S5 D ss pp => ?_
      exact k H' z s'' p'' (S1.trans S5) (D.old S1) (by omega) (by omega)
    refine ⟨false, rfl, iteF ?_⟩
    walk_at "rd"
    refine ⟨y, dy, _, rfl, Y1.ob, y, U, st', p', rfl, Dy, fun emp => ?_, fun nemp2 => ?_⟩
    · refine ⟨true, rfl, iteT ?_⟩
      walk_at "rd"
      have off := fin_fr Dy.can.fr emp
      refine ⟨y, C, dy, _, _, rfl, Y1.ob, T2.cl, T2.nS, dsF_start, ?_⟩
      walk_at "rd"
      refine ⟨x, dx, _, rfl, X1.ob, dsF_no (by decide +kernel) (by decide +kernel) (by decide +kernel) (by decide +kernel), ?_⟩
      walk_at "rd"
      refine ⟨y, C, dy, _, _, rfl, Y1.ob, T2.cl, T2.nH, dsF_head, ?_⟩
      walk_at "rd"
      refine ⟨x, hy, S, st, p, _, rfl, Dx, Y1.hd, asc_els _ _ _, by omega, by omega, by omega, fun H1 q S1 hq hql => ?_⟩
      walk_at "rd"
      rw [els_with, show (fun d => U d && S d) = fun d => S d && U d from funext fun d => Bool.and_comm _ _] at hql
      have off2 : ∀ d, st' ≤ d → (fun d => S d && U d) d = false := fun d hd => by show (S d && U d) = false; rw [off d hd, Bool.and_false]
      rw [← els_off sy off2] at hql
      refine mk_tail (S := fun d => S d && U d) (fr_off sy off2) (fun d hd => by rw [Dx.neg d hd]; rfl) (LI.new hql) (by rw [hql]; simp) (by omega) (by omega) fun H' z s'' p'' S5 D ss pp => ?_
      exact k H' z s'' p'' (S1.trans S5) (D.old S1) (by omega) (by omega)
    refine ⟨false, rfl, iteF ?_⟩
    walk_at "rd"
    refine ⟨x, y, S, U, st, p, st', p', rfl, Dx, Dy, by omega, by omega, fun H1 t S1 ht htt => ?_⟩
    refine ⟨t, _, rfl, SqT.of htt, rfl, ?_⟩
    walk_at "rd"
    refine ⟨x, dx, _, rfl, S1 _ _ X1.ob, dsF_no (by decide +kernel) (by decide +kernel) (by decide +kernel) (by decide +kernel), ?_⟩
    walk_at "rd"
    refine ⟨x, S, st, p, _, _, rfl, Dx.same S1, by omega, by omega, by omega, by omega, by omega, fun H2 q S2 hq hql => ?_⟩
    walk_at "rd"
    refine ⟨y, dy, _, rfl, S2 _ _ (S1 _ _ Y1.ob), dsF_no (by decide +kernel) (by decide +kernel) (by decide +kernel) (by decide +kernel), ?_⟩
    walk_at "rd"
    refine ⟨y, U, st', p', _, _, rfl, (Dy.same S1).same S2, by omega, by omega, by omega, by omega, by omega, fun H3 r S3 hr' hrl => ?_⟩
    walk_at "rd"
    have b1 := els_length_le S 0 (maxI st st' + lcmI p p')
    have b2 := els_length_le U 0 (maxI st st' + lcmI p p')
    refine ⟨q, r, _, _, rfl, LI.new (S3 _ _ hql), LI.new hrl, by omega, by omega, fun H4 l S4 hl4 hll => ?_⟩
    rw [els_both] at hll
    have S14 := (((S1.trans S2).trans S3).trans S4)
    refine mk_tail (S := fun d => S d && U d) (Dx.can.fr.both Dy.can.fr (fun a b => a && b) mx.1 mx.2) (fun d hd => by rw [Dx.neg d hd]; rfl) (LI.new hll) (by rw [hll]; simp) (by omega) (by omega) fun H' z s'' p'' S5 D ss pp => ?_
    exact k H' z s'' p'' (S14.trans S5) (D.old S14) ss pp
end
end Cf
namespace Cf
open PySem L2
set_option hygiene false
local macro_rules | `(tactic| walk_at "len") => `(tactic| repeat (first | (obtain ⟨e, _⟩ := h; subst e; rfl; done) | (obtain ⟨_, h⟩ := h)))
local macro_rules | `(tactic| walk_at "rd") => `(tactic| repeat (first | refine ⟨_, rfl, ?_⟩ | refine ⟨_, _, rfl, rfl, ?_⟩ | refine ⟨rfl, ?_⟩ | refine ⟨_, _, rfl, ?_⟩))
local macro_rules | `(tactic| walk_at "yes") => `(tactic| (dsimp only [tYes]; rw [if_pos rfl]))
set_option hygiene true
section
variable {P : Program} {w : World} {K : PySem.W.Frag} {mg : Str → Option Value} {base : Heap}
/-! ### the days that are not in it -/
def notS (S : Int → Bool) : Int → Bool := fun d => decide (0 ≤ d) && !S d
theorem notS_fr {S : Int → Bool} {s p : Int} (F : Fr S s p) : Fr (notS S) s p := by
  have s0 := F.s0
  refine ⟨F.s0, F.p1, fun d hd => ?_⟩
  have e := F.per d hd
  have p1 := F.p1
  unfold notS
  rw [e, decide_eq_true (show (0 : Int) ≤ d + p by omega), decide_eq_true (show (0 : Int) ≤ d by omega)]
def spInvert (K : PySem.W.Frag) (C : Addr) : Sp := fun vs H Q _ => ∃ (x : Addr) (S : Int → Bool) (s p : Int), vs = [.ref x] ∧ Ds K C H x S s p ∧ s + p < 1980 ∧
  ∀ (H' : Hp) (z : Addr) (s'' p'' : Int), Same H H' → Dn K C H H' z (notS S) s'' p'' → s'' ≤ s → p'' ≤ p → Q (.ref z) H'
theorem scDsInvert : FnScope ["self", "end"] ["self"] (defScope sDsInvert) := ⟨rfl, rfl, rfl, by decide +kernel, rfl, by decide +kernel, by decide +kernel⟩
theorem ok_invert {f C : Addr} {fd : FuncData} (F : Fun K "__invert__" "DaySet.__invert__" sDsInvert f fd) (T : Nm mg) (T2 : Txd K mg C) (D_listed : Dm P w K mg base 2 C "_listed" ["self", "low", "high"] (spListed K C))
    (D_in_first : Df P w K mg base 1 "in_first" ["days", "others"] [] (spInFirst K)) (D_init : Dmk P w K mg base 3 C ["self", "start", "period", "days"] (spInit K C)) : FnOk P w K mg base CX0 5 f fd ["self"] (spInvert K C) := by
  refine F.ok scDsInvert (fun vs H Q E h => ?_) (fun cdv A outer s H vs Q E hr h => ?_)
  · walk_at "len"
  · obtain ⟨x, S, st, p, rfl, Dx, bd, k⟩ := h
    have nd := scDsInvert.nd
    obtain ⟨dx, hx, cx, X1⟩ := id Dx
    have px := Dx.can.fr.p1
    have sx := Dx.can.fr.s0
    refine ⟨_, (pss_cons (ps_set (i := 1) nd rfl (Or.inl rfl) (pe_op op_add (pe_fld (pv 0) rfl) (pe_fld (pv 0) rfl)))
      (pss_one (ps_ret (pe_dmake D_init T2.mgC (hr.mono (by decide)) (pa_cons (pe_fld (pv 0) rfl) (pa_cons (pe_fld (pv 0) rfl) (pa_cons (pe_df D_in_first (hr.mono (by decide)) (pa_cons (pe_listRg rfl (by rfl) T.list (prg_1 (by rfl) T.range (pv 1))) (pa_cons (pe_dm D_listed T2.cl (hr.mono (by decide)) (pv 0) (pa_cons pe_int (pa_cons (pv 1) pa_nil))) pa_nil))) pa_nil))))))), ?_⟩
    walk_at "rd"
    refine ⟨x, C, dx, _, _, rfl, X1.ob, T2.cl, T2.nS, dsF_start, ?_⟩
    walk_at "rd"
    refine ⟨x, C, dx, _, _, rfl, X1.ob, T2.cl, T2.nP, dsF_period, ?_⟩
    walk_at "rd"
    refine ⟨x, C, dx, _, _, rfl, X1.ob, T2.cl, T2.nS, dsF_start, ?_⟩
    walk_at "rd"
    refine ⟨x, C, dx, _, _, rfl, X1.ob, T2.cl, T2.nP, dsF_period, ?_⟩
    walk_at "rd"
    refine ⟨⟨by omega, by omega, by omega, by omega, by omega⟩, fun q hq => ?_⟩
    have S1 := Same.new (o := .lst (rgV 0 (st + p))) hq
    walk_at "rd"
    refine ⟨x, dx, _, rfl, S1 _ _ X1.ob, dsF_no (by decide +kernel) (by decide +kernel) (by decide +kernel) (by decide +kernel), ?_⟩
    walk_at "rd"
    refine ⟨x, S, st, p, _, _, rfl, Dx.same S1, by omega, by omega, by omega, by omega, by omega, fun H2 r S2 hr2 hrl => ?_⟩
    walk_at "rd"
    have b1 := els_length_le S 0 (st + p)
    have er : rgV 0 (st + p) = ((List.range (st + p).toNat).map fun (i : Nat) => (i : Int)).map V.int := by
      unfold rgV
      rw [List.map_map, Int.sub_zero]
      exact List.map_congr_left fun i _ => by show V.int (0 + (i : Int)) = V.int (i : Int); rw [Int.zero_add]
    refine ⟨q, r, (List.range (st + p).toNat).map fun (i : Nat) => (i : Int), _, rfl, LI.new (by rw [S2 _ _ upd_same, er]), LI.new hrl, by rw [List.length_map, List.length_range]; omega, by omega, fun H3 l S3 hl3 hll => ?_⟩
    rw [els_not] at hll
    have S13 := (S1.trans S2).trans S3
    refine mk_tail (S := notS S) (notS_fr Dx.can.fr) (fun d hd => by unfold notS; rw [decide_eq_false (by omega)]; rfl) (LI.new hll) (by rw [hll]; simp) (by omega) (by omega) fun H' z s'' p'' S5 D ss pp => ?_
    exact k H' z s'' p'' (S13.trans S5) (D.old S13) ss pp
end
end Cf
namespace Cf
open PySem L2
set_option hygiene false
local macro_rules | `(tactic| walk_at "len") => `(tactic| repeat (first | (obtain ⟨e, _⟩ := h; subst e; rfl; done) | (obtain ⟨_, h⟩ := h)))
local macro_rules | `(tactic| walk_at "rd") => `(tactic| repeat (first | refine ⟨_, rfl, ?_⟩ | refine ⟨_, _, rfl, rfl, ?_⟩ | refine ⟨rfl, ?_⟩ | refine ⟨_, _, rfl, ?_⟩))
local macro_rules | `(tactic| walk_at "yes") => `(tactic| (dsimp only [tYes]; rw [if_pos rfl]))
set_option hygiene true
section
variable {P : Program} {w : World} {K : PySem.W.Frag} {mg : Str → Option Value} {base : Heap}
def spPat (K : PySem.W.Frag) (C : Addr) : Sp := fun vs H Q _ => ∃ (t h c : Addr) (hb cb : List Bool), vs = [.ref t] ∧ Md H t h c hb cb ∧ hb.length + cb.length < 100000 ∧ ∀ (H' : Hp) (x : Addr) (s p : Int), Same H H' → Dn K C H H' x (patS hb cb) s p → s ≤ hb.length → p ≤ cb.length → Q (.ref x) H'
theorem scLawPattern : FnScope ["model"] ["model"] (defScope sLawPattern) := ⟨rfl, rfl, rfl, by decide +kernel, rfl, by decide +kernel, by decide +kernel⟩
theorem ok_pat {f C : Addr} {fd : FuncData} (F : Fun K "_law_pattern" "_law_pattern" sLawPattern f fd) (T2 : Txd K mg C) (D_pattern : Dcm P w K mg base 5 C "pattern" ["cls", "head", "cycle"] (spPattern K C)) : FnOk P w K mg base CX0 6 f fd ["model"] (spPat K C) := by
  refine F.ok scLawPattern (fun vs H Q E h => ?_) (fun cdv A outer s H vs Q E hr h => ?_)
  · walk_at "len"
  · obtain ⟨t, h, c, hb, cb, rfl, M, sz, k⟩ := h
    refine ⟨_, (pss_one (ps_ret (pe_dcm D_pattern (hr.mono (by decide)) (pe_glob (v := .ref C) rfl T2.mgC rfl) (pa_cons (pe_ix ix_tup (pv 0) pe_int (fun _ _ => rfl)) (pa_cons (pe_ix ix_tup (pv 0) pe_int (fun _ _ => rfl)) pa_nil))))), ?_⟩
    walk_at "rd"
    refine ⟨t, _, _, _, rfl, rfl, SqT.of M.tp, atI_nat (j := 0) rfl, ?_⟩
    walk_at "rd"
    refine ⟨t, _, _, _, rfl, rfl, SqT.of M.tp, atI_nat (j := 1) rfl, ?_⟩
    exact ⟨h, c, hb, cb, rfl, M.hd, M.cy, M.ne, sz, k⟩

end
end Cf
namespace Cf
open PySem L2
set_option hygiene false
local macro_rules | `(tactic| walk_at "len") => `(tactic| repeat (first | (obtain ⟨e, _⟩ := h; subst e; rfl; done) | (obtain ⟨_, h⟩ := h)))
local macro_rules | `(tactic| walk_at "rd") => `(tactic| repeat (first | refine ⟨_, rfl, ?_⟩ | refine ⟨_, _, rfl, rfl, ?_⟩ | refine ⟨rfl, ?_⟩ | refine ⟨_, _, rfl, ?_⟩))
local macro_rules | `(tactic| walk_at "yes") => `(tactic| (dsimp only [tYes]; rw [if_pos rfl]))
set_option hygiene true
section
variable {P : Program} {w : World} {K : PySem.W.Frag} {mg : Str → Option Value} {base : Heap}
/-! ### head and cycle, handed out anew; all of a set told -/
def spHeadP (K : PySem.W.Frag) (C : Addr) : Sp := fun vs H Q _ => ∃ (x : Addr) (S : Int → Bool) (s p : Int), vs = [.ref x] ∧ Ds K C H x S s p ∧ ∀ (q : Addr), H q = none → Q (.ref q) (upd H q (.lst ((els S 0 s).map V.int)))
def spCycleP (K : PySem.W.Frag) (C : Addr) : Sp := fun vs H Q _ => ∃ (x : Addr) (S : Int → Bool) (s p : Int), vs = [.ref x] ∧ Ds K C H x S s p ∧ ∀ (q : Addr), H q = none → Q (.ref q) (upd H q (.lst ((els S s (s + p)).map V.int)))
theorem scDsHead : FnScope ["self"] ["self"] (defScope sDsHead) := ⟨rfl, rfl, rfl, by decide +kernel, rfl, by decide +kernel, by decide +kernel⟩
theorem ok_head {f C : Addr} {fd : FuncData} (F : Fun K "head" "DaySet.head" sDsHead f fd) (T : Nm mg) (T2 : Txd K mg C) : FnOk P w K mg base CX0 1 f fd ["self"] (spHeadP K C) := by
  refine F.ok scDsHead (fun vs H Q E h => ?_) (fun cdv A outer s H vs Q E hr h => ?_)
  · walk_at "len"
  · obtain ⟨x, S, st, p, rfl, ⟨dx, h, c, D⟩, k⟩ := h
    refine ⟨_, (pss_one (ps_ret (pe_callTy call_list_of (by rfl) T.list (by decide +kernel) (pa_cons (pe_fld (pv 0) rfl) pa_nil)))), ?_⟩
    walk_at "rd"
    refine ⟨x, C, dx, _, _, rfl, D.ob, T2.cl, T2.nH, dsF_head, ?_⟩
    exact ⟨h, _, rfl, .inl D.hd, k⟩
theorem scDsCycle : FnScope ["self"] ["self"] (defScope sDsCycle) := ⟨rfl, rfl, rfl, by decide +kernel, rfl, by decide +kernel, by decide +kernel⟩
theorem ok_cycle {f C : Addr} {fd : FuncData} (F : Fun K "cycle" "DaySet.cycle" sDsCycle f fd) (T : Nm mg) (T2 : Txd K mg C) : FnOk P w K mg base CX0 1 f fd ["self"] (spCycleP K C) := by
  refine F.ok scDsCycle (fun vs H Q E h => ?_) (fun cdv A outer s H vs Q E hr h => ?_)
  · walk_at "len"
  · obtain ⟨x, S, st, p, rfl, ⟨dx, h, c, D⟩, k⟩ := h
    refine ⟨_, (pss_one (ps_ret (pe_callTy call_list_of (by rfl) T.list (by decide +kernel) (pa_cons (pe_fld (pv 0) rfl) pa_nil)))), ?_⟩
    walk_at "rd"
    refine ⟨x, C, dx, _, _, rfl, D.ob, T2.cl, T2.nC, dsF_cycle, ?_⟩
    exact ⟨c, _, rfl, .inl D.cy, k⟩
/-- a tuple of the four values that a set tells -/
structure Told (H : Hp) (t h c : Addr) (S : Int → Bool) (s p : Int) : Prop where
  tp : H t = some (.tup [.int s, .int p, .ref h, .ref c])
  hd : H h = some (.lst ((els S 0 s).map V.int))
  cy : H c = some (.lst ((els S s (s + p)).map V.int))
theorem Told.same {H H' : Hp} {t h c : Addr} {S : Int → Bool} {s p : Int} (M : Told H t h c S s p) (e : Same H H') : Told H' t h c S s p := ⟨e _ _ M.tp, e _ _ M.hd, e _ _ M.cy⟩
def spTold (K : PySem.W.Frag) (C : Addr) : Sp := fun vs H Q _ => ∃ (x : Addr) (S : Int → Bool) (s p : Int), vs = [.ref x] ∧ Ds K C H x S s p ∧ ∀ (H' : Hp) (t h c : Addr), Same H H' → Told H' t h c S s p → Q (.ref t) H'
theorem scLawTold : FnScope ["days"] ["days"] (defScope sLawTold) := ⟨rfl, rfl, rfl, by decide +kernel, rfl, by decide +kernel, by decide +kernel⟩
theorem ok_told {f C : Addr} {fd : FuncData} (F : Fun K "_law_told" "_law_told" sLawTold f fd) (T2 : Txd K mg C) (D_start : Dpr P w K mg base 1 C "start" (spStart K C)) (D_period : Dpr P w K mg base 1 C "period" (spPeriod K C)) (D_head : Dpr P w K mg base 1 C "head" (spHeadP K C)) (D_cycle : Dpr P w K mg base 1 C "cycle" (spCycleP K C)) :
    FnOk P w K mg base CX0 3 f fd ["days"] (spTold K C) := by
  refine F.ok scLawTold (fun vs H Q E h => ?_) (fun cdv A outer s H vs Q E hr h => ?_)
  · walk_at "len"
  · obtain ⟨x, S, st, p, rfl, X, k⟩ := h
    obtain ⟨dx, h, c, D⟩ := id X
    refine ⟨_, (pss_one (ps_ret (pe_tup (pa_cons (pe_dprop D_start T2.cl (hr.mono (by decide)) (pv 0)) (pa_cons (pe_dprop D_period T2.cl (hr.mono (by decide)) (pv 0)) (pa_cons (pe_dprop D_head T2.cl (hr.mono (by decide)) (pv 0)) (pa_cons (pe_dprop D_cycle T2.cl (hr.mono (by decide)) (pv 0)) pa_nil))))))), ?_⟩
    walk_at "rd"
    refine ⟨x, dx, _, rfl, D.ob, x, S, st, p, rfl, X, ?_⟩
    walk_at "rd"
    refine ⟨x, dx, _, rfl, D.ob, x, S, st, p, rfl, X, ?_⟩
    walk_at "rd"
    refine ⟨x, dx, _, rfl, D.ob, x, S, st, p, rfl, X, fun q hq => ?_⟩
    walk_at "rd"
    have S1 := Same.new (o := .lst ((els S 0 st).map V.int)) hq
    refine ⟨x, dx, _, rfl, S1 _ _ D.ob, x, S, st, p, rfl, X.same S1, fun r hr2 => ?_⟩
    have S2 := S1.step (o := .lst ((els S st (st + p)).map V.int)) hr2
    have nqr : q ≠ r := ne_of_none upd_same hr2
    walk_at "rd"
    refine ⟨by show 4 ≤ sizeLine; decide, fun t ht => ?_⟩
    have q1 : upd (upd H q (.lst ((els S 0 st).map V.int))) r (.lst ((els S st (st + p)).map V.int)) q = some (.lst ((els S 0 st).map V.int)) := by rw [upd_ne nqr, upd_same]
    refine k _ t q r (S2.step ht) ⟨upd_same, ?_, ?_⟩
    · rw [upd_ne (ne_of_none q1 ht)]; exact q1
    · rw [upd_ne (ne_of_none upd_same ht), upd_same]
end
end Cf
namespace Cf
open PySem L2
set_option hygiene false
local macro_rules | `(tactic| walk_at "len") => `(tactic| repeat (first | (obtain ⟨e, _⟩ := h; subst e; rfl; done) | (obtain ⟨_, h⟩ := h)))
local macro_rules | `(tactic| walk_at "rd") => `(tactic| repeat (first | refine ⟨_, rfl, ?_⟩ | refine ⟨_, _, rfl, rfl, ?_⟩ | refine ⟨rfl, ?_⟩ | refine ⟨_, _, rfl, ?_⟩))
local macro_rules | `(tactic| walk_at "yes") => `(tactic| (dsimp only [tYes]; rw [if_pos rfl]))
set_option hygiene true
section
variable {P : Program} {w : World} {K : PySem.W.Frag} {mg : Str → Option Value} {base : Heap}
theorem cb_not {S : Int → Bool} {d : Int} (h : 0 ≤ d) : cb (notS S) d + cb S d = d.toNat := by
  have q := len_not (S := S) (seg 0 d) fun x hx => (mem_seg.mp hx).1
  have l : (seg 0 d).length = d.toNat := by unfold seg; rw [List.length_map, List.length_range, Int.sub_zero]
  rw [l] at q
  exact q
/-! ### counts and numbers -/
def spHow (K : PySem.W.Frag) (C : Addr) : Sp := fun vs H Q _ => ∃ (x : Addr) (S : Int → Bool) (s p lo hi : Int), vs = [.ref x, .int lo, .int hi] ∧ Ds K C H x S s p ∧ s < 1000000 ∧ p < 1000000 ∧
  ∀ H', Same H H' → Q (.int ((cb S hi - cb S lo : Nat) : Int)) H'
theorem scDsHowMany : FnScope ["self", "low", "high"] ["self", "low", "high"] (defScope sDsHowMany) := ⟨rfl, rfl, rfl, by decide +kernel, rfl, by decide +kernel, by decide +kernel⟩
theorem ok_how_many {f C : Addr} {fd : FuncData} (F : Fun K "how_many" "DaySet.how_many" sDsHowMany f fd) (T : Nm mg) (T2 : Txd K mg C) (D_check_number : Df P w K mg base 2 "check_number" ["value", "least"] [.non] spCheck) (D_count_before : Dm P w K mg base 2 C "_count_before" ["self", "day"] (spCountBefore K C)) :
    FnOk P w K mg base CX0 3 f fd ["self", "low", "high"] (spHow K C) := by
  refine F.ok scDsHowMany (fun vs H Q E h => ?_) (fun cdv A outer s H vs Q E hr h => ?_)
  · walk_at "len"
  · obtain ⟨x, S, st, p, lo, hi, rfl, Dx, sb, pb, k⟩ := h
    have nd := scDsHowMany.nd
    have F0 := Dx.can.fr
    obtain ⟨dx, hx, cx, X1⟩ := id Dx
    refine ⟨_, (pss_cons (ps_expr (pe_df D_check_number (hr.mono (by decide)) (pa_cons (pv 1) pa_nil)))
      (pss_cons (ps_expr (pe_df D_check_number (hr.mono (by decide)) (pa_cons (pv 2) pa_nil)))
      (pss_one (ps_ret (pe_callB (call_max2 rfl) (by rfl) T.max (by decide +kernel) (pa_cons pe_int (pa_cons (pe_op op_sub (pe_dm D_count_before T2.cl (hr.mono (by decide)) (pv 0) (pa_cons (pv 2) pa_nil)) (pe_dm D_count_before T2.cl (hr.mono (by decide)) (pv 0) (pa_cons (pv 1) pa_nil))) pa_nil))))))), ?_⟩
    walk_at "rd"
    refine ⟨x, dx, _, rfl, X1.ob, dsF_no (by decide +kernel) (by decide +kernel) (by decide +kernel) (by decide +kernel), ?_⟩
    walk_at "rd"
    refine ⟨x, S, st, p, hi, rfl, Dx, sb, pb, fun H1 c1 S1 rk1 _ => ?_⟩
    walk_at "rd"
    refine ⟨x, dx, _, rfl, S1 _ _ X1.ob, dsF_no (by decide +kernel) (by decide +kernel) (by decide +kernel) (by decide +kernel), ?_⟩
    walk_at "rd"
    refine ⟨x, S, st, p, lo, rfl, Dx.same S1, sb, pb, fun H2 c2 S2 rk2 _ => ?_⟩
    walk_at "rd"
    have e1 := rk1.cb F0
    have e2 := rk2.cb F0
    subst e1 e2
    have q := k H2 (S1.trans S2)
    have e : ((cb S hi - cb S lo : Nat) : Int) = if (0 : Int) < (cb S hi : Int) - (cb S lo : Int) then (cb S hi : Int) - (cb S lo : Int) else 0 := by split <;> omega
    rw [e] at q
    exact q
end
end Cf
namespace Cf
open PySem L2
set_option hygiene false
local macro_rules | `(tactic| walk_at "len") => `(tactic| repeat (first | (obtain ⟨e, _⟩ := h; subst e; rfl; done) | (obtain ⟨_, h⟩ := h)))
local macro_rules | `(tactic| walk_at "rd") => `(tactic| repeat (first | refine ⟨_, rfl, ?_⟩ | refine ⟨_, _, rfl, rfl, ?_⟩ | refine ⟨rfl, ?_⟩ | refine ⟨_, _, rfl, ?_⟩))
local macro_rules | `(tactic| walk_at "yes") => `(tactic| (dsimp only [tYes]; rw [if_pos rfl]))
set_option hygiene true
section
variable {P : Program} {w : World} {K : PySem.W.Frag} {mg : Str → Option Value} {base : Heap}
/-! ### each -/
def spEach (K : PySem.W.Frag) (C : Addr) : Sp := fun vs H Q _ => ∃ (x : Addr) (S : Int → Bool) (s p : Int) (k f : Nat), vs = [.ref x, .int k, .int f] ∧ Ds K C H x S s p ∧ 1 ≤ k ∧ k ≤ 100 ∧ f ≤ 200 ∧ s ≤ 100 ∧ p ≤ 100 ∧
  ∀ (H' : Hp) (z : Addr) (s' p' : Int), Same H H' → Dn K C H H' z (eachS S k f) s' p' → (∃ r : Nat, 1 ≤ r ∧ r ≤ k ∧ p'.natAbs ∣ r * p.natAbs) → s' ≤ s + p * (f + k + 1) → Q (.ref z) H'
theorem scDsEach : FnScope ["self", "number", "first", "early", "many", "late", "steps", "period", "days", "at"] ["self", "number", "first"] (defScope sDsEach) := ⟨rfl, rfl, rfl, by decide +kernel, rfl, by decide +kernel, by decide +kernel⟩
theorem ok_each {f C : Addr} {fd : FuncData} {dV : List V} (F : FunD K "each" "DaySet.each" (defArgs sDsEach) (defBody sDsEach) (defScope sDsEach) dV [] f fd) (T : Nm mg) (T2 : Txd K mg C) (D_check_number2 : Df P w K mg base 2 "check_number" ["value", "least"] [] spCheckL) (D_day_at : Dm P w K mg base 2 C "_day_at" ["self", "number"] (spDayAt K C)) (D_init : Dmk P w K mg base 3 C ["self", "start", "period", "days"] (spInit K C)) : FnOk P w K mg base CX0 5 f fd ["self", "number", "first"] (spEach K C) := by
  refine F.ok scDsEach (fun vs H Q E h => ?_) (fun cdv A outer s H vs Q E hr h => ?_)
  · walk_at "len"
  · obtain ⟨x, S, st, p, n, fi, rfl, Dx, n1, n2, f2, sb, pb, k⟩ := h
    have nd := scDsEach.nd
    obtain ⟨dx, hx, cx, X1⟩ := id Dx
    have F0 := Dx.can.fr
    have px := F0.p1
    have sx := F0.s0
    have lh := els_length_le S 0 st
    have lc := els_length_le S st (st + p)
    refine ⟨_, (pss_cons (ps_expr (pe_df D_check_number2 (hr.mono (by decide)) (pa_cons (pv 1) (pa_cons pe_int pa_nil))))
      (pss_cons (ps_expr (pe_df D_check_number2 (hr.mono (by decide)) (pa_cons (pv 2) (pa_cons pe_int pa_nil))))
      (pss_cons (ps_set (i := 3) nd rfl (Or.inl rfl) (pe_step (pe_fld (pv 0) rfl) (pv 2) (pv 1)))
      (pss_cons (ps_if (pt_not (pt_truth (pe_fld (pv 0) rfl) (fun _ => rfl)))
        (pss_one (ps_ret (pe_dmake D_init T2.mgC (hr.mono (by decide)) (pa_cons (pe_fld (pv 0) rfl) (pa_cons pe_int (pa_cons (pv 3) pa_nil))))))
        pss_nil)
      (pss_cons (ps_set (i := 4) nd rfl (Or.inl rfl) (pe_callB call_len_seq (by rfl) T.len (by decide +kernel) (pa_cons (pe_fld (pv 0) rfl) pa_nil)))
      (C8.pss_cut (ps_set (i := 5) nd rfl (Or.inl rfl) (pe_ifExp (pt_cmpR op_ge (pv 2) (pv 4) (nomark _)) (pv 2) (pe_op op_add (pv 4) (pe_op op_mod (pe_op op_sub (pv 2) (pv 4)) (pv 1)))))
      (pss_cons (ps_set (i := 6) nd rfl (Or.inl rfl) (pe_op op_fdiv (pe_callB call_len_seq (by rfl) T.len (by decide +kernel) (pa_cons (pe_fld (pv 0) rfl) pa_nil)) (pe_callBfun cr_gcd rfl T.gcd (pa_cons (pv 1) (pa_cons (pe_callB call_len_seq (by rfl) T.len (by decide +kernel) (pa_cons (pe_fld (pv 0) rfl) pa_nil)) pa_nil)))))
      (pss_cons (ps_set (i := 7) nd rfl (Or.inl rfl) (pe_op op_mul (pe_fld (pv 0) rfl) (pe_op op_fdiv (pe_op op_mul (pv 1) (pv 6)) (pe_callB call_len_seq (by rfl) T.len (by decide +kernel) (pa_cons (pe_fld (pv 0) rfl) pa_nil)))))
      (pss_cons (ps_setLc (i := 8) (own := [("at", 9)]) (g := (gName 9)) (tt := tYes) rfl nd rfl rfl (sw_true rfl rfl rfl (by decide +kernel)) (pi_range3 (by rfl) T.range (pa_cons (pv 5) (pa_cons (pe_op op_add (pv 5) (pe_op op_mul (pv 1) (pv 6))) (pa_cons (pv 1) pa_nil)))) (blkOk_by (N := ["self", "number", "first", "early", "many", "late", "steps", "period", "days", "at"]) (sc := defScope sDsEach) (by decide +kernel)) (fun _ _ _ _ _ => pg_name (i := 9) nd rfl (Or.inl rfl)) (fun _ _ _ _ _ => pts_nil) (fun _ _ _ _ _ => (pe_dm D_day_at T2.cl (hr.mono (by decide)) (pv 0) (pa_cons (pv 9) pa_nil))))
      (pss_one (ps_ret (pe_dmake D_init T2.mgC (hr.mono (by decide)) (pa_cons (pe_ix ix_list (pv 8) pe_int (fun _ _ => rfl)) (pa_cons (pv 7) (pa_cons (pe_op op_cat (pv 3) (pv 8)) pa_nil))))))))))))))), ?_⟩
    walk_at "rd"
    refine ⟨by omega, ?_⟩
    walk_at "rd"
    refine ⟨by omega, ?_⟩
    walk_at "rd"
    refine ⟨x, C, dx, _, _, rfl, X1.ob, T2.cl, T2.nH, dsF_head, ?_⟩
    walk_at "rd"
    refine ⟨hx, _, fi, n, rfl, rfl, rfl, n1, X1.hd, fun B hB => ?_⟩
    rw [stepV_ints]
    have S1 := Same.new (o := .lst ((stepL (els S 0 st) fi n).map V.int)) hB
    have w1 : upd H B (.lst ((stepL (els S 0 st) fi n).map V.int)) B = some (.lst ((stepL (els S 0 st) fi n).map V.int)) := upd_same
    have lE := stepL_len (els S 0 st) fi n
    have aE := stepL_asc (asc_els S 0 st) fi n
    have mE : ∀ d, d ∈ stepL (els S 0 st) fi n ↔ _ := fun d => stepL_mem (l := els S 0 st) (f := fi) (k := n)
    have finE := fun emp => each_fin (k := n) (f := fi) F0 emp
    generalize stepL (els S 0 st) fi n = early at S1 w1 lE aE mE finE ⊢
    generalize upd H B (.lst (early.map V.int)) = H1 at S1 w1 ⊢
    walk_at "rd"
    refine ⟨x, C, dx, _, _, rfl, S1 _ _ X1.ob, T2.cl, T2.nC, dsF_cycle, ?_⟩
    refine ⟨_, .inl ⟨_, S1.seq X1.cy, rfl⟩, ?_⟩
    have neg : ∀ d, d < 0 → eachS S n fi d = false := eachS_neg Dx.neg
    cases ec : els S st (st + p) with
    | nil =>
      refine iteT ?_
      walk_at "rd"
      refine ⟨x, C, dx, _, _, rfl, S1 _ _ X1.ob, T2.cl, T2.nS, dsF_start, ?_⟩
      walk_at "rd"
      have off := fin_fr F0 ec
      have off2 : ∀ d, st ≤ d → eachS S n fi d = false := fun d hd => by unfold eachS; rw [off d hd]; rfl
      rw [finE ec, ← els_off sx off2] at w1
      refine mk_tail (S := eachS S n fi) (fr_off sx off2) neg (LI.new w1) (by rw [w1]; simp) (by omega) (by omega) fun H' z s'' p'' S5 D ss pp => ?_
      have p1 := D.ds.can.fr.p1
      refine k H' z s'' p'' (S1.trans S5) (D.old S1) ⟨1, Nat.le_refl _, n1, by rw [show p'' = 1 by omega]; exact Nat.one_dvd _⟩ ?_
      have := Int.mul_nonneg (show 0 ≤ p by omega) (show (0 : Int) ≤ (fi : Int) + n + 1 by omega)
      omega
    | cons y ys =>
      have hc : els S st (st + p) ≠ [] := by rw [ec]; simp
      refine iteF ?_
      walk_at "rd"
      refine ⟨x, C, dx, _, _, rfl, S1 _ _ X1.ob, T2.cl, T2.nH, dsF_head, ?_⟩
      walk_at "rd"
      refine ⟨hx, _, rfl, .inl (S1.seq X1.hd), ?_⟩
      rw [List.length_map]
      walk_at "rd"
      obtain ⟨late, el, EC, lb⟩ := ech_of (f := fi) hc n1
      refine ⟨fun σ' H' => H' = H1 ∧ σ' = [some (.ref x), some (.int n), some (.int fi), some (.ref B), some (.int ((els S 0 st).length : Nat)), some (.int late), none, none, none, none], ?_, ?_⟩
      · walk_at "rd"
        refine ite2 (fun d => ?_) (fun d => ?_)
        · have d' := of_decide_eq_true d
          rw [if_pos d'] at el
          rw [el]
          walk_at "rd"
          exact rfl
        · have d' : ¬ (fi : Int) ≥ ((els S 0 st).length : Int) := fun z => d (decide_eq_true z)
          rw [if_neg d'] at el
          rw [el]
          walk_at "rd"
          refine ⟨by omega, ?_⟩
          walk_at "rd"
          exact rfl
      rintro σ' H' ⟨rfl, rfl⟩
      walk_at "rd"
      have LC := List.length_pos_iff.mpr hc
      refine ⟨x, C, dx, _, _, rfl, S1 _ _ X1.ob, T2.cl, T2.nC, dsF_cycle, ?_⟩
      walk_at "rd"
      refine ⟨cx, _, rfl, .inl (S1.seq X1.cy), ?_⟩
      rw [List.length_map]
      walk_at "rd"
      refine ⟨x, C, dx, _, _, rfl, S1 _ _ X1.ob, T2.cl, T2.nC, dsF_cycle, ?_⟩
      walk_at "rd"
      refine ⟨cx, _, rfl, .inl (S1.seq X1.cy), ?_⟩
      rw [List.length_map]
      walk_at "rd"
      have g1 : 0 < Nat.gcd n (els S st (st + p)).length := Nat.gcd_pos_of_pos_left _ (by omega)
      have gL := Nat.le_of_dvd LC (Nat.gcd_dvd_right n (els S st (st + p)).length)
      have sL := Nat.div_le_self (els S st (st + p)).length (Nat.gcd n (els S st (st + p)).length)
      have sp1 : 1 ≤ (els S st (st + p)).length / Nat.gcd n (els S st (st + p)).length := Nat.div_pos gL g1
      rw [Int.natAbs_natCast, Int.natAbs_natCast]
      refine ⟨⟨by omega, by omega⟩, ?_⟩
      dsimp only
      rw [show ((els S st (st + p)).length : Int) / (Nat.gcd n (els S st (st + p)).length : Nat) = (((els S st (st + p)).length / Nat.gcd n (els S st (st + p)).length : Nat) : Int) from rfl]
      generalize (els S st (st + p)).length / Nat.gcd n (els S st (st + p)).length = steps at EC sL sp1 ⊢
      walk_at "rd"
      refine ⟨x, C, dx, _, _, rfl, S1 _ _ X1.ob, T2.cl, T2.nP, dsF_period, ?_⟩
      walk_at "rd"
      have mb : n * steps ≤ 100 * 100 := Nat.mul_le_mul n2 (by omega)
      refine ⟨.inr ⟨by show -18446744073709551616 < (steps : Int); omega, by show (steps : Int) < 18446744073709551616; omega⟩, ?_⟩
      walk_at "rd"
      refine ⟨x, C, dx, _, _, rfl, S1 _ _ X1.ob, T2.cl, T2.nC, dsF_cycle, ?_⟩
      walk_at "rd"
      refine ⟨cx, _, rfl, .inl (S1.seq X1.cy), ?_⟩
      rw [List.length_map]
      walk_at "rd"
      refine ⟨⟨by omega, by omega⟩, ?_⟩
      dsimp only
      rw [show (n : Int) * (steps : Int) / ((els S st (st + p)).length : Int) = ((n * steps / (els S st (st + p)).length : Nat) : Int) from rfl]
      have rle : n * steps / (els S st (st + p)).length ≤ n := by
        refine Nat.div_le_of_le_mul ?_
        rw [Nat.mul_comm]
        exact Nat.mul_le_mul_right n sL
      generalize n * steps / (els S st (st + p)).length = r at EC rle ⊢
      refine ⟨_, _, rfl, rfl, .inl ⟨by show -18446744073709551616 < p; omega, by show p < 18446744073709551616; omega⟩, ?_⟩
      walk_at "rd"
      refine ⟨.inr ⟨by show -18446744073709551616 < (steps : Int); omega, by show (steps : Int) < 18446744073709551616; omega⟩, ?_⟩
      walk_at "rd"
      have ns1 : n * 1 ≤ n * steps := Nat.mul_le_mul_left n sp1
      obtain ⟨m, R, up, dn⟩ := rg_up (i := (late : Int)) (j := (late : Int) + (n : Int) * (steps : Int)) (c := (n : Int)) (by omega) (by omega) (by show 0 ≤ (late : Int) + ((n * steps : Nat) : Int); omega) (by show (late : Int) + ((n * steps : Nat) : Int) < _; omega) (by omega) (by omega)
      have em : m = steps := by
        have u1 : ((n * steps : Nat) : Int) ≤ ((m * n : Nat) : Int) := by
          have : (n : Int) * (steps : Int) ≤ (m : Int) * n := by omega
          exact this
        have u2 : n * steps ≤ n * m := by rw [Nat.mul_comm n m]; omega
        have u3 := Nat.le_of_mul_le_mul_left u2 (by omega)
        rcases dn with z | z
        · omega
        · have u4 : (((m - 1) * n : Nat) : Int) < ((n * steps : Nat) : Int) := by
            have : ((m - 1 : Nat) : Int) * n < (n : Int) * (steps : Int) := by omega
            exact this
          have u5 : n * (m - 1) < n * steps := by rw [Nat.mul_comm n (m - 1)]; omega
          have := Nat.lt_of_mul_lt_mul_left u5
          omega
      subst em
      refine ⟨_, _, _, m, rfl, R, fun D hD => ?_⟩
      refine it_rg (lo := (late : Int)) (c := (n : Int)) (n := m) (fun j H2 => Same H' H2 ∧ H2 D = some (.lst (((List.range j).map fun (i : Nat) => dAt S st p (late + i * n)).map V.int)))
        ⟨Same.new hD, upd_same⟩ ?_ ?_
      · rintro j H2 hj ⟨s1, hDl⟩
        walk_at "rd"
        refine ⟨x, dx, _, rfl, s1 _ _ (S1 _ _ X1.ob), dsF_no (by decide +kernel) (by decide +kernel) (by decide +kernel) (by decide +kernel), ?_⟩
        walk_at "rd"
        refine ⟨x, S, st, p, late + j * n, rfl, (Dx.same S1).same s1, .inr hc, by omega, by omega, fun H3 S3 => ?_⟩
        refine acc_step (s1.trans S3) hD (S3 _ _ hDl) (by rw [List.length_map, List.length_map, List.length_range]; exact szl (by omega)) ?_
        rw [List.range_succ, List.map_append, List.map_append]; rfl
      · rintro H2 ⟨s1, hDl⟩
        walk_at "rd"
        have lD : ((List.range m).map fun (i : Nat) => dAt S st p (late + i * n)).length = m := by rw [List.length_map, List.length_range]
        refine ⟨D, _, _, _, rfl, rfl, LI.new hDl, atI_int (by omega) (by rw [lD]; omega), ?_⟩
        walk_at "rd"
        have w2 := s1 _ _ w1
        have eE := each_els F0 Dx.neg hc EC aE mE
        have e0 : ((List.range m).map fun (i : Nat) => dAt S st p (late + i * n)).getD (0 : Int).toNat 0 = dAt S st p late := by
          show ((List.range m).map fun (i : Nat) => dAt S st p (late + i * n)).getD 0 0 = _
          rw [getD_at (by rw [lD]; omega), List.getElem_map, List.getElem_range, Nat.zero_mul, Nat.add_zero]
        rw [e0]
        refine ⟨B, D, _, _, rfl, rfl, w2, hDl, by rw [List.length_map, List.length_map, lD]; exact szle (by omega), fun L hL => ?_⟩
        have S2 := s1.step (o := .lst (early.map V.int ++ ((List.range m).map fun (i : Nat) => dAt S st p (late + i * n)).map V.int)) hL
        have wL : upd H2 L (.lst (early.map V.int ++ ((List.range m).map fun (i : Nat) => dAt S st p (late + i * n)).map V.int)) L = some (.lst ((els (eachS S n fi) 0 (dAt S st p late + r * p)).map V.int)) := by rw [upd_same, ← List.map_append, eE]
        generalize upd H2 L (.lst (early.map V.int ++ ((List.range m).map fun (i : Nat) => dAt S st p (late + i * n)).map V.int)) = H3 at S2 wL ⊢
        have up1 := dAt_up (m := fi + n) F0 hc EC.ge (by omega)
        have up2 : p * (((fi + n : Nat) : Int) + 1) ≤ 100 * 301 := Int.mul_le_mul pb (by omega) (by omega) (by omega)
        have pr1 : p * (r : Int) ≤ 100 * 100 := Int.mul_le_mul pb (by omega) (by omega) (by omega)
        have fr := each_fr F0 Dx.neg hc EC
        have S3 := (S1.trans S2)
        rw [Int.mul_comm] at wL fr
        refine mk_tail (S := eachS S n fi) (p := p * (r : Int)) fr neg (LI.new wL) (by rw [wL]; simp) (by omega) (by omega) fun H4 z s'' p'' S5 D ss pp => ?_
        refine k H4 z s'' p'' (S3.trans S5) (D.old S3) ⟨r, EC.r1, rle, ?_⟩ ?_
        · have d := D.ds.can.div fr
          rw [Int.natAbs_mul, Int.natAbs_natCast, Nat.mul_comm] at d
          exact d
        · have e : ((fi + n : Nat) : Int) + 1 = (fi : Int) + n + 1 := by omega
          rw [e] at up1
          omega
end
end Cf
namespace Cf
open PySem L2
set_option hygiene false
local macro_rules | `(tactic| walk_at "len") => `(tactic| repeat (first | (obtain ⟨e, _⟩ := h; subst e; rfl; done) | (obtain ⟨_, h⟩ := h)))
local macro_rules | `(tactic| walk_at "rd") => `(tactic| repeat (first | refine ⟨_, rfl, ?_⟩ | refine ⟨_, _, rfl, rfl, ?_⟩ | refine ⟨rfl, ?_⟩ | refine ⟨_, _, rfl, ?_⟩))
local macro_rules | `(tactic| walk_at "yes") => `(tactic| (dsimp only [tYes]; rw [if_pos rfl]))
set_option hygiene true
section
variable {P : Program} {w : World} {K : PySem.W.Frag} {mg : Str → Option Value} {base : Heap}
/-- what a set tells, as data -/
def pdTold (S : Int → Bool) (s p : Int) : PyData := .tuple [.int s, .int p, pdL (els S 0 s), pdL (els S s (s + p))]
theorem dpTold {H : Hp} {t h c : Addr} {S : Int → Bool} {s p : Int} (M : Told H t h c S s p) : Dp K H (.ref t) (pdTold S s p) :=
  .tup (SqT.of M.tp) (.cons (.int _) (.cons (.int _) (.cons (dpL (LI.new M.hd)) (.cons (dpL (LI.new M.cy)) .nil))))
theorem eqvTold (S : Int → Bool) (s p : Int) : PyData.eqv (pdTold S s p) (pdTold S s p) = true := by
  unfold pdTold
  rw [PyData.eqv]
  show (PyData.eqv (.int s) (.int s) && (PyData.eqv (.int p) (.int p) && (PyData.eqv (pdL _) (pdL _) && (PyData.eqv (pdL _) (pdL _) && PyData.eqvAll [] [])))) = true
  rw [eqvL, eqvL, decide_eq_true rfl, decide_eq_true rfl]
  simp [PyData.eqv, PyData.eqvAll]
theorem shTold (S : Int → Bool) (s p : Int) : SeqAt.shaped (pdTold S s p) = true := by
  unfold SeqAt.shaped pdTold
  rw [Bool.and_eq_true]
  refine ⟨?_, decide_eq_true ?_⟩
  · rw [PyData.canLay0]
    show (PyData.canLay0 (.int s) && (PyData.canLay0 (.int p) && (PyData.canLay0 (pdL _) && (PyData.canLay0 (pdL _) && PyData.canLayAll0 [])))) = true
    have e : ∀ l : List Int, PyData.canLay0 (pdL l) = true := fun l => by unfold pdL; rw [PyData.canLay0]; exact canAll_ints l
    rw [e, e]
    rfl
  · rw [PyData.depth]
    have e : ∀ l : List Int, PyData.depth (pdL l) ≤ 2 := fun l => by unfold pdL; rw [PyData.depth]; have := depthAll_ints l; omega
    have e1 := e (els S 0 s)
    have e2 := e (els S s (s + p))
    have z : PyData.depthAll [.int s, .int p, pdL (els S 0 s), pdL (els S s (s + p))] ≤ 2 := by
      simp only [PyData.depthAll, PyData.depth]
      omega
    omega
section
variable {P : Program} {w : World} {K : PySem.W.Frag} {mg : Str → Option Value} {base : Heap}
/-- a set that stands apart from the draws -/
def Da (K : PySem.W.Frag) (C p a : Addr) (H : Hp) (x : Addr) (S : Int → Bool) (s q : Int) : Prop := ∃ dx h c, DayAt K C H x dx h c S s q ∧ (x ≠ p ∧ x ≠ a) ∧ (h ≠ p ∧ h ≠ a) ∧ (c ≠ p ∧ c ≠ a)
section
variable {C p a b x : Addr} {n : Nat} {H H' H0 : Hp} {S : Int → Bool} {s q : Int}
theorem Da.ds (D : Da K C p a H x S s q) : Ds K C H x S s q := let ⟨dx, h, c, d, _⟩ := D; ⟨dx, h, c, d⟩
theorem Da.same (D : Da K C p a H x S s q) (e : Same H H') : Da K C p a H' x S s q := let ⟨dx, h, c, d, n⟩ := D; ⟨dx, h, c, d.same e, n⟩
theorem Da.but (D : Da K C p a H x S s q) (e : But p a H H') : Da K C p a H' x S s q := let ⟨dx, h, c, d, n1, n2, n3⟩ := D; ⟨dx, h, c, d.but e n1.1 n1.2 n2.1 n2.2 n3.1 n3.2, n1, n2, n3⟩
theorem Da.of (D : Dn K C H0 H x S s q) (St : Stt p a b n H0) : Da K C p a H x S s q :=
  let ⟨dx, h, c, d, n1, n2, n3⟩ := D
  ⟨dx, h, c, d, ⟨(St.apart n1).1, (St.apart n1).2.1⟩, ⟨(St.apart n2).1, (St.apart n2).2.1⟩, ⟨(St.apart n3).1, (St.apart n3).2.1⟩⟩
end
/-- the object of a set, and no such field -/
theorem Ds.no {C : Addr} {H : Hp} {x : Addr} {S : Int → Bool} {s p : Int} (D : Ds K C H x S s p) (m : Str) (h1 : ¬ m = "_cycle" := by decide +kernel) (h2 : ¬ m = "_head" := by decide +kernel) (h3 : ¬ m = "_start" := by decide +kernel) (h4 : ¬ m = "_period" := by decide +kernel) :
    ∃ dx fs, H x = some (.ins C dx fs) ∧ fs.lookup m = none := by
  obtain ⟨dx, h, c, X⟩ := D
  exact ⟨dx, _, X.ob, dsF_no h1 h2 h3 h4⟩
end
end
end Cf
namespace Cf
open PySem L2
set_option hygiene false
local macro_rules | `(tactic| walk_at "len") => `(tactic| repeat (first | (obtain ⟨e, _⟩ := h; subst e; rfl; done) | (obtain ⟨_, h⟩ := h)))
local macro_rules | `(tactic| walk_at "rd") => `(tactic| repeat (first | refine ⟨_, rfl, ?_⟩ | refine ⟨_, _, rfl, rfl, ?_⟩ | refine ⟨rfl, ?_⟩ | refine ⟨_, _, rfl, ?_⟩))
local macro_rules | `(tactic| walk_at "yes") => `(tactic| (dsimp only [tYes]; rw [if_pos rfl]))
set_option hygiene true
section
variable {P : Program} {w : World} {K : PySem.W.Frag} {mg : Str → Option Value} {base : Heap}
/-! ### span -/
def geS (low : Int) : Int → Bool := fun d => decide (low ≤ d)
theorem geS_fr {low : Int} (h : 0 ≤ low) : Fr (geS low) low 1 := ⟨h, by omega, fun d hd => by unfold geS; rw [decide_eq_true hd, decide_eq_true (show low ≤ d + 1 by omega)]⟩
theorem geS_els {low : Int} (h : 0 ≤ low) : els (geS low) 0 (low + 1) = [low] := by
  refine asc_ext (asc_els _ _ _) (by simp [Asc]) fun d => ?_
  rw [mem_els, List.mem_singleton]
  unfold geS
  rw [decide_eq_true_iff]
  omega
/-- the days from low on; or from low on and before high -/
def spSpan1 (K : PySem.W.Frag) (C : Addr) : Sp := fun vs H Q _ => ∃ low : Int, vs = [.ref C, .int low, .non] ∧ 0 ≤ low ∧ low < 100000 ∧
  ∀ (H' : Hp) (x : Addr) (s p : Int), Same H H' → Dn K C H H' x (geS low) s p → s ≤ low → p ≤ 1 → Q (.ref x) H'
theorem scDsSpan : FnScope ["cls", "low", "high"] ["cls", "low", "high"] (defScope sDsSpan) := ⟨rfl, rfl, rfl, by decide +kernel, rfl, by decide +kernel, by decide +kernel⟩
theorem ok_span1 {f C : Addr} {fd : FuncData} {dV : List V} (F : FunD K "span" "DaySet.span" (defArgs sDsSpan) (defBody sDsSpan) (defScope sDsSpan) dV [] f fd) (T : Nm mg) (T2 : Txd K mg C) (D_is_number : Df P w K mg base 1 "is_number" ["value"] [] spIsNum) (D_init : Dmk P w K mg base 3 C ["self", "start", "period", "days"] (spInit K C)) : FnOk P w K mg base CX0 5 f fd ["cls", "low", "high"] (spSpan1 K C) := by
  refine F.ok scDsSpan (fun vs H Q E h => ?_) (fun cdv A outer s H vs Q E hr h => ?_)
  · walk_at "len"
  · obtain ⟨low, rfl, l0, l1, k⟩ := h
    have nd := scDsSpan.nd
    refine ⟨_, PSs.nox (pss_cons (ps_if (PW.pt (pw_or (pt_not (pt_val (pe_df D_is_number (hr.mono (by decide)) (pa_cons (pv 1) pa_nil)))) (pw_or1 (pt_cmpR op_lt (pv 1) pe_int (nomark _)))))
        (pss_one ps_never)
        pss_nil)
      (pss_cons (ps_if (pt_cmpR op_isN (pv 2) pe_non (nomark _))
        (pss_one (ps_ret (pe_dmakeL (i := 0) D_init (hr.mono (by decide)) rfl (.inl rfl) (pa_cons (pv 1) (pa_cons pe_int (pa_cons (pe_lst (pa_cons (pv 1) pa_nil)) pa_nil))))))
        pss_nil)
      (pss_cons (ps_if (PW.pt (pw_or (pt_not (pt_val (pe_df D_is_number (hr.mono (by decide)) (pa_cons (pv 2) pa_nil)))) (pw_or1 (pt_cmpR op_lt (pv 2) (pv 1) (nomark _)))))
        (pss_one ps_never)
        pss_nil)
      (pss_one (ps_ret (pe_dmakeL (i := 0) D_init (hr.mono (by decide)) rfl (.inl rfl) (pa_cons (pv 2) (pa_cons pe_int (pa_cons (pe_listRg rfl (by rfl) T.list (prg_2 (by rfl) T.range (pv 1) (pv 2))) pa_nil))))))))), ?_⟩
    walk_at "rd"
    refine iteFF (decide_eq_false (by omega)) ?_
    walk_at "rd"
    refine ⟨by show 1 ≤ sizeLine; decide, fun l hl => ?_⟩
    walk_at "rd"
    have S1 := Same.new (o := .lst [V.int low]) hl
    have w1 : upd H l (.lst [V.int low]) l = some (.lst ([low].map V.int)) := upd_same
    rw [← geS_els l0] at w1
    generalize upd H l (.lst [V.int low]) = H1 at S1 w1 ⊢
    refine mk_tail (S := geS low) (geS_fr l0) (fun d hd => decide_eq_false (by omega)) (LI.new w1) (by rw [w1]; simp) (by omega) (by omega) fun H5 z s'' p'' S5 Dz ss pp => ?_
    exact k H5 z s'' p'' (S1.trans S5) (Dz.old S1) ss pp
end
end Cf
namespace Cf
open PySem L2
set_option hygiene false
local macro_rules | `(tactic| walk_at "len") => `(tactic| repeat (first | (obtain ⟨e, _⟩ := h; subst e; rfl; done) | (obtain ⟨_, h⟩ := h)))
local macro_rules | `(tactic| walk_at "rd") => `(tactic| repeat (first | refine ⟨_, rfl, ?_⟩ | refine ⟨_, _, rfl, rfl, ?_⟩ | refine ⟨rfl, ?_⟩ | refine ⟨_, _, rfl, ?_⟩))
local macro_rules | `(tactic| walk_at "yes") => `(tactic| (dsimp only [tYes]; rw [if_pos rfl]))
set_option hygiene true
section
variable {P : Program} {w : World} {K : PySem.W.Frag} {mg : Str → Option Value} {base : Heap}
/-! ### shifted -/
def shiftS (S : Int → Bool) (g : Int) : Int → Bool := fun d => decide (0 ≤ d) && S (d - g)
theorem shiftS_neg (S : Int → Bool) (g d : Int) (h : d < 0) : shiftS S g d = false := by unfold shiftS; rw [decide_eq_false (by omega)]; rfl
theorem shiftS_fr {S : Int → Bool} {s p g : Int} (F : Fr S s p) : Fr (shiftS S g) (if s + g > 0 then s + g else 0) p := by
  have p1 := F.p1
  refine ⟨by split <;> omega, p1, fun d hd => ?_⟩
  have d0 : 0 ≤ d ∧ s + g ≤ d := by split at hd <;> omega
  unfold shiftS
  rw [decide_eq_true d0.1, decide_eq_true (show 0 ≤ d + p by omega), show d + p - g = (d - g) + p by omega, F.per (d - g) (by omega)]
theorem shiftS_els {S : Int → Bool} {g lo hi : Int} (h : lo = (if -g > 0 then -g else 0)) (neg : ∀ d, d < 0 → S d = false) : (els S lo hi).map (· + g) = els (shiftS S g) 0 (hi + g) := by
  refine asc_ext (asc_map_add g (asc_els _ _ _)) (asc_els _ _ _) fun d => ?_
  rw [List.mem_map, mem_els]
  unfold shiftS
  rw [Bool.and_eq_true, decide_eq_true_iff]
  constructor
  · rintro ⟨e, he, rfl⟩
    obtain ⟨⟨a, b⟩, c⟩ := mem_els.mp he
    refine ⟨⟨?_, by omega⟩, ?_, by rw [show e + g - g = e by omega]; exact c⟩ <;> (split at h <;> omega)
  · rintro ⟨⟨a, b⟩, _, c⟩
    refine ⟨d - g, mem_els.mpr ⟨⟨?_, by omega⟩, c⟩, by omega⟩
    have : 0 ≤ d - g := by
      rcases Int.lt_or_le (d - g) 0 with z | z
      · rw [neg _ z] at c; cases c
      · exact z
    split at h <;> omega
def spShifted (K : PySem.W.Frag) (C : Addr) : Sp := fun vs H Q _ => ∃ (x : Addr) (S : Int → Bool) (s p g : Int), vs = [.ref x, .int g] ∧ Ds K C H x S s p ∧ s < 100000 ∧ p < 100000 ∧
  ∀ (H' : Hp) (z : Addr) (s' p' : Int), Same H H' → Dn K C H H' z (shiftS S g) s' p' → s' ≤ (if s + g > 0 then s + g else 0) → p' ≤ p → Q (.ref z) H'
theorem scDsShifted : FnScope ["self", "days", "start", "low", "kept", "day"] ["self", "days"] (defScope sDsShifted) := ⟨rfl, rfl, rfl, by decide +kernel, rfl, by decide +kernel, by decide +kernel⟩
theorem ok_shifted {f C : Addr} {fd : FuncData} (F : Fun K "shifted" "DaySet.shifted" sDsShifted f fd) (T : Nm mg) (T2 : Txd K mg C) (D_check_number : Df P w K mg base 2 "check_number" ["value", "least"] [.non] spCheck) (D_listed : Dm P w K mg base 2 C "_listed" ["self", "low", "high"] (spListed K C)) (D_init : Dmk P w K mg base 3 C ["self", "start", "period", "days"] (spInit K C)) : FnOk P w K mg base CX0 5 f fd ["self", "days"] (spShifted K C) := by
  refine F.ok scDsShifted (fun vs H Q E h => ?_) (fun cdv A outer s H vs Q E hr h => ?_)
  · walk_at "len"
  · obtain ⟨x, S, st, p, g, rfl, Dx, sb, pb, k⟩ := h
    have nd := scDsShifted.nd
    obtain ⟨dx, hx, cx, X1⟩ := id Dx
    have F0 := Dx.can.fr
    have px := F0.p1
    have sx := F0.s0
    refine ⟨_, (pss_cons (ps_expr (pe_df D_check_number (hr.mono (by decide)) (pa_cons (pv 1) pa_nil)))
      (pss_cons (ps_set (i := 2) nd rfl (Or.inl rfl) (pe_callB (call_max2 rfl) (by rfl) T.max (by decide +kernel) (pa_cons pe_int (pa_cons (pe_op op_add (pe_fld (pv 0) rfl) (pv 1)) pa_nil))))
      (pss_cons (ps_set (i := 3) nd rfl (Or.inl rfl) (pe_callB (call_max2 rfl) (by rfl) T.max (by decide +kernel) (pa_cons pe_int (pa_cons (pe_un un_neg (pv 1)) pa_nil))))
      (pss_cons (ps_set (i := 4) nd rfl (Or.inl rfl) (pe_dm D_listed T2.cl (hr.mono (by decide)) (pv 0) (pa_cons (pv 3) (pa_cons (pe_op op_sub (pe_op op_add (pv 2) (pe_fld (pv 0) rfl)) (pv 1)) pa_nil))))
      (pss_one (ps_ret (pe_dmake D_init T2.mgC (hr.mono (by decide)) (pa_cons (pv 2) (pa_cons (pe_fld (pv 0) rfl) (pa_cons (pe_lc (own := [("day", 5)]) (g := (gName 5)) (tt := tYes) rfl nd (pi_list (pv 4)) (blkOk_by (N := ["self", "days", "start", "low", "kept", "day"]) (sc := defScope sDsShifted) (by decide +kernel)) (fun _ _ _ _ _ => pg_name (i := 5) nd rfl (Or.inl rfl)) (fun _ _ _ _ _ => pts_nil) (fun _ _ _ _ _ => (pe_op op_add (pv 5) (pv 1)))) pa_nil)))))))))), ?_⟩
    walk_at "rd"
    refine ⟨x, C, dx, _, _, rfl, X1.ob, T2.cl, T2.nS, dsF_start, ?_⟩
    walk_at "rd"
    have fr := shiftS_fr (g := g) F0
    have sel := fun hi => shiftS_els (S := S) (g := g) (hi := hi) rfl Dx.neg
    have b1 : (if st + g > 0 then st + g else 0) = st + g ∧ 0 < st + g ∨ (if st + g > 0 then st + g else 0) = 0 ∧ st + g ≤ 0 := by split <;> omega
    have b2 : (if -g > 0 then -g else 0) = -g ∧ g < 0 ∨ (if -g > 0 then -g else 0) = 0 ∧ 0 ≤ g := by split <;> omega
    generalize (if st + g > 0 then st + g else 0) = a at *
    generalize (if -g > 0 then -g else 0) = lo at *
    refine ⟨x, dx, _, rfl, X1.ob, dsF_no (by decide +kernel) (by decide +kernel) (by decide +kernel) (by decide +kernel), ?_⟩
    walk_at "rd"
    refine ⟨x, C, dx, _, _, rfl, X1.ob, T2.cl, T2.nP, dsF_period, ?_⟩
    walk_at "rd"
    refine ⟨x, S, st, p, lo, a + p - g, rfl, Dx, by omega, by omega, by omega, by omega, by omega, fun H1 q S1 hq hql => ?_⟩
    have lk := els_length_le S lo (a + p - g)
    have se := sel (a + p - g)
    rw [show a + p - g + g = a + p by omega] at se
    generalize els S lo (a + p - g) = kept at hql lk se
    walk_at "rd"
    refine ⟨x, C, dx, _, _, rfl, S1 _ _ X1.ob, T2.cl, T2.nP, dsF_period, ?_⟩
    walk_at "rd"
    refine ⟨⟨_, SqL.of hql⟩, fun D hD => ?_⟩
    refine lc_list (K := K) (a := q) (xs := kept.map V.int) (fun i H4 => Same H1 H4 ∧ H4 D = some (.lst (((kept.take i).map (· + g)).map V.int)))
      ⟨Same.new hD, upd_same⟩ (fun i H4 _ ⟨s1, _⟩ => SqL.of (s1 _ _ hql)) ?_ ?_
    · rintro i y H4 hi ⟨s1, hDl⟩
      obtain ⟨z, hz, rfl⟩ := ints_get hi
      have hil := lt_of_get hz
      walk_at "rd"
      refine acc_step s1 hD hDl (by rw [List.length_map, List.length_map, List.length_take]; exact szl (by omega)) ?_
      rw [List.take_succ, hz, List.map_append, List.map_append]; rfl
    · rintro H4 ⟨s4, hDl⟩
      rw [List.length_map, List.take_length] at hDl
      have lse := congrArg List.length se
      rw [List.length_map] at lse
      rw [se] at hDl
      have S14 := S1.trans s4
      have cut := congrArg List.length (els_cut (shiftS S g) (show 0 ≤ a by omega) (show a ≤ a + p by omega))
      rw [List.length_append] at cut
      refine mk_tailW (S := shiftS S g) fr (shiftS_neg S g) (LI.new hDl) (by rw [hDl]; simp) (by omega) (by omega) fun H5 z s'' p'' S5 Dz ss pp => ?_
      exact k H5 z s'' p'' (S14.trans S5) (Dz.old S14) (by omega) (by omega)
end
end Cf
namespace Cf
open PySem L2
set_option hygiene false
local macro_rules | `(tactic| walk_at "len") => `(tactic| repeat (first | (obtain ⟨e, _⟩ := h; subst e; rfl; done) | (obtain ⟨_, h⟩ := h)))
local macro_rules | `(tactic| walk_at "rd") => `(tactic| repeat (first | refine ⟨_, rfl, ?_⟩ | refine ⟨_, _, rfl, rfl, ?_⟩ | refine ⟨rfl, ?_⟩ | refine ⟨_, _, rfl, ?_⟩))
local macro_rules | `(tactic| walk_at "yes") => `(tactic| (dsimp only [tYes]; rw [if_pos rfl]))
set_option hygiene true
section
variable {P : Program} {w : World} {K : PySem.W.Frag} {mg : Str → Option Value} {base : Heap}
/-! ### of -/
def spDayList (K : PySem.W.Frag) : Sp := fun vs H Q _ => ∃ (a : Addr) (ns : List Int), vs = [.ref a] ∧ H a = some (.lst (ns.map V.int)) ∧ (∀ n ∈ ns, 0 ≤ n) ∧ ns.length < 100000 ∧ ∀ H', Same H H' → Q (.bl true) H'
theorem scIsDayList : FnScope ["value", "day"] ["value"] (defScope sIsDayList) := ⟨rfl, rfl, rfl, by decide +kernel, rfl, by decide +kernel, by decide +kernel⟩
theorem ok_is_day_list {f : Addr} {fd : FuncData} (F : Fun K "is_day_list" "is_day_list" sIsDayList f fd) (T : Nm mg) (D_is_number : Df P w K mg base 1 "is_number" ["value"] [] spIsNum) : FnOk P w K mg base CX0 2 f fd ["value"] (spDayList K) := by
  refine F.ok scIsDayList (fun vs H Q E h => ?_) (fun cdv A outer s H vs Q E hr h => ?_)
  · walk_at "len"
  · obtain ⟨a, ns, rfl, ha, nn, sz, k⟩ := h
    have nd := scIsDayList.nd
    refine ⟨_, (pss_one (ps_ret (pe_and (pe_callB call_isiT (by rfl) T.isinstance (by decide +kernel) (pa_cons (pv 0) (pa_cons (pe_tup (pa_cons (pe_bltn (v := .ty "list") (by rfl) T.list (by decide +kernel) rfl) (pa_cons (pe_bltn (v := .ty "tuple") (by rfl) T.tuple (by decide +kernel) rfl) pa_nil))) pa_nil))) (pe_one (pe_callB (cr_all rfl) (by rfl) T.all (by decide +kernel) (pa_cons (pe_lc (own := [("day", 1)]) (g := (gName 1)) (tt := tYes) rfl nd (pi_list (pv 0)) (blkOk_by (N := ["value", "day"]) (sc := defScope sIsDayList) (by decide +kernel)) (fun _ _ _ _ _ => pg_name (i := 1) nd rfl (Or.inl rfl)) (fun _ _ _ _ _ => pts_nil) (fun _ _ _ _ _ => (pe_and (pe_df D_is_number (hr.mono (by decide)) (pa_cons (pv 1) pa_nil)) (pe_one (pe_cmpR op_ge (pv 1) pe_int (nomark _)))))) pa_nil)))))), ?_⟩
    walk_at "rd"
    refine ⟨by show 2 ≤ sizeLine; decide, fun t ht => ?_⟩
    walk_at "rd"
    refine ⟨_, t, _, _, _, true, rfl, upd_same, .cons (.ty _) (.cons (.ty _) .nil), .base (.lst (Same.new ht _ _ ha)), kitAny_cons (b := true) (kit_ty (by decide +kernel)) (fun z => Bool.noConfusion z) (fun _ => rfl), ?_⟩
    walk_at "rd"
    have ha2 : SqL K (upd H t (.tup [.ty "list", .ty "tuple"])) a (ns.map V.int) := SqL.of (Same.new ht _ _ ha)
    walk_at "rd"
    refine ⟨⟨_, ha2⟩, fun D hD => ?_⟩
    refine lc_list (K := K) (a := a) (xs := ns.map V.int) (fun i H' => Same (upd H t (.tup [.ty "list", .ty "tuple"])) H' ∧ H' D = some (.lst ((List.replicate i true).map V.bl)))
      ⟨Same.new hD, upd_same⟩ (fun i H' _ ⟨s1, _⟩ => s1.seq ha2) ?_ ?_
    · rintro i y H' hi ⟨s1, hDl⟩
      have hil := lt_of_get hi
      rw [List.length_map] at hil
      obtain ⟨z, hz, rfl⟩ := ints_get hi
      have z0 := nn z (List.mem_of_getElem? hz)
      walk_at "rd"
      have ez : (fun i j : Int => V.bl (decide (j ≤ i))) z 0 = V.bl true := congrArg V.bl (decide_eq_true z0)
      rw [ez]
      refine acc_step s1 hD hDl (by rw [List.length_map, List.length_replicate]; exact szl (by omega)) ?_
      rw [List.replicate_succ', List.map_append]; rfl
    · rintro H' ⟨s1, hDl⟩
      rw [List.length_map] at hDl
      refine ⟨D, _, rfl, SqL.of hDl, ?_⟩
      have e : (List.replicate ns.length true).all id = true := by rw [List.all_eq_true]; intro x hx; exact List.eq_of_mem_replicate hx
      rw [e]
      exact k H' ((Same.new ht).trans s1)
def inS (ns : List Int) : Int → Bool := fun d => decide (d ∈ ns)
/-- the days of a list -/
def spOf (K : PySem.W.Frag) (C : Addr) : Sp := fun vs H Q _ => ∃ (a : Addr) (ns : List Int), vs = [.ref C, .ref a] ∧ H a = some (.lst (ns.map V.int)) ∧ (∀ n ∈ ns, 0 ≤ n ∧ n < 100000) ∧ ns.length < 4000 ∧
  ∀ (H' : Hp) (x : Addr) (s p : Int), Same H H' → Dn K C H H' x (inS ns) s p → (∀ b, (∀ n ∈ ns, n < b) → 0 ≤ b → s ≤ b) → p ≤ 1 → Q (.ref x) H'
theorem of_top {ns l : List Int} {b : Int} (asc : Asc l) (mem : ∀ d, d ∈ l ↔ d ∈ ns) (nn : ∀ n ∈ ns, 0 ≤ n ∧ n < 100000) (h : (l = [] ∧ b = 0) ∨ (l ≠ [] ∧ b = l.getD (l.length - 1) 0 + 1)) :
    0 ≤ b ∧ b < 1000000 ∧ (∀ d, b ≤ d → inS ns d = false) ∧ els (inS ns) 0 (b + 1) = l ∧ ∀ c, (∀ n ∈ ns, n < c) → 0 ≤ c → b ≤ c := by
  have top : ∀ d ∈ l, d < b := fun d hd => by
    rcases h with ⟨e, _⟩ | ⟨ne, e⟩
    · rw [e] at hd; cases hd
    · obtain ⟨i, hi, rfl⟩ := mem_getD hd
      have := asc_le asc (show i ≤ l.length - 1 by omega) (show l.length - 1 < l.length by omega)
      omega
  have off : ∀ d, b ≤ d → inS ns d = false := fun d hd => decide_eq_false fun q => by have := top d ((mem d).mpr q); omega
  have bb : 0 ≤ b ∧ b < 1000000 ∧ ∀ c, (∀ n ∈ ns, n < c) → 0 ≤ c → b ≤ c := by
    rcases h with ⟨_, e⟩ | ⟨ne, e⟩
    · exact ⟨by omega, by omega, fun c _ h => by omega⟩
    · have pos := List.length_pos_iff.mpr ne
      have m := (mem _).mp (getD_mem (l := l) (show l.length - 1 < l.length by omega))
      have := nn _ m
      exact ⟨by omega, by omega, fun c h _ => by have := h _ m; omega⟩
  refine ⟨bb.1, bb.2.1, off, ?_, bb.2.2⟩
  refine asc_ext (asc_els _ _ _) asc fun d => ?_
  rw [mem_els, mem d]
  unfold inS
  rw [decide_eq_true_iff]
  constructor
  · exact fun q => q.2
  · intro q
    have := top d ((mem d).mpr q)
    exact ⟨⟨(nn d q).1, by omega⟩, q⟩
theorem scDsOf : FnScope ["cls", "days", "ascending"] ["cls", "days"] (defScope sDsOf) := ⟨rfl, rfl, rfl, by decide +kernel, rfl, by decide +kernel, by decide +kernel⟩
theorem ok_of {f C : Addr} {fd : FuncData} (F : Fun K "of" "DaySet.of" sDsOf f fd) (T : Nm mg) (T2 : Txd K mg C) (D_is_day_list : Df P w K mg base 2 "is_day_list" ["value"] [] (spDayList K)) (D_init : Dmk P w K mg base 3 C ["self", "start", "period", "days"] (spInit K C)) : FnOk P w K mg base CX0 5 f fd ["cls", "days"] (spOf K C) := by
  refine F.ok scDsOf (fun vs H Q E h => ?_) (fun cdv A outer s H vs Q E hr h => ?_)
  · walk_at "len"
  · obtain ⟨a, ns, rfl, ha, nn, sz, k⟩ := h
    have nd := scDsOf.nd
    refine ⟨_, PSs.nox (pss_cons (ps_if (pt_not (pt_val (pe_df D_is_day_list (hr.mono (by decide)) (pa_cons (pv 1) pa_nil))))
        (pss_one ps_never)
        pss_nil)
      (pss_cons (ps_set (i := 2) nd rfl (Or.inl rfl) (pe_callB (cr_sortedS2 rfl) (by rfl) T.sorted (by decide +kernel) (pa_cons (pe_callTy (cr_setL rfl) (by rfl) T.set (by decide +kernel) (pa_cons (pv 1) pa_nil)) pa_nil)))
      (pss_one (ps_ret (pe_dmakeL (i := 0) D_init (hr.mono (by decide)) rfl (.inl rfl) (pa_cons (pe_ifExp (pt_truth (pv 2) (fun _ => rfl)) (pe_op op_add (pe_ix ix_list (pv 2) (pe_un un_neg pe_int) (fun _ _ => rfl)) pe_int) pe_int) (pa_cons pe_int (pa_cons (pv 2) pa_nil)))))))), ?_⟩
    walk_at "rd"
    refine ⟨a, ns, rfl, ha, fun n hn => (nn n hn).1, by omega, fun H1 S1 => ?_⟩
    walk_at "rd"
    refine ⟨a, ns, rfl, LI.new (S1 _ _ ha), by omega, fun c D cl hD => ?_⟩
    walk_at "rd"
    refine ⟨D, _, c, rfl, upd_same, by omega, fun l q asc mem hq => ?_⟩
    have S2 := (S1.step (o := SetO w D (fun z => decide (z ∈ ns)) c) hD).step (o := .lst (l.map V.int)) hq
    have mem2 : ∀ d, d ∈ l ↔ d ∈ ns := fun d => by rw [mem d, decide_eq_true_iff]
    have tp := fun b h => of_top (b := b) asc mem2 nn h
    have hql : LI K (upd (upd H1 D (SetO w D (fun z => decide (z ∈ ns)) c)) q (.lst (l.map V.int))) q l := LI.new upd_same
    have neg : ∀ d, d < 0 → inS ns d = false := fun d hd => decide_eq_false fun z => by have := (nn d z).1; omega
    walk_at "rd"
    refine ⟨_, .inl ⟨_, hql, rfl⟩, ?_⟩
    cases el : l with
    | nil =>
      refine iteF ?_
      walk_at "rd"
      obtain ⟨b0, b1, off, ee, top⟩ := tp 0 (.inl ⟨el, rfl⟩)
      have h2 : SqL K (upd (upd H1 D (SetO w D (fun z => decide (z ∈ ns)) c)) q (.lst (l.map V.int))) q ((els (inS ns) 0 (0 + 1)).map V.int) := by rw [ee]; exact hql
      rw [el] at h2 S2
      refine mk_tail (S := inS ns) (fr_off b0 off) neg h2 (by rw [upd_same]; simp) (by omega) (by omega) fun H5 z s'' p'' S5 Dz ss pp => ?_
      exact k H5 z s'' p'' (S2.trans S5) (Dz.old S2) (fun b h1 h2 => Int.le_trans ss (top b h1 h2)) pp
    | cons y ys =>
      have ne : l ≠ [] := by rw [el]; simp
      have pos := List.length_pos_iff.mpr ne
      refine iteT ?_
      rw [← el]
      walk_at "rd"
      refine ⟨q, _, _, _, rfl, rfl, hql, atI_neg (by decide) (by omega), ?_⟩
      walk_at "rd"
      obtain ⟨b0, b1, off, ee, top⟩ := tp (l.getD (l.length - 1) 0 + 1) (.inr ⟨ne, rfl⟩)
      have h2 : SqL K (upd (upd H1 D (SetO w D (fun z => decide (z ∈ ns)) c)) q (.lst (l.map V.int))) q ((els (inS ns) 0 (l.getD (l.length - 1) 0 + 1 + 1)).map V.int) := by rw [ee]; exact hql
      refine mk_tail (S := inS ns) (st := l.getD (l.length - 1) 0 + 1) (fr_off b0 off) neg h2 (by rw [upd_same]; simp) (by omega) (by omega) fun H5 z s'' p'' S5 Dz ss pp => ?_
      exact k H5 z s'' p'' (S2.trans S5) (Dz.old S2) (fun b h1 h2 => Int.le_trans ss (top b h1 h2)) pp
end
end Cf
namespace Cf
open PySem L2
set_option hygiene false
local macro_rules | `(tactic| walk_at "len") => `(tactic| repeat (first | (obtain ⟨e, _⟩ := h; subst e; rfl; done) | (obtain ⟨_, h⟩ := h)))
local macro_rules | `(tactic| walk_at "rd") => `(tactic| repeat (first | refine ⟨_, rfl, ?_⟩ | refine ⟨_, _, rfl, rfl, ?_⟩ | refine ⟨rfl, ?_⟩ | refine ⟨_, _, rfl, ?_⟩))
local macro_rules | `(tactic| walk_at "yes") => `(tactic| (dsimp only [tYes]; rw [if_pos rfl]))
set_option hygiene true
section
variable {P : Program} {w : World} {K : PySem.W.Frag} {mg : Str → Option Value} {base : Heap}
/-! ### tuples in the place of lists -/
def spDayListT (K : PySem.W.Frag) : Sp := fun vs H Q _ => ∃ (a : Addr) (ns : List Int), vs = [.ref a] ∧ H a = some (.tup (ns.map V.int)) ∧ (∀ n ∈ ns, 0 ≤ n) ∧ ns.length < 100000 ∧ ∀ H', Same H H' → Q (.bl true) H'
theorem ok_is_day_listT {f : Addr} {fd : FuncData} (F : Fun K "is_day_list" "is_day_list" sIsDayList f fd) (T : Nm mg) (D_is_number : Df P w K mg base 1 "is_number" ["value"] [] spIsNum) : FnOk P w K mg base CX0 2 f fd ["value"] (spDayListT K) := by
  refine F.ok scIsDayList (fun vs H Q E h => ?_) (fun cdv A outer s H vs Q E hr h => ?_)
  · walk_at "len"
  · obtain ⟨a, ns, rfl, ha, nn, sz, k⟩ := h
    have nd := scIsDayList.nd
    refine ⟨_, (pss_one (ps_ret (pe_and (pe_callB call_isiT (by rfl) T.isinstance (by decide +kernel) (pa_cons (pv 0) (pa_cons (pe_tup (pa_cons (pe_bltn (v := .ty "list") (by rfl) T.list (by decide +kernel) rfl) (pa_cons (pe_bltn (v := .ty "tuple") (by rfl) T.tuple (by decide +kernel) rfl) pa_nil))) pa_nil))) (pe_one (pe_callB (cr_all rfl) (by rfl) T.all (by decide +kernel) (pa_cons (pe_lc (own := [("day", 1)]) (g := (gName 1)) (tt := tYes) rfl nd (pi_tup (pv 0)) (blkOk_by (N := ["value", "day"]) (sc := defScope sIsDayList) (by decide +kernel)) (fun _ _ _ _ _ => pg_name (i := 1) nd rfl (Or.inl rfl)) (fun _ _ _ _ _ => pts_nil) (fun _ _ _ _ _ => (pe_and (pe_df D_is_number (hr.mono (by decide)) (pa_cons (pv 1) pa_nil)) (pe_one (pe_cmpR op_ge (pv 1) pe_int (nomark _)))))) pa_nil)))))), ?_⟩
    walk_at "rd"
    refine ⟨by show 2 ≤ sizeLine; decide, fun t ht => ?_⟩
    walk_at "rd"
    refine ⟨_, t, _, _, _, true, rfl, upd_same, .cons (.ty _) (.cons (.ty _) .nil), .base (.tup (Same.new ht _ _ ha)), kitAny_cons (b := false) (kit_ty (by decide +kernel)) (fun _ => kitAny_cons (b := true) (kit_ty (by decide +kernel)) (fun z => Bool.noConfusion z) (fun _ => rfl)) (fun z => Bool.noConfusion z), ?_⟩
    walk_at "rd"
    have ha2 : SqT K (upd H t (.tup [.ty "list", .ty "tuple"])) a (ns.map V.int) := SqT.of (Same.new ht _ _ ha)
    walk_at "rd"
    refine ⟨⟨_, ha2⟩, fun D hD => ?_⟩
    refine lc_it (walk_tup (K := K) (a := a) (xs := ns.map V.int)) (fun i H' => Same (upd H t (.tup [.ty "list", .ty "tuple"])) H' ∧ H' D = some (.lst ((List.replicate i true).map V.bl)))
      ⟨Same.new hD, upd_same⟩ (fun i H' _ ⟨s1, _⟩ => s1.sqt ha2) ?_ ?_
    · rintro i y H' H'' hil ⟨s1, hDl⟩ ⟨rfl, hi⟩
      rw [List.length_map] at hil
      obtain ⟨z, hz, rfl⟩ := ints_get hi
      have z0 := nn z (List.mem_of_getElem? hz)
      walk_at "rd"
      have ez : (fun i j : Int => V.bl (decide (j ≤ i))) z 0 = V.bl true := congrArg V.bl (decide_eq_true z0)
      rw [ez]
      refine acc_step s1 hD hDl (by rw [List.length_map, List.length_replicate]; exact szl (by omega)) ?_
      rw [List.replicate_succ', List.map_append]; rfl
    · rintro H' ⟨s1, hDl⟩
      rw [List.length_map] at hDl
      refine ⟨D, _, rfl, SqL.of hDl, ?_⟩
      have e : (List.replicate ns.length true).all id = true := by rw [List.all_eq_true]; intro x hx; exact List.eq_of_mem_replicate hx
      rw [e]
      exact k H' ((Same.new ht).trans s1)
def spDayListB (K : PySem.W.Frag) : Sp := fun vs H Q _ => ∃ (a : Addr) (ns : List Int), vs = [.ref a] ∧ LT H a (ns.map V.int) ∧ (∀ n ∈ ns, 0 ≤ n) ∧ ns.length < 100000 ∧ ∀ H', Same H H' → Q (.bl true) H'
theorem ok_is_day_listB {f : Addr} {fd : FuncData} (F : Fun K "is_day_list" "is_day_list" sIsDayList f fd) (T : Nm mg) (D_is_number : Df P w K mg base 1 "is_number" ["value"] [] spIsNum) : FnOk P w K mg base CX0 2 f fd ["value"] (spDayListB K) :=
  ((ok_is_day_list F T D_is_number).or (ok_is_day_listT F T D_is_number)).weak fun vs H Q E h => by
    obtain ⟨a, ns, e, ha | ha, r⟩ := h
    · exact .inl ⟨a, ns, e, ha, r⟩
    · exact .inr ⟨a, ns, e, ha, r⟩
def spOfB (K : PySem.W.Frag) (C : Addr) : Sp := fun vs H Q _ => ∃ (a : Addr) (ns : List Int), vs = [.ref C, .ref a] ∧ LT H a (ns.map V.int) ∧ (∀ n ∈ ns, 0 ≤ n ∧ n < 100000) ∧ ns.length < 4000 ∧
  ∀ (H' : Hp) (x : Addr) (s p : Int), Same H H' → Dn K C H H' x (inS ns) s p → (∀ b, (∀ n ∈ ns, n < b) → 0 ≤ b → s ≤ b) → p ≤ 1 → Q (.ref x) H'
theorem ok_ofT {f C : Addr} {fd : FuncData} (F : Fun K "of" "DaySet.of" sDsOf f fd) (T : Nm mg) (T2 : Txd K mg C) (D_is_day_list : Df P w K mg base 2 "is_day_list" ["value"] [] (spDayListB K)) (D_init : Dmk P w K mg base 3 C ["self", "start", "period", "days"] (spInit K C)) : FnOk P w K mg base CX0 5 f fd ["cls", "days"] (spOfB K C) := by
  refine F.ok scDsOf (fun vs H Q E h => ?_) (fun cdv A outer s H vs Q E hr h => ?_)
  · walk_at "len"
  · obtain ⟨a, ns, rfl, ha, nn, sz, k⟩ := h
    have nd := scDsOf.nd
    refine ⟨_, PSs.nox (pss_cons (ps_if (pt_not (pt_val (pe_df D_is_day_list (hr.mono (by decide)) (pa_cons (pv 1) pa_nil))))
        (pss_one ps_never)
        pss_nil)
      (pss_cons (ps_set (i := 2) nd rfl (Or.inl rfl) (pe_callB (cr_sortedS2 rfl) (by rfl) T.sorted (by decide +kernel) (pa_cons (pe_callTy (callR_or (cr_setL rfl) (cr_setT rfl)) (by rfl) T.set (by decide +kernel) (pa_cons (pv 1) pa_nil)) pa_nil)))
      (pss_one (ps_ret (pe_dmakeL (i := 0) D_init (hr.mono (by decide)) rfl (.inl rfl) (pa_cons (pe_ifExp (pt_truth (pv 2) (fun _ => rfl)) (pe_op op_add (pe_ix ix_list (pv 2) (pe_un un_neg pe_int) (fun _ _ => rfl)) pe_int) pe_int) (pa_cons pe_int (pa_cons (pv 2) pa_nil)))))))), ?_⟩
    walk_at "rd"
    refine ⟨a, ns, rfl, ha, fun n hn => (nn n hn).1, by omega, fun H1 S1 => ?_⟩
    walk_at "rd"
    have step : ∀ (R : V → Hp → Prop), (∀ (c : Nat) (p : Addr), c ≤ ns.length → H1 p = none → R (.ref p) (upd H1 p (SetO w p (fun z => decide (z ∈ ns)) c))) → rSetL K w [.ref a] H1 R ∨ rSetT K w [.ref a] H1 R := fun R q => by
      rcases ha.same S1 with h | h
      · exact .inl ⟨a, ns, rfl, LI.new h, by omega, q⟩
      · exact .inr ⟨a, ns, rfl, SqT.of h, by omega, q⟩
    refine step _ fun c D cl hD => ?_
    walk_at "rd"
    refine ⟨D, _, c, rfl, upd_same, by omega, fun l q asc mem hq => ?_⟩
    have S2 := (S1.step (o := SetO w D (fun z => decide (z ∈ ns)) c) hD).step (o := .lst (l.map V.int)) hq
    have mem2 : ∀ d, d ∈ l ↔ d ∈ ns := fun d => by rw [mem d, decide_eq_true_iff]
    have tp := fun b h => of_top (b := b) asc mem2 nn h
    have hql : LI K (upd (upd H1 D (SetO w D (fun z => decide (z ∈ ns)) c)) q (.lst (l.map V.int))) q l := LI.new upd_same
    have neg : ∀ d, d < 0 → inS ns d = false := fun d hd => decide_eq_false fun z => by have := (nn d z).1; omega
    walk_at "rd"
    refine ⟨_, .inl ⟨_, hql, rfl⟩, ?_⟩
    cases el : l with
    | nil =>
      refine iteF ?_
      walk_at "rd"
      obtain ⟨b0, b1, off, ee, top⟩ := tp 0 (.inl ⟨el, rfl⟩)
      have h2 : SqL K (upd (upd H1 D (SetO w D (fun z => decide (z ∈ ns)) c)) q (.lst (l.map V.int))) q ((els (inS ns) 0 (0 + 1)).map V.int) := by rw [ee]; exact hql
      rw [el] at h2 S2
      refine mk_tail (S := inS ns) (fr_off b0 off) neg h2 (by rw [upd_same]; simp) (by omega) (by omega) fun H5 z s'' p'' S5 Dz ss pp => ?_
      exact k H5 z s'' p'' (S2.trans S5) (Dz.old S2) (fun b h1 h2 => Int.le_trans ss (top b h1 h2)) pp
    | cons y ys =>
      have ne : l ≠ [] := by rw [el]; simp
      have pos := List.length_pos_iff.mpr ne
      refine iteT ?_
      rw [← el]
      walk_at "rd"
      refine ⟨q, _, _, _, rfl, rfl, hql, atI_neg (by decide) (by omega), ?_⟩
      walk_at "rd"
      obtain ⟨b0, b1, off, ee, top⟩ := tp (l.getD (l.length - 1) 0 + 1) (.inr ⟨ne, rfl⟩)
      have h2 : SqL K (upd (upd H1 D (SetO w D (fun z => decide (z ∈ ns)) c)) q (.lst (l.map V.int))) q ((els (inS ns) 0 (l.getD (l.length - 1) 0 + 1 + 1)).map V.int) := by rw [ee]; exact hql
      refine mk_tail (S := inS ns) (st := l.getD (l.length - 1) 0 + 1) (fr_off b0 off) neg h2 (by rw [upd_same]; simp) (by omega) (by omega) fun H5 z s'' p'' S5 Dz ss pp => ?_
      exact k H5 z s'' p'' (S2.trans S5) (Dz.old S2) (fun b h1 h2 => Int.le_trans ss (top b h1 h2)) pp
def spTruthListT (K : PySem.W.Frag) : Sp := fun vs H Q _ => ∃ (a : Addr) (bs : List Bool), vs = [.ref a] ∧ H a = some (.tup (bs.map V.bl)) ∧ bs.length < 100000 ∧ ∀ H', Same H H' → Q (.bl true) H'
theorem ok_is_truth_listT {f : Addr} {fd : FuncData} (F : Fun K "is_truth_list" "is_truth_list" sIsTruthList f fd) (T : Nm mg) : FnOk P w K mg base CX0 1 f fd ["value"] (spTruthListT K) := by
  refine F.ok scIsTruthList (fun vs H Q E h => ?_) (fun cdv A outer s H vs Q E hr h => ?_)
  · walk_at "len"
  · obtain ⟨a, bs, rfl, ha, sz, k⟩ := h
    have nd := scIsTruthList.nd
    refine ⟨_, (pss_one (ps_ret (pe_and (pe_callB call_isiT (by rfl) T.isinstance (by decide +kernel) (pa_cons (pv 0) (pa_cons (pe_tup (pa_cons (pe_bltn (v := .ty "list") (by rfl) T.list (by decide +kernel) rfl) (pa_cons (pe_bltn (v := .ty "tuple") (by rfl) T.tuple (by decide +kernel) rfl) pa_nil))) pa_nil))) (pe_one (pe_callB (cr_all rfl) (by rfl) T.all (by decide +kernel) (pa_cons (pe_lc (own := [("truth", 1)]) (g := (gName 1)) (tt := tYes) rfl nd (pi_tup (pv 0)) (blkOk_by (N := ["value", "truth"]) (sc := defScope sIsTruthList) (by decide +kernel)) (fun _ _ _ _ _ => pg_name (i := 1) nd rfl (Or.inl rfl)) (fun _ _ _ _ _ => pts_nil) (fun _ _ _ _ _ => (pe_callB (show CallR _ _ (rIsi K) from call_isi) (by rfl) T.isinstance (by decide +kernel) (pa_cons (pv 1) (pa_cons (pe_bltn (v := .ty "bool") (by rfl) T.bool (by decide +kernel) rfl) pa_nil))))) pa_nil)))))), ?_⟩
    walk_at "rd"
    refine ⟨by show 2 ≤ sizeLine; decide, fun t ht => ?_⟩
    walk_at "rd"
    refine ⟨_, t, _, _, _, true, rfl, upd_same, .cons (.ty _) (.cons (.ty _) .nil), .base (.tup (Same.new ht _ _ ha)), kitAny_cons (b := false) (kit_ty (by decide +kernel)) (fun _ => kitAny_cons (b := true) (kit_ty (by decide +kernel)) (fun z => Bool.noConfusion z) (fun _ => rfl)) (fun z => Bool.noConfusion z), ?_⟩
    walk_at "rd"
    have ha2 : SqT K (upd H t (.tup [.ty "list", .ty "tuple"])) a (bs.map V.bl) := SqT.of (Same.new ht _ _ ha)
    walk_at "rd"
    refine ⟨⟨_, ha2⟩, fun D hD => ?_⟩
    refine lc_it (walk_tup (K := K) (a := a) (xs := bs.map V.bl)) (fun i H' => Same (upd H t (.tup [.ty "list", .ty "tuple"])) H' ∧ H' D = some (.lst ((List.replicate i true).map V.bl)))
      ⟨Same.new hD, upd_same⟩ (fun i H' _ ⟨s1, _⟩ => s1.sqt ha2) ?_ ?_
    · rintro i y H' H'' hil ⟨s1, hDl⟩ ⟨rfl, hi⟩
      rw [List.length_map] at hil
      obtain ⟨z, hz, rfl⟩ : ∃ z, bs[i]? = some z ∧ y = V.bl z := by
        rw [List.getElem?_map] at hi
        cases e : bs[i]? with
        | none => rw [e] at hi; cases hi
        | some z => rw [e] at hi; exact ⟨z, rfl, (Option.some.inj hi).symm⟩
      walk_at "rd"
      refine ⟨_, _, _, _, true, rfl, .ty "bool", .base (.bl _), kit_ty (by decide +kernel), ?_⟩
      refine acc_step s1 hD hDl (by rw [List.length_map, List.length_replicate]; exact szl (by omega)) ?_
      rw [List.replicate_succ', List.map_append]; rfl
    · rintro H' ⟨s1, hDl⟩
      rw [List.length_map] at hDl
      refine ⟨D, _, rfl, SqL.of hDl, ?_⟩
      have e : (List.replicate bs.length true).all id = true := by rw [List.all_eq_true]; intro x hx; exact List.eq_of_mem_replicate hx
      rw [e]
      exact k H' ((Same.new ht).trans s1)
def spTruthListB (K : PySem.W.Frag) : Sp := fun vs H Q _ => ∃ (a : Addr) (bs : List Bool), vs = [.ref a] ∧ LT H a (bs.map V.bl) ∧ bs.length < 100000 ∧ ∀ H', Same H H' → Q (.bl true) H'
theorem ok_is_truth_listB {f : Addr} {fd : FuncData} (F : Fun K "is_truth_list" "is_truth_list" sIsTruthList f fd) (T : Nm mg) : FnOk P w K mg base CX0 1 f fd ["value"] (spTruthListB K) :=
  ((ok_is_truth_list F T).or (ok_is_truth_listT F T)).weak fun vs H Q E h => by
    obtain ⟨a, bs, e, ha | ha, r⟩ := h
    · exact .inl ⟨a, bs, e, ha, r⟩
    · exact .inr ⟨a, bs, e, ha, r⟩
end
end Cf
namespace Cf
open PySem L2
set_option hygiene false
local macro_rules | `(tactic| walk_at "len") => `(tactic| repeat (first | (obtain ⟨e, _⟩ := h; subst e; rfl; done) | (obtain ⟨_, h⟩ := h)))
local macro_rules | `(tactic| walk_at "rd") => `(tactic| repeat (first | refine ⟨_, rfl, ?_⟩ | refine ⟨_, _, rfl, rfl, ?_⟩ | refine ⟨rfl, ?_⟩ | refine ⟨_, _, rfl, ?_⟩))
local macro_rules | `(tactic| walk_at "yes") => `(tactic| (dsimp only [tYes]; rw [if_pos rfl]))
set_option hygiene true
section
variable {P : Program} {w : World} {K : PySem.W.Frag} {mg : Str → Option Value} {base : Heap}
/-! ### a stretch with an end -/
def inR (low high : Int) : Int → Bool := fun d => decide (low ≤ d ∧ d < high)
theorem inR_fr {low high : Int} (h : 0 ≤ high) : Fr (inR low high) high 1 := ⟨h, by omega, fun d hd => by unfold inR; rw [decide_eq_false (by omega), decide_eq_false (by omega)]⟩
theorem inR_els {low high : Int} (h : 0 ≤ low) : els (inR low high) 0 (high + 1) = seg low high := by
  refine asc_ext (asc_els _ _ _) (asc_seg _ _) fun d => ?_
  rw [mem_els, mem_seg]
  unfold inR
  rw [decide_eq_true_iff]
  omega
theorem rgV_seg (lo hi : Int) : rgV lo hi = (seg lo hi).map V.int := by unfold rgV seg; rw [List.map_map]; rfl
def spSpan2 (K : PySem.W.Frag) (C : Addr) : Sp := fun vs H Q _ => ∃ low high : Int, vs = [.ref C, .int low, .int high] ∧ 0 ≤ low ∧ low ≤ high ∧ high < 100000 ∧
  ∀ (H' : Hp) (x : Addr) (s p : Int), Same H H' → Dn K C H H' x (inR low high) s p → s ≤ high → p ≤ 1 → Q (.ref x) H'
theorem ok_span2 {f C : Addr} {fd : FuncData} {dV : List V} (F : FunD K "span" "DaySet.span" (defArgs sDsSpan) (defBody sDsSpan) (defScope sDsSpan) dV [] f fd) (T : Nm mg) (T2 : Txd K mg C) (D_is_number : Df P w K mg base 1 "is_number" ["value"] [] spIsNum) (D_init : Dmk P w K mg base 3 C ["self", "start", "period", "days"] (spInit K C)) : FnOk P w K mg base CX0 5 f fd ["cls", "low", "high"] (spSpan2 K C) := by
  refine F.ok scDsSpan (fun vs H Q E h => ?_) (fun cdv A outer s H vs Q E hr h => ?_)
  · walk_at "len"
  · obtain ⟨low, high, rfl, l0, l1, l2, k⟩ := h
    have nd := scDsSpan.nd
    refine ⟨_, PSs.nox (pss_cons (ps_if (PW.pt (pw_or (pt_not (pt_val (pe_df D_is_number (hr.mono (by decide)) (pa_cons (pv 1) pa_nil)))) (pw_or1 (pt_cmpR op_lt (pv 1) pe_int (nomark _)))))
        (pss_one ps_never)
        pss_nil)
      (pss_cons (ps_if (pt_cmpR op_isN (pv 2) pe_non (nomark _))
        (pss_one (ps_ret (pe_dmakeL (i := 0) D_init (hr.mono (by decide)) rfl (.inl rfl) (pa_cons (pv 1) (pa_cons pe_int (pa_cons (pe_lst (pa_cons (pv 1) pa_nil)) pa_nil))))))
        pss_nil)
      (pss_cons (ps_if (PW.pt (pw_or (pt_not (pt_val (pe_df D_is_number (hr.mono (by decide)) (pa_cons (pv 2) pa_nil)))) (pw_or1 (pt_cmpR op_lt (pv 2) (pv 1) (nomark _)))))
        (pss_one ps_never)
        pss_nil)
      (pss_one (ps_ret (pe_dmakeL (i := 0) D_init (hr.mono (by decide)) rfl (.inl rfl) (pa_cons (pv 2) (pa_cons pe_int (pa_cons (pe_listRg rfl (by rfl) T.list (prg_2 (by rfl) T.range (pv 1) (pv 2))) pa_nil))))))))), ?_⟩
    walk_at "rd"
    refine iteFF (decide_eq_false (by omega)) ?_
    walk_at "rd"
    refine iteFF (decide_eq_false (by omega)) ?_
    walk_at "rd"
    refine ⟨⟨by omega, by omega, by omega, by omega, by omega⟩, fun l hl => ?_⟩
    walk_at "rd"
    have S1 := Same.new (o := .lst (rgV low high)) hl
    have w1 : upd H l (.lst (rgV low high)) l = some (.lst (rgV low high)) := upd_same
    generalize upd H l (.lst (rgV low high)) = H1 at S1 w1 ⊢
    rw [rgV_seg, ← inR_els l0] at w1
    refine mk_tail (S := inR low high) (inR_fr (by omega)) (fun d hd => decide_eq_false (by omega)) (LI.new w1) (by rw [w1]; simp) (by omega) (by omega) fun H5 z s'' p'' S5 Dz ss pp => ?_
    exact k H5 z s'' p'' (S1.trans S5) (Dz.old S1) ss pp
def spSpanB (K : PySem.W.Frag) (C : Addr) : Sp := fun vs H Q E => spSpan1 K C vs H Q E ∨ spSpan2 K C vs H Q E
theorem ok_spanB {f C : Addr} {fd : FuncData} {dV : List V} (F : FunD K "span" "DaySet.span" (defArgs sDsSpan) (defBody sDsSpan) (defScope sDsSpan) dV [] f fd) (T : Nm mg) (T2 : Txd K mg C) (D_is_number : Df P w K mg base 1 "is_number" ["value"] [] spIsNum) (D_init : Dmk P w K mg base 3 C ["self", "start", "period", "days"] (spInit K C)) : FnOk P w K mg base CX0 5 f fd ["cls", "low", "high"] (spSpanB K C) :=
  (ok_span1 F T T2 D_is_number D_init).or (ok_span2 F T T2 D_is_number D_init)
/-! ### every -/
def evS (first step : Int) : Int → Bool := fun d => decide (first ≤ d ∧ (d - first) % step = 0)
theorem evS_fr {first step : Int} (h : 0 ≤ first) (h1 : 1 ≤ step) : Fr (evS first step) first step := ⟨h, h1, fun d hd => by
  unfold evS
  rw [show d + step - first = (d - first) + step by omega, Int.add_emod_right]
  congr 1
  exact propext ⟨fun q => ⟨by omega, q.2⟩, fun q => ⟨by omega, q.2⟩⟩⟩
theorem evS_els {first step : Int} (h : 0 ≤ first) (h1 : 1 ≤ step) : els (evS first step) 0 (first + step) = [first] := by
  refine asc_ext (asc_els _ _ _) (by simp [Asc]) fun d => ?_
  rw [mem_els, List.mem_singleton]
  unfold evS
  rw [decide_eq_true_iff]
  constructor
  · rintro ⟨⟨a, b⟩, c, e⟩
    rw [Int.emod_eq_of_lt (by omega) (by omega)] at e
    omega
  · rintro rfl
    exact ⟨⟨h, by omega⟩, Int.le_refl _, by rw [Int.sub_self]; exact Int.zero_emod _⟩
def spEvery (K : PySem.W.Frag) (C : Addr) : Sp := fun vs H Q _ => ∃ step first : Int, vs = [.ref C, .int step, .int first] ∧ 1 ≤ step ∧ step < 100000 ∧ 0 ≤ first ∧ first < 100000 ∧
  ∀ (H' : Hp) (x : Addr) (s p : Int), Same H H' → Dn K C H H' x (evS first step) s p → s ≤ first → p ≤ step → Q (.ref x) H'
theorem scDsEvery : FnScope ["cls", "period", "first"] ["cls", "period", "first"] (defScope sDsEvery) := ⟨rfl, rfl, rfl, by decide +kernel, rfl, by decide +kernel, by decide +kernel⟩
theorem ok_every {f C : Addr} {fd : FuncData} {dV : List V} (F : FunD K "every" "DaySet.every" (defArgs sDsEvery) (defBody sDsEvery) (defScope sDsEvery) dV [] f fd) (T : Nm mg) (T2 : Txd K mg C) (D_is_number : Df P w K mg base 1 "is_number" ["value"] [] spIsNum) (D_init : Dmk P w K mg base 3 C ["self", "start", "period", "days"] (spInit K C)) : FnOk P w K mg base CX0 5 f fd ["cls", "period", "first"] (spEvery K C) := by
  refine F.ok scDsEvery (fun vs H Q E h => ?_) (fun cdv A outer s H vs Q E hr h => ?_)
  · walk_at "len"
  · obtain ⟨step, first, rfl, l0, l1, l2, l3, k⟩ := h
    have nd := scDsEvery.nd
    refine ⟨_, PSs.nox (pss_cons (ps_if (PW.pt (pw_or (pt_not (pt_val (pe_df D_is_number (hr.mono (by decide)) (pa_cons (pv 1) pa_nil)))) (pw_or1 (pt_cmpR op_lt (pv 1) pe_int (nomark _)))))
        (pss_one ps_never)
        pss_nil)
      (pss_cons (ps_if (PW.pt (pw_or (pt_not (pt_val (pe_df D_is_number (hr.mono (by decide)) (pa_cons (pv 2) pa_nil)))) (pw_or1 (pt_cmpR op_lt (pv 2) pe_int (nomark _)))))
        (pss_one ps_never)
        pss_nil)
      (pss_one (ps_ret (pe_dmakeL (i := 0) D_init (hr.mono (by decide)) rfl (.inl rfl) (pa_cons (pv 2) (pa_cons (pv 1) (pa_cons (pe_lst (pa_cons (pv 2) pa_nil)) pa_nil)))))))), ?_⟩
    walk_at "rd"
    refine iteFF (decide_eq_false (by omega)) ?_
    walk_at "rd"
    refine iteFF (decide_eq_false (by omega)) ?_
    walk_at "rd"
    refine ⟨by show 1 ≤ sizeLine; decide, fun l hl => ?_⟩
    walk_at "rd"
    have S1 := Same.new (o := .lst [V.int first]) hl
    have w1 : upd H l (.lst [V.int first]) l = some (.lst ([first].map V.int)) := upd_same
    rw [← evS_els l2 l0] at w1
    generalize upd H l (.lst [V.int first]) = H1 at S1 w1 ⊢
    refine mk_tail (S := evS first step) (evS_fr l2 l0) (fun d hd => decide_eq_false (by omega)) (LI.new w1) (by rw [w1]; simp) (by omega) (by omega) fun H5 z s'' p'' S5 Dz ss pp => ?_
    exact k H5 z s'' p'' (S1.trans S5) (Dz.old S1) ss pp
end
end Cf
namespace Cf
open PySem L2
set_option hygiene false
local macro_rules | `(tactic| walk_at "len") => `(tactic| repeat (first | (obtain ⟨e, _⟩ := h; subst e; rfl; done) | (obtain ⟨_, h⟩ := h)))
local macro_rules | `(tactic| walk_at "rd") => `(tactic| repeat (first | refine ⟨_, rfl, ?_⟩ | refine ⟨_, _, rfl, rfl, ?_⟩ | refine ⟨rfl, ?_⟩ | refine ⟨_, _, rfl, ?_⟩))
local macro_rules | `(tactic| walk_at "yes") => `(tactic| (dsimp only [tYes]; rw [if_pos rfl]))
set_option hygiene true
section
variable {P : Program} {w : World} {K : PySem.W.Frag} {mg : Str → Option Value} {base : Heap}
/-! ### one set, made in nine ways -/
theorem lcmI_le {a b : Int} (ha : 1 ≤ a) (hb : 1 ≤ b) : lcmI a b ≤ a * b := by
  unfold lcmI
  have d := Nat.le_of_dvd (Nat.mul_pos (show 0 < a.natAbs by omega) (show 0 < b.natAbs by omega)) (Nat.lcm_dvd_mul a.natAbs b.natAbs)
  have e : ((a.natAbs * b.natAbs : Nat) : Int) = a * b := by rw [Int.natCast_mul, show ((a.natAbs : Nat) : Int) = a by omega, show ((b.natAbs : Nat) : Int) = b by omega]
  omega
theorem lcmI_leN {a b : Int} {n : Nat} (ha : 1 ≤ a) (hb : 1 ≤ b) {c c' : Nat} (h1 : a.natAbs ∣ c) (h2 : b.natAbs ∣ c') (c0 : 0 < c) (c1 : 0 < c') (h : Nat.lcm c c' ≤ n) : lcmI a b ≤ (n : Int) := by
  unfold lcmI
  have d := Nat.le_of_dvd (Nat.lcm_pos c0 c1) (Nat.lcm_dvd (Nat.dvd_trans h1 (Nat.dvd_lcm_left c c')) (Nat.dvd_trans h2 (Nat.dvd_lcm_right c c')))
  omega
theorem patS_take' (hb cb : List Bool) : ∀ k : Nat, k ≤ cb.length → patS (hb ++ cb.take k) (cb.drop k ++ cb.take k) = patS hb cb
  | 0, _ => by rw [List.take_zero, List.append_nil, List.append_nil, List.drop_zero]
  | k + 1, h => by
    have ih := patS_take' hb cb k (by omega)
    have e1 : cb.drop k = cb[k] :: cb.drop (k + 1) := List.drop_eq_getElem_cons (by omega)
    have e2 : cb.take (k + 1) = cb.take k ++ [cb[k]] := by rw [List.take_succ, List.getElem?_eq_getElem (by omega)]; rfl
    rw [← ih, e1, List.cons_append, e2, ← List.append_assoc, ← List.append_assoc]
    exact patS_rot _ _ _
theorem patS_turns (hb cb : List Bool) (ne : cb ≠ []) {m : Nat} (hm : 1 ≤ m) : patS hb ((List.replicate m cb).flatten) = patS hb cb := by
  refine (patS_ext fun i => ?_).symm
  have c1 : 0 < cb.length := List.length_pos_iff.mpr ne
  have pos : 0 < m * cb.length := Nat.mul_pos hm c1
  rw [flat_size, flat_get _ _ _ (Nat.mod_lt _ pos), Nat.mod_mod_of_dvd _ (Nat.dvd_mul_left _ _)]
/-- the days of the head, and those behind it in the first places of the cycle -/
def pieS (hb cb : List Bool) (i : Nat) : Int → Bool := fun d => patS hb cb d && decide (d < hb.length ∨ (d - hb.length) % cb.length < i)
theorem pie_fr (hb cb : List Bool) (ne : cb ≠ []) (i : Nat) : Fr (pieS hb cb i) hb.length cb.length := by
  have F := patS_fr hb cb ne
  refine ⟨F.s0, F.p1, fun d hd => ?_⟩
  unfold pieS
  rw [F.per d hd, show d + (cb.length : Int) - hb.length = (d - hb.length) + cb.length by omega, Int.add_emod_right]
  congr 1
  have := F.p1
  exact decide_eq_decide.mpr ⟨fun q => q.elim (fun z => .inl (by omega)) .inr, fun q => q.elim (fun z => absurd z (by omega)) .inr⟩
theorem pie_zero (hb cb : List Bool) (ne : cb ≠ []) : pieS hb cb 0 = inS (els (patS hb cb) 0 hb.length) := by
  funext d
  have c1 : 0 < cb.length := List.length_pos_iff.mpr ne
  have m := Int.emod_nonneg (d - hb.length) (show (cb.length : Int) ≠ 0 by omega)
  unfold pieS inS
  rw [Bool.eq_iff_iff, Bool.and_eq_true, decide_eq_true_iff, decide_eq_true_iff, mem_els]
  constructor
  · rintro ⟨a, b⟩
    refine ⟨⟨?_, by omega⟩, a⟩
    rcases Int.lt_or_le d 0 with z | z
    · rw [patS_neg hb cb d z] at a; cases a
    · exact z
  · rintro ⟨⟨a, b⟩, c⟩
    exact ⟨c, .inl b⟩
theorem pie_all (hb cb : List Bool) (ne : cb ≠ []) : pieS hb cb cb.length = patS hb cb := by
  funext d
  have c1 : 0 < cb.length := List.length_pos_iff.mpr ne
  have m := Int.emod_lt_of_pos (d - hb.length) (show 0 < (cb.length : Int) by omega)
  unfold pieS
  rw [decide_eq_true (.inr m), Bool.and_true]
theorem ev_iff {h L i d : Int} (hi : 0 ≤ i) (hL : i < L) : (h + i ≤ d ∧ (d - (h + i)) % L = 0) ↔ (h ≤ d ∧ (d - h) % L = i) := by
  have e : (d - (h + i)) % L = ((d - h) - i) % L := by rw [show d - (h + i) = (d - h) - i by omega]
  rw [e]
  constructor
  · rintro ⟨a, b⟩
    refine ⟨by omega, ?_⟩
    have q := (Int.emod_eq_emod_iff_emod_sub_eq_zero).mpr b
    rw [q, Int.emod_eq_of_lt hi hL]
  · rintro ⟨a, b⟩
    have q := Int.emod_add_mul_ediv (d - h) L
    have nn : 0 ≤ (d - h) / L := Int.ediv_nonneg (by omega) (by omega)
    have np : 0 ≤ L * ((d - h) / L) := Int.mul_nonneg (by omega) nn
    refine ⟨by omega, ?_⟩
    rw [show d - h - i = L * ((d - h) / L) by omega, Int.mul_emod_right]
theorem pie_succ (hb cb : List Bool) (ne : cb ≠ []) {i : Nat} (hi : i < cb.length) : pieS hb cb (i + 1) = if cb.getD i false = true then (fun d => pieS hb cb i d || evS ((hb.length : Int) + i) cb.length d) else pieS hb cb i := by
  have c1 : 0 < cb.length := List.length_pos_iff.mpr ne
  have at_i : ∀ d : Int, (hb.length : Int) ≤ d → (d - hb.length) % cb.length = i → patS hb cb d = cb.getD i false := fun d h1 h2 => by
    obtain ⟨k, rfl⟩ : ∃ k : Nat, d = ((hb.length + k : Nat) : Int) := ⟨(d - hb.length).toNat, by omega⟩
    rw [patS_tail]
    congr 1
    have : (((hb.length + k : Nat) : Int) - hb.length) = (k : Int) := by omega
    rw [this] at h2
    exact_mod_cast h2
  have key : ∀ d : Int, (d < hb.length ∨ (d - hb.length) % cb.length < ((i + 1 : Nat) : Int)) ↔ ((d < hb.length ∨ (d - hb.length) % cb.length < (i : Int)) ∨ ((hb.length : Int) ≤ d ∧ (d - hb.length) % cb.length = i)) := fun d => by omega
  split
  · rename_i c
    funext d
    have ev := ev_iff (h := (hb.length : Int)) (L := cb.length) (i := i) (d := d) (by omega) (by omega)
    unfold pieS evS
    rw [Bool.eq_iff_iff, Bool.and_eq_true, Bool.or_eq_true, Bool.and_eq_true, decide_eq_true_iff, decide_eq_true_iff, decide_eq_true_iff, key d, ev]
    constructor
    · rintro ⟨a, b | b⟩
      · exact .inl ⟨a, b⟩
      · exact .inr b
    · rintro (⟨a, b⟩ | b)
      · exact ⟨a, .inl b⟩
      · exact ⟨by rw [at_i d b.1 b.2]; exact c, .inr b⟩
  · rename_i c
    funext d
    unfold pieS
    rw [Bool.eq_iff_iff, Bool.and_eq_true, Bool.and_eq_true, decide_eq_true_iff, decide_eq_true_iff, key d]
    constructor
    · rintro ⟨a, b | b⟩
      · exact ⟨a, b⟩
      · rw [at_i d b.1 b.2] at a; exact absurd a c
    · rintro ⟨a, b⟩
      exact ⟨a, .inl b⟩
theorem shift_back {S : Int → Bool} {g : Int} (hg : 0 ≤ g) (neg : ∀ d, d < 0 → S d = false) : shiftS (shiftS S g) (0 - g) = S := by
  funext d
  unfold shiftS
  rcases Int.lt_or_le d 0 with z | z
  · rw [decide_eq_false (by omega), neg d z]; rfl
  · rw [decide_eq_true z, decide_eq_true (show 0 ≤ d - (0 - g) by omega), show d - (0 - g) - g = d by omega]; rfl
theorem cut_join (S T : Int → Bool) : (fun d => (fun d => S d && T d) d || (fun d => S d && !T d) d) = S := by
  funext d
  show ((S d && T d) || (S d && !T d)) = S d
  cases S d <;> cases T d <;> rfl
theorem not_not' {S : Int → Bool} (neg : ∀ d, d < 0 → S d = false) : notS (notS S) = S := by
  funext d
  unfold notS
  rcases Int.lt_or_le d 0 with z | z
  · rw [decide_eq_false (by omega), neg d z]; rfl
  · rw [decide_eq_true z]; cases S d <;> rfl
theorem each_two (S : Int → Bool) : (fun d => eachS S 2 0 d || eachS S 2 1 d) = S := by
  funext d
  unfold eachS
  cases S d with
  | false => rfl
  | true =>
    rw [Bool.true_and, Bool.true_and, Bool.or_eq_true, decide_eq_true_iff, decide_eq_true_iff]
    omega
/-- the same set, told anew -/
theorem Dn.uni {C : Addr} {H0 H1 H2 : Hp} {x : Addr} {S S' : Int → Bool} {s q s' q' : Int} (D : Dn K C H1 H2 x S' s' q') (e : S' = S) (c : Can S s q) (o : Same H0 H1) : Dn K C H0 H2 x S s q := by
  subst e
  obtain ⟨rfl, rfl⟩ := D.ds.can.eq c
  exact D.old o
end
end Cf
namespace Cf
open PySem L2
set_option hygiene false
local macro_rules | `(tactic| walk_at "len") => `(tactic| repeat (first | (obtain ⟨e, _⟩ := h; subst e; rfl; done) | (obtain ⟨_, h⟩ := h)))
local macro_rules | `(tactic| walk_at "rd") => `(tactic| repeat (first | refine ⟨_, rfl, ?_⟩ | refine ⟨_, _, rfl, rfl, ?_⟩ | refine ⟨rfl, ?_⟩ | refine ⟨_, _, rfl, ?_⟩))
local macro_rules | `(tactic| walk_at "yes") => `(tactic| (dsimp only [tYes]; rw [if_pos rfl]))
set_option hygiene true
section
variable {P : Program} {w : World} {K : PySem.W.Frag} {mg : Str → Option Value} {base : Heap}
def spMakings (K : PySem.W.Frag) (C : Addr) : Sp := fun vs H Q _ => ∃ (p a b : Addr) (n : Nat) (t h c : Addr) (hb cb : List Bool), vs = [.ref p, .ref t] ∧ Stt p a b n H ∧ n + 10 ≤ 1000000 ∧ Md H t h c hb cb ∧ (t ≠ p ∧ t ≠ a) ∧ (h ≠ p ∧ h ≠ a) ∧ (c ≠ p ∧ c ≠ a) ∧ hb.length ≤ 24 ∧ cb.length ≤ 12 ∧
  ∀ (H3 H' : Hp) (l : Addr) (xs : List Addr) (s q : Int), Stt p a b (n + 3) H3 → But p a H H3 → Same H3 H' → H3 l = none → H' l = some (.lst (xs.map V.ref)) → xs.length = 9 → (∀ x ∈ xs, Dn K C H3 H' x (patS hb cb) s q) → Can (patS hb cb) s q → s ≤ 24 → q ≤ 12 → Q (.ref l) H'
theorem scLawMakings : FnScope ["state", "model", "head", "cycle", "at", "turns", "gap", "days", "pieces", "day", "place", "cut", "found"] ["state", "model"] (defScope sLawMakings) := ⟨rfl, rfl, rfl, by decide +kernel, rfl, by decide +kernel, by decide +kernel⟩
set_option maxHeartbeats 8000000 in
theorem ok_makings {f C : Addr} {fd : FuncData} (F : Fun K "_law_makings" "_law_makings" sLawMakings f fd) (T : Nm mg) (T2 : Txd K mg C) (D_law_take : Df P w K mg base 2 "_law_take" ["state", "size"] [] spTake) (D_law_pattern : Df P w K mg base 6 "_law_pattern" ["model"] [] (spPat K C)) (D_of : Dcm P w K mg base 5 C "of" ["cls", "days"] (spOfB K C)) (D_every : Dcm P w K mg base 5 C "every" ["cls", "period", "first"] (spEvery K C)) (D_span : Dcm P w K mg base 5 C "span" ["cls", "low", "high"] (spSpanB K C))
    (D_or : Dow P w K mg base 5 C "__or__" ["self", "other"] (spBin K C fun a b => a || b)) (D_and : Dow P w K mg base 5 C "__and__" ["self", "other"] (spBin K C fun a b => a && b)) (D_sub : Dow P w K mg base 5 C "__sub__" ["self", "other"] (spBin K C fun a b => a && !b)) (D_invert : Dow P w K mg base 5 C "__invert__" ["self"] (spInvert K C))
    (D_shifted : Dm P w K mg base 5 C "shifted" ["self", "days"] (spShifted K C)) (D_each1 : DmD P w K mg base 5 C "each" ["self", "number", "first"] [.int 0] (spEach K C)) (D_each : Dm P w K mg base 5 C "each" ["self", "number", "first"] (spEach K C)) (D_following : Dm P w K mg base 5 C "following" ["self", "other"] (spFollow K C)) : FnOk P w K mg base CX0 7 f fd ["state", "model"] (spMakings K C) := by
  refine F.ok scLawMakings (fun vs H Q E h => ?_) (fun cdv A outer s H vs Q E hr h => ?_)
  · walk_at "len"
  · obtain ⟨p, a, b, n, t, h, c, hb, cb, rfl, St, hn, M, nt, nh, nc, l1, l2, k⟩ := h
    have nd := scLawMakings.nd
    have hu := hr.units
    have c1 : 0 < cb.length := List.length_pos_iff.mpr M.ne
    refine ⟨_, (pss_cons (ps_asg (pv 1) (pg_tup (by rfl) (pgs_cons (pg_name (i := 2) nd rfl (Or.inr rfl)) (pgs_cons (pg_name (i := 3) nd rfl (Or.inl rfl)) pgs_nil))))
      (pss_cons (ps_par3 (i := 4) (j := 5) (l := 6) (by rfl) nd rfl rfl rfl (by decide) (by decide) (by decide) rfl rfl rfl (pa_cons (pe_df D_law_take (hr.mono (by decide)) (pa_cons (pv 0) (pa_cons (pe_op op_add (pe_callB call_len_seq (by rfl) T.len (by decide +kernel) (pa_cons (pv 3) pa_nil)) pe_int) pa_nil))) (pa_cons (pe_op op_add pe_int (pe_df D_law_take (hr.mono (by decide)) (pa_cons (pv 0) (pa_cons pe_int pa_nil)))) (pa_cons (pe_df D_law_take (hr.mono (by decide)) (pa_cons (pv 0) (pa_cons pe_int pa_nil))) pa_nil))) (by rfl))
      (pss_cons (ps_set (i := 7) nd rfl (Or.inl rfl) (pe_df D_law_pattern (hr.mono (by decide)) (pa_cons (pv 1) pa_nil)))
      (pss_cons (ps_set (i := 8) nd rfl (Or.inl rfl) (pe_dcm D_of (hr.mono (by decide)) (pe_glob (v := .ref C) rfl T2.mgC rfl) (pa_cons (pe_lc (own := [("day", 9)]) (g := (gName 9)) rfl nd (pi_range1 (by rfl) T.range (pa_cons (pe_callB call_len_seq (by rfl) T.len (by decide +kernel) (pa_cons (pv 2) pa_nil)) pa_nil)) (blkOk_by (N := ["state", "model", "head", "cycle", "at", "turns", "gap", "days", "pieces", "day", "place", "cut", "found"]) (sc := defScope sLawMakings) (by decide +kernel)) (fun _ _ _ _ _ => pg_name (i := 9) nd rfl (Or.inl rfl)) (fun _ _ _ _ _ => (pts_one (pt_val (pe_ix (show IxR _ (rIxL K) from ix_list) (pv 2) (pv 9) (fun _ _ => rfl))))) (fun _ _ _ _ _ => (pv 9))) pa_nil)))
      (pss_cons (ps_for PassesOwn.never rfl (pi_range1 (by rfl) T.range (pa_cons (pe_callB call_len_seq (by rfl) T.len (by decide +kernel) (pa_cons (pv 3) pa_nil)) pa_nil)) (pg_name (i := 10) nd rfl (Or.inl rfl))
        (pss_one (ps_if (pt_val (pe_ix ix_list (pv 3) (pv 10) (fun _ _ => rfl)))
          (pss_one (ps_set (i := 8) nd rfl (Or.inl rfl) (pe_op (op_d D_or T2.sf (hr.mono (by decide))) (pv 8) (pe_dcm D_every (hr.mono (by decide)) (pe_glob (v := .ref C) rfl T2.mgC rfl) (pa_cons (pe_callB call_len_seq (by rfl) T.len (by decide +kernel) (pa_cons (pv 3) pa_nil)) (pa_cons (pe_op op_add (pe_callB call_len_seq (by rfl) T.len (by decide +kernel) (pa_cons (pv 2) pa_nil)) (pv 10)) pa_nil))))))
          pss_nil)))
      (pss_cons (ps_set (i := 11) nd rfl (Or.inl rfl) (pe_dcm D_span (hr.mono (by decide)) (pe_glob (v := .ref C) rfl T2.mgC rfl) (pa_cons pe_int (pa_cons (pv 6) pa_nil))))
      (pss_cons (ps_set (i := 12) nd rfl (Or.inl rfl) (pe_lst (pa_cons (pv 7) (pa_cons (pe_df D_law_pattern (hr.mono (by decide)) (pa_cons (pe_tup (pa_cons (pe_op op_cat (pv 2) (pe_slice sl_list (pv 3) po_none (po_some (pv 4)))) (pa_cons (pe_op op_rep (pe_op op_cat (pe_slice sl_list (pv 3) (po_some (pv 4)) po_none) (pe_slice sl_list (pv 3) po_none (po_some (pv 4)))) (pv 5)) pa_nil))) pa_nil)) (pa_cons (pv 8) (pa_cons (pe_un (un_d D_invert (hr.mono (by decide))) (pe_un (un_d D_invert (hr.mono (by decide))) (pv 7))) pa_nil))))))
      (pss_cons (ps_set (i := 12) nd rfl (Or.inl rfl) (pe_op op_cat (pv 12) (pe_lst (pa_cons (pe_dm D_shifted T2.cl (hr.mono (by decide)) (pe_dm D_shifted T2.cl (hr.mono (by decide)) (pv 7) (pa_cons (pv 6) pa_nil)) (pa_cons (pe_op op_sub pe_int (pv 6)) pa_nil)) (pa_cons (pe_op (op_d D_or T2.sf (hr.mono (by decide))) (pe_op (op_d D_and T2.sf (hr.mono (by decide))) (pv 7) (pv 11)) (pe_op (op_d D_sub T2.sf (hr.mono (by decide))) (pv 7) (pv 11))) (pa_cons (pe_dmD D_each1 T2.cl (hr.mono (by decide)) (pv 7) (pa_cons pe_int pa_nil)) (pa_cons (pe_dm D_following T2.cl (hr.mono (by decide)) (pv 7) (pa_cons (pv 7) pa_nil)) pa_nil)))))))
      (pss_one (ps_ret (pe_op op_cat (pv 12) (pe_lst (pa_cons (pe_op (op_d D_or T2.sf (hr.mono (by decide))) (pe_dmD D_each1 T2.cl (hr.mono (by decide)) (pv 7) (pa_cons pe_int pa_nil)) (pe_dm D_each T2.cl (hr.mono (by decide)) (pv 7) (pa_cons pe_int (pa_cons pe_int pa_nil)))) pa_nil))))))))))))), ?_⟩
    walk_at "rd"
    refine ⟨t, _, rfl, SqT.of M.tp, rfl, ?_⟩
    walk_at "rd"
    refine ⟨c, _, rfl, .inl (SqL.of M.cy), ?_⟩
    rw [List.length_map]
    walk_at "rd"
    refine ⟨p, a, b, n, (cb.length : Int) + 1, rfl, St, by omega, by omega, by omega, fun z1 H1 a1 b1 St1 B1 => ?_⟩
    walk_at "rd"
    refine ⟨p, a, b, _, 4, rfl, St1, by omega, by omega, by omega, fun z2 H2 a2 b2 St2 B2 => ?_⟩
    walk_at "rd"
    refine ⟨p, a, b, _, 40, rfl, St2, by omega, by omega, by omega, fun gap H3 a3 b3 St3 B3 => ?_⟩
    have B03 := (B1.trans B2).trans B3
    have M3 := M.but B03 nt nh nc
    walk_at "rd"
    refine ⟨_, _, _, rfl, ?_⟩
    walk_at "rd"
    refine ⟨t, h, c, hb, cb, rfl, M3, by omega, fun K1 x1 s q w1 X1n sx qx => ?_⟩
    have can := X1n.ds.can
    have neg := X1n.ds.neg
    have s0 := can.fr.s0
    have q0 := can.fr.p1
    have w01 := w1
    have X1 := X1n
    walk_at "rd"
    refine ⟨h, _, rfl, .inl (SqL.of (M3.same w01).hd), ?_⟩
    rw [List.length_map]
    walk_at "rd"
    refine ⟨by omega, by omega, fun D hD => ?_⟩
    refine lc_range (lo := 0) (n := hb.length) (fun i H' => Same K1 H' ∧ H' D = some (.lst ((els (patS hb cb) 0 (i : Int)).map V.int))) ⟨Same.new hD, by rw [upd_same, els_nil _ (by decide)]; rfl⟩ ?_ ?_
    · rintro i H' hi ⟨s1, hDl⟩
      have lz := els_length_le (patS hb cb) 0 (i : Int)
      have nx := els_nat_succ (patS hb cb) i
      rw [patS_head hb cb hi] at nx
      walk_at "rd"
      refine ⟨h, _, _, _, rfl, rfl, SqL.of ((M3.same w01).same s1).hd, atI_bool (by omega) (by omega), ?_⟩
      rw [Int.zero_add, Int.toNat_natCast]
      refine ⟨_, rfl, ?_⟩
      cases e : hb.getD i false with
      | true =>
        rw [e, if_pos rfl] at nx
        refine iteT ?_
        walk_at "rd"
        exact acc_step s1 hD hDl (by rw [List.length_map]; exact szl (by omega)) (by rw [nx, List.map_append]; rfl)
      | false =>
        rw [e, if_neg (by decide)] at nx
        refine iteF ?_
        exact ⟨s1, by rw [nx]; exact hDl⟩
    rintro K2 ⟨w2, hD2⟩
    have lz := els_length_le (patS hb cb) 0 (hb.length : Int)
    walk_at "rd"
    refine ⟨D, _, rfl, .inl hD2, fun y hy => by have := (mem_els.mp hy).1; omega, by omega, fun K3 y sy qy w3 Yn top py => ?_⟩
    have w03 := (w01.trans w2).trans w3
    have Y0 := Yn.old (w01.trans w2)
    rw [← pie_zero hb cb M.ne] at Y0
    have sy0 := top hb.length (fun y hy => (mem_els.mp hy).1.2) (by omega)
    walk_at "rd"
    refine ⟨c, _, rfl, .inl (SqL.of (M3.same w03).cy), ?_⟩
    rw [List.length_map]
    walk_at "rd"
    refine ⟨by omega, by omega, ?_⟩
    refine for_range (lo := 0) (n := cb.length) (fun i σ H' => Same H3 H' ∧ ∃ (y : Addr) (s1 q1 : Int) (v9 v10 : Option V), Dn K C H3 H' y (pieS hb cb i) s1 q1 ∧ s1 ≤ (hb.length : Int) + cb.length ∧ σ = [some (.ref p), some (.ref t), some (.ref h), some (.ref c), some (.int z1), some (.int (1 + z2)), some (.int gap), some (.ref x1), some (.ref y), v9, v10, none, none] ∧ Same K1 H')
      ⟨w03, y, sy, qy, none, none, Y0, by omega, rfl, w2.trans w3⟩ ?_ ?_
    · rintro i σ H4 hi ⟨w4, y, s1, q1, v9, v10, Y, sy1, rfl, w14⟩
      have M4 := M3.same w4
      walk_at "rd"
      refine ⟨c, _, _, _, rfl, rfl, SqL.of M4.cy, atI_bool (by omega) (by omega), ?_⟩
      rw [Int.zero_add, Int.toNat_natCast]
      refine ⟨_, rfl, ?_⟩
      have ps := pie_succ hb cb M.ne hi
      cases e : cb.getD i false with
      | true =>
        rw [e, if_pos rfl] at ps
        refine iteT ?_
        walk_at "rd"
        refine ⟨c, _, rfl, .inl (SqL.of M4.cy), ?_⟩
        rw [List.length_map]
        walk_at "rd"
        refine ⟨h, _, rfl, .inl (SqL.of M4.hd), ?_⟩
        rw [List.length_map]
        walk_at "rd"
        refine ⟨by omega, by omega, by omega, by omega, fun H5 ev s2 q2 w5 En sE qE => ?_⟩
        have Yd := Y.ds.same w5
        have Ed := En.ds
        have d1 := Yd.can.div (pie_fr hb cb M.ne i)
        have d2 := Ed.can.div (evS_fr (first := (hb.length : Int) + i) (step := cb.length) (by omega) (by omega))
        rw [Int.natAbs_natCast] at d1 d2
        have lc : lcmI q1 q2 ≤ ((12 : Nat) : Int) := lcmI_leN Yd.can.fr.p1 Ed.can.fr.p1 d1 d2 c1 c1 (by rw [Nat.lcm_self]; exact l2)
        have mI : maxI s1 s2 ≤ (hb.length : Int) + cb.length := by unfold maxI; split <;> omega
        obtain ⟨ka, fa, oa, na⟩ := Ds.no Yd "shifted"
        obtain ⟨kb, fb, ob, nb⟩ := Ds.no Ed "shifted"
        walk_at "rd"
        refine ⟨y, ev, ka, kb, _, _, rfl, rfl, oa, ob, y, ev, _, _, _, _, _, _, rfl, Yd, Ed, by omega, fun H6 z s3 q3 w6 Zn lz mz => ?_⟩
        walk_at "rd"
        refine ⟨(w4.trans w5).trans w6, z, s3, q3, _, _, ?_, by omega, rfl, (w14.trans w5).trans w6⟩
        rw [ps]
        exact Zn.old (w4.trans w5)
      | false =>
        rw [e, if_neg (by decide)] at ps
        refine iteF ⟨w4, y, s1, q1, _, _, by rw [ps]; exact Y, sy1, rfl, w14⟩
    rintro σ H4 ⟨w4, y, s1, q1, v9, v10, Yp, sy1, rfl, w14⟩
    rw [pie_all hb cb M.ne] at Yp
    have Y : Dn K C H3 H4 y (patS hb cb) s q := Yp.uni rfl can (Same.refl _)
    have X4 : Dn K C H3 H4 x1 (patS hb cb) s q := X1.same w14
    have M4 := M3.same w4
    have ql : q ≤ 12 := by omega
    have sl : s ≤ 24 := by omega
    walk_at "rd"
    refine .inr ⟨0, gap, rfl, by omega, by omega, by omega, fun H5 ct sc qc w5 CTn lct mct => ?_⟩
    have CT : Dn K C H3 H5 ct (inR 0 gap) sc qc := CTn.old w4
    have M5 := M4.same w5
    -- the truths, turned and repeated
    walk_at "rd"
    refine ⟨c, _, rfl, SqL.of M5.cy, fun u1 hu1 => ?_⟩
    rw [cutB_to a1]
    have n1 : h ≠ u1 := ne_of_none M5.hd hu1
    refine ⟨h, u1, _, _, rfl, rfl, by rw [upd_ne n1]; exact M5.hd, upd_same, by rw [List.length_map, List.length_map, List.length_take]; exact szle (by omega), fun u2 hu2 => ?_⟩
    rw [← List.map_append]
    have v1 := (Same.new (H := H5) (o := .lst ((cb.take z1.toNat).map V.bl)) hu1).step (o := .lst ((hb ++ cb.take z1.toNat).map V.bl)) hu2
    have e1 : (upd (upd H5 u1 (.lst ((cb.take z1.toNat).map V.bl))) u2 (.lst ((hb ++ cb.take z1.toNat).map V.bl))) u2 = some (.lst ((hb ++ cb.take z1.toNat).map V.bl)) := upd_same
    generalize upd (upd H5 u1 (.lst ((cb.take z1.toNat).map V.bl))) u2 (.lst ((hb ++ cb.take z1.toNat).map V.bl)) = H6 at v1 e1
    have M6 := M5.same v1
    walk_at "rd"
    refine ⟨c, _, rfl, SqL.of M6.cy, fun u3 hu3 => ?_⟩
    rw [cutB_from a1]
    have M7 := M6.same (Same.new (o := .lst ((cb.drop z1.toNat).map V.bl)) hu3)
    walk_at "rd"
    refine ⟨c, _, rfl, SqL.of M7.cy, fun u4 hu4 => ?_⟩
    rw [cutB_to a1]
    have n34 : u3 ≠ u4 := ne_of_none upd_same hu4
    refine ⟨u3, u4, _, _, rfl, rfl, by rw [upd_ne n34, upd_same], upd_same, by rw [List.length_map, List.length_map, List.length_take, List.length_drop]; exact szle (by omega), fun u5 hu5 => ?_⟩
    rw [← List.map_append]
    have v2 := ((Same.new (H := H6) (o := .lst ((cb.drop z1.toNat).map V.bl)) hu3).step (o := .lst ((cb.take z1.toNat).map V.bl)) hu4).step (o := .lst ((cb.drop z1.toNat ++ cb.take z1.toNat).map V.bl)) hu5
    have e5 : (upd (upd (upd H6 u3 (.lst ((cb.drop z1.toNat).map V.bl))) u4 (.lst ((cb.take z1.toNat).map V.bl))) u5 (.lst ((cb.drop z1.toNat ++ cb.take z1.toNat).map V.bl))) u5 = some (.lst ((cb.drop z1.toNat ++ cb.take z1.toNat).map V.bl)) := upd_same
    generalize upd (upd (upd H6 u3 (.lst ((cb.drop z1.toNat).map V.bl))) u4 (.lst ((cb.take z1.toNat).map V.bl))) u5 (.lst ((cb.drop z1.toNat ++ cb.take z1.toNat).map V.bl)) = H7 at v2 e5
    have ln5 : (cb.drop z1.toNat ++ cb.take z1.toNat).length = cb.length := by rw [List.length_append, List.length_drop, List.length_take]; omega
    have ne5 : cb.drop z1.toNat ++ cb.take z1.toNat ≠ [] := by
      intro z
      have := congrArg List.length z
      rw [ln5, List.length_nil] at this
      omega
    obtain ⟨m, em, m1, m2⟩ : ∃ m : Nat, (1 + z2).toNat = m ∧ 1 ≤ m ∧ m ≤ 4 := ⟨_, rfl, by omega, by omega⟩
    have sz : m * cb.length ≤ 4 * 12 := Nat.mul_le_mul m2 l2
    have sz0 : 0 < m * cb.length := Nat.mul_pos m1 c1
    walk_at "rd"
    refine ⟨u5, 1 + z2, _, rfl, rfl, e5, by omega, by omega, by rw [List.length_map, ln5, em, Nat.mul_comm]; exact szle (by omega), fun u6 hu6 => ?_⟩
    rw [flat_rep, em]
    walk_at "rd"
    refine ⟨by show 2 ≤ sizeLine; decide, fun u7 hu7 => ?_⟩
    have v3 := (Same.new (H := H7) (o := .lst (((List.replicate m (cb.drop z1.toNat ++ cb.take z1.toNat)).flatten).map V.bl)) hu6).step (o := .tup [.ref u2, .ref u6]) hu7
    have ln6 : ((List.replicate m (cb.drop z1.toNat ++ cb.take z1.toNat)).flatten).length = m * cb.length := by rw [flat_len, ln5]
    have Mu : Md (upd (upd H7 u6 (.lst (((List.replicate m (cb.drop z1.toNat ++ cb.take z1.toNat)).flatten).map V.bl))) u7 (.tup [.ref u2, .ref u6])) u7 u2 u6 (hb ++ cb.take z1.toNat) ((List.replicate m (cb.drop z1.toNat ++ cb.take z1.toNat)).flatten) := by
      refine ⟨upd_same, v3 _ _ (v2 _ _ e1), ?_, ?_⟩
      · rw [upd_ne (ne_of_none upd_same hu7), upd_same]
      · intro z
        have := congrArg List.length z
        rw [ln6, List.length_nil] at this
        omega
    generalize upd (upd H7 u6 (.lst (((List.replicate m (cb.drop z1.toNat ++ cb.take z1.toNat)).flatten).map V.bl))) u7 (.tup [.ref u2, .ref u6]) = H8 at v3 Mu ⊢
    have pat2 : patS (hb ++ cb.take z1.toNat) ((List.replicate m (cb.drop z1.toNat ++ cb.take z1.toNat)).flatten) = patS hb cb := by
      rw [patS_turns _ _ ne5 m1]
      exact patS_take' hb cb _ (by omega)
    have w38 : Same H3 H8 := (((w4.trans w5).trans v1).trans v2).trans v3
    have w58 : Same H5 H8 := (v1.trans v2).trans v3
    walk_at "rd"
    refine ⟨u7, u2, u6, _, _, rfl, Mu, by rw [List.length_append, List.length_take, ln6]; omega, fun H9 x2 s2 q2 w9 X2n _ _ => ?_⟩
    have X2 : Dn K C H3 H9 x2 (patS hb cb) s q := X2n.uni pat2 can w38
    have w39 := w38.trans w9
    have X9 := ((X4.same w5).same w58).same w9
    walk_at "rd"
    obtain ⟨i1, j1, o1, no1⟩ := Ds.no X9.ds "shifted"
    refine ⟨x1, i1, j1, rfl, o1, x1, _, s, q, rfl, X9.ds, by omega, fun H10 iv si qi w10 IVn li mi => ?_⟩
    walk_at "rd"
    obtain ⟨i2, j2, o2, no2⟩ := Ds.no IVn.ds "shifted"
    refine ⟨iv, i2, j2, rfl, o2, iv, _, si, qi, rfl, IVn.ds, by omega, fun H11 iw sw qw w11 IWn lw mw => ?_⟩
    have X3 : Dn K C H3 H11 iw (patS hb cb) s q := IWn.uni (not_not' neg) can (w39.trans w10)
    have w311 := (w39.trans w10).trans w11
    walk_at "rd"
    refine ⟨by show 4 ≤ sizeLine; decide, fun L1 hL1 => ?_⟩
    have v4 := Same.new (o := .lst [.ref x1, .ref x2, .ref y, .ref iw]) hL1
    have yL1 : upd H11 L1 (.lst [.ref x1, .ref x2, .ref y, .ref iw]) L1 = some (.lst [.ref x1, .ref x2, .ref y, .ref iw]) := upd_same
    have X10 := ((X9.same w10).same w11).same v4
    have CT10 := (((CT.same w58).same w9).same w10).same w11
    generalize upd H11 L1 (.lst [.ref x1, .ref x2, .ref y, .ref iw]) = G0 at v4 yL1 X10 ⊢
    have wG0 := w311.trans v4
    have CTg := CT10.same v4
    walk_at "rd"
    -- there and back
    obtain ⟨i3, j3, o3, no3⟩ := Ds.no X10.ds "shifted"
    refine ⟨x1, i3, j3, rfl, o3, no3, ?_⟩
    walk_at "rd"
    refine ⟨x1, _, s, q, gap, rfl, X10.ds, by omega, by omega, fun G1 sa ss1 sq1 g1 SAn ls1 lq1 => ?_⟩
    have bs1 : (if s + gap > 0 then s + gap else 0) ≤ 100 := by split <;> omega
    obtain ⟨i4, j4, o4, no4⟩ := Ds.no SAn.ds "shifted"
    walk_at "rd"
    refine ⟨sa, i4, j4, rfl, o4, no4, ?_⟩
    walk_at "rd"
    refine ⟨sa, _, ss1, sq1, 0 - gap, rfl, SAn.ds, by omega, by omega, fun G2 sb ss2 sq2 g2 SBn ls2 lq2 => ?_⟩
    have X5 : Dn K C H3 G2 sb (patS hb cb) s q := SBn.uni (shift_back a3 neg) can (wG0.trans g1)
    have wG2 := (wG0.trans g1).trans g2
    -- in two parts
    have X12 := (X10.same g1).same g2
    have CT12 := (CTg.same g1).same g2
    have pc := CT12.ds.can.fr.p1
    have sc0 := CT12.ds.can.fr.s0
    have lcI : lcmI q qc ≤ 12 := by have := lcmI_le q0 pc; have e : qc = 1 := (by omega); rw [e] at this ⊢; omega
    have mI : maxI s sc ≤ 40 := by unfold maxI; split <;> omega
    walk_at "rd"
    obtain ⟨i5, j5, o5, no5⟩ := Ds.no X12.ds "shifted"
    obtain ⟨i6, j6, o6, no6⟩ := Ds.no CT12.ds "shifted"
    refine ⟨x1, ct, i5, i6, _, _, rfl, rfl, o5, o6, x1, ct, _, _, _, _, _, _, rfl, X12.ds, CT12.ds, by omega, fun G3 an sn qn g3 ANn ln3 lm3 => ?_⟩
    walk_at "rd"
    obtain ⟨i7, j7, o7, no7⟩ := Ds.no (X12.ds.same g3) "shifted"
    obtain ⟨i8, j8, o8, no8⟩ := Ds.no (CT12.ds.same g3) "shifted"
    refine ⟨x1, ct, i7, i8, _, _, rfl, rfl, o7, o8, x1, ct, _, _, _, _, _, _, rfl, X12.ds.same g3, CT12.ds.same g3, by omega, fun G4 su st2 qt g4 SUn ln4 lm4 => ?_⟩
    walk_at "rd"
    have pn := ANn.ds.can.fr.p1
    have pt := SUn.ds.can.fr.p1
    have lcJ : lcmI qn qt ≤ 144 := by have h1 := lcmI_le pn pt; have h2 : qn * qt ≤ 12 * 12 := Int.mul_le_mul (by omega) (by omega) (by omega) (by omega); omega
    have mJ : maxI sn st2 ≤ 40 := by unfold maxI; split <;> omega
    obtain ⟨i9, j9, o9, no9⟩ := Ds.no (ANn.ds.same g4) "shifted"
    obtain ⟨i10, j10, o10, no10⟩ := Ds.no SUn.ds "shifted"
    refine ⟨an, su, i9, i10, _, _, rfl, rfl, o9, o10, an, su, _, _, _, _, _, _, rfl, ANn.ds.same g4, SUn.ds, by omega, fun G5 oo so qo g5 OOn ln5' lm5 => ?_⟩
    have X6 : Dn K C H3 G5 oo (patS hb cb) s q := OOn.uni (cut_join _ _) can ((wG2.trans g3).trans g4)
    have wG5 := ((wG2.trans g3).trans g4).trans g5
    have X15 := (((X12.same g3).same g4).same g5)
    -- each one
    walk_at "rd"
    obtain ⟨i11, j11, o11, no11⟩ := Ds.no X15.ds "each"
    refine ⟨x1, i11, j11, rfl, o11, no11, ?_⟩
    walk_at "rd"
    refine ⟨x1, patS hb cb, s, q, 1, 0, rfl, X15.ds, by omega, by omega, by omega, by omega, by omega, fun G6 ea se qe g6 EAn _ _ => ?_⟩
    have X7 : Dn K C H3 G6 ea (patS hb cb) s q := EAn.uni (funext fun d => each_one _ d) can wG5
    have wG6 := wG5.trans g6
    have X16 := X15.same g6
    -- what follows itself
    walk_at "rd"
    obtain ⟨i12, j12, o12, no12⟩ := Ds.no X16.ds "following"
    refine ⟨x1, i12, j12, rfl, o12, no12, ?_⟩
    walk_at "rd"
    have lcQ : lcmI q q ≤ 144 := by have h1 := lcmI_le q0 q0; have h2 : q * q ≤ 12 * 12 := Int.mul_le_mul (by omega) (by omega) (by omega) (by omega); omega
    have mQ : maxI s s ≤ 24 := by unfold maxI; split <;> omega
    refine ⟨x1, x1, _, _, s, q, s, q, rfl, X16.ds, X16.ds, by omega, fun G7 fo sf qf g7 FOn _ _ => ?_⟩
    have X8 : Dn K C H3 G7 fo (patS hb cb) s q := FOn.uni (fol_self neg) can wG6
    have wG7 := wG6.trans g7
    walk_at "rd"
    refine ⟨by show 4 ≤ sizeLine; decide, fun L2 hL2 => ?_⟩
    have v5 := Same.new (o := .lst [.ref sb, .ref oo, .ref ea, .ref fo]) hL2
    have yL2 : upd G7 L2 (.lst [.ref sb, .ref oo, .ref ea, .ref fo]) L2 = some (.lst [.ref sb, .ref oo, .ref ea, .ref fo]) := upd_same
    generalize upd G7 L2 (.lst [.ref sb, .ref oo, .ref ea, .ref fo]) = G8 at v5 yL2 ⊢
    have w08 : Same G0 G8 := (((((((g1.trans g2).trans g3).trans g4).trans g5).trans g6).trans g7).trans v5)
    refine ⟨L1, L2, _, _, rfl, rfl, w08 _ _ yL1, yL2, by show 8 ≤ sizeLine; decide, fun L3 hL3 => ?_⟩
    simp only [List.cons_append, List.nil_append]
    have v6 := Same.new (o := .lst [.ref x1, .ref x2, .ref y, .ref iw, .ref sb, .ref oo, .ref ea, .ref fo]) hL3
    have yL3 : upd G8 L3 (.lst [.ref x1, .ref x2, .ref y, .ref iw, .ref sb, .ref oo, .ref ea, .ref fo]) L3 = some (.lst [.ref x1, .ref x2, .ref y, .ref iw, .ref sb, .ref oo, .ref ea, .ref fo]) := upd_same
    generalize upd G8 L3 (.lst [.ref x1, .ref x2, .ref y, .ref iw, .ref sb, .ref oo, .ref ea, .ref fo]) = G9 at v6 yL3 ⊢
    have v56 := v5.trans v6
    have X17 := (X16.same g7).same v56
    have wG9 := wG7.trans v56
    -- every second one, from both on
    walk_at "rd"
    obtain ⟨i13, j13, o13, no13⟩ := Ds.no X17.ds "each"
    refine ⟨x1, i13, j13, rfl, o13, no13, ?_⟩
    walk_at "rd"
    refine ⟨x1, patS hb cb, s, q, 2, 0, rfl, X17.ds, by omega, by omega, by omega, by omega, by omega, fun G10 e2a s2a q2a g10 E2n ⟨r2, r2a, r2b, r2c⟩ r2d => ?_⟩
    walk_at "rd"
    obtain ⟨i14, j14, o14, no14⟩ := Ds.no (X17.ds.same g10) "each"
    refine ⟨x1, i14, j14, rfl, o14, no14, ?_⟩
    walk_at "rd"
    refine ⟨x1, patS hb cb, s, q, 2, 1, rfl, X17.ds.same g10, by omega, by omega, by omega, by omega, by omega, fun G11 e3a s3a q3a g11 E3n ⟨r3, r3a, r3b, r3c⟩ r3d => ?_⟩
    have bnd2 : maxI s2a s3a + lcmI q2a q3a < 1980 := by
      have p2 := E2n.ds.can.fr.p1
      have p3 := E3n.ds.can.fr.p1
      have k2 := Nat.le_of_dvd (Nat.mul_pos (by omega) (by omega)) r2c
      have k3 := Nat.le_of_dvd (Nat.mul_pos (by omega) (by omega)) r3c
      have m2' : r2 * q.natAbs ≤ 2 * 12 := Nat.mul_le_mul (by omega) (by omega)
      have m3' : r3 * q.natAbs ≤ 2 * 12 := Nat.mul_le_mul (by omega) (by omega)
      have h1 := lcmI_le p2 p3
      have h2 : q2a * q3a ≤ 24 * 24 := Int.mul_le_mul (by omega) (by omega) (by omega) (by omega)
      have h3 : q * ((0 : Nat) + (2 : Nat) + 1 : Int) ≤ 12 * 4 := Int.mul_le_mul (by omega) (by omega) (by omega) (by omega)
      have h4 : q * ((1 : Nat) + (2 : Nat) + 1 : Int) ≤ 12 * 4 := Int.mul_le_mul (by omega) (by omega) (by omega) (by omega)
      have h5 : maxI s2a s3a ≤ 80 := by unfold maxI; split <;> omega
      omega
    obtain ⟨i15, j15, o15, no15⟩ := Ds.no (E2n.ds.same g11) "shifted"
    obtain ⟨i16, j16, o16, no16⟩ := Ds.no E3n.ds "shifted"
    walk_at "rd"
    refine ⟨e2a, e3a, i15, i16, _, _, rfl, rfl, o15, o16, e2a, e3a, _, _, _, _, _, _, rfl, E2n.ds.same g11, E3n.ds, bnd2, fun G12 ft sft qft g12 FTn _ _ => ?_⟩
    have X18 : Dn K C H3 G12 ft (patS hb cb) s q := FTn.uni (each_two _) can ((wG9.trans g10).trans g11)
    have wG12 := ((wG9.trans g10).trans g11).trans g12
    walk_at "rd"
    refine ⟨by show 1 ≤ sizeLine; decide, fun L4 hL4 => ?_⟩
    have v7 := Same.new (o := .lst [.ref ft]) hL4
    have yL4 : upd G12 L4 (.lst [.ref ft]) L4 = some (.lst [.ref ft]) := upd_same
    generalize upd G12 L4 (.lst [.ref ft]) = G13 at v7 yL4 ⊢
    refine ⟨L3, L4, _, _, rfl, rfl, ((g10.trans g11).trans (g12.trans v7)) _ _ yL3, yL4, by show 9 ≤ sizeLine; decide, fun L5 hL5 => ?_⟩
    simp only [List.cons_append, List.nil_append]
    have v8 := Same.new (o := .lst [.ref x1, .ref x2, .ref y, .ref iw, .ref sb, .ref oo, .ref ea, .ref fo, .ref ft]) hL5
    have yL5 : upd G13 L5 (.lst [.ref x1, .ref x2, .ref y, .ref iw, .ref sb, .ref oo, .ref ea, .ref fo, .ref ft]) L5 = some (.lst [.ref x1, .ref x2, .ref y, .ref iw, .ref sb, .ref oo, .ref ea, .ref fo, .ref ft]) := upd_same
    generalize upd G13 L5 (.lst [.ref x1, .ref x2, .ref y, .ref iw, .ref sb, .ref oo, .ref ea, .ref fo, .ref ft]) = G14 at v8 yL5 ⊢
    have t12 : Same G12 G14 := v7.trans v8
    have t9 : Same G9 G14 := ((g10.trans g11).trans g12).trans t12
    have t7 : Same G7 G14 := v56.trans t9
    have t5 : Same G5 G14 := (g6.trans g7).trans t7
    have t2 : Same G2 G14 := ((g3.trans g4).trans g5).trans t5
    have tG0 : Same G0 G14 := (g1.trans g2).trans t2
    have t11 : Same H11 G14 := v4.trans tG0
    have tH9 : Same H9 G14 := (w10.trans w11).trans t11
    have tH4 : Same H4 G14 := (w5.trans w58).trans (w9.trans tH9)
    have nL5 : H3 L5 = none := (wG12.trans v7).free hL5
    refine k H3 G14 L5 [x1, x2, y, iw, sb, oo, ea, fo, ft] s q St3 B03 (wG12.trans t12) nL5 yL5 rfl ?_ can sl ql
    intro x hx
    simp only [List.mem_cons, List.not_mem_nil, or_false] at hx
    rcases hx with rfl | rfl | rfl | rfl | rfl | rfl | rfl | rfl | rfl
    · exact X4.same tH4
    · exact X2.same tH9
    · exact Y.same tH4
    · exact X3.same t11
    · exact X5.same t2
    · exact X6.same t5
    · exact X7.same (g7.trans t7)
    · exact X8.same t7
    · exact X18.same t12
end
end Cf
namespace Cf
open PySem L2
set_option hygiene false
local macro_rules | `(tactic| walk_at "len") => `(tactic| repeat (first | (obtain ⟨e, _⟩ := h; subst e; rfl; done) | (obtain ⟨_, h⟩ := h)))
local macro_rules | `(tactic| walk_at "rd") => `(tactic| repeat (first | refine ⟨_, rfl, ?_⟩ | refine ⟨_, _, rfl, rfl, ?_⟩ | refine ⟨rfl, ?_⟩ | refine ⟨_, _, rfl, ?_⟩))
local macro_rules | `(tactic| walk_at "yes") => `(tactic| (dsimp only [tYes]; rw [if_pos rfl]))
set_option hygiene true
section
variable {P : Program} {w : World} {K : PySem.W.Frag} {mg : Str → Option Value} {base : Heap}
/-! ### first_unlike -/
theorem scDsFirstUnlike : FnScope ["self", "other", "one", "two"] ["self", "other"] (defScope sDsFirstUnlike) := ⟨rfl, rfl, rfl, by decide +kernel, rfl, by decide +kernel, by decide +kernel⟩
theorem lcmI_comm (a b : Int) : lcmI a b = lcmI b a := by unfold lcmI; rw [Nat.lcm_comm]
theorem maxI_comm (a b : Int) : maxI a b = maxI b a := by unfold maxI; split <;> split <;> omega
theorem ok_first_unlike {f C : Addr} {fd : FuncData} (F : Fun K "first_unlike" "DaySet.first_unlike" sDsFirstUnlike f fd) (T2 : Txd K mg C) (D_first_beyond : Dm P w K mg base 6 C "first_beyond" ["self", "other"] (spFirst K C fun a b => a && !b)) : FnOk P w K mg base CX0 7 f fd ["self", "other"] (spFirst K C fun a b => a != b) := by
  refine F.ok scDsFirstUnlike (fun vs H Q E h => ?_) (fun cdv A outer s H vs Q E hr h => ?_)
  · walk_at "len"
  · obtain ⟨x, y, S, U, st, p, st', p', rfl, Dx, Dy, bd, kn, ks⟩ := h
    have nd := scDsFirstUnlike.nd
    obtain ⟨dx, hx, cx, X1⟩ := id Dx
    obtain ⟨dy, hy, cy, Y1⟩ := id Dy
    refine ⟨_, (pss_cons (ps_set (i := 2) nd rfl (Or.inl rfl) (pe_dm D_first_beyond T2.cl (hr.mono (by decide)) (pv 0) (pa_cons (pv 1) pa_nil)))
      (pss_cons (ps_set (i := 3) nd rfl (Or.inl rfl) (pe_dm D_first_beyond T2.cl (hr.mono (by decide)) (pv 1) (pa_cons (pv 0) pa_nil)))
      (pss_cons (ps_if (PW.pt (pw_or (pt_cmpR op_isN (pv 2) pe_non (nomark _)) (pw_or1 (pt_cmpR op_isN (pv 3) pe_non (nomark _)))))
        (pss_one (ps_ret (pe_ifExp (pt_cmpR op_isN (pv 2) pe_non (nomark _)) (pv 3) (pv 2))))
        pss_nil)
      (pss_one (ps_ret (pe_ifExp (pt_cmpR op_lt (pv 2) (pv 3) (nomark _)) (pv 2) (pv 3))))))), ?_⟩
    walk_at "rd"
    refine ⟨x, dx, _, rfl, X1.ob, dsF_no (by decide +kernel) (by decide +kernel) (by decide +kernel) (by decide +kernel), ?_⟩
    have less : ∀ {a b : Bool}, (a && !b) = false → (b && !a) = false → (a != b) = false := fun {a b} => by cases a <;> cases b <;> simp
    have more : ∀ {a b : Bool}, (a && !b) = true → (a != b) = true := fun {a b} => by cases a <;> cases b <;> simp
    have more' : ∀ {a b : Bool}, (b && !a) = true → (a != b) = true := fun {a b} => by cases a <;> cases b <;> simp
    walk_at "rd"
    refine ⟨x, y, S, U, st, p, st', p', rfl, Dx, Dy, bd, fun H1 S1 no => ?_, fun H1 d S1 d0 yes least => ?_⟩
    · walk_at "rd"
      refine ⟨y, dy, _, rfl, S1 _ _ Y1.ob, dsF_no (by decide +kernel) (by decide +kernel) (by decide +kernel) (by decide +kernel), ?_⟩
      walk_at "rd"
      refine ⟨y, x, U, S, st', p', st, p, rfl, Dy.same S1, Dx.same S1, by rw [maxI_comm, lcmI_comm]; exact bd, fun H2 S2 no2 => ?_, fun H2 d2 S2 e0 yes2 least2 => ?_⟩
      · walk_at "rd"
        exact kn H2 (S1.trans S2) fun e e0 => less (no e e0) (no2 e e0)
      · walk_at "rd"
        exact ks H2 d2 (S1.trans S2) e0 (more' yes2) fun e h0 hl => less (no e h0) (least2 e h0 hl)
    · walk_at "rd"
      refine ⟨y, dy, _, rfl, S1 _ _ Y1.ob, dsF_no (by decide +kernel) (by decide +kernel) (by decide +kernel) (by decide +kernel), ?_⟩
      walk_at "rd"
      refine ⟨y, x, U, S, st', p', st, p, rfl, Dy.same S1, Dx.same S1, by rw [maxI_comm, lcmI_comm]; exact bd, fun H2 S2 no2 => ?_, fun H2 d2 S2 e0 yes2 least2 => ?_⟩
      · walk_at "rd"
        exact ks H2 d (S1.trans S2) d0 (more yes) fun e h0 hl => less (least e h0 hl) (no2 e h0)
      · walk_at "rd"
        refine ite2 (fun c => ?_) (fun c => ?_)
        · have lt : d < d2 := of_decide_eq_true c
          walk_at "rd"
          exact ks H2 d (S1.trans S2) d0 (more yes) fun e h0 hl => less (least e h0 hl) (least2 e h0 (by omega))
        · have ge : ¬ d < d2 := fun z => c (decide_eq_true z)
          walk_at "rd"
          exact ks H2 d2 (S1.trans S2) e0 (more' yes2) fun e h0 hl => less (least e h0 (by omega)) (least2 e h0 hl)
section
variable {P : Program} {w : World} {K : PySem.W.Frag} {mg : Str → Option Value} {base : Heap}
/-! ### two day sets of one set -/
def spAlike (K : PySem.W.Frag) (C : Addr) : Sp := fun vs H Q _ => ∃ (x y : Addr) (S : Int → Bool) (s q far : Int), vs = [.ref x, .ref y, .int far] ∧ Ds K C H x S s q ∧ Ds K C H y S s q ∧ s ≤ 100 ∧ q ≤ 30 ∧ ∀ H', Same H H' → Q (.bl true) H'
theorem shN : SeqAt.shaped .none = true := by
  unfold SeqAt.shaped
  rw [Bool.and_eq_true]
  exact ⟨rfl, decide_eq_true (by simp [PyData.depth])⟩
theorem shI (i : Int) : SeqAt.shaped (.int i) = true := by
  unfold SeqAt.shaped
  rw [Bool.and_eq_true]
  exact ⟨rfl, decide_eq_true (by simp [PyData.depth])⟩
theorem scLawAlike : FnScope ["one", "other", "far"] ["one", "other", "far"] (defScope sLawAlike) := ⟨rfl, rfl, rfl, by decide +kernel, rfl, by decide +kernel, by decide +kernel⟩
set_option maxHeartbeats 4000000 in
theorem ok_alike {f C : Addr} {fd : FuncData} (F : Fun K "_law_alike" "_law_alike" sLawAlike f fd) (T2 : Txd K mg C) (NE : HasNe K C) (D_eq : Dow P w K mg base 1 C "__eq__" ["self", "other"] (spEq K C)) (D_law_told : Df P w K mg base 3 "_law_told" ["days"] [] (spTold K C)) (D_first_unlike : Dm P w K mg base 7 C "first_unlike" ["self", "other"] (spFirst K C fun a b => a != b)) (D_within : Dm P w K mg base 7 C "within" ["self", "other"] (spWithin K C))
    (D_xor : Dow P w K mg base 5 C "__xor__" ["self", "other"] (spBin K C fun a b => a != b)) (D_bool : Dow P w K mg base 1 C "__bool__" ["self"] (spBool K C)) (D_how_many : Dm P w K mg base 3 C "how_many" ["self", "low", "high"] (spHow K C)) (D_next_from : Dm P w K mg base 3 C "next_from" ["self", "day"] (spNext K C)) : FnOk P w K mg base CX0 8 f fd ["one", "other", "far"] (spAlike K C) := by
  refine F.ok scLawAlike (fun vs H Q E h => ?_) (fun cdv A outer s H vs Q E hr h => ?_)
  · walk_at "len"
  · obtain ⟨x, y, S, st, q, far, rfl, X, Y, s1, q1, k⟩ := h
    have nd := scLawAlike.nd
    have hu := hr.units
    have px := X.can.fr.p1
    have sx := X.can.fr.s0
    have lc : lcmI q q ≤ 900 := by have h1 := lcmI_le px px; have h2 : q * q ≤ 30 * 30 := Int.mul_le_mul (by omega) (by omega) (by omega) (by omega); omega
    have mI : maxI st st ≤ 100 := by unfold maxI; split <;> omega
    have bd : maxI st st + lcmI q q < 1980 := by omega
    obtain ⟨kx, fx, ox, nx⟩ := Ds.no X "first_unlike"
    obtain ⟨ky, fy, oy, ny⟩ := Ds.no Y "first_unlike"
    refine ⟨_, (pss_cons (ps_if (PW.pt (pw_or (pt_not (pt_cmpR (op_dEq D_eq T2.nf (hr.mono (by decide))) (pv 0) (pv 1) (nomark _))) (pw_or (pt_cmpR (op_dNe D_eq NE T2.nf (hr.mono (by decide))) (pv 0) (pv 1) (nomark _)) (pw_or (pt_not (pt_cmpR (op_dEq D_eq T2.nf (hr.mono (by decide))) (pv 1) (pv 0) (nomark _))) (pw_or1 (pt_cmpR (op_neD hu) (pe_df D_law_told (hr.mono (by decide)) (pa_cons (pv 0) pa_nil)) (pe_df D_law_told (hr.mono (by decide)) (pa_cons (pv 1) pa_nil)) (nomark _)))))))
        (pss_one (ps_ret pe_bl))
        pss_nil)
      (pss_cons (ps_if (PW.pt (pw_or (pt_cmpR op_notN (pe_dm D_first_unlike T2.cl (hr.mono (by decide)) (pv 0) (pa_cons (pv 1) pa_nil)) pe_non (nomark _)) (pw_or (pt_not (pt_val (pe_dm D_within T2.cl (hr.mono (by decide)) (pv 0) (pa_cons (pv 1) pa_nil)))) (pw_or1 (pt_own (tru_d D_bool (hr.mono (by decide))) (pe_op (op_d D_xor T2.sf (hr.mono (by decide))) (pv 0) (pv 1)))))))
        (pss_one (ps_ret pe_bl))
        pss_nil)
      (pss_one (ps_ret (pe_and (pe_cmpR op_eq (pe_dm D_how_many T2.cl (hr.mono (by decide)) (pv 0) (pa_cons pe_int (pa_cons (pv 2) pa_nil))) (pe_dm D_how_many T2.cl (hr.mono (by decide)) (pv 1) (pa_cons pe_int (pa_cons (pv 2) pa_nil))) (nomark _)) (pe_one (pe_cmpR (op_eqD hu) (pe_dm D_next_from T2.cl (hr.mono (by decide)) (pv 0) (pa_cons (pv 2) pa_nil)) (pe_dm D_next_from T2.cl (hr.mono (by decide)) (pv 1) (pa_cons (pv 2) pa_nil)) (nomark _)))))))), ?_⟩
    walk_at "rd"
    refine ⟨x, y, kx, ky, _, _, rfl, rfl, ox, oy, x, y, _, _, _, _, _, _, rfl, X, Y, fun b1 hb1 => ?_⟩
    obtain rfl : b1 = true := hb1.mpr fun d => rfl
    walk_at "rd"
    refine ⟨x, y, kx, ky, _, _, rfl, rfl, ox, oy, x, y, _, _, _, _, _, _, rfl, X, Y, fun b2 hb2 => ?_⟩
    obtain rfl : b2 = true := hb2.mpr fun d => rfl
    refine ⟨true, rfl, ?_⟩
    walk_at "rd"
    refine ⟨y, x, ky, kx, _, _, rfl, rfl, oy, ox, y, x, _, _, _, _, _, _, rfl, Y, X, fun b3 hb3 => ?_⟩
    obtain rfl : b3 = true := hb3.mpr fun d => rfl
    walk_at "rd"
    refine ⟨x, S, st, q, rfl, X, fun H1 t1 h1 c1 S1 M1 => ?_⟩
    walk_at "rd"
    refine ⟨y, S, st, q, rfl, Y.same S1, fun H2 t2 h2 c2 S2 M2 => ?_⟩
    walk_at "rd"
    refine ⟨pdTold S st q, pdTold S st q, dpTold (M1.same S2), dpTold M2, shTold _ _ _, shTold _ _ _, ?_⟩
    rw [eqvTold]
    have S12 := S1.trans S2
    walk_at "rd"
    refine ⟨x, kx, fx, rfl, S12 _ _ ox, nx, ?_⟩
    walk_at "rd"
    have un : ∀ d, (fun a b : Bool => a != b) (S d) (S d) = false := fun d => by cases S d <;> rfl
    refine ⟨x, y, S, S, st, q, st, q, rfl, X.same S12, Y.same S12, bd, fun H3 S3 _ => ?_, fun H3 d S3 _ hd _ => by rw [un d] at hd; cases hd⟩
    have S13 := S12.trans S3
    walk_at "rd"
    obtain ⟨kx2, fx2, ox2, nx2⟩ := Ds.no (X.same S13) "within"
    refine ⟨x, kx2, fx2, rfl, ox2, nx2, ?_⟩
    walk_at "rd"
    refine ⟨x, y, S, S, st, q, st, q, rfl, X.same S13, Y.same S13, bd, fun b4 H4 S4 hb4 => ?_⟩
    obtain rfl : b4 = true := hb4.mpr fun d h => h
    have S14 := S13.trans S4
    walk_at "rd"
    refine ⟨x, y, kx, ky, _, _, rfl, rfl, S14 _ _ ox, S14 _ _ oy, x, y, _, _, _, _, _, _, rfl, X.same S14, Y.same S14, bd, fun H5 z sz qz S5 Zn _ _ => ?_⟩
    obtain ⟨kz, fz, oz, nz⟩ := Ds.no Zn.ds "within"
    have S15 := S14.trans S5
    refine ⟨z, kz, fz, rfl, oz, z, _, sz, qz, rfl, Zn.ds, fun b5 hb5 => ⟨b5, rfl, ?_⟩⟩
    obtain rfl : b5 = false := by
      cases b5 with
      | false => rfl
      | true =>
        obtain ⟨d, hd⟩ := hb5.mp rfl
        rw [un d] at hd; cases hd
    walk_at "rd"
    obtain ⟨kx1, fx1, ox1, nx1⟩ := Ds.no (X.same S15) "how_many"
    obtain ⟨ky1, fy1, oy1, ny1⟩ := Ds.no (Y.same S15) "how_many"
    refine ⟨x, kx1, fx1, rfl, ox1, nx1, ?_⟩
    walk_at "rd"
    refine ⟨x, S, st, q, 0, far, rfl, X.same S15, by omega, by omega, fun H6 S6 => ?_⟩
    walk_at "rd"
    refine ⟨y, ky1, fy1, rfl, S6 _ _ oy1, ny1, ?_⟩
    walk_at "rd"
    refine ⟨y, S, st, q, 0, far, rfl, (Y.same S15).same S6, by omega, by omega, fun H7 S7 => ?_⟩
    have S17 := (S15.trans S6).trans S7
    walk_at "rd"
    rw [dec_int, beq_self_eq_true]
    refine iteT ?_
    obtain ⟨kx3, fx3, ox3, nx3⟩ := Ds.no (X.same S17) "next_from"
    walk_at "rd"
    refine ⟨x, kx3, fx3, rfl, ox3, nx3, ?_⟩
    walk_at "rd"
    refine ⟨x, S, st, q, far, rfl, X.same S17, by omega, by omega, fun H8 S8 off => ?_, fun H8 d S8 g1 g2 g3 => ?_⟩
    · obtain ⟨ky3, fy3, oy3, ny3⟩ := Ds.no ((Y.same S17).same S8) "next_from"
      walk_at "rd"
      refine ⟨y, ky3, fy3, rfl, oy3, ny3, ?_⟩
      walk_at "rd"
      refine ⟨y, S, st, q, far, rfl, (Y.same S17).same S8, by omega, by omega, fun H9 S9 _ => ?_, fun H9 d S9 g1 g2 g3 => by rw [off d g1] at g2; cases g2⟩
      refine ⟨.none, .none, .non, .non, shN, shN, ?_⟩
      rw [show PyData.eqv .none .none = true by simp [PyData.eqv]]
      exact k _ ((S17.trans S8).trans S9)
    · obtain ⟨ky3, fy3, oy3, ny3⟩ := Ds.no ((Y.same S17).same S8) "next_from"
      walk_at "rd"
      refine ⟨y, ky3, fy3, rfl, oy3, ny3, ?_⟩
      walk_at "rd"
      refine ⟨y, S, st, q, far, rfl, (Y.same S17).same S8, by omega, by omega, fun H9 S9 off => ?_, fun H9 e S9 e1 e2 e3 => ?_⟩
      · rw [off d g1] at g2; cases g2
      have de : d = e := by
        rcases Int.lt_trichotomy d e with z | z | z
        · rw [e3 d g1 z] at g2; cases g2
        · exact z
        · rw [g3 e e1 z] at e2; cases e2
      subst de
      refine ⟨.int d, .int d, .int _, .int _, shI _, shI _, ?_⟩
      rw [show PyData.eqv (.int d) (.int d) = true by simp [PyData.eqv]]
      exact k _ ((S17.trans S8).trans S9)
/-! ### the law -/
def spLaw (K : PySem.W.Frag) : Sp := fun vs H Q _ => ∃ (l : Addr) (ns : List Int), vs = [.ref l] ∧ SqL K H l (ns.map V.int) ∧ ns.length ≤ 63 ∧ ∀ H', Q (.bl true) H'
theorem scLaw : FnScope ["script", "state", "turn", "model", "far", "some", "one", "day", "other"] ["script"] (defScope sLaw) := ⟨rfl, rfl, rfl, by decide +kernel, rfl, by decide +kernel, by decide +kernel⟩
theorem ref_get {xs : List Addr} {i : Nat} {v : V} (h : (xs.map V.ref)[i]? = some v) : ∃ x ∈ xs, v = .ref x := by
  rw [List.getElem?_map] at h
  cases e : xs[i]? with
  | none => rw [e] at h; cases h
  | some x => rw [e] at h; exact ⟨x, List.mem_of_getElem? e, (Option.some.inj h).symm⟩
set_option maxHeartbeats 4000000 in
theorem ok_law {f C : Addr} {fd : FuncData} (F : Fun K "law" "law" sLaw f fd) (T : Nm mg) (T2 : Txd K mg C) (D_law_begun : Df P w K mg base 1 "_law_begun" ["script"] [] (spBegun K)) (D_law_take : Df P w K mg base 2 "_law_take" ["state", "size"] [] spTake) (D_law_set : Df P w K mg base 4 "_law_set" ["state", "most"] [] spSet)
    (D_law_makings : Df P w K mg base 7 "_law_makings" ["state", "model"] [] (spMakings K C)) (D_law_alike : Df P w K mg base 8 "_law_alike" ["one", "other", "far"] [] (spAlike K C)) (D_of : Dcm P w K mg base 5 C "of" ["cls", "days"] (spOfB K C)) (D_xor : Dow P w K mg base 5 C "__xor__" ["self", "other"] (spBin K C fun a b => a != b)) (D_eq : Dow P w K mg base 1 C "__eq__" ["self", "other"] (spEq K C))
    (D_first_unlike : Dm P w K mg base 7 C "first_unlike" ["self", "other"] (spFirst K C fun a b => a != b)) (D_contains : Dow P w K mg base 2 C "__contains__" ["self", "day"] (spContains K C)) :
    FnOk P w K mg base CX0 9 f fd ["script"] (spLaw K) := by
  refine F.ok scLaw (fun vs H Q E h => ?_) (fun cdv A outer s H vs Q E hr h => ?_)
  · walk_at "len"
  · obtain ⟨l, ns, rfl, hS, hlen, k⟩ := h
    have nd := scLaw.nd
    have hu := hr.units
    have cp28 : CPow 10 28 := ⟨by decide, by decide, by decide⟩
    refine ⟨_, (pss_cons (ps_set (i := 1) nd rfl (Or.inl rfl) (pe_df D_law_begun (hr.mono (by decide)) (pa_cons (pv 0) pa_nil)))
      (pss_cons (ps_for PassesOwn.never rfl (pi_range1 (by rfl) T.range (pa_cons (pe_op op_add pe_int (pe_callB (call_min2 rfl) (by rfl) T.min (by decide +kernel) (pa_cons (pe_callB call_len_seq (by rfl) T.len (by decide +kernel) (pa_cons (pv 0) pa_nil)) (pa_cons pe_int pa_nil)))) pa_nil)) (pg_name (i := 2) nd rfl (Or.inl rfl))
        (pss_cons (ps_asg (pe_tup (pa_cons (pe_df D_law_set (hr.mono (by decide)) (pa_cons (pv 1) (pa_cons pe_int pa_nil))) (pa_cons (pe_df D_law_take (hr.mono (by decide)) (pa_cons (pv 1) (pa_cons (pe_op op_pow pe_int pe_int) pa_nil))) pa_nil))) (pg_tup (by rfl) (pgs_cons (pg_name (i := 3) nd rfl (Or.inl rfl)) (pgs_cons (pg_name (i := 4) nd rfl (Or.inr rfl)) pgs_nil))))
        (pss_cons (ps_set (i := 5) nd rfl (Or.inr rfl) (pe_df D_law_makings (hr.mono (by decide)) (pa_cons (pv 1) (pa_cons (pv 3) pa_nil))))
        (pss_cons (ps_if (pt_cmpR (op_neD hu) (pe_lc (own := [("one", 6)]) (g := (gName 6)) rfl nd (pi_list (pv 5)) (blkOk_by (N := ["script", "state", "turn", "model", "far", "some", "one", "day", "other"]) (sc := defScope sLaw) (by decide +kernel)) (fun _ _ _ _ _ => pg_name (i := 6) nd rfl (Or.inl rfl)) (fun _ _ _ _ _ => (pts_one (pt_not (pt_val (pe_df D_law_alike (hr.mono (by decide)) (pa_cons (pv 6) (pa_cons (pe_ix (show IxR _ (rIxL K) from ix_list) (pv 5) pe_int (fun _ _ => rfl)) (pa_cons (pv 4) pa_nil)))))))) (fun _ _ _ _ _ => (pv 6))) (pe_lst pa_nil) (nomark _))
          (pss_one (ps_ret pe_bl))
          pss_nil)
        (pss_cons (ps_set (i := 7) nd rfl (Or.inl rfl) (pe_df D_law_take (hr.mono (by decide)) (pa_cons (pv 1) (pa_cons pe_int pa_nil))))
        (pss_cons (ps_set (i := 8) nd rfl (Or.inl rfl) (pe_op (op_d D_xor T2.sf (hr.mono (by decide))) (pe_ix ix_list (pv 5) pe_int (fun _ _ => rfl)) (pe_dcm D_of (hr.mono (by decide)) (pe_glob (v := .ref C) rfl T2.mgC rfl) (pa_cons (pe_lst (pa_cons (pv 7) pa_nil)) pa_nil))))
        (pss_one (ps_for PassesOwn.never rfl (pi_list (pv 5)) (pg_name (i := 6) nd rfl (Or.inl rfl))
          (pss_one (ps_if (PW.pt (pw_or (pt_cmpR (op_dEq D_eq T2.nf (hr.mono (by decide))) (pv 6) (pv 8) (nomark _)) (pw_or (pt_cmpR (op_neD hu) (pe_dm D_first_unlike T2.cl (hr.mono (by decide)) (pv 8) (pa_cons (pv 6) pa_nil)) (pv 7) (nomark _)) (pw_or1 (pt_cmpR op_eq (pe_cmpR (op_dIn D_contains (hr.mono (by decide))) (pv 7) (pv 8) rfl) (pe_cmpR (op_dIn D_contains (hr.mono (by decide))) (pv 7) (pv 6) rfl) (nomark _))))))
            (pss_one (ps_ret pe_bl))
            pss_nil))))))))))
      (pss_one (ps_ret pe_bl)))), ?_⟩
    walk_at "rd"
    refine ⟨l, ns, rfl, hS, hlen, fun H1 p a b p0 a0 b0 S1 St1 => ?_⟩
    refine ⟨_, rfl, l, _, rfl, .inl (S1.seq hS), _, _, rfl, _, _, rfl, rfl, _, rfl, ?_, ?_, ?_⟩
    · rw [List.length_map]
      split <;> omega
    · rw [List.length_map]
      split <;> omega
    refine for_range (fun i σ H' => Stt p a b (1000 * i) H' ∧ ∃ v2 v3 v4 v5 v6 v7 v8 : Option V, σ = [some (.ref l), some (.ref p), v2, v3, v4, v5, v6, v7, v8]) ⟨St1, none, none, none, none, none, none, none, rfl⟩ ?_ ?_
    · rintro i σ H2 hi ⟨St2, v2, v3, v4, v5, v6, v7, v8, rfl⟩
      have hi2 : i ≤ 100 := by
        rw [List.length_map] at hi
        split at hi <;> omega
      walk_at "rd"
      refine ⟨p, a, b, _, 12, rfl, St2, by omega, by decide, by decide, fun H3 t h c hb cb St3 B3 M lh lc => ?_⟩
      have mt := St2.apart M.nt
      have mh := St2.apart M.nh
      have mc := St2.apart M.nc
      walk_at "rd"
      refine ⟨cp28, ?_⟩
      walk_at "rd"
      refine ⟨p, a, b, _, _, rfl, St3, by omega, by decide, by decide, fun far H4 f0 f1 St4 B4 => ?_⟩
      have M4 := M.md.but B4 ⟨mt.1, mt.2.1⟩ ⟨mh.1, mh.2.1⟩ ⟨mc.1, mc.2.1⟩
      walk_at "rd"
      refine ⟨by show 2 ≤ sizeLine; decide, fun tp htp => ?_⟩
      refine ⟨tp, _, rfl, SqT.of upd_same, rfl, ?_⟩
      have w0 := Same.new (o := .tup [.ref t, .int far]) htp
      generalize upd H4 tp (.tup [.ref t, .int far]) = K0 at w0 ⊢
      have St0 := St4.same w0
      walk_at "rd"
      refine ⟨p, a, b, _, t, h, c, hb, cb, rfl, St0, by omega, M4.same w0, ⟨mt.1, mt.2.1⟩, ⟨mh.1, mh.2.1⟩, ⟨mc.1, mc.2.1⟩, by omega, by omega, fun K1 K2 L xs s q St5 B5 w nl yl lx ax can sl ql => ?_⟩
      obtain ⟨x0, r, rfl⟩ : ∃ x0 r, xs = x0 :: r := by
        cases xs with
        | nil => cases lx
        | cons x0 r => exact ⟨x0, r, rfl⟩
      have s0 := can.fr.s0
      have q0 := can.fr.p1
      have StK := St5.same w
      have dx0 := ax x0 List.mem_cons_self
      walk_at "rd"
      refine ⟨⟨_, SqL.of yl⟩, fun D hD => ?_⟩
      refine lc_list (K := K) (a := L) (xs := (x0 :: r).map V.ref) (fun j H' => Same K2 H' ∧ H' D = some (.lst (([] : List Int).map V.int))) ⟨Same.new hD, upd_same⟩ (fun j H' _ ⟨s1, _⟩ => s1.seq (SqL.of yl)) ?_ ?_
      · rintro j v J hj ⟨s1, hDl⟩
        obtain ⟨x, hx, rfl⟩ := ref_get hj
        walk_at "rd"
        refine ⟨L, _, _, _, rfl, rfl, s1.seq (SqL.of yl), atI_nat (j := 0) rfl, ?_⟩
        walk_at "rd"
        refine ⟨x, x0, _, s, q, far, rfl, (ax x hx).ds.same s1, dx0.ds.same s1, by omega, by omega, fun J' s2 => ?_⟩
        walk_at "rd"
        exact iteF ⟨s1.trans s2, s2 _ _ hDl⟩
      rintro J ⟨s1, hDl⟩
      walk_at "rd"
      refine ⟨by show 0 ≤ sizeLine; decide, fun e9 he9 => ?_⟩
      have u9 := Same.new (o := .lst []) he9
      have y9 : upd J e9 (.lst []) e9 = some (.lst (([] : List Int).map V.int)) := upd_same
      generalize upd J e9 (.lst []) = G9 at u9 y9 ⊢
      refine ⟨pdL _, pdL _, dpL (LI.new (u9 _ _ hDl)), dpL (LI.new y9), shapedL _, shapedL _, ?_⟩
      rw [eqvL, show (!decide (([] : List Int) = [])) = false by decide]
      have w9 := s1.trans u9
      walk_at "rd"
      refine ⟨p, a, b, _, 60, rfl, StK.same w9, by omega, by decide, by decide, fun day K3 d0 d1 St6 B6 => ?_⟩
      have nL := St5.apart nl
      have y3 := B6 _ _ (w9 _ _ yl) nL.1 nL.2.1
      have A3 : ∀ x ∈ x0 :: r, Da K C p a K3 x (patS hb cb) s q := fun x hx => ((Da.of (ax x hx) St5).same w9).but B6
      walk_at "rd"
      refine ⟨L, _, _, _, rfl, rfl, SqL.of y3, atI_nat (j := 0) rfl, ?_⟩
      walk_at "rd"
      refine ⟨by show 1 ≤ sizeLine; decide, fun e1 he1 => ?_⟩
      have u1 := Same.new (o := .lst [.int day]) he1
      have ye1 : upd K3 e1 (.lst [.int day]) e1 = some (.lst ([day].map V.int)) := upd_same
      generalize upd K3 e1 (.lst [.int day]) = K4 at u1 ye1 ⊢
      walk_at "rd"
      refine ⟨e1, [day], rfl, .inl ye1, fun y hy => by rw [List.mem_singleton] at hy; omega, by simp, fun K5 z sz qz w5 Zn top pz => ?_⟩
      have sz0 := top 60 (fun y hy => by rw [List.mem_singleton] at hy; omega) (by omega)
      have Z := Zn.ds
      have pz1 := Z.can.fr.p1
      have zs0 := Z.can.fr.s0
      have X0 := (((A3 x0 List.mem_cons_self).same u1).same w5).ds
      obtain ⟨i1, j1, o1, no1⟩ := Ds.no X0 "shifted"
      obtain ⟨i2, j2, o2, no2⟩ := Ds.no Z "shifted"
      have lcI : lcmI q qz ≤ 12 := by have := lcmI_le q0 pz1; have e : qz = 1 := (by omega); rw [e] at this ⊢; omega
      have mI : maxI s sz ≤ 60 := by unfold maxI; split <;> omega
      walk_at "rd"
      refine ⟨x0, z, i1, i2, _, _, rfl, rfl, o1, o2, x0, z, _, _, _, _, _, _, rfl, X0, Z, by omega, fun K6 o so qo w6 On lo mo => ?_⟩
      have O := On.ds
      have po1 := O.can.fr.p1
      have os0 := O.can.fr.s0
      have w36 := (u1.trans w5).trans w6
      have A6 : ∀ x ∈ x0 :: r, Da K C p a K6 x (patS hb cb) s q := fun x hx => (A3 x hx).same w36
      have odd : ∀ d, (patS hb cb d != inS [day] d) = (if d = day then !patS hb cb d else patS hb cb d) := fun d => by
        have e : inS [day] d = decide (d = day) := by unfold inS; exact decide_eq_decide.mpr List.mem_singleton
        rw [e]
        by_cases z : d = day
        · rw [if_pos z, decide_eq_true z]; cases patS hb cb d <;> rfl
        · rw [if_neg z, decide_eq_false z]; cases patS hb cb d <;> rfl
      have y6 := w36 _ _ y3
      have St7 := St6.same w36
      walk_at "rd"
      refine ⟨⟨_, SqL.of y6⟩, ?_⟩
      refine for_list (xs := (x0 :: r).map V.ref) (fun j σ H' => Same K6 H' ∧ ∃ v6 : Option V, σ = [some (.ref l), some (.ref p), some (.int (0 + (i : Int))), some (.ref t), some (.int far), some (.ref L), v6, some (.int day), some (.ref o)]) ⟨Same.refl _, _, rfl⟩ (fun j σ H' _ ⟨e, _⟩ => e.seq (SqL.of y6)) ?_ ?_
      · rintro j v σ J hj ⟨s2, v6', rfl⟩
        obtain ⟨x, hx, rfl⟩ := ref_get hj
        have X := ((A6 x hx).same s2).ds
        have Oj := O.same s2
        obtain ⟨i3, j3, o3, no3⟩ := Ds.no X "shifted"
        obtain ⟨i4, j4, o4, no4⟩ := Ds.no Oj "first_unlike"
        walk_at "rd"
        refine ⟨x, o, i3, i4, _, _, rfl, rfl, o3, o4, x, o, _, _, _, _, _, _, rfl, X, Oj, fun bz hbz => ?_⟩
        obtain rfl : bz = false := by
          cases bz with
          | false => rfl
          | true =>
            have : patS hb cb day = (patS hb cb day != inS [day] day) := hbz.mp rfl day
            rw [odd day, if_pos rfl] at this
            cases e : patS hb cb day <;> rw [e] at this <;> cases this
        walk_at "rd"
        refine ⟨o, i4, j4, rfl, o4, no4, ?_⟩
        walk_at "rd"
        have lcO : lcmI qo q ≤ 144 := by have h1 := lcmI_le po1 q0; have h2 : qo * q ≤ 12 * 12 := Int.mul_le_mul (by omega) (by omega) (by omega) (by omega); omega
        have mO : maxI so s ≤ 60 := by unfold maxI; split <;> omega
        refine ⟨o, x, _, _, so, qo, s, q, rfl, Oj, X, by omega, fun J1 s3 no => ?_, fun J1 d s3 g0 g1 g2 => ?_⟩
        · have : ((patS hb cb day != inS [day] day) != patS hb cb day) = false := no day d0
          rw [odd day, if_pos rfl] at this
          cases e : patS hb cb day <;> rw [e] at this <;> cases this
        have dd : d = day := by
          apply Classical.byContradiction
          intro z
          have g1 : ((patS hb cb d != inS [day] d) != patS hb cb d) = true := g1
          rw [odd d, if_neg z] at g1
          cases e : patS hb cb d <;> rw [e] at g1 <;> cases g1
        have ne : decide (V.bl ((fun d => (fun a b : Bool => a != b) (patS hb cb d) (inS [day] d)) day) = V.bl (patS hb cb day)) = false := by
          refine decide_eq_false fun z => ?_
          have z2 : (patS hb cb day != inS [day] day) = patS hb cb day := V.bl.inj z
          rw [odd day, if_pos rfl] at z2
          cases e : patS hb cb day <;> rw [e] at z2 <;> cases z2
        subst dd
        walk_at "rd"
        refine ⟨.int d, .int d, .int _, .int _, shI _, shI _, ?_⟩
        rw [show PyData.eqv (.int d) (.int d) = true by simp [PyData.eqv]]
        walk_at "rd"
        refine ⟨o, i4, j4, rfl, s3 _ _ o4, o, _, so, qo, d, rfl, Oj.same s3, by omega, by omega, fun J2 s4 => ⟨_, rfl, ?_⟩⟩
        walk_at "rd"
        refine ⟨x, i3, j3, rfl, (s3.trans s4) _ _ o3, x, _, s, q, d, rfl, X.same (s3.trans s4), by omega, by omega, fun J3 s5 => ⟨_, rfl, ?_⟩⟩
        refine ⟨rfl, _, rfl, ?_⟩
        rw [ne]
        exact iteF ⟨((s2.trans s3).trans s4).trans s5, _, rfl⟩
      · rintro σ J ⟨s2, v6', rfl⟩
        exact ⟨(St7.same s2).mono (by omega), _, _, _, _, _, _, _, rfl⟩
    · rintro σ H2 ⟨St2, v2, v3, v4, v5, v6, v7, v8, rfl⟩
      walk_at "rd"
      exact k _
end
end
end Cf
/-! The end of a law whose def is promised where no repr is under way. -/
namespace Cf
open PySem PySem.Spec PyProof.Rows L2
section
variable {P : Program} {w : World} {K : PySem.W.Frag} {mg mb : Str → Option Value} {k : Nat} {fa a : Addr} {fd : FuncData} {x : Str} {sp : Sp} {st : Shared} {vs : List Value} {ns : List Int}
/-- the script's own object -/
def scrO (vs : List Value) : Obj := { cls := .type "list", data := .seq vs.toArray }
/-- nothing is tracked but the script, where it is none of the module's own objects -/
noncomputable def scrH (K : PySem.W.Frag) (a : Addr) (vs : List Value) (ns : List Int) : Hp := fun b =>
  open Classical in if b = a ∧ K.lookup a = none then some (.frz (scrO vs) (.lst (ns.map V.int))) else none
theorem scrH_some {b : Addr} {u : HO} (h : scrH K a vs ns b = some u) : b = a ∧ K.lookup a = none ∧ u = .frz (scrO vs) (.lst (ns.map V.int)) := by
  unfold scrH at h
  split at h
  · rename_i c
    exact ⟨c.1, c.2, (Option.some.inj h).symm⟩
  · cases h
theorem scrH_at (h : K.lookup a = none) : scrH K a vs ns a = some (.frz (scrO vs) (.lst (ns.map V.int))) := by
  unfold scrH
  exact if_pos ⟨rfl, h⟩
theorem scrH_no (h : ∀ o, K.lookup a = some o → True) {b : Addr} (hb : b ≠ a ∨ K.lookup a ≠ none) : scrH K a vs ns b = none := by
  unfold scrH
  refine if_neg fun c => ?_
  rcases hb with z | z
  · exact z c.1
  · exact z c.2
theorem law_g (KX : K.In st.heap) (hns : st.heap.Ns mainGlobals mg) (hb : st.heap.Ns builtinsNs mb) (hbb : ∀ x : Str, x ≠ "__name__" → mb x = bootBuiltins x) (lim : st.heap.NoLimit) (hg : st.gens = #[])
    (ha : st.heap.get? a = some (scrO vs)) (hi : IntsAre vs ns) (hl : ns.length ≤ sizeLine) (room : Room k callerA)
    (F : ∀ base : Heap, K.In base → base.Ns mainGlobals mg → FnG P w K mg base CX0 k fa fd [x] sp) (hbind : ∀ (s : Shared) (u : Value), BindsTo s fd ⟨[u], []⟩ [(x, u)])
    (hsp : ∀ H : Hp, SqL K H a (ns.map V.int) → sp [.ref a] H (fun v _ => v = .bl true) fun _ _ _ => False) :
    codeAny (model P w) callerA (.call (.ref fa) ⟨[.ref a], []⟩) (fun r s' => r = .ok (.ret (.bool true)) ∧ OldK st.heap s'.heap ∧ s'.os = st.os ∧ AllBare s'.gens) st := by
  have vals := vals_ints hi
  have len := hi.length
  have inH : SqL K (scrH K a vs ns) a (ns.map V.int) := by
    cases q : K.lookup a with
    | none => exact Or.inl (Or.inr ⟨_, scrH_at q⟩)
    | some o =>
      have e := KX a o q
      rw [ha] at e
      cases e
      refine Or.inr ⟨_, vs.toArray, _, q, rfl, rfl, rfl, ?_, ?_⟩
      · rw [List.size_toArray]; omega
      · simpa using vals
  have held : HOk P w (scrH K a vs ns) st.heap := by
    intro b u e
    obtain ⟨rfl, _, rfl⟩ := scrH_some e
    refine ⟨ha, ?_, vs, _, vals, ha⟩
    rw [List.length_map]
    exact hl
  -- what is not the script stands in the base
  have put : ∀ {b : Addr} {o : Obj}, st.heap.get? b = some o → scrH K a vs ns b = none → (hidT st.heap (scrH K a vs ns)).get? b = some o := fun e n => hidT_get e n
  have names : ∀ {b : Addr} {m : Str → Option Value}, st.heap.Ns b m → (hidT st.heap (scrH K a vs ns)).Ns b m := by
    rintro b m ⟨o, es, ep, e, d, r⟩
    refine ⟨o, es, ep, put e ?_, d, r⟩
    cases q : scrH K a vs ns b with
    | none => rfl
    | some u =>
      obtain ⟨rfl, _, _⟩ := scrH_some q
      rw [ha] at e
      cases e
      cases (show Data.seq vs.toArray _ = Data.dict es ep from d)
  have inB : K.In (hidT st.heap (scrH K a vs ns)) := by
    intro b o e
    refine put (KX b o e) ?_
    cases q : scrH K a vs ns b with
    | none => rfl
    | some u =>
      obtain ⟨rfl, z, _⟩ := scrH_some q
      rw [z] at e
      cases e
  have md : Mod K mg (hidT st.heap (scrH K a vs ns)) := by
    obtain ⟨mc, l1, l2⟩ := lim
    exact { kin := inB, glob := names hns, blt := ⟨mb, names hb, hbb⟩, nolimit := ⟨mc, names l1, l2⟩ }
  have env : Env0 P w K mg (hidT st.heap (scrH K a vs ns)) callerA [] st (scrH K a vs ns) :=
    { frames := rfl, mod := md, bs := fun _ _ e => of_hidT e, bsz := Nat.le_of_eq (hidT_size _ _), funs := trivial, frf := fun b hb => (by cases hb), hok := held, bare := .of_eq hg }
  refine codeAny_mono ((F _ inB (names hns)).go callerA rfl [] st (scrH K a vs ns) ⟨[.ref a], []⟩ [.ref a] [.ref a] _ _ room env (hbind st (.ref a)) (.cons rfl .nil) (hsp _ inH)) ?_
  intro r s' h
  match r, h with
  | .error e, h => exact (h : False).elim
  | .ok .next, h => exact (h : False).elim
  | .ok .brk, h => exact (h : False).elim
  | .ok .cont, h => exact (h : False).elim
  | .ok (.ret u), ⟨v, H', os, bare, un, hok', rv, q⟩ =>
    subst q
    cases (show u = Value.bool true from rv)
    refine ⟨rfl, OldK.of_keep fun b o e => ?_, os, bare⟩
    cases q : scrH K a vs ns b with
    | none => exact un.keep b o e q (by intro z; cases z) (by intro z; cases z)
    | some u =>
      obtain ⟨rfl, _, rfl⟩ := scrH_some q
      have z := un.frzs b _ _ q
      obtain ⟨e2, _⟩ := hok' b _ z
      rw [ha] at e
      cases e
      exact e2
end
theorem walk_g {l : PySem.W.OpenLaw} {n k : Nat} {q : Program} {loose : List Str} {XP : (Str → Option Value) → Heap → Prop} {YP : World → Heap → Prop} {d : DefRec} {K : Params → PySem.W.Frag} {sp : PySem.W.Frag → Sp} {x : Str}
    (most : l.most = some n) (n2 : n ≤ sizeLine) (dflt : d.params.defaults = []) (room : Room k callerA) (hY : ∀ (w : World) (h : Heap), YP w h → (K w.params).In h)
    (F : ∀ (w : World) (mg : Str → Option Value) (fa : Addr) (h : Heap), (K w.params).In h → h.Ns mainGlobals mg → mg d.name = some (.ref fa) →
      ∃ fd : FuncData, (∀ (s : Shared) (u : Value), BindsTo s fd ⟨[u], []⟩ [(x, u)]) ∧ ∀ base : Heap, (K w.params).In base → base.Ns mainGlobals mg → FnG l.prog w (K w.params) mg base CX0 k fa fd [x] (sp (K w.params)))
    (hsp : ∀ (K : PySem.W.Frag) (H : Hp) (a : Addr) (ns : List Int), ns.length ≤ n → SqL K H a (ns.map V.int) → sp K [.ref a] H (fun v _ => v = .bl true) fun _ _ _ => False) :
    PySem.W.WalkO q loose XP YP l.row.toRowW d [] (fun f vs => PySem.call f vs) := by
  apply Att.attach_call most dflt
  intro w s0 s1 mg mb fa o pm cd doc a vs ns G Y ho hd hcd hmg hobj hints hlen hg
  have inK := hY w _ Y
  obtain ⟨fd, hb, hF⟩ := F w mg fa _ inK G.T.g hmg
  exact law_g inK G.T.g G.T.b G.T.builtins G.T.nolimit hg hobj hints (Nat.le_trans hlen n2) room hF hb fun H hS => hsp _ H a ns hlen hS
end Cf
namespace Cf
open PySem L2

theorem kit_self {K : PySem.W.Frag} {v : Value} (h : (v == v) = true := by simp) : PySem.W.kitOne K v v = some true := by unfold PySem.W.kitOne; rw [if_pos h]
set_option maxHeartbeats 4000000 in
theorem all_mk {l : PySem.W.OpenLaw} {w : World} {K : PySem.W.Frag} {h : Heap} {mg : Str → Option Value} {fa : Addr} (X : K.In h) (G : h.Ns mainGlobals mg) (hfa : mg "law" = some (.ref fa))
    {C : Addr}
    {f0 : Addr} {od0 an0 : Option Addr} {sl0 : Array (Option Value)} {oc0 kV0 dc0 pm0 cd0 ct0 : Value}
    {f1 : Addr} {od1 an1 : Option Addr} {sl1 : Array (Option Value)} {oc1 kV1 dc1 pm1 cd1 ct1 : Value}
    {f2 : Addr} {od2 an2 : Option Addr} {sl2 : Array (Option Value)} {oc2 kV2 dc2 pm2 cd2 ct2 : Value}
    {f3 : Addr} {od3 an3 : Option Addr} {sl3 : Array (Option Value)} {oc3 kV3 dc3 pm3 cd3 ct3 : Value}
    {f4 : Addr} {od4 an4 : Option Addr} {sl4 : Array (Option Value)} {oc4 kV4 dc4 pm4 cd4 ct4 : Value}
    {f5 : Addr} {od5 an5 : Option Addr} {sl5 : Array (Option Value)} {oc5 kV5 dc5 pm5 cd5 ct5 : Value}
    {f6 : Addr} {od6 an6 : Option Addr} {sl6 : Array (Option Value)} {oc6 kV6 dc6 pm6 cd6 ct6 : Value}
    {f7 : Addr} {od7 an7 : Option Addr} {sl7 : Array (Option Value)} {oc7 kV7 dc7 pm7 cd7 ct7 : Value}
    {f8 : Addr} {od8 an8 : Option Addr} {sl8 : Array (Option Value)} {oc8 kV8 dc8 pm8 cd8 ct8 : Value}
    {f9 : Addr} {od9 an9 : Option Addr} {sl9 : Array (Option Value)} {oc9 kV9 dc9 pm9 cd9 ct9 : Value}
    {f10 : Addr} {od10 an10 : Option Addr} {sl10 : Array (Option Value)} {oc10 kV10 dc10 pm10 cd10 ct10 : Value}
    {f11 : Addr} {od11 an11 : Option Addr} {sl11 : Array (Option Value)} {oc11 kV11 dc11 pm11 cd11 ct11 : Value}
    {T11 : Addr} {oT11 : Value} {dT11 : Option Addr} {nT11 : Nat} {sT11 : Array (Option Value)}
    {f12 : Addr} {od12 an12 : Option Addr} {sl12 : Array (Option Value)} {oc12 kV12 dc12 pm12 cd12 ct12 : Value}
    {f13 : Addr} {od13 an13 : Option Addr} {sl13 : Array (Option Value)} {oc13 kV13 dc13 pm13 cd13 ct13 : Value}
    {f14 : Addr} {od14 an14 : Option Addr} {sl14 : Array (Option Value)} {oc14 kV14 dc14 pm14 cd14 ct14 : Value}
    {p14 : Addr} {r14 : List Value}
    {f15 : Addr} {od15 an15 : Option Addr} {sl15 : Array (Option Value)} {oc15 kV15 dc15 pm15 cd15 ct15 : Value}
    {p15 : Addr} {r15 : List Value}
    {f16 : Addr} {od16 an16 : Option Addr} {sl16 : Array (Option Value)} {oc16 kV16 dc16 pm16 cd16 ct16 : Value}
    {p16 : Addr} {r16 : List Value}
    {f17 : Addr} {od17 an17 : Option Addr} {sl17 : Array (Option Value)} {oc17 kV17 dc17 pm17 cd17 ct17 : Value}
    {p17 : Addr} {r17 : List Value}
    {f18 : Addr} {od18 an18 : Option Addr} {sl18 : Array (Option Value)} {oc18 kV18 dc18 pm18 cd18 ct18 : Value}
    {p18 : Addr} {r18 : List Value}
    {f19 : Addr} {od19 an19 : Option Addr} {sl19 : Array (Option Value)} {oc19 kV19 dc19 pm19 cd19 ct19 : Value}
    {f20 : Addr} {od20 an20 : Option Addr} {sl20 : Array (Option Value)} {oc20 kV20 dc20 pm20 cd20 ct20 : Value}
    {f21 : Addr} {od21 an21 : Option Addr} {sl21 : Array (Option Value)} {oc21 kV21 dc21 pm21 cd21 ct21 : Value}
    {f22 : Addr} {od22 an22 : Option Addr} {sl22 : Array (Option Value)} {oc22 kV22 dc22 pm22 cd22 ct22 : Value}
    {f23 : Addr} {od23 an23 : Option Addr} {sl23 : Array (Option Value)} {oc23 kV23 dc23 pm23 cd23 ct23 : Value}
    {f24 : Addr} {od24 an24 : Option Addr} {sl24 : Array (Option Value)} {oc24 kV24 dc24 pm24 cd24 ct24 : Value}
    {f25 : Addr} {od25 an25 : Option Addr} {sl25 : Array (Option Value)} {oc25 kV25 dc25 pm25 cd25 ct25 : Value}
    {f26 : Addr} {od26 an26 : Option Addr} {sl26 : Array (Option Value)} {oc26 kV26 dc26 pm26 cd26 ct26 : Value}
    {f27 : Addr} {od27 an27 : Option Addr} {sl27 : Array (Option Value)} {oc27 kV27 dc27 pm27 cd27 ct27 : Value}
    {f28 : Addr} {od28 an28 : Option Addr} {sl28 : Array (Option Value)} {oc28 kV28 dc28 pm28 cd28 ct28 : Value}
    {f29 : Addr} {od29 an29 : Option Addr} {sl29 : Array (Option Value)} {oc29 kV29 dc29 pm29 cd29 ct29 : Value}
    {f30 : Addr} {od30 an30 : Option Addr} {sl30 : Array (Option Value)} {oc30 kV30 dc30 pm30 cd30 ct30 : Value}
    {f31 : Addr} {od31 an31 : Option Addr} {sl31 : Array (Option Value)} {oc31 kV31 dc31 pm31 cd31 ct31 : Value}
    {f32 : Addr} {od32 an32 : Option Addr} {sl32 : Array (Option Value)} {oc32 kV32 dc32 pm32 cd32 ct32 : Value}
    {f33 : Addr} {od33 an33 : Option Addr} {sl33 : Array (Option Value)} {oc33 kV33 dc33 pm33 cd33 ct33 : Value}
    {f34 : Addr} {od34 an34 : Option Addr} {sl34 : Array (Option Value)} {oc34 kV34 dc34 pm34 cd34 ct34 : Value}
    {f35 : Addr} {od35 an35 : Option Addr} {sl35 : Array (Option Value)} {oc35 kV35 dc35 pm35 cd35 ct35 : Value}
    {f36 : Addr} {od36 an36 : Option Addr} {sl36 : Array (Option Value)} {oc36 kV36 dc36 pm36 cd36 ct36 : Value}
    {f37 : Addr} {od37 an37 : Option Addr} {sl37 : Array (Option Value)} {oc37 kV37 dc37 pm37 cd37 ct37 : Value}
    {f38 : Addr} {od38 an38 : Option Addr} {sl38 : Array (Option Value)} {oc38 kV38 dc38 pm38 cd38 ct38 : Value}
    {T38 : Addr} {oT38 : Value} {dT38 : Option Addr} {nT38 : Nat} {sT38 : Array (Option Value)}
    {p38 : Addr} {r38 : List Value}
    {f39 : Addr} {od39 an39 : Option Addr} {sl39 : Array (Option Value)} {oc39 kV39 dc39 pm39 cd39 ct39 : Value}
    {uD39 : Tok} {T39 : Addr} {oT39 : Value} {dT39 : Option Addr} {nT39 : Nat} {sT39 : Array (Option Value)}
    {f40 : Addr} {od40 an40 : Option Addr} {sl40 : Array (Option Value)} {oc40 kV40 dc40 pm40 cd40 ct40 : Value}
    {p40 : Addr} {r40 : List Value}
    {f41 : Addr} {od41 an41 : Option Addr} {sl41 : Array (Option Value)} {oc41 kV41 dc41 pm41 cd41 ct41 : Value}
    {f42 : Addr} {od42 an42 : Option Addr} {sl42 : Array (Option Value)} {oc42 kV42 dc42 pm42 cd42 ct42 : Value}
    {p42 : Addr} {r42 : List Value}
    {f43 : Addr} {od43 an43 : Option Addr} {sl43 : Array (Option Value)} {oc43 kV43 dc43 pm43 cd43 ct43 : Value}
    {uD43 : Tok} {T43 : Addr} {oT43 : Value} {dT43 : Option Addr} {nT43 : Nat} {sT43 : Array (Option Value)}
    {p43 : Addr} {r43 : List Value}
    {f44 : Addr} {od44 an44 : Option Addr} {sl44 : Array (Option Value)} {oc44 kV44 dc44 pm44 cd44 ct44 : Value}
    {f45 : Addr} {od45 an45 : Option Addr} {sl45 : Array (Option Value)} {oc45 kV45 dc45 pm45 cd45 ct45 : Value}
    {f46 : Addr} {od46 an46 : Option Addr} {sl46 : Array (Option Value)} {oc46 kV46 dc46 pm46 cd46 ct46 : Value}
    {f47 : Addr} {od47 an47 : Option Addr} {sl47 : Array (Option Value)} {oc47 kV47 dc47 pm47 cd47 ct47 : Value}
    {f48 : Addr} {od48 an48 : Option Addr} {sl48 : Array (Option Value)} {oc48 kV48 dc48 pm48 cd48 ct48 : Value}
    {f49 : Addr} {od49 an49 : Option Addr} {sl49 : Array (Option Value)} {oc49 kV49 dc49 pm49 cd49 ct49 : Value}
    {f50 : Addr} {od50 an50 : Option Addr} {sl50 : Array (Option Value)} {oc50 kV50 dc50 pm50 cd50 ct50 : Value}
    {f51 : Addr} {od51 an51 : Option Addr} {sl51 : Array (Option Value)} {oc51 kV51 dc51 pm51 cd51 ct51 : Value}
    {f52 : Addr} {od52 an52 : Option Addr} {sl52 : Array (Option Value)} {oc52 kV52 dc52 pm52 cd52 ct52 : Value}
    {f53 : Addr} {od53 an53 : Option Addr} {sl53 : Array (Option Value)} {oc53 kV53 dc53 pm53 cd53 ct53 : Value}
    {f54 : Addr} {od54 an54 : Option Addr} {sl54 : Array (Option Value)} {oc54 kV54 dc54 pm54 cd54 ct54 : Value}
    {f55 : Addr} {od55 an55 : Option Addr} {sl55 : Array (Option Value)} {oc55 kV55 dc55 pm55 cd55 ct55 : Value}
    (aC : PySem.W.nsIn K mainGlobals "DaySet" = some (some (.ref C)))
    (pgC : PySem.W.plainGet K C Str.empty = true)
    (hdC : PySem.W.hasDictIn K C = true)
    (poC : PySem.W.plainOver K C = true)
    (saC : PySem.W.findIn K (.ref C) "__setattr__" = some (some (.builtin "object.__setattr__")))
    (mkC : PySem.W.makesIn K C = true)
    (kpC : PySem.W.keepIn K (.ref C) = true)
    (noP : PySem.W.findIn K (.ref C) "_period" = some none)
    (noS : PySem.W.findIn K (.ref C) "_start" = some none)
    (noH : PySem.W.findIn K (.ref C) "_head" = some none)
    (noC : PySem.W.findIn K (.ref C) "_cycle" = some none)
    (sfC : PySem.W.selfFirst K C = true)
    (nfC : PySem.W.notFirst K C (.ref C) = true)
    (haC : PySem.W.findIn K (.ref C) "__class__" = some (some (.builtin "object.__class__")))
    (hnC : PySem.W.specialIn K (.builtin "object.__class__") "__get__" = some (some (.builtin "getset_descriptor.__get__")))
    (htC : PySem.W.takesIn K (.builtin "object.__class__") = some true)
    (hmC : PySem.W.mroIn K C (.type "object") = some true)
    (rdC : PySem.W.readsIn K C (.type "type") = true)
    (gaC : PySem.W.specialIn K (.ref C) "__getattribute__" = some (some (.builtin "type.__getattribute__")))
    (aG : PySem.W.nsIn K mainGlobals "gcd" = some (some (.builtin "math.gcd")))
    (aL : PySem.W.nsIn K mainGlobals "lcm" = some (some (.builtin "math.lcm")))
    (a0 : PySem.W.nsIn K mainGlobals "place_of" = some (some (.ref f0)))
    (l0 : K.lookup f0 = some ⟨oc0, od0, .func (PySem.W.fnOf "place_of" "place_of" (defArgs sPlaceOf) (defBody sPlaceOf) (defScope sPlaceOf) .none kV0 dc0 pm0 an0 cd0 ct0), sl0⟩)
    (c0 : PySem.W.codeIn K cd0 "place_of" = true)
    (k0 : PySem.W.keepIn K (.ref f0) = true)
    (a1 : PySem.W.nsIn K mainGlobals "cycle_day" = some (some (.ref f1)))
    (l1 : K.lookup f1 = some ⟨oc1, od1, .func (PySem.W.fnOf "cycle_day" "cycle_day" (defArgs sCycleDay) (defBody sCycleDay) (defScope sCycleDay) .none kV1 dc1 pm1 an1 cd1 ct1), sl1⟩)
    (c1 : PySem.W.codeIn K cd1 "cycle_day" = true)
    (k1 : PySem.W.keepIn K (.ref f1) = true)
    (a2 : PySem.W.nsIn K mainGlobals "primes_of" = some (some (.ref f2)))
    (l2 : K.lookup f2 = some ⟨oc2, od2, .func (PySem.W.fnOf "primes_of" "primes_of" (defArgs sPrimesOf) (defBody sPrimesOf) (defScope sPrimesOf) .none kV2 dc2 pm2 an2 cd2 ct2), sl2⟩)
    (c2 : PySem.W.codeIn K cd2 "primes_of" = true)
    (k2 : PySem.W.keepIn K (.ref f2) = true)
    (a3 : PySem.W.nsIn K mainGlobals "repeats" = some (some (.ref f3)))
    (l3 : K.lookup f3 = some ⟨oc3, od3, .func (PySem.W.fnOf "repeats" "repeats" (defArgs sRepeats) (defBody sRepeats) (defScope sRepeats) .none kV3 dc3 pm3 an3 cd3 ct3), sl3⟩)
    (c3 : PySem.W.codeIn K cd3 "repeats" = true)
    (k3 : PySem.W.keepIn K (.ref f3) = true)
    (a4 : PySem.W.nsIn K mainGlobals "least_period" = some (some (.ref f4)))
    (l4 : K.lookup f4 = some ⟨oc4, od4, .func (PySem.W.fnOf "least_period" "least_period" (defArgs sLeastPeriod) (defBody sLeastPeriod) (defScope sLeastPeriod) .none kV4 dc4 pm4 an4 cd4 ct4), sl4⟩)
    (c4 : PySem.W.codeIn K cd4 "least_period" = true)
    (k4 : PySem.W.keepIn K (.ref f4) = true)
    (a5 : PySem.W.nsIn K mainGlobals "least_start" = some (some (.ref f5)))
    (l5 : K.lookup f5 = some ⟨oc5, od5, .func (PySem.W.fnOf "least_start" "least_start" (defArgs sLeastStart) (defBody sLeastStart) (defScope sLeastStart) .none kV5 dc5 pm5 an5 cd5 ct5), sl5⟩)
    (c5 : PySem.W.codeIn K cd5 "least_start" = true)
    (k5 : PySem.W.keepIn K (.ref f5) = true)
    (a6 : PySem.W.nsIn K mainGlobals "in_either" = some (some (.ref f6)))
    (l6 : K.lookup f6 = some ⟨oc6, od6, .func (PySem.W.fnOf "in_either" "in_either" (defArgs sInEither) (defBody sInEither) (defScope sInEither) .none kV6 dc6 pm6 an6 cd6 ct6), sl6⟩)
    (c6 : PySem.W.codeIn K cd6 "in_either" = true)
    (k6 : PySem.W.keepIn K (.ref f6) = true)
    (a7 : PySem.W.nsIn K mainGlobals "in_both" = some (some (.ref f7)))
    (l7 : K.lookup f7 = some ⟨oc7, od7, .func (PySem.W.fnOf "in_both" "in_both" (defArgs sInBoth) (defBody sInBoth) (defScope sInBoth) .none kV7 dc7 pm7 an7 cd7 ct7), sl7⟩)
    (c7 : PySem.W.codeIn K cd7 "in_both" = true)
    (k7 : PySem.W.keepIn K (.ref f7) = true)
    (a8 : PySem.W.nsIn K mainGlobals "in_first" = some (some (.ref f8)))
    (l8 : K.lookup f8 = some ⟨oc8, od8, .func (PySem.W.fnOf "in_first" "in_first" (defArgs sInFirst) (defBody sInFirst) (defScope sInFirst) .none kV8 dc8 pm8 an8 cd8 ct8), sl8⟩)
    (c8 : PySem.W.codeIn K cd8 "in_first" = true)
    (k8 : PySem.W.keepIn K (.ref f8) = true)
    (a9 : PySem.W.nsIn K mainGlobals "in_one" = some (some (.ref f9)))
    (l9 : K.lookup f9 = some ⟨oc9, od9, .func (PySem.W.fnOf "in_one" "in_one" (defArgs sInOne) (defBody sInOne) (defScope sInOne) .none kV9 dc9 pm9 an9 cd9 ct9), sl9⟩)
    (c9 : PySem.W.codeIn K cd9 "in_one" = true)
    (k9 : PySem.W.keepIn K (.ref f9) = true)
    (a10 : PySem.W.nsIn K mainGlobals "is_number" = some (some (.ref f10)))
    (l10 : K.lookup f10 = some ⟨oc10, od10, .func (PySem.W.fnOf "is_number" "is_number" (defArgs sIsNumber) (defBody sIsNumber) (defScope sIsNumber) .none kV10 dc10 pm10 an10 cd10 ct10), sl10⟩)
    (c10 : PySem.W.codeIn K cd10 "is_number" = true)
    (k10 : PySem.W.keepIn K (.ref f10) = true)
    (a11 : PySem.W.nsIn K mainGlobals "check_number" = some (some (.ref f11)))
    (l11 : K.lookup f11 = some ⟨oc11, od11, .func (PySem.W.fnOf "check_number" "check_number" (defArgs sCheckNumber) (defBody sCheckNumber) (defScope sCheckNumber) (.ref T11) kV11 dc11 pm11 an11 cd11 ct11), sl11⟩)
    (c11 : PySem.W.codeIn K cd11 "check_number" = true)
    (k11 : PySem.W.keepIn K (.ref f11) = true)
    (lT11 : K.lookup T11 = some ⟨oT11, dT11, .seq #[.none] nT11, sT11⟩)
    (a12 : PySem.W.nsIn K mainGlobals "is_truth_list" = some (some (.ref f12)))
    (l12 : K.lookup f12 = some ⟨oc12, od12, .func (PySem.W.fnOf "is_truth_list" "is_truth_list" (defArgs sIsTruthList) (defBody sIsTruthList) (defScope sIsTruthList) .none kV12 dc12 pm12 an12 cd12 ct12), sl12⟩)
    (c12 : PySem.W.codeIn K cd12 "is_truth_list" = true)
    (k12 : PySem.W.keepIn K (.ref f12) = true)
    (a13 : PySem.W.findIn K (.ref C) "__init__" = some (some (.ref f13)))
    (i13 : PySem.W.isFn K (.ref f13) = true)
    (l13 : K.lookup f13 = some ⟨oc13, od13, .func (PySem.W.fnOf "__init__" "DaySet.__init__" (defArgs sDsInit) (defBody sDsInit) (defScope sDsInit) .none kV13 dc13 pm13 an13 cd13 ct13), sl13⟩)
    (c13 : PySem.W.codeIn K cd13 "DaySet.__init__" = true)
    (k13 : PySem.W.keepIn K (.ref f13) = true)
    (a14 : PySem.W.findIn K (.ref C) "start" = some (some (.ref p14)))
    (g14 : PySem.W.specialIn K (.ref p14) "__get__" = some (some (.builtin "property.__get__")))
    (t14 : PySem.W.takesIn K (.ref p14) = some true)
    (r14c : PySem.W.recIn K p14 "property" = some (.ref f14 :: r14))
    (l14 : K.lookup f14 = some ⟨oc14, od14, .func (PySem.W.fnOf "start" "DaySet.start" (defArgs sDsStart) (defBody sDsStart) (defScope sDsStart) .none kV14 dc14 pm14 an14 cd14 ct14), sl14⟩)
    (c14 : PySem.W.codeIn K cd14 "DaySet.start" = true)
    (k14 : PySem.W.keepIn K (.ref f14) = true)
    (a15 : PySem.W.findIn K (.ref C) "period" = some (some (.ref p15)))
    (g15 : PySem.W.specialIn K (.ref p15) "__get__" = some (some (.builtin "property.__get__")))
    (t15 : PySem.W.takesIn K (.ref p15) = some true)
    (r15c : PySem.W.recIn K p15 "property" = some (.ref f15 :: r15))
    (l15 : K.lookup f15 = some ⟨oc15, od15, .func (PySem.W.fnOf "period" "DaySet.period" (defArgs sDsPeriod) (defBody sDsPeriod) (defScope sDsPeriod) .none kV15 dc15 pm15 an15 cd15 ct15), sl15⟩)
    (c15 : PySem.W.codeIn K cd15 "DaySet.period" = true)
    (k15 : PySem.W.keepIn K (.ref f15) = true)
    (a16 : PySem.W.findIn K (.ref C) "head" = some (some (.ref p16)))
    (g16 : PySem.W.specialIn K (.ref p16) "__get__" = some (some (.builtin "property.__get__")))
    (t16 : PySem.W.takesIn K (.ref p16) = some true)
    (r16c : PySem.W.recIn K p16 "property" = some (.ref f16 :: r16))
    (l16 : K.lookup f16 = some ⟨oc16, od16, .func (PySem.W.fnOf "head" "DaySet.head" (defArgs sDsHead) (defBody sDsHead) (defScope sDsHead) .none kV16 dc16 pm16 an16 cd16 ct16), sl16⟩)
    (c16 : PySem.W.codeIn K cd16 "DaySet.head" = true)
    (k16 : PySem.W.keepIn K (.ref f16) = true)
    (a17 : PySem.W.findIn K (.ref C) "cycle" = some (some (.ref p17)))
    (g17 : PySem.W.specialIn K (.ref p17) "__get__" = some (some (.builtin "property.__get__")))
    (t17 : PySem.W.takesIn K (.ref p17) = some true)
    (r17c : PySem.W.recIn K p17 "property" = some (.ref f17 :: r17))
    (l17 : K.lookup f17 = some ⟨oc17, od17, .func (PySem.W.fnOf "cycle" "DaySet.cycle" (defArgs sDsCycle) (defBody sDsCycle) (defScope sDsCycle) .none kV17 dc17 pm17 an17 cd17 ct17), sl17⟩)
    (c17 : PySem.W.codeIn K cd17 "DaySet.cycle" = true)
    (k17 : PySem.W.keepIn K (.ref f17) = true)
    (a18 : PySem.W.findIn K (.ref C) "is_finite" = some (some (.ref p18)))
    (g18 : PySem.W.specialIn K (.ref p18) "__get__" = some (some (.builtin "property.__get__")))
    (t18 : PySem.W.takesIn K (.ref p18) = some true)
    (r18c : PySem.W.recIn K p18 "property" = some (.ref f18 :: r18))
    (l18 : K.lookup f18 = some ⟨oc18, od18, .func (PySem.W.fnOf "is_finite" "DaySet.is_finite" (defArgs sDsIsFinite) (defBody sDsIsFinite) (defScope sDsIsFinite) .none kV18 dc18 pm18 an18 cd18 ct18), sl18⟩)
    (c18 : PySem.W.codeIn K cd18 "DaySet.is_finite" = true)
    (k18 : PySem.W.keepIn K (.ref f18) = true)
    (a19 : PySem.W.nsIn K mainGlobals "common_frame" = some (some (.ref f19)))
    (l19 : K.lookup f19 = some ⟨oc19, od19, .func (PySem.W.fnOf "common_frame" "common_frame" (defArgs sCommonFrame) (defBody sCommonFrame) (defScope sCommonFrame) .none kV19 dc19 pm19 an19 cd19 ct19), sl19⟩)
    (c19 : PySem.W.codeIn K cd19 "common_frame" = true)
    (k19 : PySem.W.keepIn K (.ref f19) = true)
    (a20 : PySem.W.findIn K (.ref C) "_listed" = some (some (.ref f20)))
    (i20 : PySem.W.isFn K (.ref f20) = true)
    (l20 : K.lookup f20 = some ⟨oc20, od20, .func (PySem.W.fnOf "_listed" "DaySet._listed" (defArgs sDsListed) (defBody sDsListed) (defScope sDsListed) .none kV20 dc20 pm20 an20 cd20 ct20), sl20⟩)
    (c20 : PySem.W.codeIn K cd20 "DaySet._listed" = true)
    (k20 : PySem.W.keepIn K (.ref f20) = true)
    (a21 : PySem.W.findIn K (.ref C) "_among" = some (some (.ref f21)))
    (i21 : PySem.W.isFn K (.ref f21) = true)
    (l21 : K.lookup f21 = some ⟨oc21, od21, .func (PySem.W.fnOf "_among" "DaySet._among" (defArgs sDsAmong) (defBody sDsAmong) (defScope sDsAmong) .none kV21 dc21 pm21 an21 cd21 ct21), sl21⟩)
    (c21 : PySem.W.codeIn K cd21 "DaySet._among" = true)
    (k21 : PySem.W.keepIn K (.ref f21) = true)
    (a22 : PySem.W.findIn K (.ref C) "__eq__" = some (some (.ref f22)))
    (i22 : PySem.W.isFn K (.ref f22) = true)
    (l22 : K.lookup f22 = some ⟨oc22, od22, .func (PySem.W.fnOf "__eq__" "DaySet.__eq__" (defArgs sDsEq) (defBody sDsEq) (defScope sDsEq) .none kV22 dc22 pm22 an22 cd22 ct22), sl22⟩)
    (c22 : PySem.W.codeIn K cd22 "DaySet.__eq__" = true)
    (k22 : PySem.W.keepIn K (.ref f22) = true)
    (a23 : PySem.W.findIn K (.ref C) "__bool__" = some (some (.ref f23)))
    (i23 : PySem.W.isFn K (.ref f23) = true)
    (l23 : K.lookup f23 = some ⟨oc23, od23, .func (PySem.W.fnOf "__bool__" "DaySet.__bool__" (defArgs sDsBool) (defBody sDsBool) (defScope sDsBool) .none kV23 dc23 pm23 an23 cd23 ct23), sl23⟩)
    (c23 : PySem.W.codeIn K cd23 "DaySet.__bool__" = true)
    (k23 : PySem.W.keepIn K (.ref f23) = true)
    (a24 : PySem.W.findIn K (.ref C) "__contains__" = some (some (.ref f24)))
    (i24 : PySem.W.isFn K (.ref f24) = true)
    (l24 : K.lookup f24 = some ⟨oc24, od24, .func (PySem.W.fnOf "__contains__" "DaySet.__contains__" (defArgs sDsContains) (defBody sDsContains) (defScope sDsContains) .none kV24 dc24 pm24 an24 cd24 ct24), sl24⟩)
    (c24 : PySem.W.codeIn K cd24 "DaySet.__contains__" = true)
    (k24 : PySem.W.keepIn K (.ref f24) = true)
    (a25 : PySem.W.findIn K (.ref C) "__or__" = some (some (.ref f25)))
    (i25 : PySem.W.isFn K (.ref f25) = true)
    (l25 : K.lookup f25 = some ⟨oc25, od25, .func (PySem.W.fnOf "__or__" "DaySet.__or__" (defArgs sDsOr) (defBody sDsOr) (defScope sDsOr) .none kV25 dc25 pm25 an25 cd25 ct25), sl25⟩)
    (c25 : PySem.W.codeIn K cd25 "DaySet.__or__" = true)
    (k25 : PySem.W.keepIn K (.ref f25) = true)
    (a26 : PySem.W.findIn K (.ref C) "__and__" = some (some (.ref f26)))
    (i26 : PySem.W.isFn K (.ref f26) = true)
    (l26 : K.lookup f26 = some ⟨oc26, od26, .func (PySem.W.fnOf "__and__" "DaySet.__and__" (defArgs sDsAnd) (defBody sDsAnd) (defScope sDsAnd) .none kV26 dc26 pm26 an26 cd26 ct26), sl26⟩)
    (c26 : PySem.W.codeIn K cd26 "DaySet.__and__" = true)
    (k26 : PySem.W.keepIn K (.ref f26) = true)
    (a27 : PySem.W.findIn K (.ref C) "__sub__" = some (some (.ref f27)))
    (i27 : PySem.W.isFn K (.ref f27) = true)
    (l27 : K.lookup f27 = some ⟨oc27, od27, .func (PySem.W.fnOf "__sub__" "DaySet.__sub__" (defArgs sDsSub) (defBody sDsSub) (defScope sDsSub) .none kV27 dc27 pm27 an27 cd27 ct27), sl27⟩)
    (c27 : PySem.W.codeIn K cd27 "DaySet.__sub__" = true)
    (k27 : PySem.W.keepIn K (.ref f27) = true)
    (a28 : PySem.W.findIn K (.ref C) "__xor__" = some (some (.ref f28)))
    (i28 : PySem.W.isFn K (.ref f28) = true)
    (l28 : K.lookup f28 = some ⟨oc28, od28, .func (PySem.W.fnOf "__xor__" "DaySet.__xor__" (defArgs sDsXor) (defBody sDsXor) (defScope sDsXor) .none kV28 dc28 pm28 an28 cd28 ct28), sl28⟩)
    (c28 : PySem.W.codeIn K cd28 "DaySet.__xor__" = true)
    (k28 : PySem.W.keepIn K (.ref f28) = true)
    (a29 : PySem.W.findIn K (.ref C) "__invert__" = some (some (.ref f29)))
    (i29 : PySem.W.isFn K (.ref f29) = true)
    (l29 : K.lookup f29 = some ⟨oc29, od29, .func (PySem.W.fnOf "__invert__" "DaySet.__invert__" (defArgs sDsInvert) (defBody sDsInvert) (defScope sDsInvert) .none kV29 dc29 pm29 an29 cd29 ct29), sl29⟩)
    (c29 : PySem.W.codeIn K cd29 "DaySet.__invert__" = true)
    (k29 : PySem.W.keepIn K (.ref f29) = true)
    (a30 : PySem.W.findIn K (.ref C) "_day_at" = some (some (.ref f30)))
    (i30 : PySem.W.isFn K (.ref f30) = true)
    (l30 : K.lookup f30 = some ⟨oc30, od30, .func (PySem.W.fnOf "_day_at" "DaySet._day_at" (defArgs sDsDayAt) (defBody sDsDayAt) (defScope sDsDayAt) .none kV30 dc30 pm30 an30 cd30 ct30), sl30⟩)
    (c30 : PySem.W.codeIn K cd30 "DaySet._day_at" = true)
    (k30 : PySem.W.keepIn K (.ref f30) = true)
    (a31 : PySem.W.findIn K (.ref C) "_count_before" = some (some (.ref f31)))
    (i31 : PySem.W.isFn K (.ref f31) = true)
    (l31 : K.lookup f31 = some ⟨oc31, od31, .func (PySem.W.fnOf "_count_before" "DaySet._count_before" (defArgs sDsCountBefore) (defBody sDsCountBefore) (defScope sDsCountBefore) .none kV31 dc31 pm31 an31 cd31 ct31), sl31⟩)
    (c31 : PySem.W.codeIn K cd31 "DaySet._count_before" = true)
    (k31 : PySem.W.keepIn K (.ref f31) = true)
    (a32 : PySem.W.findIn K (.ref C) "how_many" = some (some (.ref f32)))
    (i32 : PySem.W.isFn K (.ref f32) = true)
    (l32 : K.lookup f32 = some ⟨oc32, od32, .func (PySem.W.fnOf "how_many" "DaySet.how_many" (defArgs sDsHowMany) (defBody sDsHowMany) (defScope sDsHowMany) .none kV32 dc32 pm32 an32 cd32 ct32), sl32⟩)
    (c32 : PySem.W.codeIn K cd32 "DaySet.how_many" = true)
    (k32 : PySem.W.keepIn K (.ref f32) = true)
    (a33 : PySem.W.findIn K (.ref C) "next_from" = some (some (.ref f33)))
    (i33 : PySem.W.isFn K (.ref f33) = true)
    (l33 : K.lookup f33 = some ⟨oc33, od33, .func (PySem.W.fnOf "next_from" "DaySet.next_from" (defArgs sDsNextFrom) (defBody sDsNextFrom) (defScope sDsNextFrom) .none kV33 dc33 pm33 an33 cd33 ct33), sl33⟩)
    (c33 : PySem.W.codeIn K cd33 "DaySet.next_from" = true)
    (k33 : PySem.W.keepIn K (.ref f33) = true)
    (a34 : PySem.W.findIn K (.ref C) "first_beyond" = some (some (.ref f34)))
    (i34 : PySem.W.isFn K (.ref f34) = true)
    (l34 : K.lookup f34 = some ⟨oc34, od34, .func (PySem.W.fnOf "first_beyond" "DaySet.first_beyond" (defArgs sDsFirstBeyond) (defBody sDsFirstBeyond) (defScope sDsFirstBeyond) .none kV34 dc34 pm34 an34 cd34 ct34), sl34⟩)
    (c34 : PySem.W.codeIn K cd34 "DaySet.first_beyond" = true)
    (k34 : PySem.W.keepIn K (.ref f34) = true)
    (a35 : PySem.W.findIn K (.ref C) "within" = some (some (.ref f35)))
    (i35 : PySem.W.isFn K (.ref f35) = true)
    (l35 : K.lookup f35 = some ⟨oc35, od35, .func (PySem.W.fnOf "within" "DaySet.within" (defArgs sDsWithin) (defBody sDsWithin) (defScope sDsWithin) .none kV35 dc35 pm35 an35 cd35 ct35), sl35⟩)
    (c35 : PySem.W.codeIn K cd35 "DaySet.within" = true)
    (k35 : PySem.W.keepIn K (.ref f35) = true)
    (a36 : PySem.W.findIn K (.ref C) "first_unlike" = some (some (.ref f36)))
    (i36 : PySem.W.isFn K (.ref f36) = true)
    (l36 : K.lookup f36 = some ⟨oc36, od36, .func (PySem.W.fnOf "first_unlike" "DaySet.first_unlike" (defArgs sDsFirstUnlike) (defBody sDsFirstUnlike) (defScope sDsFirstUnlike) .none kV36 dc36 pm36 an36 cd36 ct36), sl36⟩)
    (c36 : PySem.W.codeIn K cd36 "DaySet.first_unlike" = true)
    (k36 : PySem.W.keepIn K (.ref f36) = true)
    (a37 : PySem.W.findIn K (.ref C) "shifted" = some (some (.ref f37)))
    (i37 : PySem.W.isFn K (.ref f37) = true)
    (l37 : K.lookup f37 = some ⟨oc37, od37, .func (PySem.W.fnOf "shifted" "DaySet.shifted" (defArgs sDsShifted) (defBody sDsShifted) (defScope sDsShifted) .none kV37 dc37 pm37 an37 cd37 ct37), sl37⟩)
    (c37 : PySem.W.codeIn K cd37 "DaySet.shifted" = true)
    (k37 : PySem.W.keepIn K (.ref f37) = true)
    (a38 : PySem.W.findCls K (.ref C) (.type "type") "span" = some (PySem.W.CFound.get (.builtin "classmethod.__get__") (.ref p38) .none (.ref C)))
    (r38c : PySem.W.recIn K p38 "classmethod" = some (.ref f38 :: r38))
    (i38 : PySem.W.fnIn K f38 = true)
    (l38 : K.lookup f38 = some ⟨oc38, od38, .func (PySem.W.fnOf "span" "DaySet.span" (defArgs sDsSpan) (defBody sDsSpan) (defScope sDsSpan) (.ref T38) kV38 dc38 pm38 an38 cd38 ct38), sl38⟩)
    (c38 : PySem.W.codeIn K cd38 "DaySet.span" = true)
    (k38 : PySem.W.keepIn K (.ref f38) = true)
    (lT38 : K.lookup T38 = some ⟨oT38, dT38, .seq #[.none] nT38, sT38⟩)
    (a39 : PySem.W.findIn K (.ref C) "each" = some (some (.ref f39)))
    (i39 : PySem.W.isFn K (.ref f39) = true)
    (l39 : K.lookup f39 = some ⟨oc39, od39, .func (PySem.W.fnOf "each" "DaySet.each" (defArgs sDsEach) (defBody sDsEach) (defScope sDsEach) (.ref T39) kV39 dc39 pm39 an39 cd39 ct39), sl39⟩)
    (c39 : PySem.W.codeIn K cd39 "DaySet.each" = true)
    (k39 : PySem.W.keepIn K (.ref f39) = true)
    (lT39 : K.lookup T39 = some ⟨oT39, dT39, .seq #[.int 0 uD39] nT39, sT39⟩)
    (a40 : PySem.W.findCls K (.ref C) (.type "type") "pattern" = some (PySem.W.CFound.get (.builtin "classmethod.__get__") (.ref p40) .none (.ref C)))
    (r40c : PySem.W.recIn K p40 "classmethod" = some (.ref f40 :: r40))
    (i40 : PySem.W.fnIn K f40 = true)
    (l40 : K.lookup f40 = some ⟨oc40, od40, .func (PySem.W.fnOf "pattern" "DaySet.pattern" (defArgs sDsPattern) (defBody sDsPattern) (defScope sDsPattern) .none kV40 dc40 pm40 an40 cd40 ct40), sl40⟩)
    (c40 : PySem.W.codeIn K cd40 "DaySet.pattern" = true)
    (k40 : PySem.W.keepIn K (.ref f40) = true)
    (a41 : PySem.W.nsIn K mainGlobals "is_day_list" = some (some (.ref f41)))
    (l41 : K.lookup f41 = some ⟨oc41, od41, .func (PySem.W.fnOf "is_day_list" "is_day_list" (defArgs sIsDayList) (defBody sIsDayList) (defScope sIsDayList) .none kV41 dc41 pm41 an41 cd41 ct41), sl41⟩)
    (c41 : PySem.W.codeIn K cd41 "is_day_list" = true)
    (k41 : PySem.W.keepIn K (.ref f41) = true)
    (a42 : PySem.W.findCls K (.ref C) (.type "type") "of" = some (PySem.W.CFound.get (.builtin "classmethod.__get__") (.ref p42) .none (.ref C)))
    (r42c : PySem.W.recIn K p42 "classmethod" = some (.ref f42 :: r42))
    (i42 : PySem.W.fnIn K f42 = true)
    (l42 : K.lookup f42 = some ⟨oc42, od42, .func (PySem.W.fnOf "of" "DaySet.of" (defArgs sDsOf) (defBody sDsOf) (defScope sDsOf) .none kV42 dc42 pm42 an42 cd42 ct42), sl42⟩)
    (c42 : PySem.W.codeIn K cd42 "DaySet.of" = true)
    (k42 : PySem.W.keepIn K (.ref f42) = true)
    (a43 : PySem.W.findCls K (.ref C) (.type "type") "every" = some (PySem.W.CFound.get (.builtin "classmethod.__get__") (.ref p43) .none (.ref C)))
    (r43c : PySem.W.recIn K p43 "classmethod" = some (.ref f43 :: r43))
    (i43 : PySem.W.fnIn K f43 = true)
    (l43 : K.lookup f43 = some ⟨oc43, od43, .func (PySem.W.fnOf "every" "DaySet.every" (defArgs sDsEvery) (defBody sDsEvery) (defScope sDsEvery) (.ref T43) kV43 dc43 pm43 an43 cd43 ct43), sl43⟩)
    (c43 : PySem.W.codeIn K cd43 "DaySet.every" = true)
    (k43 : PySem.W.keepIn K (.ref f43) = true)
    (lT43 : K.lookup T43 = some ⟨oT43, dT43, .seq #[.int 0 uD43] nT43, sT43⟩)
    (a44 : PySem.W.nsIn K mainGlobals "followers" = some (some (.ref f44)))
    (l44 : K.lookup f44 = some ⟨oc44, od44, .func (PySem.W.fnOf "followers" "followers" (defArgs sFollowers) (defBody sFollowers) (defScope sFollowers) .none kV44 dc44 pm44 an44 cd44 ct44), sl44⟩)
    (c44 : PySem.W.codeIn K cd44 "followers" = true)
    (k44 : PySem.W.keepIn K (.ref f44) = true)
    (a45 : PySem.W.findIn K (.ref C) "following" = some (some (.ref f45)))
    (i45 : PySem.W.isFn K (.ref f45) = true)
    (l45 : K.lookup f45 = some ⟨oc45, od45, .func (PySem.W.fnOf "following" "DaySet.following" (defArgs sDsFollowing) (defBody sDsFollowing) (defScope sDsFollowing) .none kV45 dc45 pm45 an45 cd45 ct45), sl45⟩)
    (c45 : PySem.W.codeIn K cd45 "DaySet.following" = true)
    (k45 : PySem.W.keepIn K (.ref f45) = true)
    (a46 : PySem.W.nsIn K mainGlobals "_law_begun" = some (some (.ref f46)))
    (l46 : K.lookup f46 = some ⟨oc46, od46, .func (PySem.W.fnOf "_law_begun" "_law_begun" (defArgs sLawBegun) (defBody sLawBegun) (defScope sLawBegun) .none kV46 dc46 pm46 an46 cd46 ct46), sl46⟩)
    (c46 : PySem.W.codeIn K cd46 "_law_begun" = true)
    (k46 : PySem.W.keepIn K (.ref f46) = true)
    (a47 : PySem.W.nsIn K mainGlobals "_law_mixed" = some (some (.ref f47)))
    (l47 : K.lookup f47 = some ⟨oc47, od47, .func (PySem.W.fnOf "_law_mixed" "_law_mixed" (defArgs sLawMixed) (defBody sLawMixed) (defScope sLawMixed) .none kV47 dc47 pm47 an47 cd47 ct47), sl47⟩)
    (c47 : PySem.W.codeIn K cd47 "_law_mixed" = true)
    (k47 : PySem.W.keepIn K (.ref f47) = true)
    (a48 : PySem.W.nsIn K mainGlobals "_law_take" = some (some (.ref f48)))
    (l48 : K.lookup f48 = some ⟨oc48, od48, .func (PySem.W.fnOf "_law_take" "_law_take" (defArgs sLawTake) (defBody sLawTake) (defScope sLawTake) .none kV48 dc48 pm48 an48 cd48 ct48), sl48⟩)
    (c48 : PySem.W.codeIn K cd48 "_law_take" = true)
    (k48 : PySem.W.keepIn K (.ref f48) = true)
    (a49 : PySem.W.nsIn K mainGlobals "_law_truths" = some (some (.ref f49)))
    (l49 : K.lookup f49 = some ⟨oc49, od49, .func (PySem.W.fnOf "_law_truths" "_law_truths" (defArgs sLawTruths) (defBody sLawTruths) (defScope sLawTruths) .none kV49 dc49 pm49 an49 cd49 ct49), sl49⟩)
    (c49 : PySem.W.codeIn K cd49 "_law_truths" = true)
    (k49 : PySem.W.keepIn K (.ref f49) = true)
    (a50 : PySem.W.nsIn K mainGlobals "_law_set" = some (some (.ref f50)))
    (l50 : K.lookup f50 = some ⟨oc50, od50, .func (PySem.W.fnOf "_law_set" "_law_set" (defArgs sLawSet) (defBody sLawSet) (defScope sLawSet) .none kV50 dc50 pm50 an50 cd50 ct50), sl50⟩)
    (c50 : PySem.W.codeIn K cd50 "_law_set" = true)
    (k50 : PySem.W.keepIn K (.ref f50) = true)
    (a51 : PySem.W.nsIn K mainGlobals "_law_told" = some (some (.ref f51)))
    (l51 : K.lookup f51 = some ⟨oc51, od51, .func (PySem.W.fnOf "_law_told" "_law_told" (defArgs sLawTold) (defBody sLawTold) (defScope sLawTold) .none kV51 dc51 pm51 an51 cd51 ct51), sl51⟩)
    (c51 : PySem.W.codeIn K cd51 "_law_told" = true)
    (k51 : PySem.W.keepIn K (.ref f51) = true)
    (a52 : PySem.W.nsIn K mainGlobals "_law_pattern" = some (some (.ref f52)))
    (l52 : K.lookup f52 = some ⟨oc52, od52, .func (PySem.W.fnOf "_law_pattern" "_law_pattern" (defArgs sLawPattern) (defBody sLawPattern) (defScope sLawPattern) .none kV52 dc52 pm52 an52 cd52 ct52), sl52⟩)
    (c52 : PySem.W.codeIn K cd52 "_law_pattern" = true)
    (k52 : PySem.W.keepIn K (.ref f52) = true)
    (a53 : PySem.W.nsIn K mainGlobals "_law_makings" = some (some (.ref f53)))
    (l53 : K.lookup f53 = some ⟨oc53, od53, .func (PySem.W.fnOf "_law_makings" "_law_makings" (defArgs sLawMakings) (defBody sLawMakings) (defScope sLawMakings) .none kV53 dc53 pm53 an53 cd53 ct53), sl53⟩)
    (c53 : PySem.W.codeIn K cd53 "_law_makings" = true)
    (k53 : PySem.W.keepIn K (.ref f53) = true)
    (a54 : PySem.W.nsIn K mainGlobals "_law_alike" = some (some (.ref f54)))
    (l54 : K.lookup f54 = some ⟨oc54, od54, .func (PySem.W.fnOf "_law_alike" "_law_alike" (defArgs sLawAlike) (defBody sLawAlike) (defScope sLawAlike) .none kV54 dc54 pm54 an54 cd54 ct54), sl54⟩)
    (c54 : PySem.W.codeIn K cd54 "_law_alike" = true)
    (k54 : PySem.W.keepIn K (.ref f54) = true)
    (a55 : PySem.W.nsIn K mainGlobals "law" = some (some (.ref f55)))
    (l55 : K.lookup f55 = some ⟨oc55, od55, .func (PySem.W.fnOf "law" "law" (defArgs sLaw) (defBody sLaw) (defScope sLaw) .none kV55 dc55 pm55 an55 cd55 ct55), sl55⟩)
    (c55 : PySem.W.codeIn K cd55 "law" = true)
    (k55 : PySem.W.keepIn K (.ref f55) = true)
    (z_abs : PySem.W.nsIn K mainGlobals "abs" = some none)
    (z_int : PySem.W.nsIn K mainGlobals "int" = some none)
    (z_bool : PySem.W.nsIn K mainGlobals "bool" = some none)
    (z_isinstance : PySem.W.nsIn K mainGlobals "isinstance" = some none)
    (z_sum : PySem.W.nsIn K mainGlobals "sum" = some none)
    (z_divmod : PySem.W.nsIn K mainGlobals "divmod" = some none)
    (z_min : PySem.W.nsIn K mainGlobals "min" = some none)
    (z_max : PySem.W.nsIn K mainGlobals "max" = some none)
    (z_len : PySem.W.nsIn K mainGlobals "len" = some none)
    (z_range : PySem.W.nsIn K mainGlobals "range" = some none)
    (z_sorted : PySem.W.nsIn K mainGlobals "sorted" = some none)
    (z_set : PySem.W.nsIn K mainGlobals "set" = some none)
    (z_list : PySem.W.nsIn K mainGlobals "list" = some none)
    (z_tuple : PySem.W.nsIn K mainGlobals "tuple" = some none)
    (z_all : PySem.W.nsIn K mainGlobals "all" = some none)
    (z_enumerate : PySem.W.nsIn K mainGlobals "enumerate" = some none)
    (z_zip : PySem.W.nsIn K mainGlobals "zip" = some none)
    (neC : PySem.W.findIn K (.ref C) "__ne__" = some (some (.builtin "object.__ne__")))
    : ∃ fd : FuncData, (∀ (s : Shared) (v : Value), BindsTo s fd ⟨[v], []⟩ [("script", v)]) ∧ ∀ base : Heap, K.In base → base.Ns mainGlobals mg → FnG l.prog w K mg base CX0 9 fa fd ["script"] (spLaw K) := by
  have e := hfa.symm.trans (PySem.W.mg_of X G a55)
  cases e
  refine ⟨PySem.W.fnOf "law" "law" (defArgs sLaw) (defBody sLaw) (defScope sLaw) .none kV55 dc55 pm55 an55 cd55 ct55, fun s v => .of_eq rfl, fun base _ _ => ?_⟩
  have T : Nm mg := { abs := PySem.W.mg_none_of X G z_abs, int := PySem.W.mg_none_of X G z_int, bool := PySem.W.mg_none_of X G z_bool, isinstance := PySem.W.mg_none_of X G z_isinstance, sum := PySem.W.mg_none_of X G z_sum, divmod := PySem.W.mg_none_of X G z_divmod, min := PySem.W.mg_none_of X G z_min, max := PySem.W.mg_none_of X G z_max, len := PySem.W.mg_none_of X G z_len, range := PySem.W.mg_none_of X G z_range, sorted := PySem.W.mg_none_of X G z_sorted, set := PySem.W.mg_none_of X G z_set, list := PySem.W.mg_none_of X G z_list, tuple := PySem.W.mg_none_of X G z_tuple, all := PySem.W.mg_none_of X G z_all, enumerate := PySem.W.mg_none_of X G z_enumerate, zip := PySem.W.mg_none_of X G z_zip, lcm := PySem.W.mg_of X G aL, gcd := PySem.W.mg_of X G aG }
  have T2 : Txd K mg C := ⟨⟨pgC, hdC, poC, saC⟩, noP, noS, noH, noC, PySem.W.mg_of X G aC, sfC, nfC, haC, hnC, htC, hmC, kit_self⟩
  have NE : HasNe K C := ⟨neC, hmC⟩
  have F_place_of := fun_mk (st := sPlaceOf) l0 c0 k0
  have b_place_of := F_place_of.binds (ps := ["days", "bound"]) fun _ _ _ _ _ _ us hl => match us, hl with | [_, _], _ => rfl
  have G_place_of : FnOk l.prog w K mg base CX0 1 f0 _ ["days", "bound"] (spPlaceOf K) := ok_place_of F_place_of T
  have D_place_of : Df l.prog w K mg base 1 "place_of" ["days", "bound"] [] (spPlaceOf K) := ⟨⟨_, _, [], G_place_of, PySem.W.mg_of X G a0, k0, .nil, b_place_of⟩⟩
  have F_cycle_day := fun_mk (st := sCycleDay) l1 c1 k1
  have b_cycle_day := F_cycle_day.binds (ps := ["period", "cycle", "number"]) fun _ _ _ _ _ _ us hl => match us, hl with | [_, _, _], _ => rfl
  have G_cycle_day : FnOk l.prog w K mg base CX0 1 f1 _ ["period", "cycle", "number"] (spCycleDay K) := ok_cycle_day F_cycle_day T
  have D_cycle_day : Df l.prog w K mg base 1 "cycle_day" ["period", "cycle", "number"] [] (spCycleDay K) := ⟨⟨_, _, [], G_cycle_day, PySem.W.mg_of X G a1, k1, .nil, b_cycle_day⟩⟩
  have F_primes_of := fun_mk (st := sPrimesOf) l2 c2 k2
  have b_primes_of := F_primes_of.binds (ps := ["number"]) fun _ _ _ _ _ _ us hl => match us, hl with | [_], _ => rfl
  have G_primes_of : FnOk l.prog w K mg base CX0 1 f2 _ ["number"] spPrimesOf := ok_primes_of F_primes_of T
  have D_primes_of : Df l.prog w K mg base 1 "primes_of" ["number"] [] spPrimesOf := ⟨⟨_, _, [], G_primes_of, PySem.W.mg_of X G a2, k2, .nil, b_primes_of⟩⟩
  have F_repeats := fun_mk (st := sRepeats) l3 c3 k3
  have b_repeats := F_repeats.binds (ps := ["period", "cycle", "parts"]) fun _ _ _ _ _ _ us hl => match us, hl with | [_, _, _], _ => rfl
  have G_repeats : FnOk l.prog w K mg base CX0 1 f3 _ ["period", "cycle", "parts"] (spRepeats K) := ok_repeats F_repeats T
  have D_repeats : Df l.prog w K mg base 1 "repeats" ["period", "cycle", "parts"] [] (spRepeats K) := ⟨⟨_, _, [], G_repeats, PySem.W.mg_of X G a3, k3, .nil, b_repeats⟩⟩
  have F_least_period := fun_mk (st := sLeastPeriod) l4 c4 k4
  have b_least_period := F_least_period.binds (ps := ["period", "cycle"]) fun _ _ _ _ _ _ us hl => match us, hl with | [_, _], _ => rfl
  have G_least_period : FnOk l.prog w K mg base CX0 2 f4 _ ["period", "cycle"] (spLeastPeriod K) := ok_least_period F_least_period T D_primes_of D_repeats
  have D_least_period : Df l.prog w K mg base 2 "least_period" ["period", "cycle"] [] (spLeastPeriod K) := ⟨⟨_, _, [], G_least_period, PySem.W.mg_of X G a4, k4, .nil, b_least_period⟩⟩
  have F_least_start := fun_mk (st := sLeastStart) l5 c5 k5
  have b_least_start := F_least_start.binds (ps := ["period", "head", "cycle"]) fun _ _ _ _ _ _ us hl => match us, hl with | [_, _, _], _ => rfl
  have G_least_start : FnOk l.prog w K mg base CX0 2 f5 _ ["period", "head", "cycle"] (spLeastStart K) := ok_least_start F_least_start T D_cycle_day
  have D_least_start : Df l.prog w K mg base 2 "least_start" ["period", "head", "cycle"] [] (spLeastStart K) := ⟨⟨_, _, [], G_least_start, PySem.W.mg_of X G a5, k5, .nil, b_least_start⟩⟩
  have F_in_either := fun_mk (st := sInEither) l6 c6 k6
  have b_in_either := F_in_either.binds (ps := ["days", "others"]) fun _ _ _ _ _ _ us hl => match us, hl with | [_, _], _ => rfl
  have G_in_either : FnOk l.prog w K mg base CX0 1 f6 _ ["days", "others"] spInEither := ok_in_either F_in_either T
  have D_in_either : Df l.prog w K mg base 1 "in_either" ["days", "others"] [] spInEither := ⟨⟨_, _, [], G_in_either, PySem.W.mg_of X G a6, k6, .nil, b_in_either⟩⟩
  have F_in_both := fun_mk (st := sInBoth) l7 c7 k7
  have b_in_both := F_in_both.binds (ps := ["days", "others"]) fun _ _ _ _ _ _ us hl => match us, hl with | [_, _], _ => rfl
  have G_in_both : FnOk l.prog w K mg base CX0 1 f7 _ ["days", "others"] (spInBoth K) := ok_in_both F_in_both T
  have D_in_both : Df l.prog w K mg base 1 "in_both" ["days", "others"] [] (spInBoth K) := ⟨⟨_, _, [], G_in_both, PySem.W.mg_of X G a7, k7, .nil, b_in_both⟩⟩
  have F_in_first := fun_mk (st := sInFirst) l8 c8 k8
  have b_in_first := F_in_first.binds (ps := ["days", "others"]) fun _ _ _ _ _ _ us hl => match us, hl with | [_, _], _ => rfl
  have G_in_first : FnOk l.prog w K mg base CX0 1 f8 _ ["days", "others"] (spInFirst K) := ok_in_first F_in_first T
  have D_in_first : Df l.prog w K mg base 1 "in_first" ["days", "others"] [] (spInFirst K) := ⟨⟨_, _, [], G_in_first, PySem.W.mg_of X G a8, k8, .nil, b_in_first⟩⟩
  have F_in_one := fun_mk (st := sInOne) l9 c9 k9
  have b_in_one := F_in_one.binds (ps := ["days", "others"]) fun _ _ _ _ _ _ us hl => match us, hl with | [_, _], _ => rfl
  have G_in_one : FnOk l.prog w K mg base CX0 2 f9 _ ["days", "others"] (spInOne K) := ok_in_one F_in_one D_in_either D_in_first
  have D_in_one : Df l.prog w K mg base 2 "in_one" ["days", "others"] [] (spInOne K) := ⟨⟨_, _, [], G_in_one, PySem.W.mg_of X G a9, k9, .nil, b_in_one⟩⟩
  have F_is_number := fun_mk (st := sIsNumber) l10 c10 k10
  have b_is_number := F_is_number.binds (ps := ["value"]) fun _ _ _ _ _ _ us hl => match us, hl with | [_], _ => rfl
  have G_is_number : FnOk l.prog w K mg base CX0 1 f10 _ ["value"] spIsNum := ok_isnum F_is_number T
  have D_is_number : Df l.prog w K mg base 1 "is_number" ["value"] [] spIsNum := ⟨⟨_, _, [], G_is_number, PySem.W.mg_of X G a10, k10, .nil, b_is_number⟩⟩
  have F_check_number : FunD K "check_number" "check_number" (defArgs sCheckNumber) (defBody sCheckNumber) (defScope sCheckNumber) [.non] [] f11 _ := ⟨⟨_, _, _, _, _, _, _, _, _, _, rfl, l11, c11, .inr ⟨by simp, _, _, [.none], _, rfl, lT11, rfl, .cons rfl .nil⟩, .inl rfl⟩, k11⟩
  obtain ⟨ds11, v11, b11⟩ := F_check_number.binds1 (ps := ["value", "least"]) 1 0 (by simp) (by rfl) (fun T kV doc pm an cdv ct us its h1 h2 => match us, its, h1, h2 with | [_], [_], _, _ => ⟨_, rfl, rfl⟩)
  have D_check_number : Df l.prog w K mg base 2 "check_number" ["value", "least"] [.non] spCheck := ⟨⟨_, _, ds11, ok_check F_check_number D_is_number, PySem.W.mg_of X G a11, k11, v11, b11⟩⟩
  obtain ⟨dz11, w11, y11⟩ := F_check_number.binds1 (ps := ["value", "least"]) 2 1 (by simp) (by rfl) (fun T kV doc pm an cdv ct us its h1 h2 => match us, its, h1, h2 with | [_, _], [_], _, _ => ⟨_, rfl, rfl⟩)
  have D_check_number2 : Df l.prog w K mg base 2 "check_number" ["value", "least"] [] spCheckL := ⟨⟨_, _, dz11, ok_checkL F_check_number D_is_number, PySem.W.mg_of X G a11, k11, w11, y11⟩⟩
  have F_is_truth_list := fun_mk (st := sIsTruthList) l12 c12 k12
  have b_is_truth_list := F_is_truth_list.binds (ps := ["value"]) fun _ _ _ _ _ _ us hl => match us, hl with | [_], _ => rfl
  have G_is_truth_list : FnOk l.prog w K mg base CX0 1 f12 _ ["value"] (spTruthList K) := ok_is_truth_list F_is_truth_list T
  have D_is_truth_list : Df l.prog w K mg base 1 "is_truth_list" ["value"] [] (spTruthList K) := ⟨⟨_, _, [], G_is_truth_list, PySem.W.mg_of X G a12, k12, .nil, b_is_truth_list⟩⟩
  have F_init := fun_mk (st := sDsInit) l13 c13 k13
  have b_init := F_init.binds (ps := ["self", "start", "period", "days"]) fun _ _ _ _ _ _ us hl => match us, hl with | [_, _, _, _], _ => rfl
  have G_init : FnOk l.prog w K mg base CX0 3 f13 _ ["self", "start", "period", "days"] (spInit K C) := ok_init F_init T2 D_place_of D_least_period D_least_start
  have D_init : Dmk l.prog w K mg base 3 C ["self", "start", "period", "days"] (spInit K C) := ⟨⟨_, _, G_init, ⟨mkC, a13, i13, kpC⟩, b_init⟩⟩
  have F_start := fun_mk (st := sDsStart) l14 c14 k14
  have b_start := F_start.binds (ps := ["self"]) fun _ _ _ _ _ _ us hl => match us, hl with | [_], _ => rfl
  have G_start : FnOk l.prog w K mg base CX0 1 f14 _ ["self"] (spStart K C) := ok_start F_start T2
  have D_start : Dpr l.prog w K mg base 1 C "start" (spStart K C) := ⟨⟨_, _, _, G_start, ⟨a14, g14, t14, ⟨_, r14c⟩⟩, b_start⟩⟩
  have F_period := fun_mk (st := sDsPeriod) l15 c15 k15
  have b_period := F_period.binds (ps := ["self"]) fun _ _ _ _ _ _ us hl => match us, hl with | [_], _ => rfl
  have G_period : FnOk l.prog w K mg base CX0 1 f15 _ ["self"] (spPeriod K C) := ok_period F_period T2
  have D_period : Dpr l.prog w K mg base 1 C "period" (spPeriod K C) := ⟨⟨_, _, _, G_period, ⟨a15, g15, t15, ⟨_, r15c⟩⟩, b_period⟩⟩
  have F_head := fun_mk (st := sDsHead) l16 c16 k16
  have b_head := F_head.binds (ps := ["self"]) fun _ _ _ _ _ _ us hl => match us, hl with | [_], _ => rfl
  have G_head : FnOk l.prog w K mg base CX0 1 f16 _ ["self"] (spHeadP K C) := ok_head F_head T T2
  have D_head : Dpr l.prog w K mg base 1 C "head" (spHeadP K C) := ⟨⟨_, _, _, G_head, ⟨a16, g16, t16, ⟨_, r16c⟩⟩, b_head⟩⟩
  have F_cycle := fun_mk (st := sDsCycle) l17 c17 k17
  have b_cycle := F_cycle.binds (ps := ["self"]) fun _ _ _ _ _ _ us hl => match us, hl with | [_], _ => rfl
  have G_cycle : FnOk l.prog w K mg base CX0 1 f17 _ ["self"] (spCycleP K C) := ok_cycle F_cycle T T2
  have D_cycle : Dpr l.prog w K mg base 1 C "cycle" (spCycleP K C) := ⟨⟨_, _, _, G_cycle, ⟨a17, g17, t17, ⟨_, r17c⟩⟩, b_cycle⟩⟩
  have F_is_finite := fun_mk (st := sDsIsFinite) l18 c18 k18
  have b_is_finite := F_is_finite.binds (ps := ["self"]) fun _ _ _ _ _ _ us hl => match us, hl with | [_], _ => rfl
  have G_is_finite : FnOk l.prog w K mg base CX0 1 f18 _ ["self"] (spFinite K C) := ok_is_finite F_is_finite T2
  have D_is_finite : Dpr l.prog w K mg base 1 C "is_finite" (spFinite K C) := ⟨⟨_, _, _, G_is_finite, ⟨a18, g18, t18, ⟨_, r18c⟩⟩, b_is_finite⟩⟩
  have F_common_frame := fun_mk (st := sCommonFrame) l19 c19 k19
  have b_common_frame := F_common_frame.binds (ps := ["one", "other"]) fun _ _ _ _ _ _ us hl => match us, hl with | [_, _], _ => rfl
  have G_common_frame : FnOk l.prog w K mg base CX0 3 f19 _ ["one", "other"] (spCommonFrame K C) := ok_common_frame F_common_frame T T2 D_start D_period
  have D_common_frame : Df l.prog w K mg base 3 "common_frame" ["one", "other"] [] (spCommonFrame K C) := ⟨⟨_, _, [], G_common_frame, PySem.W.mg_of X G a19, k19, .nil, b_common_frame⟩⟩
  have F_listed := fun_mk (st := sDsListed) l20 c20 k20
  have b_listed := F_listed.binds (ps := ["self", "low", "high"]) fun _ _ _ _ _ _ us hl => match us, hl with | [_, _, _], _ => rfl
  have G_listed : FnOk l.prog w K mg base CX0 2 f20 _ ["self", "low", "high"] (spListed K C) := ok_listed F_listed T T2 D_place_of
  have D_listed : Dm l.prog w K mg base 2 C "_listed" ["self", "low", "high"] (spListed K C) := ⟨⟨_, _, G_listed, ⟨a20, i20, k20⟩, b_listed⟩⟩
  have F_among := fun_mk (st := sDsAmong) l21 c21 k21
  have b_among := F_among.binds (ps := ["self", "days"]) fun _ _ _ _ _ _ us hl => match us, hl with | [_, _], _ => rfl
  have G_among : FnOk l.prog w K mg base CX0 2 f21 _ ["self", "days"] (spAmong K C) := ok_among F_among T T2 D_place_of D_in_both
  have D_among : Dm l.prog w K mg base 2 C "_among" ["self", "days"] (spAmong K C) := ⟨⟨_, _, G_among, ⟨a21, i21, k21⟩, b_among⟩⟩
  have F_eq := fun_mk (st := sDsEq) l22 c22 k22
  have b_eq := F_eq.binds (ps := ["self", "other"]) fun _ _ _ _ _ _ us hl => match us, hl with | [_, _], _ => rfl
  have G_eq : FnOk l.prog w K mg base CX0 1 f22 _ ["self", "other"] (spEq K C) := ok_eq F_eq T T2
  have D_eq : Dow l.prog w K mg base 1 C "__eq__" ["self", "other"] (spEq K C) := ⟨⟨_, _, G_eq, ⟨a22, i22⟩, b_eq⟩⟩
  have F_bool := fun_mk (st := sDsBool) l23 c23 k23
  have b_bool := F_bool.binds (ps := ["self"]) fun _ _ _ _ _ _ us hl => match us, hl with | [_], _ => rfl
  have G_bool : FnOk l.prog w K mg base CX0 1 f23 _ ["self"] (spBool K C) := ok_bool F_bool T T2
  have D_bool : Dow l.prog w K mg base 1 C "__bool__" ["self"] (spBool K C) := ⟨⟨_, _, G_bool, ⟨a23, i23⟩, b_bool⟩⟩
  have F_contains := fun_mk (st := sDsContains) l24 c24 k24
  have b_contains := F_contains.binds (ps := ["self", "day"]) fun _ _ _ _ _ _ us hl => match us, hl with | [_, _], _ => rfl
  have G_contains : FnOk l.prog w K mg base CX0 2 f24 _ ["self", "day"] (spContains K C) := ok_contains F_contains T T2 D_is_number D_place_of
  have D_contains : Dow l.prog w K mg base 2 C "__contains__" ["self", "day"] (spContains K C) := ⟨⟨_, _, G_contains, ⟨a24, i24⟩, b_contains⟩⟩
  have F_or := fun_mk (st := sDsOr) l25 c25 k25
  have b_or := F_or.binds (ps := ["self", "other"]) fun _ _ _ _ _ _ us hl => match us, hl with | [_, _], _ => rfl
  have G_or : FnOk l.prog w K mg base CX0 5 f25 _ ["self", "other"] (spBin K C fun a b => a || b) := ok_or F_or T T2 D_common_frame D_listed D_in_either D_init
  have D_or : Dow l.prog w K mg base 5 C "__or__" ["self", "other"] (spBin K C fun a b => a || b) := ⟨⟨_, _, G_or, ⟨a25, i25⟩, b_or⟩⟩
  have F_and := fun_mk (st := sDsAnd) l26 c26 k26
  have b_and := F_and.binds (ps := ["self", "other"]) fun _ _ _ _ _ _ us hl => match us, hl with | [_, _], _ => rfl
  have G_and : FnOk l.prog w K mg base CX0 5 f26 _ ["self", "other"] (spBin K C fun a b => a && b) := ok_and F_and T T2 D_common_frame D_listed D_is_finite D_among D_in_both D_init
  have D_and : Dow l.prog w K mg base 5 C "__and__" ["self", "other"] (spBin K C fun a b => a && b) := ⟨⟨_, _, G_and, ⟨a26, i26⟩, b_and⟩⟩
  have F_sub := fun_mk (st := sDsSub) l27 c27 k27
  have b_sub := F_sub.binds (ps := ["self", "other"]) fun _ _ _ _ _ _ us hl => match us, hl with | [_, _], _ => rfl
  have G_sub : FnOk l.prog w K mg base CX0 5 f27 _ ["self", "other"] (spBin K C fun a b => a && !b) := ok_sub F_sub T T2 D_common_frame D_listed D_is_finite D_among D_in_first D_init
  have D_sub : Dow l.prog w K mg base 5 C "__sub__" ["self", "other"] (spBin K C fun a b => a && !b) := ⟨⟨_, _, G_sub, ⟨a27, i27⟩, b_sub⟩⟩
  have F_xor := fun_mk (st := sDsXor) l28 c28 k28
  have b_xor := F_xor.binds (ps := ["self", "other"]) fun _ _ _ _ _ _ us hl => match us, hl with | [_, _], _ => rfl
  have G_xor : FnOk l.prog w K mg base CX0 5 f28 _ ["self", "other"] (spBin K C fun a b => a != b) := ok_xor F_xor T T2 D_common_frame D_listed D_in_one D_init
  have D_xor : Dow l.prog w K mg base 5 C "__xor__" ["self", "other"] (spBin K C fun a b => a != b) := ⟨⟨_, _, G_xor, ⟨a28, i28⟩, b_xor⟩⟩
  have F_invert := fun_mk (st := sDsInvert) l29 c29 k29
  have b_invert := F_invert.binds (ps := ["self"]) fun _ _ _ _ _ _ us hl => match us, hl with | [_], _ => rfl
  have G_invert : FnOk l.prog w K mg base CX0 5 f29 _ ["self"] (spInvert K C) := ok_invert F_invert T T2 D_listed D_in_first D_init
  have D_invert : Dow l.prog w K mg base 5 C "__invert__" ["self"] (spInvert K C) := ⟨⟨_, _, G_invert, ⟨a29, i29⟩, b_invert⟩⟩
  have F_day_at := fun_mk (st := sDsDayAt) l30 c30 k30
  have b_day_at := F_day_at.binds (ps := ["self", "number"]) fun _ _ _ _ _ _ us hl => match us, hl with | [_, _], _ => rfl
  have G_day_at : FnOk l.prog w K mg base CX0 2 f30 _ ["self", "number"] (spDayAt K C) := ok_day_at F_day_at T T2 D_cycle_day
  have D_day_at : Dm l.prog w K mg base 2 C "_day_at" ["self", "number"] (spDayAt K C) := ⟨⟨_, _, G_day_at, ⟨a30, i30, k30⟩, b_day_at⟩⟩
  have F_count_before := fun_mk (st := sDsCountBefore) l31 c31 k31
  have b_count_before := F_count_before.binds (ps := ["self", "day"]) fun _ _ _ _ _ _ us hl => match us, hl with | [_, _], _ => rfl
  have G_count_before : FnOk l.prog w K mg base CX0 2 f31 _ ["self", "day"] (spCountBefore K C) := ok_count_before F_count_before T T2 D_place_of
  have D_count_before : Dm l.prog w K mg base 2 C "_count_before" ["self", "day"] (spCountBefore K C) := ⟨⟨_, _, G_count_before, ⟨a31, i31, k31⟩, b_count_before⟩⟩
  have F_how_many := fun_mk (st := sDsHowMany) l32 c32 k32
  have b_how_many := F_how_many.binds (ps := ["self", "low", "high"]) fun _ _ _ _ _ _ us hl => match us, hl with | [_, _, _], _ => rfl
  have G_how_many : FnOk l.prog w K mg base CX0 3 f32 _ ["self", "low", "high"] (spHow K C) := ok_how_many F_how_many T T2 D_check_number D_count_before
  have D_how_many : Dm l.prog w K mg base 3 C "how_many" ["self", "low", "high"] (spHow K C) := ⟨⟨_, _, G_how_many, ⟨a32, i32, k32⟩, b_how_many⟩⟩
  have F_next_from := fun_mk (st := sDsNextFrom) l33 c33 k33
  have b_next_from := F_next_from.binds (ps := ["self", "day"]) fun _ _ _ _ _ _ us hl => match us, hl with | [_, _], _ => rfl
  have G_next_from : FnOk l.prog w K mg base CX0 3 f33 _ ["self", "day"] (spNext K C) := ok_next_from F_next_from T T2 D_check_number D_count_before D_day_at
  have D_next_from : Dm l.prog w K mg base 3 C "next_from" ["self", "day"] (spNext K C) := ⟨⟨_, _, G_next_from, ⟨a33, i33, k33⟩, b_next_from⟩⟩
  have F_first_beyond := fun_mk (st := sDsFirstBeyond) l34 c34 k34
  have b_first_beyond := F_first_beyond.binds (ps := ["self", "other"]) fun _ _ _ _ _ _ us hl => match us, hl with | [_, _], _ => rfl
  have G_first_beyond : FnOk l.prog w K mg base CX0 6 f34 _ ["self", "other"] (spFirst K C fun a b => a && !b) := ok_first_beyond F_first_beyond T T2 D_is_finite D_day_at D_contains D_sub D_next_from
  have D_first_beyond : Dm l.prog w K mg base 6 C "first_beyond" ["self", "other"] (spFirst K C fun a b => a && !b) := ⟨⟨_, _, G_first_beyond, ⟨a34, i34, k34⟩, b_first_beyond⟩⟩
  have F_within := fun_mk (st := sDsWithin) l35 c35 k35
  have b_within := F_within.binds (ps := ["self", "other"]) fun _ _ _ _ _ _ us hl => match us, hl with | [_, _], _ => rfl
  have G_within : FnOk l.prog w K mg base CX0 7 f35 _ ["self", "other"] (spWithin K C) := ok_within F_within T2 D_first_beyond
  have D_within : Dm l.prog w K mg base 7 C "within" ["self", "other"] (spWithin K C) := ⟨⟨_, _, G_within, ⟨a35, i35, k35⟩, b_within⟩⟩
  have F_first_unlike := fun_mk (st := sDsFirstUnlike) l36 c36 k36
  have b_first_unlike := F_first_unlike.binds (ps := ["self", "other"]) fun _ _ _ _ _ _ us hl => match us, hl with | [_, _], _ => rfl
  have G_first_unlike : FnOk l.prog w K mg base CX0 7 f36 _ ["self", "other"] (spFirst K C fun a b => a != b) := ok_first_unlike F_first_unlike T2 D_first_beyond
  have D_first_unlike : Dm l.prog w K mg base 7 C "first_unlike" ["self", "other"] (spFirst K C fun a b => a != b) := ⟨⟨_, _, G_first_unlike, ⟨a36, i36, k36⟩, b_first_unlike⟩⟩
  have F_shifted := fun_mk (st := sDsShifted) l37 c37 k37
  have b_shifted := F_shifted.binds (ps := ["self", "days"]) fun _ _ _ _ _ _ us hl => match us, hl with | [_, _], _ => rfl
  have G_shifted : FnOk l.prog w K mg base CX0 5 f37 _ ["self", "days"] (spShifted K C) := ok_shifted F_shifted T T2 D_check_number D_listed D_init
  have D_shifted : Dm l.prog w K mg base 5 C "shifted" ["self", "days"] (spShifted K C) := ⟨⟨_, _, G_shifted, ⟨a37, i37, k37⟩, b_shifted⟩⟩
  have F_span : FunD K "span" "DaySet.span" (defArgs sDsSpan) (defBody sDsSpan) (defScope sDsSpan) [.non] [] f38 _ := ⟨⟨_, _, _, _, _, _, _, _, _, _, rfl, l38, c38, .inr ⟨by simp, _, _, [.none], _, rfl, lT38, rfl, .cons rfl .nil⟩, .inl rfl⟩, k38⟩
  obtain ⟨ds38, v38, b38⟩ := F_span.binds1 (ps := ["cls", "low", "high"]) 2 0 (by simp) (by rfl) (fun T kV doc pm an cdv ct us its h1 h2 => match us, its, h1, h2 with | [_, _], [_], _, _ => ⟨_, rfl, rfl⟩)
  have D_span1 : DcmD l.prog w K mg base 5 C "span" ["cls", "low", "high"] [.non] (spSpanB K C) := ⟨⟨_, _, _, _, ds38, ok_spanB F_span T T2 D_is_number D_init, ⟨rdC, gaC⟩, ⟨a38, ⟨_, r38c⟩, i38⟩, b38, v38⟩⟩
  obtain ⟨dz38, w38, y38⟩ := F_span.binds1 (ps := ["cls", "low", "high"]) 3 1 (by simp) (by rfl) (fun T kV doc pm an cdv ct us its h1 h2 => match us, its, h1, h2 with | [_, _, _], [_], _, _ => ⟨_, rfl, rfl⟩)
  have D_span : Dcm l.prog w K mg base 5 C "span" ["cls", "low", "high"] (spSpanB K C) := ⟨⟨_, _, _, _, ok_spanB F_span T T2 D_is_number D_init, ⟨rdC, gaC⟩, ⟨a38, ⟨_, r38c⟩, i38⟩, (show Binds K _ _ [] from by cases w38; exact y38)⟩⟩
  have F_each : FunD K "each" "DaySet.each" (defArgs sDsEach) (defBody sDsEach) (defScope sDsEach) [.int 0] [] f39 _ := ⟨⟨_, _, _, _, _, _, _, _, _, _, rfl, l39, c39, .inr ⟨by simp, _, _, [.int 0 uD39], _, rfl, lT39, rfl, .cons ⟨_, rfl⟩ .nil⟩, .inl rfl⟩, k39⟩
  obtain ⟨ds39, v39, b39⟩ := F_each.binds1 (ps := ["self", "number", "first"]) 2 0 (by simp) (by rfl) (fun T kV doc pm an cdv ct us its h1 h2 => match us, its, h1, h2 with | [_, _], [_], _, _ => ⟨_, rfl, rfl⟩)
  have D_each1 : DmD l.prog w K mg base 5 C "each" ["self", "number", "first"] [.int 0] (spEach K C) := ⟨⟨_, _, ds39, ok_each F_each T T2 D_check_number2 D_day_at D_init, ⟨a39, i39, k39⟩, b39, v39⟩⟩
  obtain ⟨dz39, w39, y39⟩ := F_each.binds1 (ps := ["self", "number", "first"]) 3 1 (by simp) (by rfl) (fun T kV doc pm an cdv ct us its h1 h2 => match us, its, h1, h2 with | [_, _, _], [_], _, _ => ⟨_, rfl, rfl⟩)
  have D_each : Dm l.prog w K mg base 5 C "each" ["self", "number", "first"] (spEach K C) := ⟨⟨_, _, ok_each F_each T T2 D_check_number2 D_day_at D_init, ⟨a39, i39, k39⟩, (show Binds K _ _ [] from by cases w39; exact y39)⟩⟩
  have F_pattern := fun_mk (st := sDsPattern) l40 c40 k40
  have b_pattern := F_pattern.binds (ps := ["cls", "head", "cycle"]) fun _ _ _ _ _ _ us hl => match us, hl with | [_, _, _], _ => rfl
  have G_pattern : FnOk l.prog w K mg base CX0 5 f40 _ ["cls", "head", "cycle"] (spPattern K C) := ok_pattern F_pattern T T2 D_is_truth_list D_init
  have D_pattern : Dcm l.prog w K mg base 5 C "pattern" ["cls", "head", "cycle"] (spPattern K C) := ⟨⟨_, _, _, _, G_pattern, ⟨rdC, gaC⟩, ⟨a40, ⟨_, r40c⟩, i40⟩, b_pattern⟩⟩
  have F_is_day_list := fun_mk (st := sIsDayList) l41 c41 k41
  have b_is_day_list := F_is_day_list.binds (ps := ["value"]) fun _ _ _ _ _ _ us hl => match us, hl with | [_], _ => rfl
  have G_is_day_list : FnOk l.prog w K mg base CX0 2 f41 _ ["value"] (spDayListB K) := ok_is_day_listB F_is_day_list T D_is_number
  have D_is_day_list : Df l.prog w K mg base 2 "is_day_list" ["value"] [] (spDayListB K) := ⟨⟨_, _, [], G_is_day_list, PySem.W.mg_of X G a41, k41, .nil, b_is_day_list⟩⟩
  have F_of := fun_mk (st := sDsOf) l42 c42 k42
  have b_of := F_of.binds (ps := ["cls", "days"]) fun _ _ _ _ _ _ us hl => match us, hl with | [_, _], _ => rfl
  have G_of : FnOk l.prog w K mg base CX0 5 f42 _ ["cls", "days"] (spOfB K C) := ok_ofT F_of T T2 D_is_day_list D_init
  have D_of : Dcm l.prog w K mg base 5 C "of" ["cls", "days"] (spOfB K C) := ⟨⟨_, _, _, _, G_of, ⟨rdC, gaC⟩, ⟨a42, ⟨_, r42c⟩, i42⟩, b_of⟩⟩
  have F_every : FunD K "every" "DaySet.every" (defArgs sDsEvery) (defBody sDsEvery) (defScope sDsEvery) [.int 0] [] f43 _ := ⟨⟨_, _, _, _, _, _, _, _, _, _, rfl, l43, c43, .inr ⟨by simp, _, _, [.int 0 uD43], _, rfl, lT43, rfl, .cons ⟨_, rfl⟩ .nil⟩, .inl rfl⟩, k43⟩
  obtain ⟨ds43, v43, b43⟩ := F_every.binds1 (ps := ["cls", "period", "first"]) 2 0 (by simp) (by rfl) (fun T kV doc pm an cdv ct us its h1 h2 => match us, its, h1, h2 with | [_, _], [_], _, _ => ⟨_, rfl, rfl⟩)
  have D_every1 : DcmD l.prog w K mg base 5 C "every" ["cls", "period", "first"] [.int 0] (spEvery K C) := ⟨⟨_, _, _, _, ds43, ok_every F_every T T2 D_is_number D_init, ⟨rdC, gaC⟩, ⟨a43, ⟨_, r43c⟩, i43⟩, b43, v43⟩⟩
  obtain ⟨dz43, w43, y43⟩ := F_every.binds1 (ps := ["cls", "period", "first"]) 3 1 (by simp) (by rfl) (fun T kV doc pm an cdv ct us its h1 h2 => match us, its, h1, h2 with | [_, _, _], [_], _, _ => ⟨_, rfl, rfl⟩)
  have D_every : Dcm l.prog w K mg base 5 C "every" ["cls", "period", "first"] (spEvery K C) := ⟨⟨_, _, _, _, ok_every F_every T T2 D_is_number D_init, ⟨rdC, gaC⟩, ⟨a43, ⟨_, r43c⟩, i43⟩, (show Binds K _ _ [] from by cases w43; exact y43)⟩⟩
  have F_followers := fun_mk (st := sFollowers) l44 c44 k44
  have b_followers := F_followers.binds (ps := ["days", "others"]) fun _ _ _ _ _ _ us hl => match us, hl with | [_, _], _ => rfl
  have G_followers : FnOk l.prog w K mg base CX0 1 f44 _ ["days", "others"] (spFollowers K) := ok_followers F_followers T
  have D_followers : Df l.prog w K mg base 1 "followers" ["days", "others"] [] (spFollowers K) := ⟨⟨_, _, [], G_followers, PySem.W.mg_of X G a44, k44, .nil, b_followers⟩⟩
  have F_following := fun_mk (st := sDsFollowing) l45 c45 k45
  have b_following := F_following.binds (ps := ["self", "other"]) fun _ _ _ _ _ _ us hl => match us, hl with | [_, _], _ => rfl
  have G_following : FnOk l.prog w K mg base CX0 5 f45 _ ["self", "other"] (spFollow K C) := ok_following F_following T2 D_common_frame D_next_from D_listed D_followers D_init
  have D_following : Dm l.prog w K mg base 5 C "following" ["self", "other"] (spFollow K C) := ⟨⟨_, _, G_following, ⟨a45, i45, k45⟩, b_following⟩⟩
  have F_law_begun := fun_mk (st := sLawBegun) l46 c46 k46
  have b_law_begun := F_law_begun.binds (ps := ["script"]) fun _ _ _ _ _ _ us hl => match us, hl with | [_], _ => rfl
  have G_law_begun : FnOk l.prog w K mg base CX0 1 f46 _ ["script"] (spBegun K) := ok_begun F_law_begun T
  have D_law_begun : Df l.prog w K mg base 1 "_law_begun" ["script"] [] (spBegun K) := ⟨⟨_, _, [], G_law_begun, PySem.W.mg_of X G a46, k46, .nil, b_law_begun⟩⟩
  have F_law_mixed := fun_mk (st := sLawMixed) l47 c47 k47
  have b_law_mixed := F_law_mixed.binds (ps := ["state"]) fun _ _ _ _ _ _ us hl => match us, hl with | [_], _ => rfl
  have G_law_mixed : FnOk l.prog w K mg base CX0 1 f47 _ ["state"] spMixed := ok_mixed F_law_mixed T
  have D_law_mixed : Df l.prog w K mg base 1 "_law_mixed" ["state"] [] spMixed := ⟨⟨_, _, [], G_law_mixed, PySem.W.mg_of X G a47, k47, .nil, b_law_mixed⟩⟩
  have F_law_take := fun_mk (st := sLawTake) l48 c48 k48
  have b_law_take := F_law_take.binds (ps := ["state", "size"]) fun _ _ _ _ _ _ us hl => match us, hl with | [_, _], _ => rfl
  have G_law_take : FnOk l.prog w K mg base CX0 2 f48 _ ["state", "size"] spTake := ok_take F_law_take T D_law_mixed
  have D_law_take : Df l.prog w K mg base 2 "_law_take" ["state", "size"] [] spTake := ⟨⟨_, _, [], G_law_take, PySem.W.mg_of X G a48, k48, .nil, b_law_take⟩⟩
  have F_law_truths := fun_mk (st := sLawTruths) l49 c49 k49
  have b_law_truths := F_law_truths.binds (ps := ["state", "size"]) fun _ _ _ _ _ _ us hl => match us, hl with | [_, _], _ => rfl
  have G_law_truths : FnOk l.prog w K mg base CX0 3 f49 _ ["state", "size"] spTruths := ok_truths F_law_truths T D_law_take
  have D_law_truths : Df l.prog w K mg base 3 "_law_truths" ["state", "size"] [] spTruths := ⟨⟨_, _, [], G_law_truths, PySem.W.mg_of X G a49, k49, .nil, b_law_truths⟩⟩
  have F_law_set := fun_mk (st := sLawSet) l50 c50 k50
  have b_law_set := F_law_set.binds (ps := ["state", "most"]) fun _ _ _ _ _ _ us hl => match us, hl with | [_, _], _ => rfl
  have G_law_set : FnOk l.prog w K mg base CX0 4 f50 _ ["state", "most"] spSet := ok_set F_law_set T D_law_take D_law_truths
  have D_law_set : Df l.prog w K mg base 4 "_law_set" ["state", "most"] [] spSet := ⟨⟨_, _, [], G_law_set, PySem.W.mg_of X G a50, k50, .nil, b_law_set⟩⟩
  have F_law_told := fun_mk (st := sLawTold) l51 c51 k51
  have b_law_told := F_law_told.binds (ps := ["days"]) fun _ _ _ _ _ _ us hl => match us, hl with | [_], _ => rfl
  have G_law_told : FnOk l.prog w K mg base CX0 3 f51 _ ["days"] (spTold K C) := ok_told F_law_told T2 D_start D_period D_head D_cycle
  have D_law_told : Df l.prog w K mg base 3 "_law_told" ["days"] [] (spTold K C) := ⟨⟨_, _, [], G_law_told, PySem.W.mg_of X G a51, k51, .nil, b_law_told⟩⟩
  have F_law_pattern := fun_mk (st := sLawPattern) l52 c52 k52
  have b_law_pattern := F_law_pattern.binds (ps := ["model"]) fun _ _ _ _ _ _ us hl => match us, hl with | [_], _ => rfl
  have G_law_pattern : FnOk l.prog w K mg base CX0 6 f52 _ ["model"] (spPat K C) := ok_pat F_law_pattern T2 D_pattern
  have D_law_pattern : Df l.prog w K mg base 6 "_law_pattern" ["model"] [] (spPat K C) := ⟨⟨_, _, [], G_law_pattern, PySem.W.mg_of X G a52, k52, .nil, b_law_pattern⟩⟩
  have F_law_makings := fun_mk (st := sLawMakings) l53 c53 k53
  have b_law_makings := F_law_makings.binds (ps := ["state", "model"]) fun _ _ _ _ _ _ us hl => match us, hl with | [_, _], _ => rfl
  have G_law_makings : FnOk l.prog w K mg base CX0 7 f53 _ ["state", "model"] (spMakings K C) := ok_makings F_law_makings T T2 D_law_take D_law_pattern D_of D_every D_span D_or D_and D_sub D_invert D_shifted D_each1 D_each D_following
  have D_law_makings : Df l.prog w K mg base 7 "_law_makings" ["state", "model"] [] (spMakings K C) := ⟨⟨_, _, [], G_law_makings, PySem.W.mg_of X G a53, k53, .nil, b_law_makings⟩⟩
  have F_law_alike := fun_mk (st := sLawAlike) l54 c54 k54
  have b_law_alike := F_law_alike.binds (ps := ["one", "other", "far"]) fun _ _ _ _ _ _ us hl => match us, hl with | [_, _, _], _ => rfl
  have G_law_alike : FnOk l.prog w K mg base CX0 8 f54 _ ["one", "other", "far"] (spAlike K C) := ok_alike F_law_alike T2 NE D_eq D_law_told D_first_unlike D_within D_xor D_bool D_how_many D_next_from
  have D_law_alike : Df l.prog w K mg base 8 "_law_alike" ["one", "other", "far"] [] (spAlike K C) := ⟨⟨_, _, [], G_law_alike, PySem.W.mg_of X G a54, k54, .nil, b_law_alike⟩⟩
  have F_law := fun_mk (st := sLaw) l55 c55 k55
  exact FnG.of (ok_law F_law T T2 D_law_begun D_law_take D_law_set D_law_makings D_law_alike D_of D_xor D_eq D_first_unlike D_contains)
end Cf
open PySem PySem.W PyProof.Rows
set_option maxRecDepth 100000 in
set_option maxHeartbeats 0 in
theorem PySem.Challenge.cw_clockfolds_k18_whole_one_form_of_many_ma_holds : PySem.Challenge.rw_clockfolds_k18_whole_one_form_of_many_ma.Holds := by
  w_on; o_law; k_head; (case hw => w_witness2)
  k_fill
  refine Cf.walk_g (l := PySem.Challenge.rw_clockfolds_k18_whole_one_form_of_many_ma) (n := 63) (k := 9) (sp := Cf.spLaw) (x := "script") rfl (by decide) rfl ⟨rfl, by decide, by decide⟩ (fun w h Y => PySem.W.kIn_of Y) ?F (fun K H a ns hl hS => ⟨a, ns, rfl, hS, hl, fun _ => rfl⟩)
  case F =>
    intro w mg fa h KX G hmg
    refine' Cf.all_mk KX G hmg ?aC ?pgC ?hdC ?poC ?saC ?mkC ?kpC ?noP ?noS ?noH ?noC ?sfC ?nfC ?haC ?hnC ?htC ?hmC ?rdC ?gaC ?aG ?aL ?a0 ?l0 ?c0 ?k0 ?a1 ?l1 ?c1 ?k1 ?a2 ?l2 ?c2 ?k2 ?a3 ?l3 ?c3 ?k3 ?a4 ?l4 ?c4 ?k4 ?a5 ?l5 ?c5 ?k5 ?a6 ?l6 ?c6 ?k6 ?a7 ?l7 ?c7 ?k7 ?a8 ?l8 ?c8 ?k8 ?a9 ?l9 ?c9 ?k9 ?a10 ?l10 ?c10 ?k10 ?a11 ?l11 ?c11 ?k11 ?lT11 ?a12 ?l12 ?c12 ?k12 ?a13 ?i13 ?l13 ?c13 ?k13 ?a14 ?g14 ?t14 ?r14c ?l14 ?c14 ?k14 ?a15 ?g15 ?t15 ?r15c ?l15 ?c15 ?k15 ?a16 ?g16 ?t16 ?r16c ?l16 ?c16 ?k16 ?a17 ?g17 ?t17 ?r17c ?l17 ?c17 ?k17 ?a18 ?g18 ?t18 ?r18c ?l18 ?c18 ?k18 ?a19 ?l19 ?c19 ?k19 ?a20 ?i20 ?l20 ?c20 ?k20 ?a21 ?i21 ?l21 ?c21 ?k21 ?a22 ?i22 ?l22 ?c22 ?k22 ?a23 ?i23 ?l23 ?c23 ?k23 ?a24 ?i24 ?l24 ?c24 ?k24 ?a25 ?i25 ?l25 ?c25 ?k25 ?a26 ?i26 ?l26 ?c26 ?k26 ?a27 ?i27 ?l27 ?c27 ?k27 ?a28 ?i28 ?l28 ?c28 ?k28 ?a29 ?i29 ?l29 ?c29 ?k29 ?a30 ?i30 ?l30 ?c30 ?k30 ?a31 ?i31 ?l31 ?c31 ?k31 ?a32 ?i32 ?l32 ?c32 ?k32 ?a33 ?i33 ?l33 ?c33 ?k33 ?a34 ?i34 ?l34 ?c34 ?k34 ?a35 ?i35 ?l35 ?c35 ?k35 ?a36 ?i36 ?l36 ?c36 ?k36 ?a37 ?i37 ?l37 ?c37 ?k37 ?a38 ?r38c ?i38 ?l38 ?c38 ?k38 ?lT38 ?a39 ?i39 ?l39 ?c39 ?k39 ?lT39 ?a40 ?r40c ?i40 ?l40 ?c40 ?k40 ?a41 ?l41 ?c41 ?k41 ?a42 ?r42c ?i42 ?l42 ?c42 ?k42 ?a43 ?r43c ?i43 ?l43 ?c43 ?k43 ?lT43 ?a44 ?l44 ?c44 ?k44 ?a45 ?i45 ?l45 ?c45 ?k45 ?a46 ?l46 ?c46 ?k46 ?a47 ?l47 ?c47 ?k47 ?a48 ?l48 ?c48 ?k48 ?a49 ?l49 ?c49 ?k49 ?a50 ?l50 ?c50 ?k50 ?a51 ?l51 ?c51 ?k51 ?a52 ?l52 ?c52 ?k52 ?a53 ?l53 ?c53 ?k53 ?a54 ?l54 ?c54 ?k54 ?a55 ?l55 ?c55 ?k55 ?z_abs ?z_int ?z_bool ?z_isinstance ?z_sum ?z_divmod ?z_min ?z_max ?z_len ?z_range ?z_sorted ?z_set ?z_list ?z_tuple ?z_all ?z_enumerate ?z_zip ?neC
    (case aC => k_is)
    (case pgC => k_is)
    (case hdC => k_is)
    (case poC => k_is)
    (case saC => k_is)
    (case mkC => k_is)
    (case kpC => k_is)
    (case noP => k_is)
    (case noS => k_is)
    (case noH => k_is)
    (case noC => k_is)
    (case sfC => k_is)
    (case nfC => k_is)
    (case haC => k_is)
    (case hnC => k_is)
    (case htC => k_is)
    (case hmC => k_is)
    (case rdC => k_is)
    (case gaC => k_is)
    (case aG => k_is)
    (case aL => k_is)
    (case a0 => k_is)
    (case l0 => k_is)
    (case c0 => k_is)
    (case k0 => k_is)
    (case a1 => k_is)
    (case l1 => k_is)
    (case c1 => k_is)
    (case k1 => k_is)
    (case a2 => k_is)
    (case l2 => k_is)
    (case c2 => k_is)
    (case k2 => k_is)
    (case a3 => k_is)
    (case l3 => k_is)
    (case c3 => k_is)
    (case k3 => k_is)
    (case a4 => k_is)
    (case l4 => k_is)
    (case c4 => k_is)
    (case k4 => k_is)
    (case a5 => k_is)
    (case l5 => k_is)
    (case c5 => k_is)
    (case k5 => k_is)
    (case a6 => k_is)
    (case l6 => k_is)
    (case c6 => k_is)
    (case k6 => k_is)
    (case a7 => k_is)
    (case l7 => k_is)
    (case c7 => k_is)
    (case k7 => k_is)
    (case a8 => k_is)
    (case l8 => k_is)
    (case c8 => k_is)
    (case k8 => k_is)
    (case a9 => k_is)
    (case l9 => k_is)
    (case c9 => k_is)
    (case k9 => k_is)
    (case a10 => k_is)
    (case l10 => k_is)
    (case c10 => k_is)
    (case k10 => k_is)
    (case a11 => k_is)
    (case l11 => k_is)
    (case c11 => k_is)
    (case k11 => k_is)
    (case lT11 => k_is)
    (case a12 => k_is)
    (case l12 => k_is)
    (case c12 => k_is)
    (case k12 => k_is)
    (case a13 => k_is)
    (case i13 => k_is)
    (case l13 => k_is)
    (case c13 => k_is)
    (case k13 => k_is)
    (case a14 => k_is)
    (case g14 => k_is)
    (case t14 => k_is)
    (case r14c => k_is)
    (case l14 => k_is)
    (case c14 => k_is)
    (case k14 => k_is)
    (case a15 => k_is)
    (case g15 => k_is)
    (case t15 => k_is)
    (case r15c => k_is)
    (case l15 => k_is)
    (case c15 => k_is)
    (case k15 => k_is)
    (case a16 => k_is)
    (case g16 => k_is)
    (case t16 => k_is)
    (case r16c => k_is)
    (case l16 => k_is)
    (case c16 => k_is)
    (case k16 => k_is)
    (case a17 => k_is)
    (case g17 => k_is)
    (case t17 => k_is)
    (case r17c => k_is)
    (case l17 => k_is)
    (case c17 => k_is)
    (case k17 => k_is)
    (case a18 => k_is)
    (case g18 => k_is)
    (case t18 => k_is)
    (case r18c => k_is)
    (case l18 => k_is)
    (case c18 => k_is)
    (case k18 => k_is)
    (case a19 => k_is)
    (case l19 => k_is)
    (case c19 => k_is)
    (case k19 => k_is)
    (case a20 => k_is)
    (case i20 => k_is)
    (case l20 => k_is)
    (case c20 => k_is)
    (case k20 => k_is)
    (case a21 => k_is)
    (case i21 => k_is)
    (case l21 => k_is)
    (case c21 => k_is)
    (case k21 => k_is)
    (case a22 => k_is)
    (case i22 => k_is)
    (case l22 => k_is)
    (case c22 => k_is)
    (case k22 => k_is)
    (case a23 => k_is)
    (case i23 => k_is)
    (case l23 => k_is)
    (case c23 => k_is)
    (case k23 => k_is)
    (case a24 => k_is)
    (case i24 => k_is)
    (case l24 => k_is)
    (case c24 => k_is)
    (case k24 => k_is)
    (case a25 => k_is)
    (case i25 => k_is)
    (case l25 => k_is)
    (case c25 => k_is)
    (case k25 => k_is)
    (case a26 => k_is)
    (case i26 => k_is)
    (case l26 => k_is)
    (case c26 => k_is)
    (case k26 => k_is)
    (case a27 => k_is)
    (case i27 => k_is)
    (case l27 => k_is)
    (case c27 => k_is)
    (case k27 => k_is)
    (case a28 => k_is)
    (case i28 => k_is)
    (case l28 => k_is)
    (case c28 => k_is)
    (case k28 => k_is)
    (case a29 => k_is)
    (case i29 => k_is)
    (case l29 => k_is)
    (case c29 => k_is)
    (case k29 => k_is)
    (case a30 => k_is)
    (case i30 => k_is)
    (case l30 => k_is)
    (case c30 => k_is)
    (case k30 => k_is)
    (case a31 => k_is)
    (case i31 => k_is)
    (case l31 => k_is)
    (case c31 => k_is)
    (case k31 => k_is)
    (case a32 => k_is)
    (case i32 => k_is)
    (case l32 => k_is)
    (case c32 => k_is)
    (case k32 => k_is)
    (case a33 => k_is)
    (case i33 => k_is)
    (case l33 => k_is)
    (case c33 => k_is)
    (case k33 => k_is)
    (case a34 => k_is)
    (case i34 => k_is)
    (case l34 => k_is)
    (case c34 => k_is)
    (case k34 => k_is)
    (case a35 => k_is)
    (case i35 => k_is)
    (case l35 => k_is)
    (case c35 => k_is)
    (case k35 => k_is)
    (case a36 => k_is)
    (case i36 => k_is)
    (case l36 => k_is)
    (case c36 => k_is)
    (case k36 => k_is)
    (case a37 => k_is)
    (case i37 => k_is)
    (case l37 => k_is)
    (case c37 => k_is)
    (case k37 => k_is)
    (case a38 => k_is)
    (case r38c => k_is)
    (case i38 => k_is)
    (case l38 => k_is)
    (case c38 => k_is)
    (case k38 => k_is)
    (case lT38 => k_is)
    (case a39 => k_is)
    (case i39 => k_is)
    (case l39 => k_is)
    (case c39 => k_is)
    (case k39 => k_is)
    (case lT39 => k_is)
    (case a40 => k_is)
    (case r40c => k_is)
    (case i40 => k_is)
    (case l40 => k_is)
    (case c40 => k_is)
    (case k40 => k_is)
    (case a41 => k_is)
    (case l41 => k_is)
    (case c41 => k_is)
    (case k41 => k_is)
    (case a42 => k_is)
    (case r42c => k_is)
    (case i42 => k_is)
    (case l42 => k_is)
    (case c42 => k_is)
    (case k42 => k_is)
    (case a43 => k_is)
    (case r43c => k_is)
    (case i43 => k_is)
    (case l43 => k_is)
    (case c43 => k_is)
    (case k43 => k_is)
    (case lT43 => k_is)
    (case a44 => k_is)
    (case l44 => k_is)
    (case c44 => k_is)
    (case k44 => k_is)
    (case a45 => k_is)
    (case i45 => k_is)
    (case l45 => k_is)
    (case c45 => k_is)
    (case k45 => k_is)
    (case a46 => k_is)
    (case l46 => k_is)
    (case c46 => k_is)
    (case k46 => k_is)
    (case a47 => k_is)
    (case l47 => k_is)
    (case c47 => k_is)
    (case k47 => k_is)
    (case a48 => k_is)
    (case l48 => k_is)
    (case c48 => k_is)
    (case k48 => k_is)
    (case a49 => k_is)
    (case l49 => k_is)
    (case c49 => k_is)
    (case k49 => k_is)
    (case a50 => k_is)
    (case l50 => k_is)
    (case c50 => k_is)
    (case k50 => k_is)
    (case a51 => k_is)
    (case l51 => k_is)
    (case c51 => k_is)
    (case k51 => k_is)
    (case a52 => k_is)
    (case l52 => k_is)
    (case c52 => k_is)
    (case k52 => k_is)
    (case a53 => k_is)
    (case l53 => k_is)
    (case c53 => k_is)
    (case k53 => k_is)
    (case a54 => k_is)
    (case l54 => k_is)
    (case c54 => k_is)
    (case k54 => k_is)
    (case a55 => k_is)
    (case l55 => k_is)
    (case c55 => k_is)
    (case k55 => k_is)
    (case z_abs => k_is)
    (case z_int => k_is)
    (case z_bool => k_is)
    (case z_isinstance => k_is)
    (case z_sum => k_is)
    (case z_divmod => k_is)
    (case z_min => k_is)
    (case z_max => k_is)
    (case z_len => k_is)
    (case z_range => k_is)
    (case z_sorted => k_is)
    (case z_set => k_is)
    (case z_list => k_is)
    (case z_tuple => k_is)
    (case z_all => k_is)
    (case z_enumerate => k_is)
    (case z_zip => k_is)
    (case neC => k_is)
