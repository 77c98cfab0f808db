import PyProof.Rows.All
import Wide.All
import OpenK.AllK
import Wide.FinOn
import HandS.ForMost
import HandS.ForExc
import HandS.Codes
import HandS.Wide
import HandS.WideBits
import HandS.Deep
import HandS.More
import HandS.Flow
import HandS.Lambda
import HandS.Nested
import HandS.EndTab
import PyProof.Rows.RegFStrParts
import HandS.OwnEq
import HandS.IsInst
import HandS.ExcInit
import HandS.ExcField
import HandS.Walk
import HandS.Text
import PyProof.EqKinds
import HandS.Exc
import HandS.ExcIs
import HandS.ExcValue
import HandS.Defaults
import HandS.Style
import HandS.Property
import PySem.Challenge.RW_leafwaits_k01_errors_made
set_option Elab.async false
set_option linter.all false
set_option maxRecDepth 100000
set_option maxHeartbeats 4000000
set_option maxRecDepth 100000
set_option maxHeartbeats 4000000
/-! Core: the layer's judgements as weakest preconditions over the syntax. Own work. -/
namespace Vf
open PySem PySem.Spec PyProof.Rows L2

/-! ### canonical readings -/
@[irreducible] def wE (X : Cx) (e : Expr) : TE := fun σ H Q => ∀ (pins : List (Addr × Obj)) (s : Shared), Inv X pins σ H s → wpAny (model X.prog X.w) X.A (eval e X.env) (EP X pins σ Q) X.xe s
@[irreducible] def wT (X : Cx) (e : Expr) : TT := fun σ H Q => ∀ (pins : List (Addr × Obj)) (s : Shared), Inv X pins σ H s → wpAny (model X.prog X.w) X.A (isTrue e X.env (eval e X.env)) (TP X pins σ Q) X.xe s
@[irreducible] def wW (X : Cx) (e : Expr) : TT := fun σ H Q => ∀ (whole : Sem Value) (pins : List (Addr × Obj)) (s : Shared), Inv X pins σ H s → wpAny (model X.prog X.w) X.A (isTrue e X.env whole) (TP X pins σ Q) X.xe s
@[irreducible] def wA (X : Cx) (es : List Expr) : TA := fun σ H Q => ∀ (pos : Pos) (pins : List (Addr × Obj)) (s : Shared), Inv X pins σ H s → wpAny (model X.prog X.w) X.A (spliced (backTo pos (starEach es X.env))) (AP X pins σ Q) X.xe s
@[irreducible] def wS (X : Cx) (st : Stmt) : TS := fun D σ H => ∀ (pins : List (Addr × Obj)) (s : Shared), Inv X pins σ H s → wpAny (model X.prog X.w) X.A (exec st X.env) (SP X pins D) X.xe s
@[irreducible] def wB (X : Cx) (st : List Stmt) : TS := fun D σ H => ∀ (pins : List (Addr × Obj)) (s : Shared), Inv X pins σ H s → wpAny (model X.prog X.w) X.A (execs st X.env) (SP X pins D) X.xe s
section
variable {X : Cx} {e a b c : Expr} {es : List Expr} {st : Stmt} {sts : List Stmt} {t : TE} {σ : L2.St} {H : Hp} {Q : VK} {D : Ends}
theorem cE : PE X e (wE X e) := ⟨fun pins s _ _ _ I h => by unfold wE at h; exact h pins s I⟩
theorem cT : PT X e (wT X e) := ⟨fun pins s _ _ _ I h => by unfold wT at h; exact h pins s I⟩
theorem cW : PW X e (wW X e) := ⟨fun wh pins s _ _ _ I h => by unfold wW at h; exact h wh pins s I⟩
theorem cA : PA X es (wA X es) := ⟨fun pos pins s _ _ _ I h => by unfold wA at h; exact h pos pins s I⟩
theorem cS : PS X st (wS X st) := ⟨fun pins s _ _ _ I h => by unfold wS at h; exact h pins s I⟩
theorem cB : PSs X sts (wB X sts) := ⟨fun pins s _ _ _ I h => by unfold wB at h; exact h pins s I⟩
theorem toE (h : PE X e t) (q : t σ H Q) : wE X e σ H Q := by unfold wE; exact fun pins s I => h.run pins s σ H Q I q
theorem toT {t : TT} {Q : Bool → Hp → Prop} (h : PT X e t) (q : t σ H Q) : wT X e σ H Q := by unfold wT; exact fun pins s I => h.run pins s σ H Q I q
theorem toW {t : TT} {Q : Bool → Hp → Prop} (h : PW X e t) (q : t σ H Q) : wW X e σ H Q := by unfold wW; exact fun wh pins s I => h.run wh pins s σ H Q I q
theorem toA {t : TA} {Q : List V → Hp → Prop} (h : PA X es t) (q : t σ H Q) : wA X es σ H Q := by unfold wA; exact fun pos pins s I => h.run pos pins s σ H Q I q
theorem toS {t : TS} (h : PS X st t) (q : t D σ H) : wS X st D σ H := by unfold wS; exact fun pins s I => h.run pins s σ H D I q
theorem toB {t : TS} (h : PSs X sts t) (q : t D σ H) : wB X sts D σ H := by unfold wB; exact fun pins s I => h.run pins s σ H D I q
theorem wE.mono {Q' : VK} (h : wE X e σ H Q) (k : ∀ v H', Q v H' → Q' v H') : wE X e σ H Q' := by
  unfold wE at h ⊢
  exact fun pins s I => thn (h pins s I) fun _ _ ⟨v, H', I', r, q⟩ => ⟨v, H', I', r, k v H' q⟩
end

/-! ### the module: program, world, written part, globals, base -/
structure Md where
  P : Program
  w : World
  K : PySem.W.Frag
  mg : Str → Option Value
  base : Heap
  /-- the tables of code objects (a lambda is looked up in its maker's), each with the one name that it tells -/
  T : List (Addr × Str)
/-- a def that keeps a promise where nothing is being shown (no repr under way): what is asked of it at one place is known of all -/
structure FnG (m : Md) (CX : CXT) (k : Nat) (f : Addr) (fd : FuncData) (ps : List Str) (sp : Sp) : Prop where
  len : ∀ vs H Q E, sp vs H Q E → vs.length = ps.length
  run : ∀ (A : Around) (outer : List Env) (s : Shared) (H : Hp) (args : Args) (us : List Value) (vs : List V) (Q : VK) (E : XK), A.guards = some [] → Room k A → Env0 m.P m.w m.K m.mg m.base A outer s H →
    BindsTo s fd args (ps.zip us) → Vals vs us → sp vs H Q E → codeAny (model m.P m.w) A (.call (.ref f) args) (CR CX outer m.P m.w H s Q E) s
theorem FnG.mono {m : Md} {CX : CXT} {j k : Nat} {f : Addr} {fd : FuncData} {ps : List Str} {sp : Sp} (F : FnG m CX j f fd ps sp) (h : j ≤ k) : FnG m CX k f fd ps sp := ⟨F.len, fun A outer s H args us vs Q E hg hr => F.run A outer s H args us vs Q E hg (hr.mono h)⟩
theorem FnG.imp {m : Md} {CX : CXT} {k : Nat} {f : Addr} {fd : FuncData} {ps : List Str} {sp sp' : Sp} (F : FnG m CX k f fd ps sp) (h : ∀ vs H Q E, sp' vs H Q E → sp vs H Q E) : FnG m CX k f fd ps sp' :=
  ⟨fun vs H Q E q => F.len vs H Q E (h _ _ _ _ q), fun A outer s H args us vs Q E hg hr he hb hv hs => F.run A outer s H args us vs Q E hg hr he hb hv (h _ _ _ _ hs)⟩
/-- X is a place in a def of the module m: names N, scope sc, room for k calls -/
structure At (m : Md) (N : List Str) (sc : Scope) (k : Nat) (X : Cx) : Prop where
  pp : X.prog = m.P
  ww : X.w = m.w
  kk : X.K = m.K
  mm : X.mg = m.mg
  bb : X.base = m.base
  nn : X.N = N
  ss : X.env.scope = sc
  calm : X.calm = true
  room : Room k X.A
  pass : PassesOwn (model X.prog X.w) X.A X.env X.xe
  nd : N.Nodup
  gd : X.A.guards = some []
section
variable {m : Md} {N : List Str} {sc : Scope} {k : Nat} {X : Cx} (h : At m N sc k X)
include h
theorem At.hu : X.A.units + 1 < cLine := hu_of h.room
end

def visB (sc : Scope) (x : Str) : Bool := match sc.names.lookup x with
  | some .local => true | some .cell => true | some .free => true | _ => false
theorem vis_of {sc : Scope} {x : Str} (h : visB sc x = true) : Vis sc x := by
  unfold visB at h
  unfold Vis
  split at h
  · next e => exact .inl e
  · next e => exact .inr (.inl e)
  · next e => exact .inr (.inr e)
  · cases h
section
variable {m : Md} {N : List Str} {sc : Scope} {k : Nat} {X : Cx} {a b c e : Expr} {es : List Expr} {σ : L2.St} {H : Hp} {Q : VK} {QB : Bool → Hp → Prop} {D : Ends} {pos p p1 p2 : Pos} {x y : Str} {i j : Nat} {v : V}
theorem At.gl (h : At m N sc k X) (e : sc.names.lookup x = some .globalImplicit) : Gl X x := by
  unfold Gl Env.kindOf
  rw [h.ss]
  exact e
theorem At.vis (h : At m N sc k X) (e : visB sc x = true) : Vis X.env.scope x := by rw [h.ss]; exact vis_of e

/-- the i-th name is x, a plain local of the scope; a local that others capture; one captured from outside -/
structure NL (N : List Str) (sc : Scope) (i : Nat) (x : Str) : Prop where
  ix : N[i]? = some x
  loc : sc.names.lookup x = some .local
structure NC (N : List Str) (sc : Scope) (i : Nat) (x : Str) : Prop where
  ix : N[i]? = some x
  cel : sc.names.lookup x = some .cell
structure NFr (N : List Str) (sc : Scope) (i : Nat) (x : Str) : Prop where
  ix : N[i]? = some x
  fre : sc.names.lookup x = some .free
/-! ### expressions -/
theorem w_var (h : At m N sc k X) (i : Nat) (hN : N[i]? = some x) (hv : visB sc x = true) (hs : σ[i]? = some (some v)) (q : Q v H) (hd : (x == ("__debug__" : Str)) = false := by with_unfolding_all decide) (hcd : (x == ("__classdict__" : Str)) = false := by with_unfolding_all decide) : wE X (.Name x pos) σ H Q :=
  toE (pe_var (by rw [h.nn]; exact hN) (h.vis hv) hd hcd) ⟨v, hs, q⟩
theorem w_nl (h : At m N sc k X) (n : NL N sc i x) (hs : σ[i]? = some (some v)) (q : Q v H) (hd : (x == ("__debug__" : Str)) = false := by with_unfolding_all decide) (hcd : (x == ("__classdict__" : Str)) = false := by with_unfolding_all decide) : wE X (.Name x pos) σ H Q :=
  toE (pe_var (by rw [h.nn]; exact n.ix) (by rw [h.ss]; exact .inl n.loc) hd hcd) ⟨v, hs, q⟩
theorem w_nc (h : At m N sc k X) (n : NC N sc i x) (hs : σ[i]? = some (some v)) (q : Q v H) (hd : (x == ("__debug__" : Str)) = false := by with_unfolding_all decide) (hcd : (x == ("__classdict__" : Str)) = false := by with_unfolding_all decide) : wE X (.Name x pos) σ H Q :=
  toE (pe_var (by rw [h.nn]; exact n.ix) (by rw [h.ss]; exact .inr (.inl n.cel)) hd hcd) ⟨v, hs, q⟩
theorem w_nf (h : At m N sc k X) (n : NFr N sc i x) (hs : σ[i]? = some (some v)) (q : Q v H) (hd : (x == ("__debug__" : Str)) = false := by with_unfolding_all decide) (hcd : (x == ("__classdict__" : Str)) = false := by with_unfolding_all decide) : wE X (.Name x pos) σ H Q :=
  toE (pe_var (by rw [h.nn]; exact n.ix) (by rw [h.ss]; exact .inr (.inr n.fre)) hd hcd) ⟨v, hs, q⟩
theorem w_int {i : Int} (q : Q (.int i) H) : wE X (.Constant (.int i) j pos) σ H Q := toE pe_int q
theorem w_bl {b : Bool} (q : Q (.bl b) H) : wE X (.Constant (.bool b) j pos) σ H Q := toE pe_bl q
theorem w_non (q : Q .non H) : wE X (.Constant .none j pos) σ H Q := toE pe_non q
theorem w_str {z : Str} (q : Q (.str z) H) : wE X (.Constant (.str z) j pos) σ H Q := toE pe_str q
theorem w_bin {op : Operator} {r : R2} (ho : OpR X (binaryOp op) r) (q : wE X a σ H fun x H1 => wE X b σ H1 fun y H2 => r x y H2 Q) : wE X (.BinOp a op b pos) σ H Q := toE (pe_op ho cE cE) q
theorem w_un {op : UnaryOp} {r : V → Hp → VK → Prop} (ho : UnR X (unaryOp op) r) (q : wE X a σ H fun x H1 => r x H1 Q) : wE X (.UnaryOp op a pos) σ H Q := toE (pe_un ho cE) q
theorem w_cmp {op : CmpOp} {r : R2} (ho : OpR X (compareOp op) r) (hm : behindInMarks op b = false) (q : wE X a σ H fun x H1 => wE X b σ H1 fun y H2 => r x y H2 Q) : wE X (.Compare a [op] [b] pos) σ H Q := toE (pe_cmpR ho cE cE hm) q
theorem w_not (q : wE X a σ H fun x H1 => ∃ c, x = .bl c ∧ Q (.bl (!c)) H1) : wE X (.UnaryOp .Not a pos) σ H Q := toE (pe_not cE) q
theorem w_and {rest : List Expr} (q : wE X a σ H fun x H1 => ∃ c, x = .bl c ∧ if c = true then wE X (.BoolOp .And (b :: rest) pos) σ H1 Q else Q (.bl false) H1) : wE X (.BoolOp .And (a :: b :: rest) pos) σ H Q := toE (pe_and cE cE) q
theorem w_or {rest : List Expr} (q : wE X a σ H fun x H1 => ∃ c, x = .bl c ∧ if c = true then Q (.bl true) H1 else wE X (.BoolOp .Or (b :: rest) pos) σ H1 Q) : wE X (.BoolOp .Or (a :: b :: rest) pos) σ H Q := toE (pe_or cE cE) q
theorem w_one {op : BoolOp} (q : wE X a σ H Q) : wE X (.BoolOp op [a] pos) σ H Q := toE (pe_one cE) q
theorem w_if (q : wT X c σ H fun k H1 => if k = true then wE X a σ H1 Q else wE X b σ H1 Q) : wE X (.IfExp c a b pos) σ H Q := toE (pe_ifExp cT cE cE) q
theorem w_tup {x1} (q : wA X es σ H fun xs H1 => xs.length ≤ sizeLine ∧ ∀ p, H1 p = none → Q (.ref p) (upd H1 p (.tup xs))) : wE X (.Tuple es x1 pos) σ H Q := toE (pe_tup cA) q
theorem w_lst (q : wA X es σ H fun xs H1 => xs.length ≤ sizeLine ∧ ∀ p, H1 p = none → Q (.ref p) (upd H1 p (.lst xs))) : wE X (.List es pos) σ H Q := toE (pe_lst cA) q
theorem w_ix {r : R2} (hr : IxR X r) (hs : PlainIx b) (q : wE X a σ H fun x H1 => wE X b σ H1 fun y H2 => r x y H2 Q) : wE X (.Subscript a b pos) σ H Q := toE (pe_ix hr cE cE hs) q
theorem w_nil {Q : List V → Hp → Prop} (q : Q [] H) : wA X [] σ H Q := toA pa_nil q
theorem w_cons {Q : List V → Hp → Prop} (q : wE X e σ H fun x H1 => wA X es σ H1 fun xs H2 => Q (x :: xs) H2) (hs : starEach (e :: es) X.env = (false, eval e X.env) :: starEach es X.env := by with_unfolding_all rfl) : wA X (e :: es) σ H Q := toA (pa_cons cE cA hs) q
/-- what a run of the def at f leaves, seen from X -/
theorem fnG_run {CX : CXT} {f : Addr} {fd : FuncData} {ps : List Str} {sp : Sp} {E : XK} {args : Args} {us : List Value} {vs : List V} {pins : List (Addr × Obj)} {s : Shared} (h : At m N sc k X) (F : FnG m CX j f fd ps sp) (hk : j ≤ k) (hx : Passes CX X E) (I : Inv X pins σ H s)
    (hb : BindsTo s fd args (ps.zip us)) (r : Vals vs us) (q : sp vs H Q E) : codeAny (model X.prog X.w) X.A (.call (.ref f) args) (fun r s' => match r with | .ok (.ret u) => EP X pins σ Q u s' | .ok _ => False | .error e => X.xe e s') s := by
  have e0 := I.env0
  rw [h.pp, h.ww, h.kk, h.mm, h.bb] at e0
  have rc := F.run X.A X.stack s H args us vs Q E h.gd (h.room.mono hk) e0 hb r q
  rw [← h.pp, ← h.ww] at rc
  refine codeAny_mono rc fun r s' hq => ?_
  match r, hq with
  | .error e, hq => exact hx pins σ H s e s' I hq
  | .ok (.ret u), hq => exact I.after hq
/-- a def that may be called by its name; dvs: what stands for the parameters that are left out -/
structure CalX (m : Md) (CX : CXT) (k : Nat) (x : Str) (sp : Sp) (dvs : List V) : Prop where
  ex : ∃ (f : Addr) (fd : FuncData) (ps : List Str) (ds : List Value), FnG m CX k f fd ps sp ∧ m.mg x = some (.ref f) ∧ PySem.W.keepIn m.K (.ref f) = true ∧ Binds m.K fd ps ds ∧ Vals dvs ds
abbrev Cal (m : Md) (k : Nat) (x : Str) (sp : Sp) : Prop := CalX m C8.CX0 k x sp []
theorem w_callX {CX : CXT} {sp : Sp} {dvs : List V} {E : XK} (h : At m N sc k X) (c : CalX m CX j x sp dvs) (hk : j ≤ k) (hg : sc.names.lookup x = some .globalImplicit) (hx : Passes CX X E) (q : wA X (e :: es) σ H fun vs H1 => sp (vs ++ dvs) H1 Q E)
    (hdb : (x == ("__debug__" : Str)) = false := by with_unfolding_all decide) (he : starEach (e :: es) X.env = (false, eval e X.env) :: starEach es X.env := by with_unfolding_all rfl) (hpl : (backTo pos (starEach es X.env)).any (·.1) = false := by with_unfolding_all rfl) : wE X (.Call (.Name x p) (e :: es) [] pos) σ H Q := by
  obtain ⟨f, fd, ps, ds, F, hm, kp, b, d⟩ := c.ex
  unfold wE
  intro pins s I
  refine wpAny_Call_Name_kw (ld_glob (u := .ref f) I (h.gl hg) (by rw [h.mm]; exact hm) ?_ hdb)
  refine PySem.W.callWith_K (h₀ := X.base) I.ok.mod.kin (by rw [h.kk]; exact kp) (thn ((cA (X := X) (es := e :: es)).run pos pins s σ H _ I q) fun us s1 ⟨vs, H1, I1, r, q1⟩ => ⟨I1.kIn, ?_⟩) he hpl
  have r2 := Vals.append r d
  refine wpAny_call (codeAny_mono (fnG_run (us := us ++ ds) (vs := vs ++ dvs) h F hk hx I1 (b s1 us (by rw [← h.kk]; exact I1.kIn) (by rw [← r2.length]; exact F.len _ _ _ _ q1)) r2 q1) fun r s' hq => ?_)
  match r, hq with
  | .error e, hq => exact hq
  | .ok (.ret u), hq => exact hq
theorem w_callX0 {CX : CXT} {sp : Sp} {dvs : List V} {E : XK} (h : At m N sc k X) (c : CalX m CX j x sp dvs) (hk : j ≤ k) (hg : sc.names.lookup x = some .globalImplicit) (hx : Passes CX X E) (q : sp dvs H Q E)
    (hdb : (x == ("__debug__" : Str)) = false := by with_unfolding_all decide) : wE X (.Call (.Name x p) [] [] pos) σ H Q := by
  obtain ⟨f, fd, ps, ds, F, hm, kp, b, d⟩ := c.ex
  unfold wE
  intro pins s I
  refine wpAny_Call_Name_kw (ld_glob (u := .ref f) I (h.gl hg) (by rw [h.mm]; exact hm) ?_ hdb)
  refine PySem.W.callWith_K0 I.kIn (by rw [h.kk]; exact kp) (wpAny_call (codeAny_mono (fnG_run (us := ds) (vs := dvs) h F hk hx I (b s [] (by rw [← h.kk]; exact I.kIn) (by simpa [← d.length] using F.len _ _ _ _ q)) d q) fun r s' hq => ?_))
  match r, hq with
  | .error e, hq => exact hq
  | .ok (.ret u), hq => exact hq
theorem w_call {sp : Sp} (h : At m N sc k X) (c : Cal m j x sp) (hk : j ≤ k) (hg : sc.names.lookup x = some .globalImplicit) (q : wA X (e :: es) σ H fun vs H1 => sp vs H1 Q C8.E0)
    (hdb : (x == ("__debug__" : Str)) = false := by with_unfolding_all decide) (he : starEach (e :: es) X.env = (false, eval e X.env) :: starEach es X.env := by with_unfolding_all rfl) (hpl : (backTo pos (starEach es X.env)).any (·.1) = false := by with_unfolding_all rfl) : wE X (.Call (.Name x p) (e :: es) [] pos) σ H Q := by
  refine w_callX (E := C8.E0) h c hk hg C8.pass0 ?_ hdb he hpl
  simpa using q
/-- a built-in function by its name -/
theorem w_blt {id : String} {r : List V → Hp → VK → Prop} (h : At m N sc k X) (hc : CallR X (.builtin id) r) (hm : m.mg x = none) (hg : sc.names.lookup x = some .globalImplicit) (hv : bootBuiltins x = some (.builtin id)) (q : wA X (e :: es) σ H fun vs H1 => r vs H1 Q)
    (hn : x ≠ "__name__" := by with_unfolding_all decide) (hdb : (x == ("__debug__" : Str)) = false := by with_unfolding_all decide) (he : starEach (e :: es) X.env = (false, eval e X.env) :: starEach es X.env := by with_unfolding_all rfl) (hpl : (backTo pos (starEach es X.env)).any (·.1) = false := by with_unfolding_all rfl) : wE X (.Call (.Name x p) (e :: es) [] pos) σ H Q :=
  toE (pe_callB hc (h.gl hg) (by rw [h.mm]; exact hm) hv cA hn hdb he hpl) q
theorem w_ty {T : String} {r : List V → Hp → VK → Prop} (h : At m N sc k X) (hc : CallR X (.type T) r) (hm : m.mg x = none) (hg : sc.names.lookup x = some .globalImplicit) (hv : bootBuiltins x = some (.type T)) (q : wA X (e :: es) σ H fun vs H1 => r vs H1 Q)
    (hn : x ≠ "__name__" := by with_unfolding_all decide) (hdb : (x == ("__debug__" : Str)) = false := by with_unfolding_all decide) (he : starEach (e :: es) X.env = (false, eval e X.env) :: starEach es X.env := by with_unfolding_all rfl) (hpl : (backTo pos (starEach es X.env)).any (·.1) = false := by with_unfolding_all rfl) : wE X (.Call (.Name x p) (e :: es) [] pos) σ H Q :=
  toE (pe_callTy hc (h.gl hg) (by rw [h.mm]; exact hm) hv cA hn hdb he hpl) q

/-! ### tests -/
theorem t_val (q : wE X e σ H fun x H1 => ∃ c, x = .bl c ∧ QB c H1) (he : ∀ whole, isTrue e X.env whole = (do let v ← whole; standAt e.pos; holding [v] (truthy v)) := by with_unfolding_all (intro _; rfl)) : wT X e σ H QB := toT (pt_val cE he) q
theorem t_cmp {op : CmpOp} {r : R2} (ho : OpR X (compareOp op) r) (hm : behindInMarks op b = false) (q : wE X a σ H fun x H1 => wE X b σ H1 fun y H2 => r x y H2 fun z H' => ∃ k, z = .bl k ∧ QB k H') : wT X (.Compare a [op] [b] pos) σ H QB := toT (pt_cmpR ho cE cE hm) q
theorem t_not (q : wT X a σ H fun c H1 => QB (!c) H1) : wT X (.UnaryOp .Not a pos) σ H QB := toT (pt_not cT) q
theorem t_and {rest : List Expr} (q : wW X (.BoolOp .And (a :: b :: rest) pos) σ H QB) : wT X (.BoolOp .And (a :: b :: rest) pos) σ H QB := toT (cW.pt) q
theorem t_or {rest : List Expr} (q : wW X (.BoolOp .Or (a :: b :: rest) pos) σ H QB) : wT X (.BoolOp .Or (a :: b :: rest) pos) σ H QB := toT (cW.pt) q
theorem k_and {rest : List Expr} (q : wT X a σ H fun c H1 => if c = true then wW X (.BoolOp .And (b :: rest) pos) σ H1 QB else QB false H1) : wW X (.BoolOp .And (a :: b :: rest) pos) σ H QB := toW (pw_and cT cW) q
theorem k_or {rest : List Expr} (q : wT X a σ H fun c H1 => if c = true then QB true H1 else wW X (.BoolOp .Or (b :: rest) pos) σ H1 QB) : wW X (.BoolOp .Or (a :: b :: rest) pos) σ H QB := toW (pw_or cT cW) q
theorem k_and1 (q : wT X a σ H QB) : wW X (.BoolOp .And [a] pos) σ H QB := toW (pw_and1 cT) q
theorem k_or1 (q : wT X a σ H QB) : wW X (.BoolOp .Or [a] pos) σ H QB := toW (pw_or1 cT) q
theorem t_truth (q : wE X a σ H fun x H1 => ∃ k, TruV X.K x H1 k ∧ QB k H1) (he : ∀ whole, isTrue a X.env whole = (do let v ← whole; standAt a.pos; holding [v] (truthy v)) := by with_unfolding_all (intro _; rfl)) : wT X a σ H QB := toT (pt_truth cE he) q

/-! ### statements: what is wanted behind is written out -/
variable {st : Stmt} {sts rest th el body : List Stmt} {nx : L2.St → Hp → Prop} {rt : VK} {bk ct : L2.St → Hp → Prop}
theorem b_nil (q : nx σ H) : wB X [] ⟨nx, rt, bk, ct⟩ σ H := toB pss_nil q
theorem b_cons (q : wS X st ⟨wB X rest ⟨nx, rt, bk, ct⟩, rt, bk, ct⟩ σ H) : wB X (st :: rest) ⟨nx, rt, bk, ct⟩ σ H := toB (pss_cons cS cB) q
theorem b_one (q : wS X st ⟨nx, rt, bk, ct⟩ σ H) : wB X [st] ⟨nx, rt, bk, ct⟩ σ H := toB (pss_one cS) q
theorem s_ret (q : wE X e σ H rt) : wS X (.Return (some e) pos) ⟨nx, rt, bk, ct⟩ σ H := toS (ps_ret cE) q
theorem s_retN (q : rt .non H) : wS X (.Return none pos) ⟨nx, rt, bk, ct⟩ σ H := toS ps_retN q
theorem s_if (q : wT X c σ H fun b H1 => if b = true then wB X th ⟨nx, rt, bk, ct⟩ σ H1 else wB X el ⟨nx, rt, bk, ct⟩ σ H1) : wS X (.If c th el pos) ⟨nx, rt, bk, ct⟩ σ H := toS (ps_if cT cB cB) q
theorem s_expr (q : wE X e σ H fun _ H1 => nx σ H1) (hs : swapsWith e none pos.line X.env = pure false := by with_unfolding_all rfl) : wS X (.Expr e pos) ⟨nx, rt, bk, ct⟩ σ H := toS (ps_expr cE hs) q
theorem s_set (h : At m N sc k X) (i : Nat) (hN : N[i]? = some x) (hl : sc.names.lookup x = some .local) (q : wE X e σ H fun v H1 => nx (σ.set i (some v)) H1) (hs : swapsWith e (some (.Name x p1)) pos.line X.env = pure false := by with_unfolding_all rfl) :
    wS X (.Assign [.Name x p1] e pos) ⟨nx, rt, bk, ct⟩ σ H :=
  toS (ps_set (by rw [h.nn]; exact h.nd) (by rw [h.nn]; exact hN) (by rw [h.ss]; exact .inl hl) cE hs (.inr (by rw [h.ss]; exact hl))) q
theorem s_nl (h : At m N sc k X) (n : NL N sc i x) (q : wE X e σ H fun v H1 => nx (σ.set i (some v)) H1) (hs : swapsWith e (some (.Name x p1)) pos.line X.env = pure false := by with_unfolding_all rfl) : wS X (.Assign [.Name x p1] e pos) ⟨nx, rt, bk, ct⟩ σ H := s_set h i n.ix n.loc q hs
theorem s_nc (h : At m N sc k X) (n : NC N sc i x) (hf : ∀ y, X.fn y = true) (q : wE X e σ H fun v H1 => nx (σ.set i (some v)) H1) (hs : swapsWith e (some (.Name x p1)) pos.line X.env = pure false := by with_unfolding_all rfl) : wS X (.Assign [.Name x p1] e pos) ⟨nx, rt, bk, ct⟩ σ H :=
  toS (ps_set (by rw [h.nn]; exact h.nd) (by rw [h.nn]; exact n.ix) (by rw [h.ss]; exact .inr n.cel) cE hs (.inl (hf x))) q
theorem pg_nl (h : At m N sc k X) (n : NL N sc i x) : PG X (.Name x pos) (gName i) := pg_name (by rw [h.nn]; exact h.nd) (by rw [h.nn]; exact n.ix) (by rw [h.ss]; exact .inl n.loc) (.inr (by rw [h.ss]; exact n.loc))
theorem pg_nc (h : At m N sc k X) (n : NC N sc i x) (hf : ∀ y, X.fn y = true) : PG X (.Name x pos) (gName i) := pg_name (by rw [h.nn]; exact h.nd) (by rw [h.nn]; exact n.ix) (by rw [h.ss]; exact .inr n.cel) (.inl (hf x))
/-- xs[i] = e -/
theorem s_sub {o ix : Expr} {t : TSet} (hs : PSet X t) (q : wE X e σ H fun v H1 => wE X o σ H1 fun x H2 => wE X ix σ H2 fun y H3 => t x y v H3 fun H4 => nx σ H4)
    (ha : ∀ v : Value, assign (.Subscript o ix p1) X.env v = (do
      let ov ← holding [v] (eval o X.env)
      let iv ← holding [v, ov] (eval ix X.env)
      standAt p1
      holding [v, ov, iv] (setItem ov iv v)
      release [v, ov, iv] []) := by with_unfolding_all (intro _; rfl))
    (h1 : swapsWithSole [.Subscript o ix p1] e pos.line X.env = pure false := by with_unfolding_all rfl) (h2 : swappedStores [.Subscript o ix p1] e X.env = pure none := by with_unfolding_all rfl) : wS X (.Assign [.Subscript o ix p1] e pos) ⟨nx, rt, bk, ct⟩ σ H :=
  toS (ps_asg cE (pg_sub cE cE hs ha) h1 h2) q
/-- xs[i] = e, xs a list -/
theorem s_subL {o ix : Expr} (q : wE X e σ H fun v H1 => wE X o σ H1 fun x H2 => wE X ix σ H2 fun y H3 => ∃ (p : Addr) (xs : List V) (z : Int) (j : Nat), x = .ref p ∧ y = .int z ∧ H3 p = some (.lst xs) ∧ ixN xs.length z = some j ∧ nx σ (upd H3 p (.lst (xs.set j v))))
    (ha : ∀ v : Value, assign (.Subscript o ix p1) X.env v = (do
      let ov ← holding [v] (eval o X.env)
      let iv ← holding [v, ov] (eval ix X.env)
      standAt p1
      holding [v, ov, iv] (setItem ov iv v)
      release [v, ov, iv] []) := by with_unfolding_all (intro _; rfl))
    (h1 : swapsWithSole [.Subscript o ix p1] e pos.line X.env = pure false := by with_unfolding_all rfl) (h2 : swappedStores [.Subscript o ix p1] e X.env = pure none := by with_unfolding_all rfl) : wS X (.Assign [.Subscript o ix p1] e pos) ⟨nx, rt, bk, ct⟩ σ H :=
  s_sub set_list q ha h1 h2
/-- for x in range(e) -/
theorem s_forR {tg : Expr} {g : TG} {po : Pos} (h : At m N sc k X) (hg : PG X tg g) (hm : m.mg "range" = none) (hgl : sc.names.lookup ("range" : Str) = some .globalImplicit)
    (q : wE X e σ H fun v H1 => ∃ z : Int, v = .int z ∧ -(2 ^ 62) ≤ z ∧ z < 2 ^ 62 ∧ ∃ Pv : Nat → L2.St → Hp → Prop, Pv 0 σ H1 ∧ (∀ i σ H, i < z.toNat → Pv i σ H → g (.int i) σ H fun σ2 H2 => wB X body ⟨Pv (i + 1), rt, nx, Pv (i + 1)⟩ σ2 H2) ∧ ∀ σ H, Pv z.toNat σ H → nx σ H)
    (hs : starEach [e] X.env = [(false, eval e X.env)] := by with_unfolding_all rfl) (hf : ∀ x, foldedSetIterable (.Call (.Name "range" p1) [e] [] p2) X.env x = pure x := by with_unfolding_all (intro _; rfl)) : wS X (.For tg (.Call (.Name "range" p1) [e] [] p2) body [] po) ⟨nx, rt, bk, ct⟩ σ H := by
  refine toS (ps_for h.pass h.calm (pi_range1 (h.gl hgl) (by rw [h.mm]; exact hm) (pa_cons cE pa_nil hs) hs) hg cB hf) ?_
  refine wE.mono q fun v H1 ⟨z, ez, z1, z2, Pv, p0, turn, fin⟩ => ⟨z, by rw [ez], z1, z2, ?_⟩
  exact for_range (lo := 0) (n := z.toNat) Pv p0 (fun i σ H hi hp => by simpa using turn i σ H hi hp) fin
/-- for x in xs, xs a list that stands still -/
theorem s_forL {tg : Expr} {g : TG} {po : Pos} (h : At m N sc k X) (hg : PG X tg g)
    (q : wE X e σ H fun v H1 => ∃ (a : Addr) (xs : List V), v = .ref a ∧ SqL m.K H1 a xs ∧ ∃ Pv : Nat → L2.St → Hp → Prop, Pv 0 σ H1 ∧ (∀ i σ H, i ≤ xs.length → Pv i σ H → SqL m.K H a xs) ∧ (∀ i x σ H, xs[i]? = some x → Pv i σ H → g x σ H fun σ2 H2 => wB X body ⟨Pv (i + 1), rt, nx, Pv (i + 1)⟩ σ2 H2) ∧ ∀ σ H, Pv xs.length σ H → nx σ H)
    (hf : ∀ x, foldedSetIterable e X.env x = pure x := by with_unfolding_all (intro _; rfl)) : wS X (.For tg e body [] po) ⟨nx, rt, bk, ct⟩ σ H := by
  refine toS (ps_for h.pass h.calm (pi_list cE) hg cB hf) ?_
  refine wE.mono q fun v H1 ⟨a, xs, ea, hs, Pv, p0, hl, turn, fin⟩ => ⟨a, ea, ⟨xs, by rw [h.kk]; exact hs⟩, ?_⟩
  exact for_list (K := X.K) (a := a) (xs := xs) Pv p0 (fun i σ H hi hp => by rw [h.kk]; exact hl i σ H hi hp) turn fin
/-- for x in t, t a tuple -/
theorem s_forT {tg : Expr} {g : TG} {po : Pos} (h : At m N sc k X) (hg : PG X tg g)
    (q : wE X e σ H fun v H1 => ∃ (a : Addr) (xs : List V), v = .ref a ∧ SqT m.K H1 a xs ∧ ∃ Pv : Nat → L2.St → Hp → Prop, Pv 0 σ H1 ∧ (∀ i σ H, i ≤ xs.length → Pv i σ H → SqT m.K H a xs) ∧ (∀ i x σ H, xs[i]? = some x → Pv i σ H → g x σ H fun σ2 H2 => wB X body ⟨Pv (i + 1), rt, nx, Pv (i + 1)⟩ σ2 H2) ∧ ∀ σ H, Pv xs.length σ H → nx σ H)
    (hf : ∀ x, foldedSetIterable e X.env x = pure x := by with_unfolding_all (intro _; rfl)) : wS X (.For tg e body [] po) ⟨nx, rt, bk, ct⟩ σ H := by
  refine toS (ps_for h.pass h.calm (pi_tup cE) hg cB hf) ?_
  refine wE.mono q fun v H1 ⟨a, xs, ea, hs, Pv, p0, hl, turn, fin⟩ => ⟨a, ea, ⟨xs, by rw [h.kk]; exact hs⟩, ?_⟩
  exact for_tup (K := X.K) (a := a) (xs := xs) Pv p0 (fun i σ H hi hp => by rw [h.kk]; exact hl i σ H hi hp) turn fin
end

/-! ### a def by its body -/
/-- what a def that makes lambdas knows of its place besides -/
structure AtM (X : Cx) (x : Str) (cdv : Value) : Prop where
  code : X.env.code = cdv
  qual : X.env.qual = x ++ ".<locals>."
  fn : ∀ y, X.fn y = true
  ex : X.ex = []
section
variable {m : Md} {N ps : List Str} {k : Nat} {x qual : Str} {st : Stmt} {f : Addr} {fd : FuncData} {sp : Sp}
/-- a def that lets no exception out, by its body -/
theorem fnG_of (F : C8.Fun m.K x qual st f fd) (S : FnScope N ps (C8.fnScope st)) (len : ∀ vs H Q E, sp vs H Q E → vs.length = ps.length)
    (hb : ∀ (X : Cx) (vs : List V) (H : Hp) (Q : VK) (E : XK), At m N (C8.fnScope st) k X → AtM X qual fd.code → sp vs H Q E → wB X (C8.fnBody st) { nx := fun _ H' => Q .non H', rt := Q } (start N vs) H) : FnG m C8.CX0 (k + 1) f fd ps sp := by
  obtain ⟨oc, od, dV, kV, doc, pm, an, cdv, ct, osl, rfl, lk, hc⟩ := F.ex
  refine ⟨len, fun A outer s H args us vs Q E hg hr e0 bt r q => ?_⟩
  refine LamX.run_ofS (CX := C8.CX0) (N := N) lk hc S hr e0 bt r (len _ _ _ _ q) fun hr' => ⟨_, PSs.nox cB, ?_⟩
  exact hb (cxOf C8.CX0 m.P m.w m.K m.mg m.base N qual (C8.fnScope st) f cdv A outer s H E).nox vs H Q E ⟨rfl, rfl, rfl, rfl, rfl, rfl, rfl, rfl, hr', PassesOwn.never, S.nd, hg⟩ ⟨rfl, rfl, fun _ => rfl, rfl⟩ q
theorem cal_ofM (F : C8.Def m.K m.mg x st f fd) (b : Binds m.K fd ps []) (S : FnScope N ps (C8.fnScope st)) (len : ∀ vs H Q E, sp vs H Q E → vs.length = ps.length)
    (hb : ∀ (X : Cx) (vs : List V) (H : Hp) (Q : VK) (E : XK), At m N (C8.fnScope st) k X → AtM X x fd.code → sp vs H Q E → wB X (C8.fnBody st) { nx := fun _ H' => Q .non H', rt := Q } (start N vs) H) : Cal m (k + 1) x sp :=
  ⟨f, fd, ps, [], fnG_of F.fn S len hb, F.mgf, F.kp, b, .nil⟩
theorem cal_of (F : C8.Def m.K m.mg x st f fd) (b : Binds m.K fd ps []) (S : FnScope N ps (C8.fnScope st)) (len : ∀ vs H Q E, sp vs H Q E → vs.length = ps.length)
    (hb : ∀ (X : Cx) (vs : List V) (H : Hp) (Q : VK) (E : XK), At m N (C8.fnScope st) k X → sp vs H Q E → wB X (C8.fnBody st) { nx := fun _ H' => Q .non H', rt := Q } (start N vs) H) : Cal m (k + 1) x sp :=
  cal_ofM F b S len fun X vs H Q E h _ q => hb X vs H Q E h q
end
theorem atI_at {α : Type} {xs : List α} {j : Nat} {v : α} (h : xs[j]? = some v) : atI xs (j : Int) = some v := atI_nat h
end Vf
set_option maxRecDepth 100000
set_option maxHeartbeats 4000000
/-! Lam: lambdas with parameters, made in a def's body and handed on. Own work. -/
namespace Vf
open PySem PySem.Spec PyProof.Rows L2 LamX NdefX

/-- a lambda's words -/
structure LF where
  qual : Str
  params : Arguments
  body : Expr
  scope : Scope
  cl : List (Str × Addr)
  c : Addr
abbrev LF.fd (F : LF) (pm ctv : Value) : FuncData := PySem.W.kla_fn "<lambda>" F.qual F.params F.body F.scope F.cl pm (.ref F.c) ctv
abbrev LF.nf (F : LF) : NF := ⟨"<lambda>", F.qual, F.params, [], F.scope, F.cl, F.c⟩
def LamO (f : Addr) (F : LF) : HO := .ext fun h => ∃ (od : Option Addr) (sl : Array (Option Value)) (pm ctv : Value), h.get? f = some (⟨.type "function", od, .func (F.fd pm ctv), sl⟩ : Obj)
theorem lamO_tbl {f : Addr} {F : LF} (ps : Array Value) : LamO f F ≠ .tbl ps := fun z => by unfold LamO at z; cases z
theorem lamO_at {P : Program} {w : World} {H : Hp} {h : Heap} {f : Addr} {F : LF} (hok : HOk P w H h) (e : H f = some (LamO f F)) : ∃ (od : Option Addr) (sl : Array (Option Value)) (pm ctv : Value), h.get? f = some (⟨.type "function", od, .func (F.fd pm ctv), sl⟩ : Obj) := by
  obtain ⟨z, _, _⟩ := hok f _ e
  exact z
theorem lamO_ok {P : Program} {w : World} {H : Hp} {h : Heap} {f : Addr} {F : LF} {od : Option Addr} {sl : Array (Option Value)} {pm ctv : Value} (e : h.get? f = some (⟨.type "function", od, .func (F.fd pm ctv), sl⟩ : Obj)) : ObjOk P w H h f (LamO f F) :=
  ⟨⟨od, sl, pm, ctv, e⟩, ⟨_, e⟩, fun h1 h2 ⟨od, sl, p, t, z⟩ st => ⟨od, sl, p, t, st _ z⟩⟩

section
variable {X : Cx} {pins : List (Addr × Obj)} {σ : L2.St} {H : Hp} {s : Shared}
theorem inv_lam {F : LF} {o : Obj} {t' : Nat} {pm ctv : Value} (I : Inv X pins σ H s) (ho : o = { cls := .type "function", data := .func (F.fd pm ctv) }) :
    Inv X pins σ (upd H s.heap.objs.size (LamO s.heap.objs.size F)) { s with heap := s.heap.push o, toks := t' } := by
  subst ho
  refine I.laid (a := s.heap.objs.size) (fun b u e => Heap.get?_push_of_some _ e) (Nat.le_refl _) ?_
  exact lamO_ok (Heap.get?_push_size _ rfl)
/-- the lambda is made and tracked -/
theorem lam_make3 {T : List (Addr × Str)} {c P : Addr} {params : Arguments} {body : Expr} {scope : Scope} {pos : Pos} {E : Value → Shared → Prop} {Q : Value → Shared → Prop} (I : Inv X pins σ H s) (TB : TabB X.base X.mg c P) (hcode : X.env.code = .ref c)
    (hm : (P, X.env.qual ++ "<lambda>") ∈ T) (hu : ∀ p ∈ T, p.1 = P → p.2 = X.env.qual ++ "<lambda>") (hT : Tabs T H) (hdef : defaultsOf params X.env = ([], [])) (hfree : ∀ y ∈ scope.names, y.2 = .free → ∃ c, X.env.cells.lookup y.1 = some c)
    (h : ∀ (f c' : Addr) (H1 : Hp) (s' : Shared), Inv X pins σ H1 s' → ExtN H H1 → Tabs T H1 → H f = none → H1 f = some (LamO f ⟨X.env.qual ++ "<lambda>", params, body, scope, cloFrom X.env.cells scope.names [], c'⟩) → H1 c' = some (CodeO c' (X.env.qual ++ "<lambda>")) → (∀ b, H1 b = none → H b = none) → Q (.ref f) s') :
    wpAny (model X.prog X.w) X.A (eval (.Lambda params body scope pos) X.env) Q E s := by
  obtain ⟨ps, hP, ht, ha⟩ := hT _ hm
  refine PySem.W.kla_eval hdef ?_
  have bP : s.heap.BuiltinsAt X.mg P := TB.bm.keeps I.bk
  have hP' : s.heap.get? P = some { cls := .none, data := .fields ps } := I.hok P _ hP
  cases hc : codeAmong pos ps.toList with
  | none =>
    refine PySem.W.kla_makeFunction (mg := X.mg) (c := c) (P := P) (ps := ps) (closure_ok hfree) I.ok.glob (I.mod.glob.keeps I.bk) hcode (TB.code.keeps I.bk) hP' ht hc TB.gP bP fun c' ctv h' tk hx hge hlt hrec htb => ?_
    obtain ⟨c2, oc, vs, t, e2, hoc, hd, hv⟩ := hrec
    cases e2
    have nC : H c' = none := I.hok.fresh hge
    have I1 := inv_table (t' := tk) (more := #[rawInt pos.line, rawInt pos.col, .ref c']) (h' := h') I hP (fun b o hb e => hx b o hb e) htb hge ⟨oc, vs, t, hoc, hd, hv⟩
    have hE : ExtN H (upd (upd H P (.tbl (ps ++ #[rawInt pos.line, rawInt pos.col, .ref c']))) c' (CodeO c' (X.env.qual ++ "<lambda>"))) := fun b o e n => by
      rw [upd_ne (ne_of_none e nC), upd_ne (fun z => n ps (Option.some.inj (e.symm.trans (by rw [z]; exact hP))))]
      exact e
    have eL : (ps ++ #[rawInt pos.line, rawInt pos.col, .ref c']).toList = ps.toList ++ [rawInt pos.line, rawInt pos.col, .ref c'] := by simp
    have T1 : Tabs T (upd (upd H P (.tbl (ps ++ #[rawInt pos.line, rawInt pos.col, .ref c']))) c' (CodeO c' (X.env.qual ++ "<lambda>"))) := fun p hp => by
      by_cases hb : p.1 = P
      · rw [hu p hp hb, hb]
        refine ⟨_, by rw [upd_ne (ne_of_none hP nC), upd_same], by rw [eL]; exact PySem.TriplesOk_snoc _ _ _ _ ht, fun p' cv hcv => ?_⟩
        rw [eL] at hcv
        rcases among_app _ ht hcv with z | z
        · obtain ⟨c0, e1, e2⟩ := ha p' cv z
          exact ⟨c0, e1, hE _ _ e2 codeO_ne⟩
        · exact ⟨c', z, upd_same⟩
      · obtain ⟨ps', a1, a2, a3⟩ := hT p hp
        refine ⟨ps', by rw [upd_ne (ne_of_none a1 nC), upd_ne hb]; exact a1, a2, fun p' cv hcv => ?_⟩
        obtain ⟨c0, e1, e2⟩ := a3 p' cv hcv
        exact ⟨c0, e1, hE _ _ e2 codeO_ne⟩
    have nF := I1.hok.fresh (Nat.le_refl _)
    have I2 := inv_lam (F := ⟨X.env.qual ++ "<lambda>", params, body, scope, cloFrom X.env.cells scope.names [], c'⟩) (t' := tk) (pm := (X.mg "__name__").getD .none) (ctv := ctv) I1 rfl
    refine h h'.objs.size c' _ _ I2 (fun b o e n => ?_) (T1.ext fun b o e => ?_) (I.hok.fresh (Nat.le_trans hge (Nat.le_of_lt hlt))) upd_same ?_ (fun b e => upd_none (upd_none (upd_none e)))
    · have e1 := hE b o e n
      exact (upd_ne (ne_of_none e1 nF)).trans e1
    · exact (upd_ne (ne_of_none e nF)).trans e
    · exact (upd_ne (Nat.ne_of_lt hlt)).trans upd_same
  | some cv =>
    obtain ⟨c', e, hco⟩ := ha pos cv hc
    subst e
    refine PySem.W.kla_makeFunctionHit (mg := X.mg) (c := c) (P := P) (ps := ps) (closure_ok hfree) I.ok.glob (I.mod.glob.keeps I.bk) hcode (TB.code.keeps I.bk) hP' ht hc bP fun ctv h' tk hx hsz => ?_
    have I1 : Inv X pins σ H { s with heap := h', toks := tk } := I.kept hx
    have nF : H h'.objs.size = none := I1.hok.fresh (Nat.le_refl _)
    have I2 := inv_lam (F := ⟨X.env.qual ++ "<lambda>", params, body, scope, cloFrom X.env.cells scope.names [], c'⟩) (t' := tk) (pm := (X.mg "__name__").getD .none) (ctv := ctv) I1 rfl
    refine h h'.objs.size c' _ _ I2 (fun b o e n => ?_) (hT.ext fun b o e => ?_) nF upd_same ?_ (fun b e => upd_none e)
    · exact (upd_ne (ne_of_none e nF)).trans e
    · exact (upd_ne (ne_of_none e nF)).trans e
    · exact (upd_ne (ne_of_none hco nF)).trans hco
end

/-! ### what calling a function value promises -/
/-- f, in every heap from H on, keeps the promise sp when it is called -/
structure Callable (m : Md) (k : Nat) (f : Addr) (sp : Sp) (H : Hp) : Prop where
  lam : ∃ F, H f = some (LamO f F)
  run : ∀ (H1 : Hp), ExtN H H1 → ∀ (A : Around) (outer : List Env) (s : Shared) (us : List Value) (vs : List V) (Q : VK), A.guards = some [] → Room k A → Env0 m.P m.w m.K m.mg m.base A outer s H1 → Vals vs us → sp vs H1 Q C8.E0 →
    codeAny (model m.P m.w) A (.call (.ref f) ⟨us, []⟩) (CR C8.CX0 outer m.P m.w H1 s Q C8.E0) s
theorem Callable.ext {m : Md} {k : Nat} {f : Addr} {sp : Sp} {H H' : Hp} (c : Callable m k f sp H) (e : ExtN H H') : Callable m k f sp H' :=
  ⟨by obtain ⟨F, h⟩ := c.lam; exact ⟨F, e _ _ h lamO_tbl⟩, fun H1 e1 => c.run H1 (e.trans e1)⟩
theorem Callable.mono {m : Md} {k j : Nat} {f : Addr} {sp : Sp} {H : Hp} (c : Callable m k f sp H) (h : k ≤ j) : Callable m j f sp H := ⟨c.lam, fun H1 e1 A outer s us vs Q hg hr => c.run H1 e1 A outer s us vs Q hg (hr.mono h)⟩
theorem Callable.imp {m : Md} {k : Nat} {f : Addr} {sp sp' : Sp} {H : Hp} (c : Callable m k f sp H) (h : ∀ H1, ExtN H H1 → ∀ vs Q E, sp' vs H1 Q E → sp vs H1 Q E) : Callable m k f sp' H := ⟨c.lam, fun H1 e1 A outer s us vs Q hg hr e0 r q => c.run H1 e1 A outer s us vs Q hg hr e0 r (h H1 e1 _ _ _ q)⟩

/-- the context of a lambda's body -/
abbrev lcx (m : Md) (N : List Str) (F : LF) (f : Addr) (A : Around) (outer : List Env) (s : Shared) (H : Hp) : Cx := (ncx C8.CX0 m.P m.w m.K m.mg m.base N F.nf f A outer s H C8.E0).nox
/-- a lambda called: its body in its own context; ws: what its captured cells hold -/
theorem lam_run {m : Md} {N ps fr : List Str} {F : LF} {f : Addr} {k : Nat} {A : Around} {outer : List Env} {s : Shared} {H : Hp} {us : List Value} {vs : List V} {ws : List (Option V)} {Q : VK} (S : NScope N ps fr F.scope)
    (hb : ∀ (pm ctv : Value) (us : List Value), us.length = ps.length → bindArgs (F.fd pm ctv) ⟨us, []⟩ = pure (ps.zip us)) (hg : A.guards = some []) (hr : Room (k + 1) A) (e0 : Env0 m.P m.w m.K m.mg m.base A outer s H) (hf : ∃ (od : Option Addr) (sl : Array (Option Value)) (pm ctv : Value), s.heap.get? f = some (⟨.type "function", od, .func (F.fd pm ctv), sl⟩ : Obj))
    (hc : H F.c = some (CodeO F.c F.qual)) (C : CellsAt F.cl fr ws s.heap H) (r : Vals vs us) (hl : vs.length = ps.length)
    (hbody : ∀ (X : Cx), At m N F.scope k X → wE X F.body (startF N vs ws) H Q) : codeAny (model m.P m.w) A (.call (.ref f) ⟨us, []⟩) (CR C8.CX0 outer m.P m.w H s Q C8.E0) s := by
  have lim : s.heap.NoLimit := e0.mod.nolimit.keeps fun b o e => (e0.bs b o e).1
  obtain ⟨od, sl, pm, ctv, ho⟩ := hf
  refine PySem.W.kla_callFunE hr.depth ho rfl S.co S.gen rfl (codeO_at e0.hok hc) ?_
  rw [hb pm ctv us (by rw [← r.length]; exact hl)]
  refine wpAny_pure (wpAny_newFunctionEnv S.nocell (fun ⟨n, _⟩ hy => S.par n (List.of_mem_zip hy).1) (fun h₁ hns hsb => ⟨lim.fresh _ hsb, ?_⟩) S.kind)
  show codeAny _ _ (.expr F.body (envF F.nf f s.heap.objs.size)) _ _
  have kp : ∀ b o, s.heap.get? b = some o → h₁.get? b = some o := fun b o e => hsb.extBut b o (Nat.ne_of_lt (Heap.lt_size e)) (Heap.get?_push_of_some _ e)
  have I : Inv (ncx C8.CX0 m.P m.w m.K m.mg m.base N F.nf f A outer s H C8.E0) [] (startF N vs ws) H { s with heap := h₁, toks := s.toks + (ps.zip us).length } := inv_startN S hr.hd e0 hl r C hns kp
  have hA : At m N F.scope k (lcx m N F f A outer s H) := ⟨rfl, rfl, rfl, rfl, rfl, rfl, rfl, rfl, hr.deeper _, PassesOwn.never, S.nd, hg⟩
  have q := hbody _ hA
  have pe : PE (ncx C8.CX0 m.P m.w m.K m.mg m.base N F.nf f A outer s H C8.E0) F.body (wE (lcx m N F f A outer s H) F.body) := PE.nox cE
  refine PySem.W.kla_codeExpr (wpAny_mono (pe.run [] _ _ H Q I q) (fun v s' hq => ?_) fun e s' hq => hq)
  obtain ⟨w', H', J', rv, q⟩ := hq
  exact ⟨w', H', J'.os, J'.bare, J'.base, J'.hok, rv, q⟩

/-- a name that holds a function value, called -/
theorem w_callv {m : Md} {N : List Str} {sc : Scope} {j k i : Nat} {X : Cx} {x : Str} {sp : Sp} {f : Addr} {σ : L2.St} {H : Hp} {Q : VK} {e : Expr} {es : List Expr} {p pos : Pos} (h : At m N sc j X) (hN : N[i]? = some x) (hv : visB sc x = true) (hs : σ[i]? = some (some (.ref f))) (c : Callable m k f sp H) (hk : k ≤ j)
    (q : wA X (e :: es) σ H fun vs H1 => ExtN H H1 ∧ sp vs H1 Q C8.E0) (hd : (x == ("__debug__" : Str)) = false := by with_unfolding_all decide) (hcd : (x == ("__classdict__" : Str)) = false := by with_unfolding_all decide)
    (he : starEach (e :: es) X.env = (false, eval e X.env) :: starEach es X.env := by with_unfolding_all rfl) (hpl : (backTo pos (starEach es X.env)).any (·.1) = false := by with_unfolding_all rfl) : wE X (.Call (.Name x p) (e :: es) [] pos) σ H Q := by
  unfold wE
  intro pins s I
  refine wpAny_Call_Name_kw (thn ((pe_var (pos := p) (by rw [h.nn]; exact hN) (h.vis hv) hd hcd).run pins s σ H (fun v H1 => v = .ref f ∧ H1 = H) I ⟨.ref f, hs, rfl, rfl⟩) fun u s1 ⟨v, H1, I1, r1, q1⟩ => ?_)
  obtain ⟨rfl, rfl⟩ := q1
  obtain rfl : u = Value.ref f := r1
  obtain ⟨F, hF⟩ := c.lam
  have fnAt : ∀ {H2 : Hp} {s2 : Shared}, Inv X pins σ H2 s2 → ExtN H1 H2 → PySem.W.FnAt f s2.heap := fun {H2 s2} I2 e2 => by
    obtain ⟨od, sl, pm, ctv, ho⟩ := lamO_at I2.hok (e2 _ _ hF lamO_tbl)
    exact ⟨_, od, _, sl, ho⟩
  refine PySem.W.callWith_F (first := []) (fnAt I1 (ExtN.refl _)) (thn ((cA (X := X) (es := e :: es)).run pos pins s1 σ _ _ I1 q) fun us s2 ⟨vs, H2, I2, r, e2, q2⟩ => ⟨fnAt I2 e2, ?_⟩) he hpl
  show wpAny _ _ (call (.ref f) us) _ _ _
  have e0 := I2.env0
  rw [h.pp, h.ww, h.kk, h.mm, h.bb] at e0
  have rc := c.run H2 e2 X.A X.stack s2 us vs Q h.gd (h.room.mono hk) e0 r q2
  rw [← h.pp, ← h.ww] at rc
  refine wpAny_call (codeAny_mono rc fun r s' hq => ?_)
  cases r with
  | error e => exact (show False from hq).elim
  | ok fl =>
    cases fl with
    | ret u => exact I2.after hq
    | next => exact False.elim hq
    | brk => exact False.elim hq
    | cont => exact False.elim hq

/-- a lambda that captures nothing, as a value -/
theorem w_lam0 {m : Md} {N : List Str} {sc : Scope} {j k : Nat} {X : Cx} {T : List (Addr × Str)} {c P : Addr} {qual : Str} {NL ps : List Str} {params : Arguments} {body : Expr} {scope : Scope} {pos : Pos} {sp : Sp} {σ : L2.St} {H : Hp} {Q : VK} (h : At m N sc j X)
    (TB : TabB m.base m.mg c P) (hcode : X.env.code = .ref c) (hqual : X.env.qual ++ "<lambda>" = qual) (hm : (P, qual) ∈ T) (hu : ∀ p ∈ T, p.1 = P → p.2 = qual) (S : NScope NL ps [] scope) (hb : ∀ (c' : Addr) (cl : List (Str × Addr)) (pm ctv : Value) (us : List Value), us.length = ps.length → bindArgs (LF.fd ⟨qual, params, body, scope, cl, c'⟩ pm ctv) ⟨us, []⟩ = pure (ps.zip us))
    (hlen : ∀ vs H Q E, sp vs H Q E → vs.length = ps.length)
    (hbody : ∀ (X : Cx) (vs : List V) (H : Hp) (Q : VK), At m NL scope k X → sp vs H Q C8.E0 → wE X body (startF NL vs []) H Q)
    (hT : Tabs T H) (q : ∀ f H1, ExtN H H1 → Tabs T H1 → (∀ b, H1 b = none → H b = none) → Callable m (k + 1) f sp H1 → Q (.ref f) H1) (hdef : defaultsOf params X.env = ([], []) := by with_unfolding_all rfl) : wE X (.Lambda params body scope pos) σ H Q := by
  unfold wE
  intro pins s I
  subst hqual
  have nofree : ∀ y ∈ scope.names, y.2 = .free → ∃ c, X.env.cells.lookup y.1 = some c := fun y hy e => absurd (S.free y hy e) (by simp)
  refine lam_make3 (T := T) (c := c) (P := P) I (by rw [h.bb, h.mm]; exact TB) hcode hm hu hT hdef nofree fun f c' H1 s' I1 eN T1 f0 f1 c1 nn => ?_
  refine ⟨.ref f, H1, I1, rfl, q f H1 eN T1 nn ⟨⟨_, f1⟩, fun H2 e2 A outer s2 us vs Q2 hg hr e0 r hsp => ?_⟩⟩
  refine lam_run (N := NL) (ps := ps) (fr := []) (ws := []) S (fun pm ctv us hl => hb c' _ pm ctv us hl) hg hr e0 (lamO_at e0.hok (e2 _ _ f1 lamO_tbl)) (e2 _ _ c1 codeO_ne) ?_ r (hlen _ _ _ _ hsp) fun X' hA => hbody X' vs H2 Q2 hA hsp
  have ecl : cloFrom X.env.cells scope.names [] = [] := by
    cases hcl : cloFrom X.env.cells scope.names [] with
    | nil => rfl
    | cons y r =>
      have hm2 : (y.1, y.2) ∈ cloFrom X.env.cells scope.names [] := by rw [hcl]; exact List.mem_cons_self
      rcases cloFrom_mem hm2 with z | ⟨z, _⟩
      · cases z
      · exact absurd (S.free _ z rfl) (by simp)
  refine ⟨rfl, fun y c e => ?_, fun x y c e => ?_, fun i y e => ?_⟩
  · rw [ecl] at e; cases e
  · rw [ecl] at e; cases e
  · simp at e

/-! ### one captured cell, locked while the function is handed on -/
def dl (H : Hp) (c : Addr) : Hp := fun b => if b = c then none else H b
theorem dl_same {H : Hp} {c : Addr} : dl H c c = none := if_pos rfl
theorem dl_ne {H : Hp} {b c : Addr} (h : b ≠ c) : dl H c b = H b := if_neg h
theorem dl_some {H : Hp} {b c : Addr} {o : HO} (h : dl H c b = some o) : b ≠ c ∧ H b = some o := by
  by_cases e : b = c
  · subst e; rw [dl_same] at h; cases h
  · rw [dl_ne e] at h; exact ⟨e, h⟩
abbrev lkO (o : Obj) : HO := .frz o (.own 0)
section
variable {P : Program} {w : World} {H H1 : Hp} {h h' : Heap} {c : Addr} {o : Obj} {fs ex : List Addr}
theorem HOk.lock (x : HOk P w H h) (n : H c = none) (e : h.get? c = some o) : HOk P w (upd H c (lkO o)) h := fun b u q => by
  by_cases hb : b = c
  · subst hb; rw [upd_same] at q; cases q; exact ⟨e, ⟨o, e⟩⟩
  · rw [upd_ne hb] at q
    exact (x b u q).stay (fun _ _ _ r => r) (fun d r => by rw [upd_ne (ne_of_none r n)]; exact r) fun d xs r => by rw [upd_ne (ne_of_none r n)]; exact r
theorem HOk.unlock (x : HOk P w H h) (e : H c = some (lkO o)) : HOk P w (dl H c) h := fun b u q => by
  obtain ⟨hb, q⟩ := dl_some q
  exact (x b u q).stay (fun _ _ _ r => r) (fun d r => by rw [dl_ne (fun z => by subst z; rw [e] at r; cases r)]; exact r) fun d xs r => by rw [dl_ne (fun z => by subst z; rw [e] at r; cases r)]; exact r
/-- behind a run that saw the lock -/
theorem Un.unlock (u : Un fs ex (upd H c (lkO o)) H1 h h') (ok : HOk P w H1 h') (n : H c = none) (e : h.get? c = some o) (hfs : c ∉ fs) (hex : c ∉ ex) : Un fs ex H (dl H1 c) h h' := by
  have hc1 : H1 c = some (lkO o) := u.frzs c o _ upd_same
  have hc' : h'.get? c = some o := (ok c _ hc1).1
  refine ⟨fun b ob q nb hf hx => ?_, fun b ob q nb hf hx => ?_, fun b ob q nb hx => ?_, fun b ob q hx => u.there b ob q hx, fun b xs q => ?_, fun b ob z q => ?_, fun b ps q => ?_⟩
  · by_cases hb : b = c
    · subst hb; rw [e] at q; cases q; exact hc'
    · exact u.keep b ob q (by rw [upd_ne hb]; exact nb) hf hx
  · by_cases hb : b = c
    · subst hb; exact absurd hf hfs
    · exact u.slot b ob q (by rw [upd_ne hb]; exact nb) hf hx
  · by_cases hb : b = c
    · subst hb; exact dl_same
    · rw [dl_ne hb]; exact u.free b ob q (by rw [upd_ne hb]; exact nb) hx
  · have hb : b ≠ c := ne_of_none q n
    rw [dl_ne hb]; exact u.tups b xs (by rw [upd_ne hb]; exact q)
  · have hb : b ≠ c := ne_of_none q n
    rw [dl_ne hb]; exact u.frzs b ob z (by rw [upd_ne hb]; exact q)
  · have hb : b ≠ c := ne_of_none q n
    obtain ⟨more, z⟩ := u.tbls b ps (by rw [upd_ne hb]; exact q)
    exact ⟨more, by rw [dl_ne hb]; exact z⟩
/-- a run from which the lock was taken away, with it again -/
theorem Un.relock (u : Un fs ex (dl H c) H1 h h') (e : H c = some (lkO o)) (ec : h.get? c = some o) (hfs : c ∉ fs) (hex : c ∉ ex) : Un fs ex H (upd H1 c (lkO o)) h h' := by
  refine ⟨fun b ob q nb hf hx => ?_, fun b ob q nb hf hx => ?_, fun b ob q nb hx => ?_, fun b ob q hx => u.there b ob q hx, fun b xs q => ?_, fun b ob z q => ?_, fun b ps q => ?_⟩
  · have hb : b ≠ c := fun z => by subst z; rw [e] at nb; cases nb
    exact u.keep b ob q (by rw [dl_ne hb]; exact nb) hf hx
  · have hb : b ≠ c := fun z => by subst z; rw [e] at nb; cases nb
    exact u.slot b ob q (by rw [dl_ne hb]; exact nb) hf hx
  · have hb : b ≠ c := fun z => by subst z; rw [e] at nb; cases nb
    rw [upd_ne hb]; exact u.free b ob q (by rw [dl_ne hb]; exact nb) hx
  · have hb : b ≠ c := fun z => by subst z; rw [e] at q; cases q
    rw [upd_ne hb]; exact u.tups b xs (by rw [dl_ne hb]; exact q)
  · by_cases hb : b = c
    · subst hb; rw [e] at q; cases q; exact upd_same
    · rw [upd_ne hb]; exact u.frzs b ob z (by rw [dl_ne hb]; exact q)
  · have hb : b ≠ c := fun z => by subst z; rw [e] at q; cases q
    obtain ⟨more, z⟩ := u.tbls b ps (by rw [dl_ne hb]; exact q)
    exact ⟨more, by rw [upd_ne hb]; exact z⟩
theorem HOk.relock (x : HOk P w H1 h') (u : Un fs ex (dl H c) H1 h h') (ec : h.get? c = some o) (hfs : c ∉ fs) (hex : c ∉ ex) : HOk P w (upd H1 c (lkO o)) h' := by
  have hn : H1 c = none := u.free c o ec dl_same hex
  exact HOk.lock x hn (u.keep c o ec dl_same hfs hex)
end
/-- the captured cell of a function value: its address, its object, what it holds -/
structure Cap1 (F : LF) (y : Str) (c : Addr) (o : Obj) (v : V) : Prop where
  look : F.cl.lookup y = some c
  only : ∀ y' c', F.cl.lookup y' = some c' → y' = y
  data : ∃ u, o.data = .cell (some u) ∧ RelV v u
theorem ExtN.frz {H H' : Hp} (e : ExtN H H') {c : Addr} {o : Obj} {u : HO} (h : H c = some (.frz o u)) : H' c = some (.frz o u) := e _ _ h (fun _ z => by cases z)
/-- a lambda that captures one name, handed to a def by its last argument: g(e1, lambda ..: ..) -/
theorem w_lam1 {m : Md} {N : List Str} {sc : Scope} {j k kg iy : Nat} {X : Cx} {T : List (Addr × Str)} {c P : Addr} {x y xg : Str} {cdv : Value} {NL ps : List Str} {params : Arguments} {body e1 : Expr} {scope : Scope} {lpos p pos : Pos} {spw spg : Sp} {v : V} {σ : L2.St} {H : Hp} {Q : VK}
    (h : At m N sc j X) (hm' : AtM X x cdv) (TB : TabB m.base m.mg c P) (hcode : cdv = .ref c) (hm : (P, x ++ ".<locals>." ++ "<lambda>") ∈ T) (hu : ∀ p ∈ T, p.1 = P → p.2 = x ++ ".<locals>." ++ "<lambda>") (S : NScope NL ps [y] scope) (hy : (y, NameKind.free) ∈ scope.names)
    (hyN : N[iy]? = some y) (hyc : sc.names.lookup y = some .cell) (hyv : σ[iy]? = some (some v))
    (hb : ∀ (c' : Addr) (cl : List (Str × Addr)) (pm ctv : Value) (us : List Value), us.length = ps.length → bindArgs (LF.fd ⟨x ++ ".<locals>." ++ "<lambda>", params, body, scope, cl, c'⟩ pm ctv) ⟨us, []⟩ = pure (ps.zip us))
    (hlen : ∀ vs H Q E, spw vs H Q E → vs.length = ps.length) (hbody : ∀ (X : Cx) (vs : List V) (H : Hp) (Q : VK), At m NL scope k X → spw vs H Q C8.E0 → wE X body (startF NL vs [some v]) H Q)
    (g : Cal m kg xg spg) (hkg : kg ≤ j) (hgl : sc.names.lookup xg = some .globalImplicit)
    (q : wE X e1 σ H fun v1 H1 => Tabs T H1 ∧ ∀ (f ca : Addr) (o : Obj) (H2 : Hp), H1 ca = none → ExtN H1 H2 → Tabs T H2 → H2 ca = some (lkO o) →
      Callable m (k + 1) f (fun vs H Q E => H ca = some (lkO o) ∧ spw vs (dl H ca) (fun v H' => Q v (upd H' ca (lkO o))) E) H2 → spg [v1, .ref f] H2 (fun v H3 => Q v (dl H3 ca)) C8.E0)
    (hdef : defaultsOf params X.env = ([], []) := by with_unfolding_all rfl) (hdb : (xg == ("__debug__" : Str)) = false := by with_unfolding_all decide)
    (he : starEach [e1, .Lambda params body scope lpos] X.env = (false, eval e1 X.env) :: starEach [.Lambda params body scope lpos] X.env := by with_unfolding_all rfl) (he2 : starEach [.Lambda params body scope lpos] X.env = [(false, eval (.Lambda params body scope lpos) X.env)] := by with_unfolding_all rfl)
    (hpl : (backTo pos (starEach [.Lambda params body scope lpos] X.env)).any (·.1) = false := by with_unfolding_all rfl) : wE X (.Call (.Name xg p) [e1, .Lambda params body scope lpos] [] pos) σ H Q := by
  subst hcode
  obtain ⟨fg, fdg, psg, dsg, Fg, hmg, kpg, bg, dg⟩ := g.ex
  unfold wE
  intro pins s I
  have bs0 := I.ok
  refine wpAny_Call_Name_kw (ld_glob (u := .ref fg) I (h.gl hgl) (by rw [h.mm]; exact hmg) ?_ hdb)
  refine PySem.W.callWith_K (h₀ := X.base) I.ok.mod.kin (by rw [h.kk]; exact kpg) ?_ he hpl
  rw [he]
  show wpAny _ _ (spliced ((false, eval e1 X.env) :: backTo pos (starEach [.Lambda params body scope lpos] X.env))) _ _ s
  refine Calls.spliced_cons (thn ((cE (X := X) (e := e1)).run pins s σ H _ I q) fun u1 s1 ⟨v1, H1, I1, r1, hT, q1⟩ => ?_)
  rw [he2]
  show wpAny _ _ (spliced ((false, eval (.Lambda params body scope lpos) X.env) :: backTo pos [])) _ _ s1
  have hq : X.env.qual ++ "<lambda>" = x ++ ".<locals>." ++ "<lambda>" := by rw [hm'.qual]
  have hfree : ∀ z ∈ scope.names, z.2 = .free → X.env.scope.names.lookup z.1 = some .cell ∨ X.env.scope.names.lookup z.1 = some .free := fun z hz e => by
    have := S.free z hz e
    simp only [List.mem_singleton] at this
    rw [this, h.ss]; exact .inl hyc
  have hfree' : ∀ z ∈ scope.names, z.2 = .free → ∃ c, X.env.cells.lookup z.1 = some c := fun z hz e => (hfree z hz e).elim (fun k => I1.ok.has _ (.inl k)) fun k => I1.ok.has _ (.inr k)
  refine Calls.spliced_cons (lam_make3 (T := T) (c := c) (P := P) I1 (by rw [h.bb, h.mm]; exact TB) hm'.code (by rw [hq]; exact hm) (by rw [hq]; exact hu) hT hdef hfree' fun f c' H2 s2 I2 eN T2 f0 f1 c1 nn => ?_)
  refine Calls.spliced_nil ⟨I2.kIn, ?_⟩
  rw [hq] at f1 c1
  -- the captured cell
  have cp : Caps X (cloFrom X.env.cells scope.names []) [y] [iy] := Caps.made I2.ok hfree (fun z hz => by simp only [List.mem_singleton] at hz; subst hz; exact hy) (by simp [h.nn, hyN])
  have C := cells_of I2 cp
  obtain ⟨ca, hca, hval⟩ := C.has 0 y rfl
  have eslot : slotAt σ iy = some v := slotAt_of hyv
  obtain ⟨u, ru, o, ho, hod⟩ := hval v (by show ([iy].map (slotAt σ))[0]? = _; simp [eslot])
  have nca : H2 ca = none := (C.all y ca hca).1
  have nca1 : H1 ca = none := nn ca nca
  have hX : X.env.cells.lookup y = some ca := cp.sub y ca hca
  have only : ∀ y' c'', (cloFrom X.env.cells scope.names []).lookup y' = some c'' → y' = y := fun y' c'' e => by
    rcases cloFrom_mem (PySem.mem_of_lookup e) with z | ⟨z, _⟩
    · cases z
    · simpa using S.free (y', .free) z rfl
  have cs0 : X.s_0.heap.objs.size ≤ ca := I2.ok.cab y ca (hm'.fn y) hX
  have ncb : ∀ b ob, X.base.get? b = some ob → b ≠ ca := fun b ob e z => by
    subst z
    exact absurd (Nat.lt_of_lt_of_le (Heap.lt_size e) (Nat.le_trans I2.ok.bsz cs0)) (Nat.lt_irrefl _)
  have nfs : ca ∉ frs X.stack := fun z => by
    rcases List.mem_cons.mp (I2.stkSub _ z) with e | hb'
    · exact I2.cne y ca hX e
    · obtain ⟨_, ob, hob, _⟩ := I2.ok.funs.mem hb'
      exact absurd (Nat.lt_of_lt_of_le (Heap.lt_size hob) cs0) (Nat.lt_irrefl _)
  let H3 := upd H2 ca (lkO o)
  have ok3 : HOk X.prog X.w H3 s2.heap := HOk.lock I2.hok nca ho
  have e0 := I2.env0
  have e03 : Env0 X.prog X.w X.K X.mg X.base X.A X.stack s2 H3 := ⟨e0.frames, e0.mod, fun b ob e => ⟨(e0.bs b ob e).1, by show upd H2 ca (lkO o) b = none; rw [upd_ne (ncb b ob e)]; exact (e0.bs b ob e).2⟩, e0.bsz, e0.funs,
    fun b hb' => by show upd H2 ca (lkO o) b = none; rw [upd_ne (fun z => nfs (by rw [← z]; exact hb'))]; exact e0.frf b hb', ok3, e0.bare⟩
  have x23 : ExtN H2 H3 := fun b ob e _ => by show upd H2 ca (lkO o) b = _; rw [upd_ne (ne_of_none e nca)]; exact e
  have t3 : Tabs T H3 := Tabs.ext T2 fun b ob e => by show upd H2 ca (lkO o) b = _; rw [upd_ne (ne_of_none e nca)]; exact e
  have F3 : H3 f = some (LamO f _) := x23 _ _ f1 lamO_tbl
  have C3 : H3 c' = some (CodeO c' _) := x23 _ _ c1 codeO_ne
  have hcall : Callable m (k + 1) f (fun vs H Q E => H ca = some (lkO o) ∧ spw vs (dl H ca) (fun v H' => Q v (upd H' ca (lkO o))) E) H3 := by
    refine ⟨⟨_, F3⟩, fun H4 e4 A outer s4 us vs Q4 hg hr e04 r hsp => ?_⟩
    obtain ⟨hc4, hsp⟩ := hsp
    have ho4 : s4.heap.get? ca = some o := (e04.hok ca _ hc4).1
    have nf4 : ca ∉ frs outer := fun z => by have := e04.frf ca z; rw [hc4] at this; cases this
    have e05 : Env0 m.P m.w m.K m.mg m.base A outer s4 (dl H4 ca) := ⟨e04.frames, e04.mod, fun b ob e => ⟨(e04.bs b ob e).1, by
        by_cases hb' : b = ca
        · subst hb'; exact dl_same
        · rw [dl_ne hb']; exact (e04.bs b ob e).2⟩, e04.bsz, e04.funs, fun b hb' => by rw [dl_ne (fun z => nf4 (by rw [← z]; exact hb'))]; exact e04.frf b hb', HOk.unlock e04.hok hc4, e04.bare⟩
    have nef : c' ≠ ca := ne_of C3 (show H3 ca = some (lkO o) from upd_same) (by unfold CodeO; intro z; cases z)
    have F4 := e4 _ _ F3 lamO_tbl
    have C4 : dl H4 ca c' = some (CodeO c' (x ++ ".<locals>." ++ "<lambda>")) := by rw [dl_ne nef]; exact e4 _ _ C3 codeO_ne
    have run := lam_run (m := m) (N := NL) (ps := ps) (fr := [y]) (ws := [some v]) (F := ⟨x ++ ".<locals>." ++ "<lambda>", params, body, scope, cloFrom X.env.cells scope.names [], c'⟩) (f := f) (Q := fun v H' => Q4 v (upd H' ca (lkO o))) S (fun pm ctv us hl => hb c' _ pm ctv us hl) hg hr e05 (lamO_at e04.hok F4) C4
      ⟨rfl, fun y' c'' e => ?_, fun a b c0 h1 h2 => by rw [only a c0 h1, only b c0 h2], fun i y' e => ?_⟩ r (hlen _ _ _ _ hsp) fun X' hA => hbody X' vs _ _ hA hsp
    · refine codeAny_mono run fun r s' hq => ?_
      cases r with
      | error e => exact hq
      | ok fl =>
        cases fl with
        | ret u' =>
          obtain ⟨v', H', os, bare, un, hok, rv, qq⟩ := hq
          exact ⟨v', upd H' ca (lkO o), os, bare, Un.relock un hc4 ho4 nf4 (by simp), HOk.relock hok un ho4 nf4 (by simp), rv, qq⟩
        | next => exact hq
        | brk => exact hq
        | cont => exact hq
    · have := only y' c'' e
      subst this
      rw [hca] at e; cases e
      exact ⟨dl_same, _, o, ho4, hod⟩
    · match i, e with
      | 0, e =>
        cases e
        exact ⟨ca, hca, fun v' ev => by cases ev; exact ⟨u, ru, o, ho4, hod⟩⟩
  have hsp := q1 f ca o H3 nca1 (eN.trans x23) t3 upd_same hcall
  have r2 : Vals ([v1, .ref f] ++ []) ([u1, .ref f] ++ dsg) := Vals.append (Paired.cons r1 (Paired.cons rfl .nil) : Vals [v1, .ref f] [u1, .ref f]) dg
  have rc := Fg.run X.A X.stack s2 H3 ⟨[u1, .ref f], []⟩ ([u1, .ref f] ++ dsg) [v1, .ref f] (fun v H3 => Q v (dl H3 ca)) C8.E0 h.gd (h.room.mono hkg) (by rw [← h.pp, ← h.ww, ← h.kk, ← h.mm, ← h.bb]; exact e03)
    (bg s2 [u1, .ref f] (by rw [← h.kk]; exact I2.kIn) (by rw [← r2.length]; have := Fg.len _ _ _ _ hsp; simpa using this)) (by simpa using r2) hsp
  show wpAny _ _ (call (.ref fg) [u1, .ref f]) _ _ _
  rw [← h.pp, ← h.ww] at rc
  refine wpAny_call (codeAny_mono rc fun r s' hq => ?_)
  cases r with
  | error e => exact (show False from hq).elim
  | ok fl =>
    cases fl with
    | ret u' =>
      obtain ⟨v', H', os, bare, un, hok, rv, qq⟩ := hq
      exact I2.after ⟨v', dl H' ca, os, bare, Un.unlock un hok nca ho nfs (by simp), HOk.unlock hok (un.frzs ca o _ upd_same), rv, qq⟩
    | next => exact False.elim hq
    | brk => exact False.elim hq
    | cont => exact False.elim hq
end Vf
set_option maxRecDepth 100000
set_option maxHeartbeats 4000000
/-! Dat: data at any depth in the abstract heap, with the addresses that it lies at. Own work. -/
namespace Vf
open PySem PySem.Spec PyProof.Rows L2 LamX

mutual
/-- v is the data d; all lists of it lie at addresses of A -/
inductive Da (K : PySem.W.Frag) (A : Addr → Prop) (H : Hp) : V → PyData → Prop
  | non : Da K A H .non .none
  | bl (b : Bool) : Da K A H (.bl b) (.bool b)
  | int (i : Int) : Da K A H (.int i) (.int i)
  | str (x : Str) : Da K A H (.str x) (.str x)
  | lst {a : Addr} {xs : List V} {ds : List PyData} : A a → SqL K H a xs → DaAll K A H xs ds → Da K A H (.ref a) (.list ds)
  | tup {a : Addr} {xs : List V} {ds : List PyData} : SqT K H a xs → DaAll K A H xs ds → Da K A H (.ref a) (.tuple ds)
inductive DaAll (K : PySem.W.Frag) (A : Addr → Prop) (H : Hp) : List V → List PyData → Prop
  | nil : DaAll K A H [] []
  | cons {v : V} {vs : List V} {d : PyData} {ds : List PyData} : Da K A H v d → DaAll K A H vs ds → DaAll K A H (v :: vs) (d :: ds)
end
section
variable {K : PySem.W.Frag} {A A' : Addr → Prop} {H H' : Hp}
mutual
theorem Da.dp : ∀ (d : PyData) (v : V), Da K A H v d → Dp K H v d
  | .none, _, h => by cases h; exact .non
  | .bool b, _, h => by cases h; exact .bl b
  | .int i, _, h => by cases h; exact .int i
  | .str x, _, h => by cases h; exact .str x
  | .list ds, _, h => by cases h with | lst _ s r => exact .lst s (DaAll.dp ds _ r)
  | .tuple ds, _, h => by cases h with | tup s r => exact .tup s (DaAll.dp ds _ r)
  | .dict _, _, h => by cases h
theorem DaAll.dp : ∀ (ds : List PyData) (vs : List V), DaAll K A H vs ds → DpAll K H vs ds
  | [], _, h => by cases h; exact .nil
  | d :: ds, _, h => by cases h with | cons a b => exact .cons (Da.dp d _ a) (DaAll.dp ds _ b)
end
mutual
theorem Da.mono (hA : ∀ a, A a → A' a) (hL : ∀ a xs, A a → SqL K H a xs → SqL K H' a xs) (hT : ∀ a xs, SqT K H a xs → SqT K H' a xs) : ∀ (d : PyData) (v : V), Da K A H v d → Da K A' H' v d
  | .none, _, h => by cases h; exact .non
  | .bool b, _, h => by cases h; exact .bl b
  | .int i, _, h => by cases h; exact .int i
  | .str x, _, h => by cases h; exact .str x
  | .list ds, _, h => by cases h with | lst a s r => exact .lst (hA _ a) (hL _ _ a s) (DaAll.mono hA hL hT ds _ r)
  | .tuple ds, _, h => by cases h with | tup s r => exact .tup (hT _ _ s) (DaAll.mono hA hL hT ds _ r)
  | .dict _, _, h => by cases h
theorem DaAll.mono (hA : ∀ a, A a → A' a) (hL : ∀ a xs, A a → SqL K H a xs → SqL K H' a xs) (hT : ∀ a xs, SqT K H a xs → SqT K H' a xs) : ∀ (ds : List PyData) (vs : List V), DaAll K A H vs ds → DaAll K A' H' vs ds
  | [], _, h => by cases h; exact .nil
  | d :: ds, _, h => by cases h with | cons a b => exact .cons (Da.mono hA hL hT d _ a) (DaAll.mono hA hL hT ds _ b)
end
mutual
theorem Dp.noDict : ∀ (d : PyData) (v : V), Dp K H v d → d.hasDict = false
  | .none, _, _ => rfl
  | .bool _, _, _ => rfl
  | .int _, _, _ => rfl
  | .str _, _, _ => rfl
  | .list ds, _, h => by cases h with | lst s r => show PyData.hasDictAll ds = false; exact DpAll.noDict ds _ r
  | .tuple ds, _, h => by cases h with | tup s r => show PyData.hasDictAll ds = false; exact DpAll.noDict ds _ r
  | .dict _, _, h => by cases h
theorem DpAll.noDict : ∀ (ds : List PyData) (vs : List V), DpAll K H vs ds → PyData.hasDictAll ds = false
  | [], _, _ => rfl
  | d :: ds, _, h => by cases h with | cons a b => show (d.hasDict || PyData.hasDictAll ds) = false; rw [Dp.noDict d _ a, DpAll.noDict ds _ b]; rfl
end
/-- everything -/
abbrev Any : Addr → Prop := fun _ => True
mutual
theorem Da.of : ∀ (d : PyData) (v : V), Dp K H v d → Da K Any H v d
  | .none, _, h => by cases h; exact .non
  | .bool b, _, h => by cases h; exact .bl b
  | .int i, _, h => by cases h; exact .int i
  | .str x, _, h => by cases h; exact .str x
  | .list ds, _, h => by cases h with | lst s r => exact .lst trivial s (DaAll.of ds _ r)
  | .tuple ds, _, h => by cases h with | tup s r => exact .tup s (DaAll.of ds _ r)
  | .dict _, _, h => by cases h
theorem DaAll.of : ∀ (ds : List PyData) (vs : List V), DpAll K H vs ds → DaAll K Any H vs ds
  | [], _, h => by cases h; exact .nil
  | d :: ds, _, h => by cases h with | cons a b => exact .cons (Da.of d _ a) (DaAll.of ds _ b)
end
theorem DaAll.length : ∀ {vs : List V} {ds : List PyData}, DaAll K A H vs ds → vs.length = ds.length
  | _, _, .nil => rfl
  | _, _, .cons _ r => congrArg (· + 1) (DaAll.length r)
theorem DaAll.get : ∀ {vs : List V} {ds : List PyData} {i : Nat} {d : PyData}, DaAll K A H vs ds → ds[i]? = some d → ∃ v, vs[i]? = some v ∧ Da K A H v d
  | _, _, i, _, .nil, e => by simp at e
  | _, _, 0, _, .cons a _, e => by simp at e; subst e; exact ⟨_, rfl, a⟩
  | _, _, i + 1, d, .cons _ r, e => by
    obtain ⟨v, h1, h2⟩ := DaAll.get (i := i) r (by simpa using e)
    exact ⟨v, by simpa using h1, h2⟩
theorem DaAll.getV : ∀ {vs : List V} {ds : List PyData} {i : Nat} {v : V}, DaAll K A H vs ds → vs[i]? = some v → ∃ d, ds[i]? = some d ∧ Da K A H v d
  | _, _, i, _, .nil, e => by simp at e
  | _, _, 0, _, .cons a _, e => by simp at e; subst e; exact ⟨_, rfl, a⟩
  | _, _, i + 1, d, .cons _ r, e => by
    obtain ⟨v, h1, h2⟩ := DaAll.getV (i := i) r (by simpa using e)
    exact ⟨v, by simpa using h1, h2⟩
theorem DaAll.append : ∀ {vs ws : List V} {ds es : List PyData}, DaAll K A H vs ds → DaAll K A H ws es → DaAll K A H (vs ++ ws) (ds ++ es)
  | _, _, _, _, .nil, s => s
  | _, _, _, _, .cons a r, s => .cons a (DaAll.append r s)
end

/-! ### how heaps grow -/
theorem SqL.ext {K : PySem.W.Frag} {H H' : Hp} {a : Addr} {xs : List V} (e : ExtN H H') (h : SqL K H a xs) : SqL K H' a xs := by
  rcases h with (h | ⟨o, h⟩) | h
  · exact .inl (.inl (e _ _ h (fun _ z => by cases z)))
  · exact .inl (.inr ⟨o, e _ _ h (fun _ z => by cases z)⟩)
  · exact .inr h
theorem SqT.ext {K : PySem.W.Frag} {H H' : Hp} {a : Addr} {xs : List V} (e : ExtN H H') (h : SqT K H a xs) : SqT K H' a xs := by
  rcases h with (h | ⟨o, h⟩) | h
  · exact .inl (.inl (e _ _ h (fun _ z => by cases z)))
  · exact .inl (.inr ⟨o, e _ _ h (fun _ z => by cases z)⟩)
  · exact .inr h
/-- what was tracked stays, but for the objects of S (and tables of code, which grow); the tables T stay tables; no tuple and nothing frozen changes -/
structure GrowX (T : List (Addr × Str)) (S : Addr → Prop) (H H' : Hp) : Prop where
  ext : ∀ b o, ¬ S b → H b = some o → (∀ ps, o ≠ .tbl ps) → H' b = some o
  tab : Tabs T H → Tabs T H'
  keep : ∀ b, H' b = none → H b = none
  tup : ∀ b xs, H b = some (.tup xs) → H' b = some (.tup xs)
  frz : ∀ b o u, H b = some (.frz o u) → H' b = some (.frz o u)
abbrev Grow (T : List (Addr × Str)) (H H' : Hp) : Prop := GrowX T (fun _ => False) H H'
section
variable {T : List (Addr × Str)} {S S' : Addr → Prop} {H H1 H2 : Hp} {K : PySem.W.Frag} {A : Addr → Prop}
theorem GrowX.refl : GrowX T S H H := ⟨fun _ _ _ h _ => h, id, fun _ h => h, fun _ _ h => h, fun _ _ _ h => h⟩
theorem GrowX.trans (a : GrowX T S H H1) (b : GrowX T S H1 H2) : GrowX T S H H2 := ⟨fun c o s h n => b.ext c o s (a.ext c o s h n) n, fun t => b.tab (a.tab t), fun c h => a.keep c (b.keep c h), fun c xs h => b.tup c xs (a.tup c xs h), fun c o u h => b.frz c o u (a.frz c o u h)⟩
theorem GrowX.weak (a : GrowX T S H H1) (h : ∀ b, S b → S' b) : GrowX T S' H H1 := ⟨fun c o s e n => a.ext c o (fun z => s (h c z)) e n, a.tab, a.keep, a.tup, a.frz⟩
theorem Grow.extN (a : Grow T H H1) : ExtN H H1 := fun b o h n => a.ext b o (fun z => z) h n
theorem Grow.of (a : ExtN H H1) (t : Tabs T H → Tabs T H1) (k : ∀ b, H1 b = none → H b = none) : Grow T H H1 := ⟨fun b o _ h n => a b o h n, t, k, fun b xs h => a b _ h (fun _ z => by cases z), fun b o u h => a b _ h (fun _ z => by cases z)⟩
theorem Grow.to (a : Grow T H H1) : GrowX T S H H1 := a.weak fun _ z => z.elim
theorem Grow.new {p : Addr} {o : HO} (h : H p = none) : Grow T H (upd H p o) := ⟨fun b u _ e _ => by rw [upd_ne (ne_of_none e h)]; exact e, fun t => t.ext fun b u e => by rw [upd_ne (ne_of_none e h)]; exact e, fun b e => NdefX.upd_none e, fun b xs e => by rw [upd_ne (ne_of_none e h)]; exact e, fun b u v e => by rw [upd_ne (ne_of_none e h)]; exact e⟩
theorem GrowX.set {p : Addr} {o u : HO} (hp : S p) (h : H p = some u) (n : ∀ ps, u ≠ .tbl ps) (hc : ∀ q, u ≠ CodeO p q) (ht : ∀ xs, u ≠ .tup xs) (hf : ∀ w v, u ≠ .frz w v) : GrowX T S H (upd H p o) := by
  refine ⟨fun b w s e _ => by rw [upd_ne (fun z => s (by rw [z]; exact hp))]; exact e, fun t q hq => ?_, fun b e => NdefX.upd_none e, fun b xs e => by rw [upd_ne (fun z => ht xs (Option.some.inj (h.symm.trans (by rw [← z]; exact e))))]; exact e, fun b w v e => by rw [upd_ne (fun z => hf w v (Option.some.inj (h.symm.trans (by rw [← z]; exact e))))]; exact e⟩
  obtain ⟨ps, h1, h2, h3⟩ := t q hq
  refine ⟨ps, by rw [upd_ne (fun z => n ps (Option.some.inj (h.symm.trans (by rw [← z]; exact h1))))]; exact h1, h2, fun pos cv hc' => ?_⟩
  obtain ⟨c, e1, e2⟩ := h3 pos cv hc'
  exact ⟨c, e1, by rw [upd_ne (fun z => hc q.2 (Option.some.inj (h.symm.trans (by rw [← z]; exact e2))))]; exact e2⟩
theorem GrowX.seqL {a : Addr} {xs : List V} (g : GrowX T S H H1) (h : SqL K H a xs) (n : ¬ S a) : SqL K H1 a xs := by
  rcases h with (h | ⟨o, h⟩) | h
  · exact .inl (.inl (g.ext _ _ n h (fun _ z => by cases z)))
  · exact .inl (.inr ⟨o, g.ext _ _ n h (fun _ z => by cases z)⟩)
  · exact .inr h
theorem GrowX.seqT {a : Addr} {xs : List V} (g : GrowX T S H H1) (h : SqT K H a xs) : SqT K H1 a xs := by
  rcases h with (h | ⟨o, h⟩) | h
  · exact .inl (.inl (g.tup _ _ h))
  · exact .inl (.inr ⟨o, g.frz _ _ _ h⟩)
  · exact .inr h
theorem GrowX.da {v : V} {d : PyData} (g : GrowX T S H H1) (h : Da K A H v d) (n : ∀ a, A a → ¬ S a) : Da K A H1 v d := Da.mono (fun _ z => z) (fun a xs ha e => g.seqL e (n a ha)) (fun a xs e => g.seqT e) d v h
theorem GrowX.daAll {v : List V} {d : List PyData} (g : GrowX T S H H1) (h : DaAll K A H v d) (n : ∀ a, A a → ¬ S a) : DaAll K A H1 v d := DaAll.mono (fun _ z => z) (fun a xs ha e => g.seqL e (n a ha)) (fun a xs e => g.seqT e) d v h
theorem Grow.da {v : V} {d : PyData} (g : Grow T H H1) (h : Da K A H v d) : Da K A H1 v d := GrowX.da g h fun _ _ z => z
theorem Grow.daAll {v : List V} {d : List PyData} (g : Grow T H H1) (h : DaAll K A H v d) : DaAll K A H1 v d := GrowX.daAll g h fun _ _ z => z
theorem Da.sub {A' : Addr → Prop} {v : V} {d : PyData} (h : Da K A H v d) (s : ∀ a, A a → A' a) : Da K A' H v d := Da.mono s (fun _ _ _ e => e) (fun _ _ e => e) d v h
theorem DaAll.sub {A' : Addr → Prop} {v : List V} {d : List PyData} (h : DaAll K A H v d) (s : ∀ a, A a → A' a) : DaAll K A' H v d := DaAll.mono s (fun _ _ _ e => e) (fun _ _ e => e) d v h
/-- free addresses -/
abbrev New (H : Hp) : Addr → Prop := fun a => H a = none
theorem GrowX.new {a : Addr} (g : GrowX T S H H1) (h : New H1 a) : New H a := g.keep a h
end

/-! ### repr of data -/
theorem call_reprD {X : Cx} (hg : X.A.guards = some []) (hu : X.A.units + 64 < cLine) : CallR X (.builtin "repr") (fun xs H Q => ∃ v d, xs = [v] ∧ Dp X.K H v d ∧ d.showable = true ∧ d.shown.length ≤ sizeLine ∧ d.depth ≤ 60 ∧ Q (.str d.shown) H) := by
  intro pins s σ H xs us Q I r h
  obtain ⟨v, d, rfl, hd, hs, hl, hdp, q⟩ := h
  obtain ⟨u, rfl, ru⟩ := vals1 r
  have fin : ∀ (h' : Heap) (u' tk : Tok), (∀ b o, s.heap.get? b = some o → h'.get? b = some o) → EP X pins σ Q (.str d.shown u') { s with heap := h', toks := tk } := fun h' u' tk kp => ⟨.str d.shown, H, I.kept kp, ⟨_, rfl⟩, q⟩
  cases hd with
  | non => cases ru; exact PySem.P.repr_of_none (fin _ _ _ fun _ _ e => e)
  | bl b => cases ru; exact PySem.P.repr_of_bool (fin _ _ _ fun _ _ e => e)
  | int i => obtain ⟨t, rfl⟩ := ru; exact PySem.P.repr_of_int (by simpa [PyData.showable] using hs) (fin _ _ _ fun _ _ e => e)
  | str x => obtain ⟨t, rfl⟩ := ru; exact PySem.P.repr_of_str (fin _ _ _ fun _ _ e => e) hl
  | lst hsq hda =>
    obtain ⟨as, rd⟩ := Dp.reads I _ _ _ (Dp.lst hsq hda) ru
    cases ru
    exact repr_of_reads' rd hs (PyData.noDict_hsm (Dp.noDict _ _ (Dp.lst hsq hda))) hg (by omega) (fun _ _ e => e) (fun h' u tk kp => fin h' u tk kp) hl
  | tup hsq hda =>
    obtain ⟨as, rd⟩ := Dp.reads I _ _ _ (Dp.tup hsq hda) ru
    cases ru
    exact repr_of_reads' rd hs (PyData.noDict_hsm (Dp.noDict _ _ (Dp.tup hsq hda))) hg (by omega) (fun _ _ e => e) (fun h' u tk kp => fin h' u tk kp) hl
end Vf
set_option maxRecDepth 100000
set_option maxHeartbeats 4000000
/-! Gen: operators, subscripts, calls at values: what is left of an expression when its parts are known. Own work. -/
namespace Vf
open PySem PySem.Spec PyProof.Rows L2 LamX
/-- a binary operator or comparison at two values -/
def gOp (X : Cx) (f : Value → Value → Sem Value) (x y : V) (H : Hp) (Q : VK) : Prop := ∀ (pins : List (Addr × Obj)) (s : Shared) (σ : L2.St) (v u : Value), Inv X pins σ H s → L2.RelV x v → L2.RelV y u → wpAny (model X.prog X.w) X.A (f v u) (EP X pins σ Q) X.xe s
/-- a subscript at two values -/
def gIx (X : Cx) (x y : V) (H : Hp) (Q : VK) : Prop := ∀ (value slice : Expr) (pins : List (Addr × Obj)) (s : Shared) (σ : L2.St) (v u : Value), Inv X pins σ H s → L2.RelV x v → L2.RelV y u →
  subscripted slice false v u = operate [v, u] (getItem v u) → wpAny (model X.prog X.w) X.A (subscriptTail value slice v u) (EP X pins σ Q) X.xe s
/-- a store x[y] = z at three values -/
def gSet (X : Cx) (x y z : V) (H : Hp) (Q : Hp → Prop) : Prop := ∃ t, PSet X t ∧ t x y z H Q
/-- a built-in's call at values -/
def gCall (X : Cx) (f : Value) (xs : List V) (H : Hp) (Q : VK) : Prop := ∃ r, CallR X f r ∧ r xs H Q
/-- truth -/
def gTru (X : Cx) (x : V) (H : Hp) (Q : Bool → Hp → Prop) : Prop := ∃ k, TruV X.K x H k ∧ Q k H
section
variable {m : Md} {N : List Str} {sc : Scope} {k : Nat} {X : Cx} {a b c e o : Expr} {es : List Expr} {σ : L2.St} {H : Hp} {Q : VK} {QB : Bool → Hp → Prop} {D : Ends} {pos p p1 p2 : Pos} {x y : Str} {i j : Nat} {v w : V}
theorem gOp_ok {f : Value → Value → Sem Value} : OpR X f (gOp X f) := fun pins s σ H x y v u Q I rx ry h => h pins s σ v u I rx ry
theorem gOp.of {f : Value → Value → Sem Value} {r : R2} (h : OpR X f r) {x y : V} (q : r x y H Q) : gOp X f x y H Q := fun pins s σ v u I rx ry => h pins s σ H x y v u Q I rx ry q
theorem gIx_ok : IxR X (gIx X) := fun value slice pins s σ H x y v u Q I rx ry h hs => h value slice pins s σ v u I rx ry hs
theorem gIx.of {r : R2} (h : IxR X r) {x y : V} (q : r x y H Q) : gIx X x y H Q := fun value slice pins s σ v u I rx ry hs => h value slice pins s σ H x y v u Q I rx ry q hs
theorem g_bin {op : Operator} (q : wE X a σ H fun x H1 => wE X b σ H1 fun y H2 => gOp X (binaryOp op) x y H2 Q) : wE X (.BinOp a op b pos) σ H Q := w_bin gOp_ok q
theorem g_cmp {op : CmpOp} (q : wE X a σ H fun x H1 => wE X b σ H1 fun y H2 => gOp X (compareOp op) x y H2 Q) (hm : behindInMarks op b = false := by with_unfolding_all first | exact nomark _ | rfl) : wE X (.Compare a [op] [b] pos) σ H Q := w_cmp gOp_ok hm q
theorem gt_cmp {op : CmpOp} (q : wE X a σ H fun x H1 => wE X b σ H1 fun y H2 => gOp X (compareOp op) x y H2 fun z H' => ∃ k, z = .bl k ∧ QB k H') (hm : behindInMarks op b = false := by with_unfolding_all first | exact nomark _ | rfl) : wT X (.Compare a [op] [b] pos) σ H QB := t_cmp gOp_ok hm q
theorem g_ix (q : wE X a σ H fun x H1 => wE X b σ H1 fun y H2 => gIx X x y H2 Q) (hs : PlainIx b := by with_unfolding_all exact fun _ _ => rfl) : wE X (.Subscript a b pos) σ H Q := w_ix gIx_ok hs q
theorem gt_tru (q : wE X a σ H fun x H1 => gTru X x H1 QB) (he : ∀ whole, isTrue a X.env whole = (do let v ← whole; standAt a.pos; holding [v] (truthy v)) := by with_unfolding_all (intro _; rfl)) : wT X a σ H QB := t_truth q he
theorem decI {i j : Int} : decide (V.int i = V.int j) = decide (i = j) := by rw [decide_eq_decide]; exact ⟨fun z => by injection z, fun z => by rw [z]⟩
theorem decS {i j : Str} : decide (V.str i = V.str j) = decide (i = j) := by rw [decide_eq_decide]; exact ⟨fun z => by injection z, fun z => by rw [z]⟩
/-- .. ints -/
theorem g_addI {i j : Int} (q : Q (.int (i + j)) H) : gOp X (binaryOp .Add) (.int i) (.int j) H Q := gOp.of op_add ⟨_, _, rfl, rfl, q⟩
theorem g_subI {i j : Int} (q : Q (.int (i - j)) H) : gOp X (binaryOp .Sub) (.int i) (.int j) H Q := gOp.of op_sub ⟨_, _, rfl, rfl, q⟩
theorem g_mulI {i j : Int} (hc : CMul i j) (q : Q (.int (i * j)) H) : gOp X (binaryOp .Mult) (.int i) (.int j) H Q := gOp.of op_mul ⟨_, _, rfl, rfl, hc, q⟩
theorem g_modI {i j : Int} (hj : 0 < j) (q : Q (.int (i % j)) H) : gOp X (binaryOp .Mod) (.int i) (.int j) H Q := gOp.of op_mod ⟨_, _, rfl, rfl, hj, q⟩
/-- the rest alone is known by its bounds -/
theorem g_modB {i j : Int} (hj : 0 < j) (q : ∀ r, 0 ≤ r → r < j → Q (.int r) H) : gOp X (binaryOp .Mod) (.int i) (.int j) H Q := g_modI hj (q _ (Int.emod_nonneg _ (by omega)) (Int.emod_lt_of_pos _ hj))
theorem g_divI {i j : Int} (hj : 0 < j ∧ j < 1073741824) (q : Q (.int (i / j)) H) : gOp X (binaryOp .FloorDiv) (.int i) (.int j) H Q := gOp.of op_fdiv ⟨_, _, rfl, rfl, hj, q⟩
theorem g_divW {i j : Int} (hj : CDivW i j) (q : Q (.int (i / j)) H) : gOp X (binaryOp .FloorDiv) (.int i) (.int j) H Q := gOp.of op_fdivW ⟨_, _, rfl, rfl, hj, q⟩
theorem g_powI {i j : Int} (hc : CPow i j) (q : Q (.int (i ^ j.toNat)) H) : gOp X (binaryOp .Pow) (.int i) (.int j) H Q := gOp.of op_pow ⟨_, _, rfl, rfl, hc, q⟩
theorem g_ltI {i j : Int} (q : Q (.bl (decide (i < j))) H) : gOp X (compareOp .Lt) (.int i) (.int j) H Q := gOp.of op_lt ⟨_, _, rfl, rfl, q⟩
theorem g_leI {i j : Int} (q : Q (.bl (decide (i ≤ j))) H) : gOp X (compareOp .LtE) (.int i) (.int j) H Q := gOp.of op_le ⟨_, _, rfl, rfl, q⟩
theorem g_gtI {i j : Int} (q : Q (.bl (decide (j < i))) H) : gOp X (compareOp .Gt) (.int i) (.int j) H Q := gOp.of op_gt ⟨_, _, rfl, rfl, q⟩
theorem g_geI {i j : Int} (q : Q (.bl (decide (j ≤ i))) H) : gOp X (compareOp .GtE) (.int i) (.int j) H Q := gOp.of op_ge ⟨_, _, rfl, rfl, q⟩
theorem g_eqI {i j : Int} (q : Q (.bl (decide (i = j))) H) : gOp X (compareOp .Eq) (.int i) (.int j) H Q := gOp.of op_eq ⟨rfl, by rw [decI]; exact q⟩
theorem g_neI {i j : Int} (q : Q (.bl (!decide (i = j))) H) : gOp X (compareOp .NotEq) (.int i) (.int j) H Q := gOp.of op_ne ⟨rfl, by rw [decI]; exact q⟩
theorem g_eqS {i j : Str} (q : Q (.bl (decide (i = j))) H) : gOp X (compareOp .Eq) (.str i) (.str j) H Q := gOp.of op_eq ⟨rfl, by rw [decS]; exact q⟩
theorem g_neS {i j : Str} (q : Q (.bl (!decide (i = j))) H) : gOp X (compareOp .NotEq) (.str i) (.str j) H Q := gOp.of op_ne ⟨rfl, by rw [decS]; exact q⟩
theorem g_leS {i j : Str} (q : Q (.bl (!decide (j.cps.toList < i.cps.toList))) H) (hr : OpR X (compareOp .LtE) (fun x y H Q => ∃ i j, x = .str i ∧ y = .str j ∧ Q (.bl (!decide (j.cps.toList < i.cps.toList))) H)) : gOp X (compareOp .LtE) (.str i) (.str j) H Q := gOp.of hr ⟨_, _, rfl, rfl, q⟩
theorem g_isN (q : Q (.bl (decide (v = .non))) H) : gOp X (compareOp .Is) v .non H Q := gOp.of op_isN ⟨rfl, q⟩
theorem g_notN (q : Q (.bl (!decide (v = .non))) H) : gOp X (compareOp .IsNot) v .non H Q := gOp.of op_notN ⟨rfl, q⟩
/-- .. texts -/
theorem g_addS {i j : Str} (hl : i.length + j.length ≤ sizeLine) (q : Q (.str (i ++ j)) H) : gOp X (binaryOp .Add) (.str i) (.str j) H Q := gOp.of op_add_str ⟨_, _, rfl, rfl, hl, q⟩
/-- .. lists -/
theorem g_cat {l r : Addr} {xs zs : List V} (h1 : H l = some (.lst xs)) (h2 : H r = some (.lst zs)) (hz : xs.length + zs.length ≤ sizeLine) (q : ∀ p, H p = none → Q (.ref p) (upd H p (.lst (xs ++ zs)))) : gOp X (binaryOp .Add) (.ref l) (.ref r) H Q := gOp.of op_cat ⟨_, _, _, _, rfl, rfl, h1, h2, hz, q⟩
theorem g_ixL (h : At m N sc k X) {l : Addr} {xs : List V} {i : Int} {v : V} (hs : SqL m.K H l xs) (e : atI xs i = some v) (q : Q v H) : gIx X (.ref l) (.int i) H Q := gIx.of ix_list ⟨_, _, _, _, rfl, rfl, by rw [h.kk]; exact hs, e, q⟩
theorem g_ixT (h : At m N sc k X) {l : Addr} {xs : List V} {i : Int} {v : V} (hs : SqT m.K H l xs) (e : atI xs i = some v) (q : Q v H) : gIx X (.ref l) (.int i) H Q := gIx.of ix_tup ⟨_, _, _, _, rfl, rfl, by rw [h.kk]; exact hs, e, q⟩
theorem g_ixS {z : Str} {i : Int} {c : Nat} (hz : z.length ≤ sizeLine) (e : atI z.cps.toList i = some c) (q : Q (.str ⟨#[c]⟩) H) : gIx X (.str z) (.int i) H Q := gIx.of ix_str ⟨_, _, _, rfl, rfl, hz, e, q⟩
theorem g_eqD (h : At m N sc k X) {v w : V} {d e : PyData} (hd : Dp m.K H v d) (he : Dp m.K H w e) (sd : SeqAt.shaped d = true) (se : SeqAt.shaped e = true) (q : Q (.bl (PyData.eqv d e)) H) : gOp X (compareOp .Eq) v w H Q := gOp.of (op_eqD h.room.units) ⟨d, e, by rw [h.kk]; exact hd, by rw [h.kk]; exact he, sd, se, q⟩
theorem g_neD (h : At m N sc k X) {v w : V} {d e : PyData} (hd : Dp m.K H v d) (he : Dp m.K H w e) (sd : SeqAt.shaped d = true) (se : SeqAt.shaped e = true) (q : Q (.bl (!PyData.eqv d e)) H) : gOp X (compareOp .NotEq) v w H Q := gOp.of (op_neD h.room.units) ⟨d, e, by rw [h.kk]; exact hd, by rw [h.kk]; exact he, sd, se, q⟩
theorem g_inF (h : At m N sc k X) {v : V} {l : Addr} {xs : List V} (hs : SqL m.K H l xs ∨ SqT m.K H l xs) (f1 : flatV v = true) (f2 : xs.all flatV = true) (q : Q (.bl (inV v xs)) H) : gOp X (compareOp .In) v (.ref l) H Q := gOp.of op_in_seq ⟨_, _, rfl, by rw [h.kk]; exact hs, f1, f2, q⟩
theorem g_notInF (h : At m N sc k X) {v : V} {l : Addr} {xs : List V} (hs : SqL m.K H l xs ∨ SqT m.K H l xs) (f1 : flatV v = true) (f2 : xs.all flatV = true) (q : Q (.bl (!inV v xs)) H) : gOp X (compareOp .NotIn) v (.ref l) H Q := gOp.of op_notIn_seq ⟨_, _, rfl, by rw [h.kk]; exact hs, f1, f2, q⟩
/-- a built-in function by its name -/
theorem g_blt {id : String} (h : At m N sc k X) (hm : m.mg x = none) (hg : sc.names.lookup x = some .globalImplicit) (hv : bootBuiltins x = some (.builtin id)) (q : wA X (e :: es) σ H fun vs H1 => gCall X (.builtin id) vs H1 Q)
    (hn : x ≠ "__name__" := by with_unfolding_all decide) (hdb : (x == ("__debug__" : Str)) = false := by with_unfolding_all decide) (he : starEach (e :: es) X.env = (false, eval e X.env) :: starEach es X.env := by with_unfolding_all rfl) (hpl : (backTo pos (starEach es X.env)).any (·.1) = false := by with_unfolding_all rfl) : wE X (.Call (.Name x p) (e :: es) [] pos) σ H Q :=
  w_blt (r := fun vs H1 Q => gCall X (.builtin id) vs H1 Q) h (fun pins s σ H xs us Q I r ⟨rr, hr, q⟩ => hr pins s σ H xs us Q I r q) hm hg hv q hn hdb he hpl
theorem g_typ {T : String} (h : At m N sc k X) (hm : m.mg x = none) (hg : sc.names.lookup x = some .globalImplicit) (hv : bootBuiltins x = some (.type T)) (q : wA X (e :: es) σ H fun vs H1 => gCall X (.type T) vs H1 Q)
    (hn : x ≠ "__name__" := by with_unfolding_all decide) (hdb : (x == ("__debug__" : Str)) = false := by with_unfolding_all decide) (he : starEach (e :: es) X.env = (false, eval e X.env) :: starEach es X.env := by with_unfolding_all rfl) (hpl : (backTo pos (starEach es X.env)).any (·.1) = false := by with_unfolding_all rfl) : wE X (.Call (.Name x p) (e :: es) [] pos) σ H Q :=
  w_ty (r := fun vs H1 Q => gCall X (.type T) vs H1 Q) h (fun pins s σ H xs us Q I r ⟨rr, hr, q⟩ => hr pins s σ H xs us Q I r q) hm hg hv q hn hdb he hpl
theorem g_sum (h : At m N sc k X) {l : Addr} {ns : List Int} (hs : SqL m.K H l (ns.map V.int)) (q : Q (.int ns.sum) H) : gCall X (.builtin "sum") [.ref l] H Q := ⟨_, cr_sum h.calm, _, _, rfl, by rw [h.kk]; exact hs, q⟩
theorem g_max2 (h : At m N sc k X) {i j : Int} (q : Q (.int (if j > i then j else i)) H) : gCall X (.builtin "max") [.int i, .int j] H Q := ⟨_, call_max2 h.calm, _, _, rfl, q⟩
theorem g_min2 (h : At m N sc k X) {i j : Int} (q : Q (.int (if j < i then j else i)) H) : gCall X (.builtin "min") [.int i, .int j] H Q := ⟨_, call_min2 h.calm, _, _, rfl, q⟩
theorem g_lenL (h : At m N sc k X) {l : Addr} {xs : List V} (hs : SqL m.K H l xs) (q : Q (.int xs.length) H) : gCall X (.builtin "len") [.ref l] H Q := ⟨_, call_len, _, xs.length, rfl, .inl ⟨_, by rw [h.kk]; exact hs, rfl⟩, q⟩
theorem g_lenT (h : At m N sc k X) {l : Addr} {xs : List V} (hs : SqT m.K H l xs) (q : Q (.int xs.length) H) : gCall X (.builtin "len") [.ref l] H Q := ⟨_, call_len, _, xs.length, rfl, .inr ⟨_, by rw [h.kk]; exact hs, rfl⟩, q⟩
theorem g_lenS {z : Str} (hz : z.length ≤ sizeLine) (q : Q (.int z.length) H) : gCall X (.builtin "len") [.str z] H Q := ⟨_, call_len, _, z.length, rfl, ⟨hz, rfl⟩, q⟩
theorem g_listOf (h : At m N sc k X) {l : Addr} {ys : List V} (hs : SqL m.K H l ys ∨ SqT m.K H l ys) (q : ∀ p, H p = none → Q (.ref p) (upd H p (.lst ys))) : gCall X (.type "list") [.ref l] H Q := ⟨_, call_list_of, _, _, rfl, by rw [h.kk]; exact hs, q⟩
theorem g_all (h : At m N sc k X) {l : Addr} {bs : List Bool} (hs : SqL m.K H l (bs.map V.bl)) (q : Q (.bl (bs.all id)) H) : gCall X (.builtin "all") [.ref l] H Q := ⟨_, cr_all h.calm, _, _, rfl, by rw [h.kk]; exact hs, q⟩
theorem g_any (h : At m N sc k X) {l : Addr} {bs : List Bool} (hs : SqL m.K H l (bs.map V.bl)) (q : Q (.bl (bs.any id)) H) : gCall X (.builtin "any") [.ref l] H Q := ⟨_, cr_any h.calm, _, _, rfl, by rw [h.kk]; exact hs, q⟩
theorem g_repr (h : At m N sc k X) {v : V} {d : PyData} (hd : Dp m.K H v d) (h1 : d.showable = true) (h2 : d.shown.length ≤ sizeLine) (h3 : d.depth ≤ 60) (q : Q (.str d.shown) H) : gCall X (.builtin "repr") [v] H Q := ⟨_, call_reprD h.gd h.room.units, _, _, rfl, by rw [h.kk]; exact hd, h1, h2, h3, q⟩
/-- n.bit_length() -/
theorem g_bits (q : wE X o σ H fun x H1 => ∃ i, x = .int i ∧ Q (.int (Builtin.Int.intBits i : Nat)) H1) (hbase : attributeBase o "bit_length" X.env (eval o X.env) = eval o X.env := by with_unfolding_all rfl) {apos : Pos} (hline : (apos.endLine == pos.line) = true := by with_unfolding_all rfl) : wE X (.Call (.Attribute o "bit_length" apos) [] [] pos) σ H Q := toE (pe_bits cE hbase hline) q
/-- xs.append(e) -/
theorem g_append (q : wE X o σ H fun x H1 => tyV X.K "list" x H1 ∧ wA X [e] σ H1 fun ys H2 => ∃ l xs y, x = .ref l ∧ ys = [y] ∧ H2 l = some (.lst xs) ∧ xs.length < sizeLine ∧ Q .non (upd H2 l (.lst (xs ++ [y])))) {apos : Pos}
    (hbase : attributeBase o "append" X.env (eval o X.env) = eval o X.env := by with_unfolding_all rfl)
    (hfew : ((backTo pos (starEach [e] X.env)).all (fun x => !x.1) && (backToKw pos (keywordEach [] X.env)).all (fun x => x.1.isSome) && decide ([e].length + ([] : List Keyword).length + (if ([] : List Keyword).isEmpty then 0 else 1) < 30)) = true := by with_unfolding_all rfl)
    (hline : (apos.endLine == pos.line) = true := by with_unfolding_all rfl) (hs : starEach [e] X.env = (false, eval e X.env) :: starEach [] X.env := by with_unfolding_all rfl) (hplain : (backTo pos (starEach [] X.env)).any (·.1) = false := by with_unfolding_all rfl) : wE X (.Call (.Attribute o "append" apos) [e] [] pos) σ H Q :=
  toE (pe_bm PySem.F.plainAttrs_list PySem.F.slot_list_append PySem.F.type_list_append mt_append cE cA hbase hfew hline hs hplain) q
/-- e[lo:hi] of a list -/
theorem tyL {l : Addr} {xs : List V} (h : H l = some (.lst xs)) : tyV X.K "list" (.ref l) H := .inl ⟨rfl, _, SqL.of h⟩
end
theorem bt_sum : bootBuiltins "sum" = some (.builtin "sum") := by decide +kernel
theorem bt_max : bootBuiltins "max" = some (.builtin "max") := by decide +kernel
theorem bt_min : bootBuiltins "min" = some (.builtin "min") := by decide +kernel
theorem bt_len : bootBuiltins "len" = some (.builtin "len") := by decide +kernel
theorem bt_all : bootBuiltins "all" = some (.builtin "all") := by decide +kernel
theorem bt_any : bootBuiltins "any" = some (.builtin "any") := by decide +kernel
theorem bt_repr : bootBuiltins "repr" = some (.builtin "repr") := by decide +kernel
theorem bt_sorted : bootBuiltins "sorted" = some (.builtin "sorted") := by decide +kernel
theorem bt_isinstance : bootBuiltins "isinstance" = some (.builtin "isinstance") := by decide +kernel
theorem bt_abs : bootBuiltins "abs" = some (.builtin "abs") := by decide +kernel
theorem bt_list : bootBuiltins "list" = some (.type "list") := by decide +kernel
theorem bt_int : bootBuiltins "int" = some (.type "int") := by decide +kernel
theorem bt_str : bootBuiltins "str" = some (.type "str") := by decide +kernel
theorem bt_set : bootBuiltins "set" = some (.type "set") := by decide +kernel
theorem bt_dict : bootBuiltins "dict" = some (.type "dict") := by decide +kernel
theorem bt_tuple : bootBuiltins "tuple" = some (.type "tuple") := by decide +kernel
theorem bt_bool : bootBuiltins "bool" = some (.type "bool") := by decide +kernel
end Vf
set_option maxRecDepth 100000
set_option maxHeartbeats 4000000
/-! Lc: list comprehensions, slices, powers. Own work. -/
namespace Vf
open PySem PySem.Spec PyProof.Rows L2 LamX
section
variable {m : Md} {N : List Str} {sc scope : Scope} {k : Nat} {X : Cx} {a b c e o elt iter : Expr} {es : List Expr} {σ : L2.St} {H : Hp} {Q : VK} {D : Ends} {pos p p1 p2 p3 : Pos} {x y : Str} {i j : Nat} {v w : V}
theorem blk_at (h : At m N sc k X) (s : Shared) (H : Hp) (C : Addr) (cl : List (Str × Addr)) (fp : List Addr) : At m N (relS scope sc) k (X.blk s H scope (compEnvC scope cl C X.env) fp) :=
  ⟨h.pp, h.ww, h.kk, h.mm, h.bb, h.nn, by show relS scope X.env.scope = _; rw [h.ss], h.calm, h.room, PassesOwn.never, h.nd, h.gd⟩
theorem wipe1 {u : Option V} : wipe (σ.set i u) [i] = wipe σ [i] := by simp [wipe, List.set_set]
/-- the new list's element, run wherever the block may stand -/
abbrev inBlk (m : Md) (N : List Str) (sc : Scope) (k : Nat) (e : Expr) : TE := fun σ H Q => ∀ X', At m N sc k X' → wE X' e σ H Q
abbrev inBlkT (m : Md) (N : List Str) (sc : Scope) (k : Nat) (e : Expr) : TT := fun σ H Q => ∀ X', At m N sc k X' → wT X' e σ H Q
theorem blk_pe (h : At m N sc k X) (s : Shared) (H : Hp) (C : Addr) (cl : List (Str × Addr)) (fp : List Addr) : PE (X.blk s H scope (compEnvC scope cl C X.env) fp) e (inBlk m N (relS scope sc) k e) := ⟨fun pins s' σ' H' Q I q => cE.run pins s' σ' H' Q I (q _ (blk_at h s H C cl fp))⟩
theorem blk_pt (h : At m N sc k X) (s : Shared) (H : Hp) (C : Addr) (cl : List (Str × Addr)) (fp : List Addr) : PT (X.blk s H scope (compEnvC scope cl C X.env) fp) e (inBlkT m N (relS scope sc) k e) := ⟨fun pins s' σ' H' Q I q => cT.run pins s' σ' H' Q I (q _ (blk_at h s H C cl fp))⟩
theorem set_wipe {z : V} : (wipe σ [i]).set i (some z) = σ.set i (some z) := by simp [wipe, List.set_set]
/-- what one turn of a block asks: the element is appended to the list at D, then the invariant -/
abbrev App (D : Addr) (P : Hp → Prop) : VK := fun y H4 => ∃ acc, H4 D = some (.lst acc) ∧ acc.length < sizeLine ∧ P (upd H4 D (.lst (acc ++ [y])))
/-- [elt for x in iter], iter a list that the block leaves as it is -/
theorem w_lcL (h : At m N sc k X) (ok : blkC N sc scope [(x, i)] = true) (n : NL N (relS scope sc) i x)
    (q : wE X iter σ H fun v H1 => ∃ (a : Addr) (xs : List V), v = .ref a ∧ SqL m.K H1 a xs ∧ ∀ D, H1 D = none → ∃ Pv : Nat → Hp → Prop, Pv 0 (upd H1 D (.lst [])) ∧ (∀ j H, j ≤ xs.length → Pv j H → SqL m.K H a xs) ∧
      (∀ j x H, xs[j]? = some x → Pv j H → ∀ X', At m N (relS scope sc) k X' → wE X' elt (σ.set i (some x)) H (App D (Pv (j + 1)))) ∧ ∀ H, Pv xs.length H → Q (.ref D) H)
    (hs : ∀ x, foldedSetIterable iter X.env x = pure x := by with_unfolding_all (intro _; rfl)) : wE X (.ListComp elt [⟨.Name x p1, iter, [], 0⟩] scope pos) σ H Q := by
  refine toE (pe_lc (own := [(x, i)]) (g := gName i) (tt := tYes) (te := inBlk m N (relS scope sc) k elt) h.calm (by rw [h.nn]; exact h.nd) (pi_list cE) (by rw [h.nn, h.ss]; exact blkOk_by ok) (fun s H C cl fp => pg_nl (blk_at h s H C cl fp) n) (fun _ _ _ _ _ => pts_nil) (fun s H C cl fp => blk_pe h s H C cl fp) hs) ?_
  refine wE.mono q fun v H1 ⟨a, xs, ea, hl, go⟩ => ⟨a, ea, ⟨xs, by rw [h.kk]; exact hl⟩, fun D hD => ?_⟩
  obtain ⟨Pv, p0, st, turn, fin⟩ := go D hD
  refine lc_list (K := X.K) (a := a) (xs := xs) (g := gName i) (tt := tYes) (te := inBlk m N (relS scope sc) k elt) (vs := [i]) (σ := σ) Pv p0 (fun j H hj hp => by rw [h.kk]; exact st j H hj hp) (fun j z H hz hp => ?_) fin
  refine ⟨by rw [wipe1]; simp [wipe, List.set_set], ?_⟩
  unfold tYes
  refine iteT fun X' hX' => ?_
  rw [set_wipe]
  exact turn j z H hz hp X' hX'
/-- [elt for x in iter if c] -/
theorem w_lcLi (h : At m N sc k X) (ok : blkC N sc scope [(x, i)] = true) (n : NL N (relS scope sc) i x)
    (q : wE X iter σ H fun v H1 => ∃ (a : Addr) (xs : List V), v = .ref a ∧ SqL m.K H1 a xs ∧ ∀ D, H1 D = none → ∃ Pv : Nat → Hp → Prop, Pv 0 (upd H1 D (.lst [])) ∧ (∀ j H, j ≤ xs.length → Pv j H → SqL m.K H a xs) ∧
      (∀ j x H, xs[j]? = some x → Pv j H → ∀ X', At m N (relS scope sc) k X' → wT X' c (σ.set i (some x)) H fun b H3 => if b = true then (∀ X', At m N (relS scope sc) k X' → wE X' elt (σ.set i (some x)) H3 (App D (Pv (j + 1)))) else Pv (j + 1) H3) ∧
      ∀ H, Pv xs.length H → Q (.ref D) H)
    (hs : ∀ x, foldedSetIterable iter X.env x = pure x := by with_unfolding_all (intro _; rfl)) : wE X (.ListComp elt [⟨.Name x p1, iter, [c], 0⟩] scope pos) σ H Q := by
  refine toE (pe_lc (own := [(x, i)]) (g := gName i) (tt := inBlkT m N (relS scope sc) k c) (te := inBlk m N (relS scope sc) k elt) h.calm (by rw [h.nn]; exact h.nd) (pi_list cE) (by rw [h.nn, h.ss]; exact blkOk_by ok) (fun s H C cl fp => pg_nl (blk_at h s H C cl fp) n) (fun s H C cl fp => pts_one (blk_pt h s H C cl fp)) (fun s H C cl fp => blk_pe h s H C cl fp) hs) ?_
  refine wE.mono q fun v H1 ⟨a, xs, ea, hl, go⟩ => ⟨a, ea, ⟨xs, by rw [h.kk]; exact hl⟩, fun D hD => ?_⟩
  obtain ⟨Pv, p0, st, turn, fin⟩ := go D hD
  refine lc_list (K := X.K) (a := a) (xs := xs) (g := gName i) (tt := inBlkT m N (relS scope sc) k c) (te := inBlk m N (relS scope sc) k elt) (vs := [i]) (σ := σ) Pv p0 (fun j H hj hp => by rw [h.kk]; exact st j H hj hp) (fun j z H hz hp => ?_) fin
  refine ⟨by rw [wipe1]; simp [wipe, List.set_set], fun X' hX' => ?_⟩
  have t := turn j z H hz hp X' hX'
  rw [set_wipe]
  exact t
/-- [elt for x in range(e)] -/
theorem w_lcR (h : At m N sc k X) (hm : m.mg "range" = none) (hgl : sc.names.lookup ("range" : Str) = some .globalImplicit) (ok : blkC N sc scope [(x, i)] = true) (n : NL N (relS scope sc) i x)
    (q : wE X e σ H fun v H1 => ∃ z : Int, v = .int z ∧ -(2 ^ 62) ≤ z ∧ z < 2 ^ 62 ∧ ∀ D, H1 D = none → ∃ Pv : Nat → Hp → Prop, Pv 0 (upd H1 D (.lst [])) ∧
      (∀ j H, j < z.toNat → Pv j H → ∀ X', At m N (relS scope sc) k X' → wE X' elt (σ.set i (some (.int j))) H (App D (Pv (j + 1)))) ∧ ∀ H, Pv z.toNat H → Q (.ref D) H)
    (hst : starEach [e] X.env = [(false, eval e X.env)] := by with_unfolding_all rfl) (hs : ∀ x, foldedSetIterable (.Call (.Name "range" p2) [e] [] p3) X.env x = pure x := by with_unfolding_all (intro _; rfl)) : wE X (.ListComp elt [⟨.Name x p1, .Call (.Name "range" p2) [e] [] p3, [], 0⟩] scope pos) σ H Q := by
  refine toE (pe_lc (own := [(x, i)]) (g := gName i) (tt := tYes) (te := inBlk m N (relS scope sc) k elt) h.calm (by rw [h.nn]; exact h.nd) (pi_range1 (h.gl hgl) (by rw [h.mm]; exact hm) (pa_cons cE pa_nil hst) hst) (by rw [h.nn, h.ss]; exact blkOk_by ok) (fun s H C cl fp => pg_nl (blk_at h s H C cl fp) n) (fun _ _ _ _ _ => pts_nil) (fun s H C cl fp => blk_pe h s H C cl fp) hs) ?_
  refine wE.mono q fun v H1 ⟨z, ez, z1, z2, go⟩ => ⟨z, by rw [ez], z1, z2, fun D hD => ?_⟩
  obtain ⟨Pv, p0, turn, fin⟩ := go D hD
  refine lc_range (lo := 0) (n := z.toNat) (g := gName i) (tt := tYes) (te := inBlk m N (relS scope sc) k elt) (vs := [i]) (σ := σ) Pv p0 (fun j H hj hp => ?_) fin
  refine ⟨by rw [wipe1]; simp [wipe, List.set_set], ?_⟩
  unfold tYes
  refine iteT fun X' hX' => ?_
  rw [set_wipe, Int.zero_add]
  exact turn j H hj hp X' hX'
/-- [elt for x in range(e) if c] -/
theorem w_lcRi (h : At m N sc k X) (hm : m.mg "range" = none) (hgl : sc.names.lookup ("range" : Str) = some .globalImplicit) (ok : blkC N sc scope [(x, i)] = true) (n : NL N (relS scope sc) i x)
    (q : wE X e σ H fun v H1 => ∃ z : Int, v = .int z ∧ -(2 ^ 62) ≤ z ∧ z < 2 ^ 62 ∧ ∀ D, H1 D = none → ∃ Pv : Nat → Hp → Prop, Pv 0 (upd H1 D (.lst [])) ∧
      (∀ j H, j < z.toNat → Pv j H → ∀ X', At m N (relS scope sc) k X' → wT X' c (σ.set i (some (.int j))) H fun b H3 => if b = true then (∀ X', At m N (relS scope sc) k X' → wE X' elt (σ.set i (some (.int j))) H3 (App D (Pv (j + 1)))) else Pv (j + 1) H3) ∧ ∀ H, Pv z.toNat H → Q (.ref D) H)
    (hst : starEach [e] X.env = [(false, eval e X.env)] := by with_unfolding_all rfl) (hs : ∀ x, foldedSetIterable (.Call (.Name "range" p2) [e] [] p3) X.env x = pure x := by with_unfolding_all (intro _; rfl)) : wE X (.ListComp elt [⟨.Name x p1, .Call (.Name "range" p2) [e] [] p3, [c], 0⟩] scope pos) σ H Q := by
  refine toE (pe_lc (own := [(x, i)]) (g := gName i) (tt := inBlkT m N (relS scope sc) k c) (te := inBlk m N (relS scope sc) k elt) h.calm (by rw [h.nn]; exact h.nd) (pi_range1 (h.gl hgl) (by rw [h.mm]; exact hm) (pa_cons cE pa_nil hst) hst) (by rw [h.nn, h.ss]; exact blkOk_by ok) (fun s H C cl fp => pg_nl (blk_at h s H C cl fp) n) (fun s H C cl fp => pts_one (blk_pt h s H C cl fp)) (fun s H C cl fp => blk_pe h s H C cl fp) hs) ?_
  refine wE.mono q fun v H1 ⟨z, ez, z1, z2, go⟩ => ⟨z, by rw [ez], z1, z2, fun D hD => ?_⟩
  obtain ⟨Pv, p0, turn, fin⟩ := go D hD
  refine lc_range (lo := 0) (n := z.toNat) (g := gName i) (tt := inBlkT m N (relS scope sc) k c) (te := inBlk m N (relS scope sc) k elt) (vs := [i]) (σ := σ) Pv p0 (fun j H hj hp => ?_) fin
  refine ⟨by rw [wipe1]; simp [wipe, List.set_set], fun X' hX' => ?_⟩
  have t := turn j H hj hp X' hX'
  rw [set_wipe, Int.zero_add]
  exact t
/-! ### slices of lists; powers of any size -/
theorem w_slice {lo hi : Expr} (h : At m N sc k X) (q : wE X e σ H fun x H1 => wE X lo σ H1 fun l H2 => ∃ i : Int, l = .int i ∧ wE X hi σ H2 fun u H3 => ∃ j : Int, u = .int j ∧ ∃ (a : Addr) (xs : List V), x = .ref a ∧ SqL m.K H3 a xs ∧ ∀ p, H3 p = none → Q (.ref p) (upd H3 p (.lst (cutV xs (some i) (some j))))) :
    wE X (.Subscript e (.Slice (some lo) (some hi) none p2) pos) σ H Q := by
  refine toE (pe_slice sl_list cE (po_some cE) (po_some cE)) ?_
  refine wE.mono q fun x H1 q1 => wE.mono q1 fun l H2 ⟨i, ei, q2⟩ => ⟨i, ei, wE.mono q2 fun u H3 ⟨j, ej, a, xs, ea, hs, q3⟩ => ⟨j, ej, a, xs, ea, by rw [h.kk]; exact hs, q3⟩⟩
theorem w_sliceTo {hi : Expr} (h : At m N sc k X) (q : wE X e σ H fun x H1 => wE X hi σ H1 fun u H3 => ∃ j : Int, u = .int j ∧ ∃ (a : Addr) (xs : List V), x = .ref a ∧ SqL m.K H3 a xs ∧ ∀ p, H3 p = none → Q (.ref p) (upd H3 p (.lst (cutV xs none (some j))))) :
    wE X (.Subscript e (.Slice none (some hi) none p2) pos) σ H Q := by
  refine toE (pe_slice sl_list cE po_none (po_some cE)) ?_
  refine wE.mono q fun x H1 q1 => ?_
  show wE X hi σ H1 _
  exact wE.mono q1 fun u H3 ⟨j, ej, a, xs, ea, hs, q3⟩ => ⟨j, ej, a, xs, ea, by rw [h.kk]; exact hs, q3⟩
theorem w_sliceFrom {lo : Expr} (h : At m N sc k X) (q : wE X e σ H fun x H1 => wE X lo σ H1 fun u H3 => ∃ j : Int, u = .int j ∧ ∃ (a : Addr) (xs : List V), x = .ref a ∧ SqL m.K H3 a xs ∧ ∀ p, H3 p = none → Q (.ref p) (upd H3 p (.lst (cutV xs (some j) none)))) :
    wE X (.Subscript e (.Slice (some lo) none none p2) pos) σ H Q := by
  refine toE (pe_slice sl_list cE (po_some cE) po_none) ?_
  exact wE.mono q fun x H1 q1 => wE.mono q1 fun u H3 ⟨j, ej, a, xs, ea, hs, q3⟩ => ⟨j, ej, a, xs, ea, by rw [h.kk]; exact hs, q3⟩
theorem cutV_map {α : Type} (f : α → V) (xs : List α) (lo hi : Option Int) : ∃ ys : List α, cutV (xs.map f) lo hi = ys.map f ∧ ys.length ≤ xs.length := by
  unfold cutV
  rw [List.length_map]
  exact ⟨(xs.drop (HT.sIx xs.length 0 lo)).take (HT.sIx xs.length xs.length hi - HT.sIx xs.length 0 lo), by rw [List.map_take, List.map_drop], by rw [List.length_take, List.length_drop]; omega⟩
theorem g_powW {i j : Int} (h0 : 0 ≤ j) (hb : (Builtin.Int.intBits i : Int) * j ≤ 2 ^ 27) (q : Q (.int (i ^ j.toNat)) H) : gOp X (binaryOp .Pow) (.int i) (.int j) H Q := fun pins s σ v u I rx ry => by
  obtain ⟨t, rfl⟩ := rx
  obtain ⟨t', rfl⟩ := ry
  exact PyProof.Rows.pow_int h0 hb ⟨.int _, H, I.tok _, ⟨_, rfl⟩, q⟩
end
end Vf
set_option maxRecDepth 100000
set_option maxHeartbeats 4000000
/-! Lcs: comprehensions that are stored at once. Own work. -/
namespace Vf
open PySem PySem.Spec PyProof.Rows L2 LamX
section
variable {m : Md} {N : List Str} {sc scope : Scope} {k l : Nat} {X : Cx} {a b c e o elt iter : Expr} {es : List Expr} {σ : L2.St} {H : Hp} {nx : L2.St → Hp → Prop} {rt : VK} {bk ct : L2.St → Hp → Prop} {pos p p1 p2 p3 py spos : Pos} {x y : Str} {i j : Nat} {v w : V}
/-- y = [..], y a name of this place alone -/
theorem s_lcL (h : At m N sc k X) (nl : NL N sc l y) (ok : blkC N sc scope [(x, i)] = true) (n : NL N (relS scope sc) i x)
    (q : wE X iter σ H fun v H1 => ∃ (a : Addr) (xs : List V), v = .ref a ∧ SqL m.K H1 a xs ∧ ∀ D, H1 D = none → ∃ Pv : Nat → Hp → Prop, Pv 0 (upd H1 D (.lst [])) ∧ (∀ j H, j ≤ xs.length → Pv j H → SqL m.K H a xs) ∧
      (∀ j x H, xs[j]? = some x → Pv j H → ∀ X', At m N (relS scope sc) k X' → wE X' elt (σ.set i (some x)) H (App D (Pv (j + 1)))) ∧ ∀ H, Pv xs.length H → nx (σ.set l (some (.ref D))) H)
    (hs : ∀ x, foldedSetIterable iter X.env x = pure x := by with_unfolding_all (intro _; rfl)) (hk : sc.kind = .function := by with_unfolding_all rfl) (hl : (py.line == pos.line) = true := by with_unfolding_all rfl) (ha : (scope.names.any fun (n, k) => n == y && (k == .local || k == .cell)) = false := by with_unfolding_all (decide +kernel)) : wS X (.Assign [.Name y py] (.ListComp elt [⟨.Name x p1, iter, [], 0⟩] scope pos) spos) ⟨nx, rt, bk, ct⟩ σ H := by
  refine toS (ps_setLc (i := l) (y := y) (py := py) (own := [(x, i)]) (g := gName i) (tt := tYes) (te := inBlk m N (relS scope sc) k elt) h.calm (by rw [h.nn]; exact h.nd) (by rw [h.nn]; exact nl.ix) (by rw [h.ss]; exact nl.loc) (sw_true (by rw [h.ss]; exact hk) (by rw [h.ss]; exact nl.loc) hl ha) (pi_list cE) (by rw [h.nn, h.ss]; exact blkOk_by ok) (fun s H C cl fp => pg_nl (blk_at h s H C cl fp) n) (fun _ _ _ _ _ => pts_nil) (fun s H C cl fp => blk_pe h s H C cl fp) hs) ?_
  refine wE.mono q fun v H1 ⟨a, xs, ea, hl, go⟩ => ⟨a, ea, ⟨xs, by rw [h.kk]; exact hl⟩, fun D hD => ?_⟩
  obtain ⟨Pv, p0, st, turn, fin⟩ := go D hD
  refine lc_list (K := X.K) (a := a) (xs := xs) (g := gName i) (tt := tYes) (te := inBlk m N (relS scope sc) k elt) (vs := [i]) (σ := σ) Pv p0 (fun j H hj hp => by rw [h.kk]; exact st j H hj hp) (fun j z H hz hp => ?_) fin
  refine ⟨by rw [wipe1]; simp [wipe, List.set_set], ?_⟩
  unfold tYes
  refine iteT fun X' hX' => ?_
  rw [set_wipe]
  exact turn j z H hz hp X' hX'
/-- y = [..], y a name of this place alone -/
theorem s_lcLi (h : At m N sc k X) (nl : NL N sc l y) (ok : blkC N sc scope [(x, i)] = true) (n : NL N (relS scope sc) i x)
    (q : wE X iter σ H fun v H1 => ∃ (a : Addr) (xs : List V), v = .ref a ∧ SqL m.K H1 a xs ∧ ∀ D, H1 D = none → ∃ Pv : Nat → Hp → Prop, Pv 0 (upd H1 D (.lst [])) ∧ (∀ j H, j ≤ xs.length → Pv j H → SqL m.K H a xs) ∧
      (∀ j x H, xs[j]? = some x → Pv j H → ∀ X', At m N (relS scope sc) k X' → wT X' c (σ.set i (some x)) H fun b H3 => if b = true then (∀ X', At m N (relS scope sc) k X' → wE X' elt (σ.set i (some x)) H3 (App D (Pv (j + 1)))) else Pv (j + 1) H3) ∧
      ∀ H, Pv xs.length H → nx (σ.set l (some (.ref D))) H)
    (hs : ∀ x, foldedSetIterable iter X.env x = pure x := by with_unfolding_all (intro _; rfl)) (hk : sc.kind = .function := by with_unfolding_all rfl) (hl : (py.line == pos.line) = true := by with_unfolding_all rfl) (ha : (scope.names.any fun (n, k) => n == y && (k == .local || k == .cell)) = false := by with_unfolding_all (decide +kernel)) : wS X (.Assign [.Name y py] (.ListComp elt [⟨.Name x p1, iter, [c], 0⟩] scope pos) spos) ⟨nx, rt, bk, ct⟩ σ H := by
  refine toS (ps_setLc (i := l) (y := y) (py := py) (own := [(x, i)]) (g := gName i) (tt := inBlkT m N (relS scope sc) k c) (te := inBlk m N (relS scope sc) k elt) h.calm (by rw [h.nn]; exact h.nd) (by rw [h.nn]; exact nl.ix) (by rw [h.ss]; exact nl.loc) (sw_true (by rw [h.ss]; exact hk) (by rw [h.ss]; exact nl.loc) hl ha) (pi_list cE) (by rw [h.nn, h.ss]; exact blkOk_by ok) (fun s H C cl fp => pg_nl (blk_at h s H C cl fp) n) (fun s H C cl fp => pts_one (blk_pt h s H C cl fp)) (fun s H C cl fp => blk_pe h s H C cl fp) hs) ?_
  refine wE.mono q fun v H1 ⟨a, xs, ea, hl, go⟩ => ⟨a, ea, ⟨xs, by rw [h.kk]; exact hl⟩, fun D hD => ?_⟩
  obtain ⟨Pv, p0, st, turn, fin⟩ := go D hD
  refine lc_list (K := X.K) (a := a) (xs := xs) (g := gName i) (tt := inBlkT m N (relS scope sc) k c) (te := inBlk m N (relS scope sc) k elt) (vs := [i]) (σ := σ) Pv p0 (fun j H hj hp => by rw [h.kk]; exact st j H hj hp) (fun j z H hz hp => ?_) fin
  refine ⟨by rw [wipe1]; simp [wipe, List.set_set], fun X' hX' => ?_⟩
  have t := turn j z H hz hp X' hX'
  rw [set_wipe]
  exact t
/-- y = [..], y a name of this place alone -/
theorem s_lcR (h : At m N sc k X) (hm : m.mg "range" = none) (hgl : sc.names.lookup ("range" : Str) = some .globalImplicit) (nl : NL N sc l y) (ok : blkC N sc scope [(x, i)] = true) (n : NL N (relS scope sc) i x)
    (q : wE X e σ H fun v H1 => ∃ z : Int, v = .int z ∧ -(2 ^ 62) ≤ z ∧ z < 2 ^ 62 ∧ ∀ D, H1 D = none → ∃ Pv : Nat → Hp → Prop, Pv 0 (upd H1 D (.lst [])) ∧
      (∀ j H, j < z.toNat → Pv j H → ∀ X', At m N (relS scope sc) k X' → wE X' elt (σ.set i (some (.int j))) H (App D (Pv (j + 1)))) ∧ ∀ H, Pv z.toNat H → nx (σ.set l (some (.ref D))) H)
    (hst : starEach [e] X.env = [(false, eval e X.env)] := by with_unfolding_all rfl) (hs : ∀ x, foldedSetIterable (.Call (.Name "range" p2) [e] [] p3) X.env x = pure x := by with_unfolding_all (intro _; rfl)) (hk : sc.kind = .function := by with_unfolding_all rfl) (hl : (py.line == pos.line) = true := by with_unfolding_all rfl) (ha : (scope.names.any fun (n, k) => n == y && (k == .local || k == .cell)) = false := by with_unfolding_all (decide +kernel)) : wS X (.Assign [.Name y py] (.ListComp elt [⟨.Name x p1, .Call (.Name "range" p2) [e] [] p3, [], 0⟩] scope pos) spos) ⟨nx, rt, bk, ct⟩ σ H := by
  refine toS (ps_setLc (i := l) (y := y) (py := py) (own := [(x, i)]) (g := gName i) (tt := tYes) (te := inBlk m N (relS scope sc) k elt) h.calm (by rw [h.nn]; exact h.nd) (by rw [h.nn]; exact nl.ix) (by rw [h.ss]; exact nl.loc) (sw_true (by rw [h.ss]; exact hk) (by rw [h.ss]; exact nl.loc) hl ha) (pi_range1 (h.gl hgl) (by rw [h.mm]; exact hm) (pa_cons cE pa_nil hst) hst) (by rw [h.nn, h.ss]; exact blkOk_by ok) (fun s H C cl fp => pg_nl (blk_at h s H C cl fp) n) (fun _ _ _ _ _ => pts_nil) (fun s H C cl fp => blk_pe h s H C cl fp) hs) ?_
  refine wE.mono q fun v H1 ⟨z, ez, z1, z2, go⟩ => ⟨z, by rw [ez], z1, z2, fun D hD => ?_⟩
  obtain ⟨Pv, p0, turn, fin⟩ := go D hD
  refine lc_range (lo := 0) (n := z.toNat) (g := gName i) (tt := tYes) (te := inBlk m N (relS scope sc) k elt) (vs := [i]) (σ := σ) Pv p0 (fun j H hj hp => ?_) fin
  refine ⟨by rw [wipe1]; simp [wipe, List.set_set], ?_⟩
  unfold tYes
  refine iteT fun X' hX' => ?_
  rw [set_wipe, Int.zero_add]
  exact turn j H hj hp X' hX'
/-- y = [..], y a name of this place alone -/
theorem s_lcRi (h : At m N sc k X) (hm : m.mg "range" = none) (hgl : sc.names.lookup ("range" : Str) = some .globalImplicit) (nl : NL N sc l y) (ok : blkC N sc scope [(x, i)] = true) (n : NL N (relS scope sc) i x)
    (q : wE X e σ H fun v H1 => ∃ z : Int, v = .int z ∧ -(2 ^ 62) ≤ z ∧ z < 2 ^ 62 ∧ ∀ D, H1 D = none → ∃ Pv : Nat → Hp → Prop, Pv 0 (upd H1 D (.lst [])) ∧
      (∀ j H, j < z.toNat → Pv j H → ∀ X', At m N (relS scope sc) k X' → wT X' c (σ.set i (some (.int j))) H fun b H3 => if b = true then (∀ X', At m N (relS scope sc) k X' → wE X' elt (σ.set i (some (.int j))) H3 (App D (Pv (j + 1)))) else Pv (j + 1) H3) ∧ ∀ H, Pv z.toNat H → nx (σ.set l (some (.ref D))) H)
    (hst : starEach [e] X.env = [(false, eval e X.env)] := by with_unfolding_all rfl) (hs : ∀ x, foldedSetIterable (.Call (.Name "range" p2) [e] [] p3) X.env x = pure x := by with_unfolding_all (intro _; rfl)) (hk : sc.kind = .function := by with_unfolding_all rfl) (hl : (py.line == pos.line) = true := by with_unfolding_all rfl) (ha : (scope.names.any fun (n, k) => n == y && (k == .local || k == .cell)) = false := by with_unfolding_all (decide +kernel)) : wS X (.Assign [.Name y py] (.ListComp elt [⟨.Name x p1, .Call (.Name "range" p2) [e] [] p3, [c], 0⟩] scope pos) spos) ⟨nx, rt, bk, ct⟩ σ H := by
  refine toS (ps_setLc (i := l) (y := y) (py := py) (own := [(x, i)]) (g := gName i) (tt := inBlkT m N (relS scope sc) k c) (te := inBlk m N (relS scope sc) k elt) h.calm (by rw [h.nn]; exact h.nd) (by rw [h.nn]; exact nl.ix) (by rw [h.ss]; exact nl.loc) (sw_true (by rw [h.ss]; exact hk) (by rw [h.ss]; exact nl.loc) hl ha) (pi_range1 (h.gl hgl) (by rw [h.mm]; exact hm) (pa_cons cE pa_nil hst) hst) (by rw [h.nn, h.ss]; exact blkOk_by ok) (fun s H C cl fp => pg_nl (blk_at h s H C cl fp) n) (fun s H C cl fp => pts_one (blk_pt h s H C cl fp)) (fun s H C cl fp => blk_pe h s H C cl fp) hs) ?_
  refine wE.mono q fun v H1 ⟨z, ez, z1, z2, go⟩ => ⟨z, by rw [ez], z1, z2, fun D hD => ?_⟩
  obtain ⟨Pv, p0, turn, fin⟩ := go D hD
  refine lc_range (lo := 0) (n := z.toNat) (g := gName i) (tt := inBlkT m N (relS scope sc) k c) (te := inBlk m N (relS scope sc) k elt) (vs := [i]) (σ := σ) Pv p0 (fun j H hj hp => ?_) fin
  refine ⟨by rw [wipe1]; simp [wipe, List.set_set], fun X' hX' => ?_⟩
  have t := turn j H hj hp X' hX'
  rw [set_wipe, Int.zero_add]
  exact t
end
end Vf
set_option maxRecDepth 100000
set_option maxHeartbeats 4000000
/-! St: stores into several names, insert. Own work. -/
namespace Vf
open PySem PySem.Spec PyProof.Rows L2 LamX
/-- what changes in objects that were not there is growth -/
theorem GrowX.into {T : List (Addr × Str)} {S S' : Addr → Prop} {H H1 H2 : Hp} (a : GrowX T S H H1) (b : GrowX T S' H1 H2) (h : ∀ c, S' c → New H c ∨ S c) : GrowX T S H H2 :=
  ⟨fun c o s e n => b.ext c o (fun z => (h c z).elim (fun z => by rw [z] at e; cases e) s) (a.ext c o s e n) n, fun t => b.tab (a.tab t), fun c z => a.keep c (b.keep c z), fun c xs z => b.tup c xs (a.tup c xs z), fun c o u z => b.frz c o u (a.frz c o u z)⟩
theorem Grow.intoNew {T : List (Addr × Str)} {S' : Addr → Prop} {H H1 H2 : Hp} (a : Grow T H H1) (b : GrowX T S' H1 H2) (h : ∀ c, S' c → New H c) : Grow T H H2 := a.into b fun c z => .inl (h c z)
/-- a list's new elements -/
theorem GrowX.lst {T : List (Addr × Str)} {H : Hp} {p : Addr} {xs ys : List V} (h : H p = some (.lst xs)) : GrowX T (· = p) H (upd H p (.lst ys)) := GrowX.set rfl h (fun _ z => by cases z) (fun _ z => by unfold CodeO at z; cases z) (fun _ z => by cases z) (fun _ _ z => by cases z)
theorem New.ne {H : Hp} {a p : Addr} {o : HO} (n : New H p) (h : H a = some o) : p ≠ a := fun z => by rw [← z, n] at h; cases h
section
variable {m : Md} {N : List Str} {sc : Scope} {k : Nat} {X : Cx} {a b c e o : Expr} {es : List Expr} {σ : L2.St} {H : Hp} {Q : VK} {nx : L2.St → Hp → Prop} {rt : VK} {bk ct : L2.St → Hp → Prop} {pos p1 p2 p3 p4 : Pos} {x y z : Str} {i j l : Nat} {k1 k2 : Nat}
theorem nl_of (h : At m N sc k X) (i : Nat) (x : Str) (a : N[i]? = some x := by rfl) (b : sc.names.lookup x = some .local := by rfl) : NL N sc i x := ⟨a, b⟩
theorem nc_of (h : At m N sc k X) (i : Nat) (x : Str) (a : N[i]? = some x := by rfl) (b : sc.names.lookup x = some .cell := by rfl) : NC N sc i x := ⟨a, b⟩
theorem env_sc {env : Env} (h : env.scope = sc) : { env with scope := sc } = env := by cases env; cases h; rfl
/-- x, y = a, b, both names of this place alone -/
theorem s_par (h : At m N sc k X) (n1 : NL N sc i x) (n2 : NL N sc j y) (q : wA X [a, b] σ H fun vs H1 => ∃ v w, vs = [v, w] ∧ nx ((σ.set i (some v)).set j (some w)) H1) (hij : i ≠ j := by decide)
    (hw : ∀ env : Env, swappedStores [.Tuple [.Name x p1, .Name y p2] k1 p3] (.Tuple [a, b] k2 p4) { env with scope := sc } = pure (some [x, y]) := by with_unfolding_all (intro _; rfl))
    (hs : swapsWithSole [.Tuple [.Name x p1, .Name y p2] k1 p3] (.Tuple [a, b] k2 p4) pos.line X.env = pure false := by with_unfolding_all rfl) : wS X (.Assign [.Tuple [.Name x p1, .Name y p2] k1 p3] (.Tuple [a, b] k2 p4) pos) ⟨nx, rt, bk, ct⟩ σ H :=
  toS (ps_par h.calm (by rw [h.nn]; exact h.nd) (by rw [h.nn]; exact n1.ix) (by rw [h.nn]; exact n2.ix) hij (by rw [h.ss]; exact n1.loc) (by rw [h.ss]; exact n2.loc) cA (by have := hw X.env; rw [env_sc h.ss] at this; exact this) hs) q
/-- x, y = e where the pair is made, then taken apart -/
theorem s_two {t1 t2 : Expr} (h : At m N sc k X) (hg1 : PG X t1 (gName i)) (hg2 : PG X t2 (gName j)) (q : wE X e σ H fun v H1 => ∃ (p : Addr) (v1 v2 : V), v = .ref p ∧ SqT m.K H1 p [v1, v2] ∧ nx ((σ.set i (some v1)).set j (some v2)) H1)
    (hw : ∀ env : Env, swappedStores [.Tuple [t1, t2] k1 p3] e { env with scope := sc } = pure none := by with_unfolding_all (intro _; rfl))
    (hs : swapsWithSole [.Tuple [t1, t2] k1 p3] e pos.line X.env = pure false := by with_unfolding_all rfl)
    (hz : (assignEach [t1, t2] X.env).map (·.2) = assign t1 X.env :: (assignEach [t2] X.env).map (·.2) := by with_unfolding_all rfl) (hz2 : (assignEach [t2] X.env).map (·.2) = assign t2 X.env :: (assignEach [] X.env).map (·.2) := by with_unfolding_all rfl)
    (hn : (assignEach [t1, t2] X.env).length = 2 := by with_unfolding_all rfl) (hst : (assignEach [t1, t2] X.env).findIdx? (·.1) = none := by with_unfolding_all rfl)
    (ho : (assignEach [.Tuple [t1, t2] k1 p3] X.env).map (·.2) = [assign (.Tuple [t1, t2] k1 p3) X.env] := by with_unfolding_all rfl) : wS X (.Assign [.Tuple [t1, t2] k1 p3] e pos) ⟨nx, rt, bk, ct⟩ σ H := by
  refine toS (ps_asg cE (pg_tup h.calm (pgs_cons hg1 (pgs_cons hg2 pgs_nil hz2) hz) hn hst) hs (by have := hw X.env; rw [env_sc h.ss] at this; exact this) ho) ?_
  exact wE.mono q fun v H1 ⟨p, v1, v2, ev, hp, q1⟩ => ⟨p, [v1, v2], ev, by rw [h.kk]; exact hp, rfl, v1, [v2], rfl, v2, [], rfl, rfl, q1⟩
theorem g_truB {b : Bool} {QB : Bool → Hp → Prop} (q : QB b H) : gTru X (.bl b) H QB := ⟨b, rfl, q⟩
theorem w_neg (q : wE X e σ H fun v H1 => ∃ i : Int, v = .int i ∧ Q (.int (-i)) H1) : wE X (.UnaryOp .USub e pos) σ H Q := toE (pe_un un_neg cE) q
/-- xs.insert(a, b) -/
theorem g_insert (q : wE X o σ H fun x H1 => tyV X.K "list" x H1 ∧ wA X [a, b] σ H1 fun ys H2 => ∃ (l : Addr) (xs : List V) (i : Int) (y : V), x = .ref l ∧ ys = [.int i, y] ∧ H2 l = some (.lst xs) ∧ xs.length < sizeLine ∧ 0 ≤ i ∧ i < 2 ^ 63 ∧ Q .non (upd H2 l (.lst (xs.take i.toNat ++ [y] ++ xs.drop i.toNat)))) {apos : Pos}
    (hbase : attributeBase o "insert" X.env (eval o X.env) = eval o X.env := by with_unfolding_all rfl)
    (hfew : ((backTo pos (starEach [a, b] X.env)).all (fun x => !x.1) && (backToKw pos (keywordEach [] X.env)).all (fun x => x.1.isSome) && decide ([a, b].length + ([] : List Keyword).length + (if ([] : List Keyword).isEmpty then 0 else 1) < 30)) = true := by with_unfolding_all rfl)
    (hline : (apos.endLine == pos.line) = true := by with_unfolding_all rfl) (hs : starEach [a, b] X.env = (false, eval a X.env) :: starEach [b] X.env := by with_unfolding_all rfl) (hplain : (backTo pos (starEach [b] X.env)).any (·.1) = false := by with_unfolding_all rfl) : wE X (.Call (.Attribute o "insert" apos) [a, b] [] pos) σ H Q :=
  toE (pe_bm PySem.F.plainAttrs_list PySem.F.slot_list_insert PySem.F.type_list_insert mt_insert cE cA hbase hfew hline hs hplain) q
end
end Vf
set_option maxRecDepth 100000
set_option maxHeartbeats 4000000
/-! Tm: terms of the program as data. Own work. -/
namespace Vf
open PySem PySem.Spec PyProof.Rows L2 LamX
/-- 1 to 8 signs a to z -/
def IsName (z : Str) : Prop := 1 ≤ z.length ∧ z.length ≤ 8 ∧ ∀ c ∈ z.cps.toList, 97 ≤ c ∧ c ≤ 122
inductive Tm
  | part (now : Bool) (z : Str) (w : Int)
  | all (first : Bool) (ts : List Tm)
  | rank (r : Int) (ts : List Tm)
namespace Tm
mutual
/-- the tuple that a term is -/
def py : Tm → PyData
  | .part n z w => .tuple [.str (if n then "now" else "of"), .str z, .int w]
  | .all f ts => .tuple [.str (if f then "first" else "last"), .list (pys ts)]
  | .rank r ts => .tuple [.str "rank", .int r, .list (pys ts)]
def pys : List Tm → List PyData
  | [] => []
  | t :: ts => py t :: pys ts
end
mutual
/-- names of the two lists, waits up to W, ranks in their bounds, no list empty -/
def ok (W : Int) (zs ns : List Str) : Tm → Prop
  | .part n z w => (if n then z ∈ ns else z ∈ zs) ∧ -W ≤ w ∧ w ≤ W
  | .all _ ts => ts ≠ [] ∧ oks W zs ns ts
  | .rank r ts => ts ≠ [] ∧ 1 ≤ r ∧ r ≤ ts.length ∧ oks W zs ns ts
def oks (W : Int) (zs ns : List Str) : List Tm → Prop
  | [] => True
  | t :: ts => ok W zs ns t ∧ oks W zs ns ts
end
mutual
def dep : Tm → Nat
  | .part _ _ _ => 0
  | .all _ ts => deps ts + 1
  | .rank _ ts => deps ts + 1
def deps : List Tm → Nat
  | [] => 0
  | t :: ts => max (dep t) (deps ts)
end
mutual
/-- parts -/
def cnt : Tm → Nat
  | .part _ _ _ => 1
  | .all _ ts => cnts ts
  | .rank _ ts => cnts ts
def cnts : List Tm → Nat
  | [] => 0
  | t :: ts => cnt t + cnts ts
end
mutual
/-- parts and lists -/
def siz : Tm → Nat
  | .part _ _ _ => 1
  | .all _ ts => sizs ts + 1
  | .rank _ ts => sizs ts + 1
def sizs : List Tm → Nat
  | [] => 0
  | t :: ts => siz t + sizs ts
end
mutual
/-- a term: no list empty or beyond bounds, ranks in their bounds -/
def wf : Tm → Prop
  | .part _ _ _ => True
  | .all _ ts => ts ≠ [] ∧ ts.length < 1000 ∧ wfs ts
  | .rank r ts => ts ≠ [] ∧ ts.length < 1000 ∧ 1 ≤ r ∧ r ≤ ts.length ∧ wfs ts
def wfs : List Tm → Prop
  | [] => True
  | t :: ts => wf t ∧ wfs ts
end
mutual
/-- the parts changed -/
def reb (g : Tm → Tm) : Tm → Tm
  | .part n z w => g (.part n z w)
  | .all f ts => .all f (rebs g ts)
  | .rank r ts => .rank r (rebs g ts)
def rebs (g : Tm → Tm) : List Tm → List Tm
  | [] => []
  | t :: ts => reb g t :: rebs g ts
end
mutual
theorem reb_id : ∀ t : Tm, reb (fun x => x) t = t
  | .part _ _ _ => rfl
  | .all f ts => by rw [reb, rebs_id ts]
  | .rank r ts => by rw [reb, rebs_id ts]
theorem rebs_id : ∀ ts : List Tm, rebs (fun x => x) ts = ts
  | [] => rfl
  | t :: ts => by rw [rebs, reb_id t, rebs_id ts]
end
theorem rebs_map (g : Tm → Tm) : ∀ ts : List Tm, rebs g ts = ts.map (reb g)
  | [] => rfl
  | t :: ts => by rw [rebs, rebs_map g ts]; rfl
theorem wfs_iff : ∀ {ts : List Tm}, wfs ts ↔ ∀ t ∈ ts, wf t
  | [] => by simp [wfs]
  | t :: ts => by rw [wfs, wfs_iff]; simp
theorem dep_mem : ∀ {ts : List Tm} {t : Tm}, t ∈ ts → dep t ≤ deps ts
  | [], _, h => by simp at h
  | a :: ts, t, h => by
    rw [deps]
    rcases List.mem_cons.1 h with e | e
    · rw [e]; omega
    · have := dep_mem e; omega
theorem pys_map : ∀ ts : List Tm, pys ts = ts.map py
  | [] => rfl
  | t :: ts => by rw [pys, pys_map ts]; rfl
theorem oks_iff {W : Int} {zs ns : List Str} : ∀ {ts : List Tm}, oks W zs ns ts ↔ ∀ t ∈ ts, ok W zs ns t
  | [] => by simp [oks]
  | t :: ts => by rw [oks, oks_iff]; simp
theorem pys_length (ts : List Tm) : (pys ts).length = ts.length := by rw [pys_map, List.length_map]
theorem cnts_sum : ∀ ts : List Tm, cnts ts = (ts.map cnt).sum
  | [] => rfl
  | t :: ts => by rw [cnts, cnts_sum ts]; rfl
theorem sizs_append : ∀ a b : List Tm, sizs (a ++ b) = sizs a + sizs b
  | [], b => by simp [sizs]
  | t :: a, b => by rw [List.cons_append, sizs, sizs, sizs_append a b]; omega
theorem cnts_append : ∀ a b : List Tm, cnts (a ++ b) = cnts a + cnts b
  | [], b => by simp [cnts]
  | t :: a, b => by rw [List.cons_append, cnts, cnts, cnts_append a b]; omega
theorem pys_append (a b : List Tm) : pys (a ++ b) = pys a ++ pys b := by rw [pys_map, pys_map, pys_map, List.map_append]
theorem oks_append {W : Int} {zs ns : List Str} {a b : List Tm} (h1 : oks W zs ns a) (h2 : oks W zs ns b) : oks W zs ns (a ++ b) := by
  rw [oks_iff] at *
  intro t ht
  rcases List.mem_append.1 ht with h | h
  · exact h1 t h
  · exact h2 t h
section
variable {W : Int} {zs ns : List Str} (hz : ∀ z ∈ zs, IsName z) (hn : ∀ z ∈ ns, IsName z)
include hz hn
theorem part_name {n : Bool} {z : Str} (h : if n = true then z ∈ ns else z ∈ zs) : IsName z := by
  cases n
  · exact hz z (by simpa using h)
  · exact hn z (by simpa using h)
mutual
theorem canLay : ∀ t : Tm, ok W zs ns t → (py t).canLay0 = true
  | .part n z w, h => by
    have e := (part_name hz hn h.1).2.2
    have e1 : PyData.strOk z = true := by
      unfold PyData.strOk
      rw [Array.all_eq_true']
      intro c hc
      have := e c (by simpa using hc)
      simp; omega
    have e2 : PyData.strOk (if n = true then "now" else "of") = true := by cases n <;> decide +kernel
    simp [py, PyData.canLay0, PyData.canLayAll0, e1, e2]
  | .all f ts, h => by
    have e2 : PyData.strOk (if f = true then "first" else "last") = true := by cases f <;> decide +kernel
    simp [py, PyData.canLay0, PyData.canLayAll0, e2, canLays ts h.2]
  | .rank r ts, h => by
    have e2 : PyData.strOk "rank" = true := by decide +kernel
    simp [py, PyData.canLay0, PyData.canLayAll0, e2, canLays ts h.2.2.2]
theorem canLays : ∀ ts : List Tm, oks W zs ns ts → PyData.canLayAll0 (pys ts) = true
  | [], _ => rfl
  | t :: ts, h => by
    rw [pys, PyData.canLayAll0, canLay t h.1, canLays ts h.2]; rfl
end
end
mutual
theorem depth_le : ∀ t : Tm, (py t).depth ≤ 2 * dep t + 1
  | .part n z w => by simp [py, PyData.depth, PyData.depthAll, dep]
  | .all f ts => by have := depths_le ts; simp [py, PyData.depth, PyData.depthAll, dep]; omega
  | .rank r ts => by have := depths_le ts; simp [py, PyData.depth, PyData.depthAll, dep]; omega
theorem depths_le : ∀ ts : List Tm, PyData.depthAll (pys ts) ≤ 2 * deps ts + 1
  | [] => by simp [pys, PyData.depthAll]
  | t :: ts => by have := depth_le t; have := depths_le ts; simp [pys, PyData.depthAll, deps]; omega
end
mutual
theorem dep_le : ∀ t : Tm, dep t ≤ siz t
  | .part n z w => by simp [dep]
  | .all f ts => by have := deps_le ts; simp [dep, siz]; omega
  | .rank r ts => by have := deps_le ts; simp [dep, siz]; omega
theorem deps_le : ∀ ts : List Tm, deps ts ≤ sizs ts
  | [] => by simp [deps]
  | t :: ts => by have := dep_le t; have := deps_le ts; simp [deps, sizs]; omega
end
mutual
theorem siz_pos : ∀ t : Tm, 1 ≤ siz t
  | .part n z w => by simp [siz]
  | .all f ts => by simp [siz]
  | .rank r ts => by simp [siz]
theorem len_le : ∀ ts : List Tm, ts.length ≤ sizs ts
  | [] => by simp
  | t :: ts => by have := siz_pos t; have := len_le ts; simp [sizs]; omega
end
mutual
theorem ok_wf {W : Int} {zs ns : List Str} : ∀ t : Tm, ok W zs ns t → siz t < 1000 → wf t
  | .part _ _ _, _, _ => trivial
  | .all f ts, h, l => by
    have := len_le ts
    simp only [siz] at l
    exact ⟨h.1, by omega, oks_wf ts h.2 (by omega)⟩
  | .rank r ts, h, l => by
    have := len_le ts
    simp only [siz] at l
    exact ⟨h.1, by omega, h.2.1, h.2.2.1, oks_wf ts h.2.2.2 (by omega)⟩
theorem oks_wf {W : Int} {zs ns : List Str} : ∀ ts : List Tm, oks W zs ns ts → sizs ts < 1000 → wfs ts
  | [], _, _ => trivial
  | t :: ts, h, l => by
    simp only [sizs] at l
    exact ⟨ok_wf t h.1 (by omega), oks_wf ts h.2 (by omega)⟩
end
mutual
theorem eqv_py : ∀ a b : Tm, PyData.eqv (py a) (py b) = true ↔ a = b
  | .part n z w, .part n' z' w' => by
    have : (if n = true then ("now" : Str) else "of") = (if n' = true then ("now" : Str) else "of") ↔ n = n' := by cases n <;> cases n' <;> decide +kernel
    simp [py, PyData.eqv, PyData.eqvAll, this]
  | .part n z w, .all f ts => by simp [py, PyData.eqv, PyData.eqvAll]
  | .part n z w, .rank r ts => by simp [py, PyData.eqv, PyData.eqvAll]
  | .all f ts, .part n z w => by simp [py, PyData.eqv, PyData.eqvAll]
  | .all f ts, .all f' ts' => by
    have : (if f = true then ("first" : Str) else "last") = (if f' = true then ("first" : Str) else "last") ↔ f = f' := by cases f <;> cases f' <;> decide +kernel
    simp [py, PyData.eqv, PyData.eqvAll, this, eqv_pys ts ts']
  | .all f ts, .rank r ts' => by simp [py, PyData.eqv, PyData.eqvAll]
  | .rank r ts, .part n z w => by simp [py, PyData.eqv, PyData.eqvAll]
  | .rank r ts, .all f ts' => by simp [py, PyData.eqv, PyData.eqvAll]
  | .rank r ts, .rank r' ts' => by simp [py, PyData.eqv, PyData.eqvAll, eqv_pys ts ts']
theorem eqv_pys : ∀ a b : List Tm, PyData.eqvAll (pys a) (pys b) = true ↔ a = b
  | [], [] => by simp [pys, PyData.eqvAll]
  | [], _ :: _ => by simp [pys, PyData.eqvAll]
  | _ :: _, [] => by simp [pys, PyData.eqvAll]
  | a :: as, b :: bs => by simp [pys, PyData.eqvAll, eqv_py a b, eqv_pys as bs]
end
theorem wt_int {i : Int} (h : i.natAbs < 2 ^ 47) : PyData.weight (.int i) ≤ 47 := by
  unfold PyData.weight
  split
  · omega
  · have : i.natAbs ≠ 0 := by rename_i g; intro w; exact g (by simpa using Int.natAbs_eq_zero.1 w)
    have := (Nat.log2_lt this).2 h
    omega
section
variable {W : Int} {zs ns : List Str} (hz : ∀ z ∈ zs, IsName z) (hn : ∀ z ∈ ns, IsName z) (hW : W < 10 ^ 12)
include hz hn hW
mutual
theorem weight_le : ∀ t : Tm, ok W zs ns t → sizs [t] ≤ 1000 → (py t).weight + 1 ≤ 100 * siz t
  | .part n z w, h, _ => by
    have e : z.cps.size ≤ 8 := (part_name hz hn h.1).2.1
    have e2 : (if n = true then ("now" : Str) else "of").cps.size ≤ 8 := by cases n <;> decide +kernel
    have e3 := wt_int (i := w) (by have := h.2; omega)
    simp only [py, PyData.weight, PyData.weightAll, siz] at e3 ⊢
    omega
  | .all f ts, h, l => by
    have e2 : (if f = true then ("first" : Str) else "last").cps.size ≤ 8 := by cases f <;> decide +kernel
    have := weights_le ts h.2 (by simp only [sizs, siz] at l; omega)
    simp only [py, PyData.weight, PyData.weightAll, siz] at this ⊢
    omega
  | .rank r ts, h, l => by
    have e2 : ("rank" : Str).cps.size ≤ 8 := by decide +kernel
    have := weights_le ts h.2.2.2 (by simp only [sizs, siz] at l; omega)
    have e4 : ts.length ≤ sizs ts := len_le ts
    have e3 := wt_int (i := r) (by have := h.2; simp only [sizs, siz] at l; omega)
    simp only [py, PyData.weight, PyData.weightAll, siz] at this e3 ⊢
    omega
theorem weights_le : ∀ ts : List Tm, oks W zs ns ts → sizs ts ≤ 1000 → PyData.weightAll (pys ts) ≤ 100 * sizs ts
  | [], _, _ => by simp [pys, PyData.weightAll]
  | t :: ts, h, l => by
    have l' : siz t + sizs ts ≤ 1000 := l
    have h1 := weight_le t h.1 (by simp only [sizs]; omega)
    have h2 := weights_le ts h.2 (by omega)
    have h3 := siz_pos t
    simp only [pys, PyData.weightAll, sizs]
    omega
end
mutual
theorem short : ∀ t : Tm, ok W zs ns t → siz t ≤ 1000 → (py t).intsShort 13 = true
  | .part n z w, h, _ => by
    have e3 := PyData.shown_int_le (i := w) (by have := h.2; omega)
    simp [py, PyData.intsShort, PyData.intsShortAll, e3]
  | .all f ts, h, l => by
    have := shorts ts h.2 (by simp only [siz] at l; omega)
    simp [py, PyData.intsShort, PyData.intsShortAll, this]
  | .rank r ts, h, l => by
    have := shorts ts h.2.2.2 (by simp only [siz] at l; omega)
    have e4 : ts.length ≤ sizs ts := len_le ts
    have e3 := PyData.shown_int_le (i := r) (by have := h.2; simp only [siz] at l; omega)
    simp [py, PyData.intsShort, PyData.intsShortAll, this, e3]
theorem shorts : ∀ ts : List Tm, oks W zs ns ts → sizs ts ≤ 1000 → PyData.intsShortAll 13 (pys ts) = true
  | [], _, _ => rfl
  | t :: ts, h, l => by
    have l' : siz t + sizs ts ≤ 1000 := l
    rw [pys, PyData.intsShortAll, short t h.1 (by omega), shorts ts h.2 (by omega)]; rfl
end
mutual
theorem shows : ∀ t : Tm, ok W zs ns t → siz t ≤ 1000 → (py t).showable = true
  | .part n z w, h, _ => by
    have e3 : w.natAbs.log2 < 1920 := by
      rcases Nat.eq_zero_or_pos w.natAbs with e | e
      · rw [e]; decide
      · exact (Nat.log2_lt (by omega)).2 (by have := h.2; omega)
    simp [py, PyData.showable, PyData.showableAll, e3]
  | .all f ts, h, l => by
    have := showss ts h.2 (by simp only [siz] at l; omega)
    simp [py, PyData.showable, PyData.showableAll, this]
  | .rank r ts, h, l => by
    have := showss ts h.2.2.2 (by simp only [siz] at l; omega)
    have e4 : ts.length ≤ sizs ts := len_le ts
    have e3 : r.natAbs.log2 < 1920 := (Nat.log2_lt (by have := h.2; omega)).2 (by have := h.2; simp only [siz] at l; omega)
    simp [py, PyData.showable, PyData.showableAll, this, e3]
theorem showss : ∀ ts : List Tm, oks W zs ns ts → sizs ts ≤ 1000 → PyData.showableAll (pys ts) = true
  | [], _, _ => rfl
  | t :: ts, h, l => by
    have l' : siz t + sizs ts ≤ 1000 := l
    rw [pys, PyData.showableAll, shows t h.1 (by omega), showss ts h.2 (by omega)]; rfl
end
/-- a term's text is of a size that repr makes -/
theorem shown_fits (t : Tm) (h : ok W zs ns t) (l : siz t ≤ 29) : (py t).showable = true ∧ (py t).shown.length ≤ sizeLine ∧ (py t).depth ≤ 60 := by
  have h1 := weight_le hz hn hW t h (by simp only [sizs]; omega)
  have h2 := depth_le t
  have h3 := dep_le t
  refine ⟨shows hz hn hW t h (by omega), ?_, by omega⟩
  have := shown_le13 (d := py t) ?_ (short hz hn hW t h (by omega))
  · rw [sizeLine_eq]; omega
  · unfold PyData.layable0
    rw [canLay hz hn t h]
    simp only [Bool.true_and, Bool.and_eq_true, decide_eq_true_eq]
    exact ⟨by omega, by omega⟩
end
end Tm
end Vf
set_option maxRecDepth 100000
set_option maxHeartbeats 4000000
/-! Own: instances of the text's own classes: fields, methods, making, ==, isinstance. Own work. -/
namespace Vf
open PySem PySem.Spec PyProof.Rows L2 LamX
section
variable {m : Md} {N : List Str} {sc : Scope} {j k : Nat} {X : Cx} {a b c e o : Expr} {es : List Expr} {σ : L2.St} {H : Hp} {Q : VK} {nx : L2.St → Hp → Prop} {rt : VK} {bk ct : L2.St → Hp → Prop} {pos p p1 p2 apos : Pos} {x mn f : Str} {C : Addr} {sp : Sp} {dvs : List V} {CX : CXT} {E : XK}
/-! ### fields -/
theorem w_fld (h : At m N sc k X) (c : Cls m.K C) (n : NoAttr m.K C f) (q : wE X e σ H fun x H1 => ∃ a dx fs v, x = .ref a ∧ H1 a = some (.ins C dx fs) ∧ fs.lookup f = some v ∧ Q v H1)
    (hb : attributeBase e f X.env (eval e X.env) = eval e X.env := by with_unfolding_all rfl) : wE X (.Attribute e f pos) σ H Q := by
  refine toE (pe_fld cE hb) (wE.mono q fun x H1 ⟨a, dx, fs, v, ex, ea, l, q1⟩ => ?_)
  exact ⟨a, C, dx, fs, v, ex, ea, by rw [h.kk]; exact c, by rw [h.kk]; exact n, l, q1⟩
theorem s_fld (h : At m N sc k X) (c : Cls m.K C) (n : NoAttr m.K C f) (q : wE X e σ H fun y H1 => wE X o σ H1 fun x H2 => ∃ a dx fs, x = .ref a ∧ H2 a = some (.ins C dx fs) ∧ fs.length < 1000 ∧ nx σ (upd H2 a (.ins C dx (putF f y fs))))
    (hs : swapsWith e (some (.Attribute o f p1)) pos.line X.env = pure false := by with_unfolding_all rfl) : wS X (.Assign [.Attribute o f p1] e pos) ⟨nx, rt, bk, ct⟩ σ H := by
  refine toS (ps_fld cE cE hs) (wE.mono q fun y H1 q1 => wE.mono q1 fun x H2 ⟨a, dx, fs, ex, ea, l, q2⟩ => ?_)
  exact ⟨a, C, dx, fs, ex, ea, by rw [h.kk]; exact c, by rw [h.kk]; exact n, l, q2⟩
/-! ### methods -/
/-- a method of the class at C that keeps sp -/
structure MetX (m : Md) (CX : CXT) (k : Nat) (C : Addr) (mn : Str) (sp : Sp) (dvs : List V) : Prop where
  ex : ∃ (f : Addr) (fd : FuncData) (ps : List Str) (ds : List Value), FnG m CX k f fd ps sp ∧ Cls m.K C ∧ Meth m.K C mn f ∧ Binds m.K fd ps ds ∧ Vals dvs ds
/-- the callee's run, as a call -/
theorem run_call {pins : List (Addr × Obj)} {s : Shared} {g : Addr} {fd : FuncData} {ps : List Str} {ds us : List Value} {vs : List V} (h : At m N sc k X) (F : FnG m CX j g fd ps sp) (hk : j ≤ k) (hx : Passes CX X E) (I : Inv X pins σ H s) (b : Binds m.K fd ps ds) (d : Vals dvs ds) (r : Vals vs us) (q : sp (vs ++ dvs) H Q E) :
    wpAny (model X.prog X.w) X.A (call (.ref g) us) (EP X pins σ Q) X.xe s := by
  have r2 := Vals.append r d
  refine wpAny_call (codeAny_mono (fnG_run (us := us ++ ds) (vs := vs ++ dvs) h F hk hx I (b s us (by rw [← h.kk]; exact I.kIn) (by rw [← r2.length]; exact F.len _ _ _ _ q)) r2 q) fun r s' hq => ?_)
  match r, hq with
  | .error e, hq => exact hq
  | .ok (.ret u), hq => exact hq
theorem w_metX {pl : Sem Bool} (h : At m N sc k X) (c : MetX m CX j C mn sp dvs) (hk : j ≤ k) (hx : Passes CX X E)
    (q : wE X o σ H fun x H1 => ∃ a dx fs, x = .ref a ∧ H1 a = some (.ins C dx fs) ∧ fs.lookup mn = none ∧ wA X (e :: es) σ H1 fun vs H2 => sp (x :: (vs ++ dvs)) H2 Q E)
    (hst : starEach (e :: es) X.env = (false, eval e X.env) :: starEach es X.env := by with_unfolding_all rfl) (hpl : (backTo pos (starEach es X.env)).any (·.1) = false := by with_unfolding_all rfl)
    (ht : eval (.Call (.Attribute o mn apos) (e :: es) [] pos) X.env = (do
      let ov ← eval o X.env
      standAt apos.atName
      let (f, first) ← holding [ov] (getMethod ov mn pl)
      callWith pos f first (backTo pos (starEach (e :: es) X.env)) (backToKw pos (keywordEach [] X.env))) := by with_unfolding_all rfl) : wE X (.Call (.Attribute o mn apos) (e :: es) [] pos) σ H Q := by
  obtain ⟨g, fd, ps, ds, F, cl, me, b, d⟩ := c.ex
  unfold wE
  intro pins s I
  refine PySem.W.methodCall_KW (pl := pl) (thn ((cE (X := X) (e := o)).run pins s σ H _ I q) fun u s1 ⟨x, H1, I1, rx, i, dx, fs, ex, ea, l, q1⟩ => ?_) ht
  subst ex
  obtain rfl : u = Value.ref i := rx
  refine getmeth_ok I1 ea (by rw [h.kk]; exact cl) (by rw [h.kk]; exact me) l ?_
  refine PySem.W.callWith_K (first := [.ref i]) (h₀ := X.base) I.ok.mod.kin (by rw [h.kk]; exact me.kp) (thn ((cA (X := X) (es := e :: es)).run pos pins s1 σ H1 _ I1 q1) fun us s2 ⟨vs, H2, I2, r, q2⟩ => ⟨I2.kIn, ?_⟩) hst hpl
  exact run_call (us := .ref i :: us) (vs := .ref i :: vs) h F hk hx I2 b d (.cons rfl r) q2
theorem w_met0 {pl : Sem Bool} (h : At m N sc k X) (c : MetX m CX j C mn sp dvs) (hk : j ≤ k) (hx : Passes CX X E)
    (q : wE X o σ H fun x H1 => ∃ a dx fs, x = .ref a ∧ H1 a = some (.ins C dx fs) ∧ fs.lookup mn = none ∧ sp (x :: dvs) H1 Q E)
    (ht : eval (.Call (.Attribute o mn apos) [] [] pos) X.env = (do
      let ov ← eval o X.env
      standAt apos.atName
      let (f, first) ← holding [ov] (getMethod ov mn pl)
      callWith pos f first (backTo pos (starEach [] X.env)) (backToKw pos (keywordEach [] X.env))) := by with_unfolding_all rfl) : wE X (.Call (.Attribute o mn apos) [] [] pos) σ H Q := by
  obtain ⟨g, fd, ps, ds, F, cl, me, b, d⟩ := c.ex
  unfold wE
  intro pins s I
  refine PySem.W.methodCall_KW (pl := pl) (thn ((cE (X := X) (e := o)).run pins s σ H _ I q) fun u s1 ⟨x, H1, I1, rx, i, dx, fs, ex, ea, l, q1⟩ => ?_) ht
  subst ex
  obtain rfl : u = Value.ref i := rx
  refine getmeth_ok I1 ea (by rw [h.kk]; exact cl) (by rw [h.kk]; exact me) l ?_
  exact PySem.W.callWith_K0 (first := [.ref i]) I1.kIn (by rw [h.kk]; exact me.kp) (run_call (us := [.ref i]) (vs := [.ref i]) h F hk hx I1 b d (.cons rfl .nil) q1)
/-! ### making -/
/-- the class x, at C, whose __init__ keeps sp -/
structure MakX (m : Md) (CX : CXT) (k : Nat) (x : Str) (C : Addr) (sp : Sp) (dvs : List V) : Prop where
  ex : ∃ (f : Addr) (fd : FuncData) (ps : List Str) (ds : List Value), FnG m CX k f fd ps sp ∧ Mk m.K C f ∧ m.mg x = some (.ref C) ∧ Binds m.K fd ps ds ∧ Vals dvs ds
theorem w_makX (h : At m N sc k X) (c : MakX m CX j x C sp dvs) (hk : j + 1 ≤ k) (hg : sc.names.lookup x = some .globalImplicit) (hx : L2.PassesAt CX X σ E)
    (q : wA X (e :: es) σ H fun vs H1 => ∀ i dx, H1 i = none → H1 dx = none → dx ≠ i → sp (.ref i :: (vs ++ dvs)) (upd (upd H1 dx (.own i)) i (.ins C dx [])) (fun v H2 => v = .non ∧ Q (.ref i) H2) E)
    (hdb : (x == ("__debug__" : Str)) = false := by with_unfolding_all decide) (he : starEach (e :: es) X.env = (false, eval e X.env) :: starEach es X.env := by with_unfolding_all rfl) (hpl : (backTo pos (starEach es X.env)).any (·.1) = false := by with_unfolding_all rfl) : wE X (.Call (.Name x p) (e :: es) [] pos) σ H Q := by
  obtain ⟨g, fd, ps, ds, F, M, hm, b, d⟩ := c.ex
  unfold wE
  intro pins s I
  refine wpAny_Call_Name_kw (ld_glob (u := .ref C) I (h.gl hg) (by rw [h.mm]; exact hm) ?_ hdb)
  refine PySem.W.callWith_K (h₀ := X.base) I.ok.mod.kin (by rw [h.kk]; exact M.kp) (thn ((cA (X := X) (es := e :: es)).run pos pins s σ H _ I q) fun us s1 ⟨vs, H1, I1, r, q1⟩ => ⟨I1.kIn, ?_⟩) he hpl
  have hq := q1 (s1.heap.objs.size + 1) s1.heap.objs.size (I1.hok.fresh (Nat.le_succ _)) (I1.hok.fresh (Nat.le_refl _)) (Nat.ne_of_lt (Nat.lt_succ_self _))
  have I2 := Inv.made (C := C) I1
  have r2 : Vals (V.ref (s1.heap.objs.size + 1) :: (vs ++ dvs)) (Value.ref (s1.heap.objs.size + 1) :: (us ++ ds)) := .cons rfl (Vals.append r d)
  have e0 := I2.env0.make C us []
  rw [h.pp, h.ww, h.kk, h.mm, h.bb] at e0
  have rc := F.run _ X.stack _ _ ⟨Value.ref (s1.heap.objs.size + 1) :: us, []⟩ (Value.ref (s1.heap.objs.size + 1) :: (us ++ ds)) _ _ E (by exact h.gd) ((h.room.mono hk).make C us []) e0
    (b _ (Value.ref (s1.heap.objs.size + 1) :: us) (by rw [← h.kk]; exact I2.kIn) (by have z := r2.length; rw [F.len _ _ _ _ hq] at z; exact z.symm)) r2 hq
  rw [← h.pp, ← h.ww] at rc
  refine wpAny_call (make_map (f := g) I1.kIn (by rw [h.kk]; exact M.makes) (by rw [h.kk]; exact M.init) (by rw [h.kk]; exact beq_iff_eq.mp M.fn) (codeAny_mono rc fun r s' hq' => ?_))
  match r, hq' with
  | .error e, hq' => exact hx pins _ _ e s' I2 hq'
  | .ok (.ret u), hq' =>
    obtain ⟨v, H', I3, rv, ev, q3⟩ := I2.after hq'
    subst ev
    exact ⟨rv, ⟨V.ref (s1.heap.objs.size + 1), H', I3, rfl, q3⟩⟩
/-! ### isinstance -/
theorem g_isi (h : At m N sc k X) {x c : V} {t u : Value} {r : Bool} (hc : ClsV c u) (ht : TyX m.K H x t) (hr : PySem.W.kitOne m.K t u = some r) (q : Q (.bl r) H) : gCall X (.builtin "isinstance") [x, c] H Q :=
  ⟨_, call_isi, x, c, t, u, r, rfl, hc, by rw [h.kk]; exact ht, by rw [h.kk]; exact hr, q⟩
/-- == by an own __eq__ -/
theorem g_eqIns (h : At m N sc k X) (c : MetX m CX j C "__eq__" sp []) (hk : j ≤ k) (hx : Passes CX X E) {i dx : Addr} {fs : List (Str × V)} {y : V} {t : Value} (hi : H i = some (.ins C dx fs)) (ty : TyX m.K H y t) (nf : PySem.W.notFirst m.K C t = true)
    (q : sp [.ref i, y] H (fun z H' => ∃ r, z = .bl r ∧ Q (.bl r) H') E) : gOp X (compareOp .Eq) (.ref i) y H Q := by
  obtain ⟨g, fd, ps, ds, F, cl, me, b, d⟩ := c.ex
  intro pins s σ v u I rx ry
  cases rx
  have ty' : TyX X.K H y t := by rw [h.kk]; exact ty
  obtain ⟨P, Z, p, _⟩ := kit_of I ry ty'
  obtain ⟨mA, J, _⟩ := ins_get I.hok hi
  obtain ⟨od, J, _⟩ := J.look
  obtain ⟨mm, hF⟩ := I.fr
  show wpAny (model X.prog X.w) X.A (richCompare .Eq (.ref i) u) (EP X pins σ Q) X.xe s
  have hu := h.hu
  refine PySem.W.cmp_K (op := .Eq) (tb := t) (by omega) hF I.ok.mod.kin J (Z.ty _ _ I.kIn p) (by rw [h.kk]; exact nf) (by rw [h.kk]; exact me.at_) (by rw [h.kk]; exact me.fn) ?_
  refine wpAny_mono (run_call (Q := fun z H' => ∃ r, z = .bl r ∧ Q (.bl r) H') (us := [.ref i, u]) (vs := [.ref i, y]) h F hk hx I b d (.cons rfl (.cons ry .nil)) (by cases d; simpa using q)) (fun w s' hq => ?_) fun _ _ x => x
  obtain ⟨z, H', I', rz, r, ez, q'⟩ := hq
  subst ez
  cases rz
  exact ⟨.bl r, _, I', rfl, q'⟩
/-! != where the class has an own __eq__ and no __ne__ -/
section
variable {M : Model} {prog : Program} {w : World} {A : Around} {EE : Value → Shared → Prop} {s : Shared} {K : PySem.W.Frag} {i g : Addr} {oi : Obj} {od : Option Obj} {u tb : Value}
theorem bound_ne {args : List Value} {R : Option Value → Shared → Prop} (KI : K.In s.heap) (J : PySem.W.InstAt s.heap i oi C od) (hs : PySem.W.findIn K (.ref C) "__ne__" = some (some (.builtin "object.__ne__")))
    (q : wpAny M A (call (.builtin "object.__ne__") (.ref i :: args)) (fun v => R (some v)) EE s) : wpAny M A (callSpecialIfBound? (.ref i) "__ne__" args) R EE s := by
  have last : wpAny M A (do let v ← call (.builtin "object.__ne__") ([.ref i] ++ args); pure (some v)) R EE s := wpAny_bind (wpAny_mono q (fun v s' z => wpAny_pure z) fun _ _ z => z)
  simp only [callSpecialIfBound?, bindSpecialIfBound?]
  refine wpAny_holding (wpAny_bind (wpAny_bind (wpAny_bind (J.type.here ((PySem.W.looks_findIn KI hs).here (wpAny_bind (wpAny_askSetting (wpAny_ite ?_))))))))
  split
  · exact wpAny_bind (wpAny_of_eq (F.cmp_object.ne.bind _) (wpAny_pure (by exact last)))
  · exact wpAny_tryCatch (wpAny_bind (wpAny_of_eq (F.cmp_object.ne.bind _) (wpAny_pure (by exact last))))
theorem body_ne (KI : K.In s.heap) (J : PySem.W.InstAt s.heap i oi C od) (he : PySem.W.findIn K (.ref C) "__eq__" = some (some (.ref g))) (hf : PySem.W.isFn K (.ref g) = true) (hu : A.units < cLine) {R : Fin → Shared → Prop}
    (q : wpAny M A (call (.ref g) [.ref i, u]) (fun v s' => ∃ b, v = .bool b ∧ R (.done (.ret (.bool (!b)))) s') EE s) : wpAny M A (Builtin.«object.__ne__» ⟨[.ref i, u], []⟩) R EE s := by
  unfold Builtin.«object.__ne__»
  repeat (first
    | with_reducible refine wpAny_cRoomFor hu ?_
    | (refine wpAny_bind (m := callSpecialIfBound? (.ref i) (Str.ofString "__eq__") [u]) (PySem.W.ifBound_K KI J he hf (wpAny_mono q (fun r s' z => by
          obtain ⟨b, rfl, hq⟩ := z
          repeat (first | exact hq | exact wpAny_pure hq | exact wpAny_truthy_bool hq | (refine wpAny_bind (m := truthy (.bool _)) (wpAny_truthy_bool ?_)) | wp_step)) fun _ _ z => z)))
    | wp_step)
end
/-- the callee's run one built-in deeper -/
theorem run_call1 {pins : List (Addr × Obj)} {s : Shared} {g : Addr} {fd : FuncData} {ps : List Str} {us : List Value} {vs : List V} (h : At m N sc k X) (F : FnG m CX j g fd ps sp) (hk : j + 1 ≤ k) (hx : Passes CX X E) (I : Inv X pins σ H s) (b : Binds m.K fd ps []) (r : Vals vs us) (q : sp vs H Q E) :
    wpAny (model X.prog X.w) X.A.in1 (call (.ref g) us) (EP X pins σ Q) X.xe s := by
  have e0 := I.env0.in1
  rw [h.pp, h.ww, h.kk, h.mm, h.bb] at e0
  have hl : us.length = ps.length := by rw [← r.length]; exact F.len _ _ _ _ q
  have rc := F.run X.A.in1 X.stack s H ⟨us, []⟩ us vs Q E (by exact h.gd) ((h.room.mono hk).in1) e0 (by have := b s us (by rw [← h.kk]; exact I.kIn) (by simpa using hl); simpa using this) r q
  rw [← h.pp, ← h.ww] at rc
  refine wpAny_call (codeAny_mono rc fun r s' hq => ?_)
  match r, hq with
  | .error e, hq => exact hx pins σ H s e s' I hq
  | .ok (.ret u), hq => exact I.after hq
/-- != where the class has an own __eq__ and no __ne__ -/
theorem g_neIns (h : At m N sc k X) (c : MetX m CX j C "__eq__" sp []) (hn : PySem.W.findIn m.K (.ref C) "__ne__" = some (some (.builtin "object.__ne__"))) (hm : PySem.W.mroIn m.K C (.type "object") = some true) (hk : j + 1 ≤ k) (hx : Passes CX X E) {i dx : Addr} {fs : List (Str × V)} {y : V} {t : Value} (hi : H i = some (.ins C dx fs)) (ty : TyX m.K H y t) (nf : PySem.W.notFirst m.K C t = true)
    (q : sp [.ref i, y] H (fun z H' => ∃ r, z = .bl r ∧ Q (.bl (!r)) H') E) : gOp X (compareOp .NotEq) (.ref i) y H Q := by
  obtain ⟨g, fd, ps, ds, F, cl, me, b, d⟩ := c.ex
  intro pins s σ v u I rx ry
  cases rx
  cases d
  have ty' : TyX X.K H y t := by rw [h.kk]; exact ty
  obtain ⟨P, Z, p, _⟩ := kit_of I ry ty'
  obtain ⟨mA, J, _⟩ := ins_get I.hok hi
  obtain ⟨od, J, _⟩ := J.look
  have hu := h.hu
  have KI := I.kIn
  have hb := Z.ty (model X.prog X.w) _ I.kIn p
  have run := run_call1 (Q := fun z H' => ∃ r, z = .bl r ∧ Q (.bl (!r)) H') (us := [.ref i, u]) (vs := [.ref i, y]) h F hk hx I b (.cons rfl (.cons ry .nil)) (by simpa using q)
  have one : wpAny (model X.prog X.w) X.A (tryCompare (.ref i) (cmpInfo .NotEq).2.1 u) (fun r s' => ∃ v, r = some v ∧ EP X pins σ Q v s') X.xe s := by
    unfold tryCompare
    refine wpAny_bind (bound_ne KI J (by rw [h.kk]; exact hn) (wpAny_call (codeAny_call_builtin PySem.F.cmp_object.ne.plain PySem.F.cmpEntry_ne (PySem.W.check_slot PySem.F.cmpKind_ne PySem.F.cmpSplit_ne (J.type.andThen (PySem.W.looks_mroIn KI (by rw [h.kk]; exact hm))) (PySem.F.cmpArgs_ne _ _)
      (body_ne (A := X.A.in1) KI J (by rw [h.kk]; exact me.at_) (by rw [h.kk]; exact me.fn) (by show X.A.units + 1 < cLine; omega) (wpAny_mono run (fun v s' hv => ?_) fun _ _ z => z))))))
    obtain ⟨z, H', I', rz, r, ez, q'⟩ := hv
    subst ez
    cases rz
    exact ⟨r, rfl, wpAny_pure ⟨_, rfl, .bl (!r), H', I', rfl, q'⟩⟩
  show wpAny (model X.prog X.w) X.A (richCompare .NotEq (.ref i) u) (EP X pins σ Q) X.xe s
  unfold richCompare
  simp only [oneThing_ref]
  refine wpAny_holding (wpAny_bind (wpAny_cRoomFor (by omega) ?_))
  refine wpAny_bind (J.type.here (wpAny_bind (hb.here ?_)))
  have nf' : PySem.W.notFirst X.K C t = true := by rw [h.kk]; exact nf
  split
  · rename_i w
    have e : PySem.W.subIn X.K t (.ref C) = some false := by
      rcases Bool.or_eq_true_iff.mp nf' with e | e
      · rw [beq_iff_eq.mp e] at w; simp at w
      · exact beq_iff_eq.mp e
    refine wpAny_bind ((PySem.W.looks_subIn KI e).here ?_)
    simp only [Bool.false_eq_true, if_false]
    refine wpAny_bind (wpAny_mono one (fun r s' z => ?_) fun _ _ z => z)
    obtain ⟨v, rfl, hq⟩ := z
    exact wpAny_pure hq
  · refine wpAny_bind (wpAny_pure ?_)
    simp only [Bool.false_eq_true, if_false]
    refine wpAny_bind (wpAny_mono one (fun r s' z => ?_) fun _ _ z => z)
    obtain ⟨v, rfl, hq⟩ := z
    exact wpAny_pure hq
end
end Vf
set_option maxRecDepth 100000
set_option maxHeartbeats 4000000
/-! Exn: defs that raise own errors with a field, and what catches them. Own work. -/
namespace Vf
open PySem PySem.Spec PyProof.Rows L2 LamX
/-- how the frame of a def stands -/
structure Frm (X : Cx) : Prop where
  stk : X.stack = X.env :: X.outer
  frm : X.env.frame = some X.env.locals
section
variable {m : Md} {N ps : List Str} {k : Nat} {x qual : Str} {st : Stmt} {f : Addr} {fd : FuncData} {sp : Sp}
/-- a def that may raise, by its body -/
theorem fnG_ofX (F : C8.Fun m.K x qual st f fd) (S : FnScope N ps (C8.fnScope st)) (len : ∀ vs H Q E, sp vs H Q E → vs.length = ps.length)
    (hb : ∀ (X : Cx) (vs : List V) (H : Hp) (Q : VK) (E : XK), At m N (C8.fnScope st) k X → AtM X qual fd.code → Frm X → L2.Takes X (fun cls d _ H => E cls d H) → sp vs H Q E → wB X (C8.fnBody st) { nx := fun _ H' => Q .non H', rt := Q } (start N vs) H) : FnG m (L2.CX m.P m.w) (k + 1) f fd ps sp := by
  obtain ⟨oc, od, dV, kV, doc, pm, an, cdv, ct, osl, rfl, lk, hc⟩ := F.ex
  refine ⟨len, fun A outer s H args us vs Q E hg hr e0 bt r q => ?_⟩
  refine LamX.run_ofS (CX := L2.CX m.P m.w) (N := N) lk hc S hr e0 bt r (len _ _ _ _ q) fun hr' => ⟨_, cB, ?_⟩
  exact hb (cxOf (L2.CX m.P m.w) m.P m.w m.K m.mg m.base N qual (C8.fnScope st) f cdv A outer s H E) vs H Q E ⟨rfl, rfl, rfl, rfl, rfl, rfl, rfl, rfl, hr', L2.passes_of rfl, S.nd, hg⟩ ⟨rfl, rfl, fun _ => rfl, rfl⟩ ⟨rfl, rfl⟩ (L2.takes_of rfl rfl rfl rfl) q
theorem calX_of (F : C8.Def m.K m.mg x st f fd) (b : Binds m.K fd ps []) (S : FnScope N ps (C8.fnScope st)) (len : ∀ vs H Q E, sp vs H Q E → vs.length = ps.length)
    (hb : ∀ (X : Cx) (vs : List V) (H : Hp) (Q : VK) (E : XK), At m N (C8.fnScope st) k X → AtM X x fd.code → Frm X → L2.Takes X (fun cls d _ H => E cls d H) → sp vs H Q E → wB X (C8.fnBody st) { nx := fun _ H' => Q .non H', rt := Q } (start N vs) H) : CalX m (L2.CX m.P m.w) (k + 1) x sp [] :=
  ⟨f, fd, ps, [], fnG_ofX F.fn S len hb, F.mgf, F.kp, b, .nil⟩
end
/-- an own error class x at C whose __init__ stores its one argument in the field fn -/
structure ErrC (m : Md) (x : Str) (C : Addr) (fn : Str) : Prop where
  oex : OexC m.K C
  xf : XfC m.K C
  no : PySem.W.findIn m.K (.ref C) fn = some none
  gC : m.mg x = some (.ref C)
  self : PySem.W.exmOne m.K (.ref C) (.ref C) = some true
  init : ∃ (fI : Addr) (fd : FuncData) (ps : List Str), PySem.W.findIn m.K (.ref C) "__init__" = some (some (.ref fI)) ∧ PySem.W.typeIn m.K (.ref fI) = some (.type "function") ∧ Binds m.K fd ps [] ∧
    FnOk m.P m.w m.K m.mg m.base C8.CX0 1 fI fd ps (fun vs H Q _ => ∃ (a : Addr) (v : V), vs = [.ref a, v] ∧ H a = some (exo a C none) ∧ ∀ dx, H dx = none → dx ≠ a → Q .non (upd (upd H dx (exd dx [(fn, v)])) a (exo a C (some dx))))
section
variable {m : Md} {N : List Str} {sc : Scope} {i k : Nat} {X : Cx} {a b c e o : Expr} {es : List Expr} {σ : L2.St} {H : Hp} {Q : VK} {D : Ends} {W Wout : WX} {pos p p1 p2 pos2 np pos' : Pos} {x nm fn : Str} {C : Addr}
/-- raise x(e) -/
theorem s_raise (h : At m N sc k X) (tk : L2.Takes X W) (c : ErrC m x C fn) (hk : 2 ≤ k) (hg : sc.names.lookup x = some .globalImplicit)
    (q : wE X e σ H fun v H1 => ∀ d, H1 d = none → W (.ref C) (some d) σ (upd H1 d (.xd [(fn, v)])))
    (hdb : (x == ("__debug__" : Str)) = false := by with_unfolding_all decide) (he : starEach [e] X.env = (false, eval e X.env) :: starEach [] X.env := by with_unfolding_all rfl) (hpl : (backTo pos (starEach [] X.env)).any (·.1) = false := by with_unfolding_all rfl) : wS X (.Raise (some (.Call (.Name x p) [e] [] pos)) none pos2) D σ H := by
  obtain ⟨fI, fd, ps, iC, tI, b, F⟩ := c.init
  have F' := F
  rw [← h.pp, ← h.ww, ← h.kk, ← h.mm, ← h.bb] at F'
  refine toS (L2.ps_raise h.calm tk (pmk_oex (dvs := []) (ds := []) (by rw [h.kk]; exact c.oex) (by rw [h.kk]; exact iC) (by rw [h.kk]; exact tI) F' (h.room.mono hk) (by rw [h.kk]; exact b) .nil C8.pass0 (h.gl hg) (by rw [h.mm]; exact c.gC) (pa_cons (cE (e := e)) pa_nil he) hdb he hpl)) ?_
  show tCons (wE X e) tNil σ H _
  refine wE.mono q fun v H1 q1 => ?_
  refine ⟨(show 1 ≤ 1000 by decide), fun a ha => ⟨a, v, rfl, upd_same, fun dx hdx hne => ⟨rfl, dx, [(fn, v)], upd_same, by rw [upd_ne hne, upd_same], by rw [upd_ne hne] at hdx; exact hdx, ?_⟩⟩⟩
  have hdx1 : H1 dx = none := by rw [upd_ne hne] at hdx; exact hdx
  have e1 : upd (del (upd (upd (upd H1 a (exo a C none)) dx (exd dx [(fn, v)])) a (exo a C (some dx))) a) dx (.xd [(fn, v)]) = upd H1 dx (.xd [(fn, v)]) := by
    funext z
    by_cases z1 : z = dx
    · rw [z1, upd_same, upd_same]
    · rw [upd_ne z1, upd_ne z1]
      by_cases z2 : z = a
      · rw [z2, del_same, ha]
      · rw [del_ne z2, upd_ne z2, upd_ne z1, upd_ne z2]
  rw [e1]
  exact q1 dx hdx1
theorem At.tr (h : At m N sc k X) {pn : List (Addr × Obj)} {xe : Value → Shared → Prop} (hp : PassesOwn (model X.prog X.w) X.A X.env xe) : At m N sc k (X.tr pn xe) := ⟨h.pp, h.ww, h.kk, h.mm, h.bb, h.nn, h.ss, h.calm, h.room, hp, h.nd, h.gd⟩
theorem Frm.tr (h : Frm X) {pn : List (Addr × Obj)} {xe : Value → Shared → Prop} : Frm (X.tr pn xe) := ⟨h.stk, h.frm⟩
/-- the place of an except suite: a the exception, cls its class, d its dict -/
structure Sui (m : Md) (N : List Str) (sc : Scope) (a : Addr) (cls : Value) (d : Option Addr) (X : Cx) : Prop where
  ex : ∃ (X0 : Cx) (oe : Obj) (pn : List (Addr × Obj)), X = X0.suite a ((a, oe) :: pn) ∧ Zc cls d oe ∧ (∃ vs, oe.data = .fields vs)
  kk : X.K = m.K
  nn : X.N = N
  ss : X.env.scope = sc
  nd : N.Nodup
/-- try: .. except x as nm: .. -/
theorem s_tryAs {body suite : List Stmt} {b0 : Stmt} (h : At m N sc k X) (fr : Frm X) (n : NL N sc i nm) (hx : sc.names.lookup x = some .globalImplicit) (hC : m.mg x = some (.ref C)) (tk : L2.Takes X Wout)
    (q : ∀ X', At m N sc k X' → Frm X' → L2.Takes X' (fun cls d σ H => ∃ r, PySem.W.exmOne m.K cls (.ref C) = some r ∧
        (r = true → ∀ a, H a = none → ∀ X2, Sui m N sc a cls d X2 → wB X2 (b0 :: suite) { nx := fun σ' H' => D.nx (σ'.set i none) H', rt := D.rt, bk := fun σ' H' => D.bk (σ'.set i none) H', ct := fun σ' H' => D.ct (σ'.set i none) H' } (σ.set i (some (.ref a))) H) ∧ (r = false → Wout cls d σ H)) → wB X' body D σ H)
    (hdb : (x == ("__debug__" : Str)) = false := by with_unfolding_all decide) : wS X (.Try body [.ExceptHandler (some (.Name x np)) (some nm) (b0 :: suite) pos'] [] [] pos) D σ H := by
  refine toS (L2.ps_try_as (c := .ref C) (i := i) (Wout := Wout) (tb := fun W D σ H => ∀ X', At m N sc k X' → Frm X' → L2.Takes X' W → wB X' body D σ H) (ts := fun a cls d D σ H => ∀ X2, Sui m N sc a cls d X2 → wB X2 (b0 :: suite) D σ H)
    fr.stk fr.frm (by rw [h.nn]; exact h.nd) (by rw [h.nn]; exact n.ix) (by show X.env.scope.names.lookup nm = _; rw [h.ss]; exact n.loc) ⟨h.gl hx, hdb, .inl (by rw [h.mm]; exact hC)⟩ tk
    (fun W pn xe tk' ps => ⟨fun pins s σ H D I z => (cB (X := X.tr pn xe) (sts := body)).run pins s σ H D I (z _ (h.tr ps) fr.tr tk')⟩) (fun a oe cls d pn hz hf => ⟨fun pins s σ H D I z => (cB (X := X.suite a ((a, oe) :: pn)) (sts := b0 :: suite)).run pins s σ H D I (z _ ⟨⟨X, oe, pn, rfl, hz, hf⟩, h.kk, h.nn, h.ss, h.nd⟩)⟩)) ?_
  intro X' hX' fr' tk'
  refine q X' hX' fr' (L2.Takes.imp tk' fun cls d σ H z => ?_)
  unfold wAs
  rw [h.kk]
  exact z
/-! in a suite -/
theorem w_nlS {cls : Value} {d : Option Addr} {z : Addr} {v : V} (h : Sui m N sc z cls d X) (n : NL N sc i nm) (hs : σ[i]? = some (some v)) (q : Q v H) (hd : (nm == ("__debug__" : Str)) = false := by with_unfolding_all decide) (hcd : (nm == ("__classdict__" : Str)) = false := by with_unfolding_all decide) : wE X (.Name nm pos) σ H Q :=
  toE (pe_var (by rw [h.nn]; exact n.ix) (by rw [h.ss]; exact .inl n.loc) hd hcd) ⟨v, hs, q⟩
theorem s_nlS {cls : Value} {d : Option Addr} {z : Addr} (h : Sui m N sc z cls d X) (n : NL N sc i nm) (q : wE X e σ H fun v H1 => D.nx (σ.set i (some v)) H1) (hs : swapsWith e (some (.Name nm p1)) pos.line X.env = pure false := by with_unfolding_all rfl) : wS X (.Assign [.Name nm p1] e pos) D σ H :=
  toS (ps_set (by rw [h.nn]; exact h.nd) (by rw [h.nn]; exact n.ix) (by rw [h.ss]; exact .inl n.loc) cE hs (.inr (by rw [h.ss]; exact n.loc))) q
/-- e.fn of the caught error -/
theorem w_errS {cls : Value} {d : Option Addr} {z : Addr} (h : Sui m N sc z cls d X) (c : ErrC m x C fn) (hcls : cls = .ref C) (q : wE X e σ H fun y H1 => y = .ref z ∧ ∃ (dd : Addr) (v : V), d = some dd ∧ H1 dd = some (.xd [(fn, v)]) ∧ Q v H1)
    (hb : attributeBase e fn X.env (eval e X.env) = eval e X.env := by with_unfolding_all rfl) : wE X (.Attribute e fn pos) σ H Q := by
  obtain ⟨X0, oe, pn, rfl, hz, hf⟩ := h.ex
  have kk : X0.K = m.K := h.kk
  refine toE (pe_xf (C := C) (by rw [kk]; exact c.xf) (by rw [kk]; exact c.no) hz hf cE hb) ?_
  refine wE.mono q fun y H1 ⟨ey, dd, v, ed, hd, q1⟩ => ?_
  exact ⟨ey, hcls, dd, [(fn, v)], v, ed, hd, by simp [List.lookup], q1⟩
end
end Vf
set_option maxRecDepth 100000
set_option maxHeartbeats 4000000
/-! Fin: the end of a row, where nothing is being shown. Own work. -/
namespace Vf
open PySem PySem.Spec PyProof.Rows L2 LamX
/-- the script's own object -/
def scrO (vs : List Value) : Obj := { cls := .type "list", data := .seq vs.toArray }
/-- an empty table of a code object -/
def tabO : Obj := { cls := .none, data := .fields #[] }
/-- what is tracked where the law is called: the tables of ts, and the script, if it stands in no written part -/
def hp0 (K : PySem.W.Frag) (ts : List Addr) (a : Addr) (vs : List Value) (ns : List Int) : Hp := fun b => if b ∈ ts then some (.tbl #[]) else if b = a ∧ K.lookup a = none then some (.frz (scrO vs) (.lst (ns.map V.int))) else none
section
variable {K : PySem.W.Frag} {ts : List Addr} {a b : Addr} {vs : List Value} {ns : List Int} {h : Heap}
theorem hp0_tab (z : b ∈ ts) : hp0 K ts a vs ns b = some (.tbl #[]) := if_pos z
theorem hp0_some {u : HO} (z : hp0 K ts a vs ns b = some u) : b ∈ ts ∧ u = .tbl #[] ∨ b ∉ ts ∧ b = a ∧ K.lookup a = none ∧ u = .frz (scrO vs) (.lst (ns.map V.int)) := by
  unfold hp0 at z
  split at z
  · rename_i c; exact .inl ⟨c, (Option.some.inj z).symm⟩
  · rename_i c
    split at z
    · rename_i e; exact .inr ⟨c, e.1, e.2, (Option.some.inj z).symm⟩
    · cases z
/-- a heap with the script at a and the tables ts -/
structure Scr (h : Heap) (ts : List Addr) (a : Addr) (vs : List Value) : Prop where
  scr : h.get? a = some (scrO vs)
  tab : ∀ b ∈ ts, h.get? b = some tabO
theorem Scr.at_ (S : Scr h ts a vs) {u : HO} (z : hp0 K ts a vs ns b = some u) : h.get? b = some tabO ∨ h.get? b = some (scrO vs) ∧ K.lookup b = none := by
  rcases hp0_some z with ⟨m, _⟩ | ⟨_, e, k, _⟩
  · exact .inl (S.tab b m)
  · subst e; exact .inr ⟨S.scr, k⟩
/-- what is neither a sequence nor an object of fields without any is not tracked -/
theorem Scr.free (S : Scr h ts a vs) {o : Obj} (e : h.get? b = some o) (n1 : ∀ xs k, o.data ≠ .seq xs k) (n2 : o.data ≠ .fields #[]) : hp0 K ts a vs ns b = none := by
  cases z : hp0 K ts a vs ns b with
  | none => rfl
  | some u =>
    rcases S.at_ z with g | ⟨g, _⟩
    · rw [g] at e; cases e; exact absurd rfl n2
    · rw [g] at e; cases e; exact absurd rfl (n1 _ _)
theorem Scr.ok {P : Program} {w : World} (S : Scr h ts a vs) (hi : IntsAre vs ns) (hl : ns.length ≤ sizeLine) : HOk P w (hp0 K ts a vs ns) h := fun b u z => by
  rcases hp0_some z with ⟨m, rfl⟩ | ⟨_, rfl, _, rfl⟩
  · exact S.tab b m
  · exact ⟨S.scr, by rw [List.length_map]; exact hl, vs, _, vals_ints hi, S.scr⟩
theorem Scr.seq (S : Scr h ts a vs) (hi : IntsAre vs ns) (hl : ns.length ≤ sizeLine) (KX : K.In h) : SqL K (hp0 K ts a vs ns) a (ns.map V.int) := by
  have na : a ∉ ts := fun z => by
    have := S.tab a z
    rw [S.scr] at this
    have q := congrArg Obj.data (Option.some.inj this)
    cases q
  cases k : K.lookup a with
  | none => exact .inl (.inr ⟨_, by unfold hp0; rw [if_neg na, if_pos ⟨rfl, k⟩]⟩)
  | some o =>
    have e := KX a o k
    rw [S.scr] at e
    cases e
    exact .inr ⟨_, vs.toArray, _, k, rfl, rfl, rfl, by rw [List.size_toArray, hi.length]; exact hl, by simpa using vals_ints hi⟩
end
section
variable {m : Md} {mb : Str → Option Value} {CX : CXT} {k : Nat} {fa a : Addr} {cs : List (Addr × Addr)} {fd : FuncData} {x : Str} {sp : Sp} {vs : List Value} {ns : List Int}
/-- the written part and the globals as the law's call finds them -/
structure Gnd (K : PySem.W.Frag) (mg mb : Str → Option Value) (cs : List (Addr × Addr)) (h : Heap) : Prop where
  kin : K.In h
  glb : h.Ns mainGlobals mg
  blt : h.Ns builtinsNs mb
  bot : ∀ y : Str, y ≠ "__name__" → mb y = bootBuiltins y
  lim : h.NoLimit
  off : ∀ p ∈ cs, K.lookup p.2 = none
  cod : ∀ p ∈ cs, PySem.W.CodeHd h p.1 p.2
  mod : ∃ (bm : Addr) (ob : Obj), mg "__builtins__" = some (.ref bm) ∧ bm ≠ builtinsNs ∧ h.get? bm = some ob ∧ ob.cls = .type "module" ∧ ob.dict = some builtinsNs ∧ ob.data = .plain
/-- the tables' addresses -/
abbrev tbs (cs : List (Addr × Addr)) : List Addr := cs.map (·.2)
theorem mem_tbs {p : Addr × Addr} (h : p ∈ cs) : p.2 ∈ tbs cs := List.mem_map.2 ⟨p, h, rfl⟩
/-- the base: the heap without what is tracked -/
abbrev bas (K : PySem.W.Frag) (cs : List (Addr × Addr)) (a : Addr) (vs : List Value) (ns : List Int) (h : Heap) : Heap := hidT h (hp0 K (tbs cs) a vs ns)
theorem Gnd.nsB {K : PySem.W.Frag} {h : Heap} (S : Scr h (tbs cs) a vs) {b : Addr} {f : Str → Option Value} (z : h.Ns b f) : (bas K cs a vs ns h).Ns b f := by
  obtain ⟨o, es, ep, e, d, r⟩ := z
  exact ⟨o, es, ep, hidT_get e (S.free e (fun xs j w => by rw [d] at w; cases w) fun w => by rw [d] at w; cases w), d, r⟩
theorem Gnd.kinB {K : PySem.W.Frag} {mg : Str → Option Value} {h : Heap} (G : Gnd K mg mb cs h) (S : Scr h (tbs cs) a vs) : K.In (bas K cs a vs ns h) := fun b o e => by
  refine hidT_get (G.kin b o e) ?_
  cases z : hp0 K (tbs cs) a vs ns b with
  | none => rfl
  | some u =>
    rcases hp0_some z with ⟨w, _⟩ | ⟨_, w, n, _⟩
    · obtain ⟨p, hp, w⟩ := List.mem_map.1 w
      have n := G.off p hp
      rw [w, e] at n; cases n
    · rw [w, n] at e; cases e
theorem Gnd.tabB {K : PySem.W.Frag} {mg : Str → Option Value} {h : Heap} (G : Gnd K mg mb cs h) (S : Scr h (tbs cs) a vs) : ∀ p ∈ cs, TabB (bas K cs a vs ns h) mg p.1 p.2 := fun p hp => by
  have hT := S.tab _ (mem_tbs hp)
  have nG : ∀ b, mainGlobals = b → h.get? b ≠ some tabO := fun b z w => by
    obtain ⟨o, es, ep, e, hd, _⟩ := G.glb
    rw [z, w] at e
    cases e
    cases hd
  refine ⟨?_, ?_, fun z => nG _ z hT⟩
  · obtain ⟨o, us, fl, tf, fg, tg, inF, tx, tt, at1, kind, dat, el, more⟩ := G.cod p hp
    refine ⟨o, us, fl, tf, fg, tg, inF, tx, tt, hidT_get at1 (S.free at1 (fun xs j w => by rw [dat] at w; cases w) fun w => ?_), kind, dat, el, more⟩
    rw [dat] at w
    cases w
    simp at el
  · obtain ⟨bm, ob, b1, b2, b3, b4, b5, b6⟩ := G.mod
    refine ⟨bm, ob, b1, b2, fun q => ?_, fun q => ?_, hidT_get b3 (S.free b3 (fun xs j w => by rw [b6] at w; cases w) fun w => by rw [b6] at w; cases w), b4, b5, b6⟩
    · obtain ⟨o, es, ep, e, hd, _⟩ := G.glb
      rw [← q, b3] at e
      cases e
      rw [b6] at hd; cases hd
    · rw [q, hT] at b3
      cases b3
      cases b6
/-- the call of the law -/
theorem law_run {h : Heap} {s : Shared} (es : s.heap = h) (G : Gnd m.K m.mg mb cs h) (S : Scr h (tbs cs) a vs) (hg : s.gens = #[]) (hi : IntsAre vs ns) (hl : ns.length ≤ sizeLine) (hr : Room k callerA)
    (F : (bas m.K cs a vs ns h).Ns mainGlobals m.mg → m.K.In (bas m.K cs a vs ns h) → (∀ p ∈ cs, TabB (bas m.K cs a vs ns h) m.mg p.1 p.2) → FnG { m with base := bas m.K cs a vs ns h } CX k fa fd [x] sp) (hb : ∀ (s : Shared) (u : Value), BindsTo s fd ⟨[u], []⟩ [(x, u)])
    (q : ∀ H : Hp, (∀ p ∈ cs, H p.2 = some (.tbl #[])) → SqL m.K H a (ns.map V.int) → sp [.ref a] H (fun v _ => v = .bl true) fun _ _ _ => False) (hCX : ∀ H e s', CX [] H s (fun _ _ _ => False) e s' → False) :
    codeAny (model m.P m.w) callerA (.call (.ref fa) ⟨[.ref a], []⟩) (fun r s' => r = .ok (.ret (.bool true)) ∧ OldK s.heap s'.heap ∧ s'.os = s.os ∧ AllBare s'.gens) s := by
  subst es
  have M : L2.Mod m.K m.mg (bas m.K cs a vs ns s.heap) := ⟨G.kinB S, Gnd.nsB S G.glb, ⟨mb, Gnd.nsB S G.blt, G.bot⟩, by obtain ⟨c, h1, h2⟩ := G.lim; exact ⟨c, Gnd.nsB S h1, h2⟩⟩
  have ok := S.ok (P := m.P) (w := m.w) (K := m.K) hi hl
  have e0 : Env0 m.P m.w m.K m.mg (bas m.K cs a vs ns s.heap) callerA [] s (hp0 m.K (tbs cs) a vs ns) :=
    ⟨rfl, M, fun b o e => of_hidT e, Nat.le_of_eq (hidT_size _ _), trivial, fun b hb => absurd (show b ∈ ([] : List Addr) from hb) (by simp), ok, .of_eq hg⟩
  have run := (F (Gnd.nsB S G.glb) (G.kinB S) (G.tabB S)).run callerA [] s (hp0 m.K (tbs cs) a vs ns) ⟨[.ref a], []⟩ [.ref a] [.ref a] _ _ rfl hr e0 (hb s (.ref a)) (.cons rfl .nil) (q _ (fun p hp => hp0_tab (mem_tbs hp)) (S.seq hi hl G.kin))
  refine codeAny_mono run fun r s' z => ?_
  match r, z with
  | .error e, z => exact (hCX _ e s' z).elim
  | .ok (.ret u), z =>
    obtain ⟨v, H', os, bare, un, ok', rv, ev⟩ := z
    subst ev
    obtain rfl : u = Value.bool true := rv
    have grown : ∀ p ∈ cs, ∃ more : Array Value, s'.heap.get? p.2 = some { cls := .none, data := .fields more } := fun p hp => by
      obtain ⟨more, w⟩ := un.tbls p.2 #[] (hp0_tab (mem_tbs hp))
      exact ⟨_, ok' p.2 _ w⟩
    have stays : ∀ b o, b ∉ tbs cs → s.heap.get? b = some o → s'.heap.get? b = some o := fun b o nb e => by
      cases w : hp0 m.K (tbs cs) a vs ns b with
      | none => exact un.keep b o e w (fun y => absurd (show b ∈ ([] : List Addr) from y) (by simp)) (by simp)
      | some u =>
        rcases hp0_some w with ⟨y, _⟩ | ⟨_, rfl, _, rfl⟩
        · exact absurd y nb
        · have y := un.frzs b _ _ w
          obtain ⟨y2, _⟩ := ok' b _ y
          rw [S.scr] at e
          cases e
          exact y2
    refine ⟨rfl, ⟨fun b o e => ?_, fun b o e => ?_⟩, os, bare⟩
    · by_cases y : b ∈ tbs cs
      · obtain ⟨p, hp, rfl⟩ := List.mem_map.1 y
        obtain ⟨more, hm⟩ := grown p hp
        have t := S.tab _ y
        rw [t] at e
        cases e
        exact .inr (.inl ⟨((G.cod p hp).tab t).isCodeTable, rfl, #[], more, rfl, by rw [Array.empty_append]; exact hm⟩)
      · exact .inl (stays b o y e)
    · by_cases y : b ∈ tbs cs
      · obtain ⟨p, hp, rfl⟩ := List.mem_map.1 y
        obtain ⟨more, hm⟩ := grown p hp
        exact ⟨_, hm⟩
      · exact ⟨o, stays b o y e⟩
end
/-- what is to be shown of the law at the head's heap h -/
structure LawG (P : Program) (w : World) (K : PySem.W.Frag) (CX : CXT) (k n : Nat) (x : Str) (mg : Str → Option Value) (fa : Addr) (h : Heap) (fd : FuncData) (cs : List (Addr × Addr)) (T : List (Addr × Str)) (sp : Sp) : Prop where
  tab : ∀ p ∈ cs, h.get? p.2 = some tabO
  off : ∀ p ∈ cs, K.lookup p.2 = none
  cod : ∀ p ∈ cs, PySem.W.CodeHd h p.1 p.2
  bnd : ∀ (s : Shared) (u : Value), BindsTo s fd ⟨[u], []⟩ [(x, u)]
  pre : ∀ (H : Hp) (a : Addr) (ns : List Int), ns.length ≤ n → (∀ z ∈ ns, Builtin.Int.intBits z ≤ 1048576) → (∀ p ∈ cs, H p.2 = some (.tbl #[])) → SqL K H a (ns.map V.int) → sp [.ref a] H (fun v _ => v = .bl true) fun _ _ _ => False
  run : ∀ base : Heap, base.Ns mainGlobals mg → K.In base → (∀ p ∈ cs, TabB base mg p.1 p.2) → FnG ⟨P, w, K, mg, base, T⟩ CX k fa fd [x] sp
theorem walkG {l : PySem.W.OpenLaw} {n k : Nat} {q : Program} {loose : List Str} {XP : (Str → Option Value) → Heap → Prop} {YP : World → Heap → Prop} {d : DefRec} {K : Params → PySem.W.Frag} {CX : World → CXT} {x : Str}
    (hn : l.most = some n) (hn2 : n ≤ sizeLine) (hdf : d.params.defaults = []) (hr : Room k callerA) (hY : ∀ (w : World) (h : Heap), YP w h → (K w.params).In h)
    (F : ∀ (w : World) (mg : Str → Option Value) (fa : Addr) (h : Heap), YP w h → (K w.params).In h → h.Ns mainGlobals mg → mg d.name = some (.ref fa) → ∃ fd cs T sp, LawG l.prog w (K w.params) (CX w) k n x mg fa h fd cs T sp)
    (hCX : ∀ (w : World) (H : Hp) (s : Shared) (e : Value) (s' : Shared), CX w [] H s (fun _ _ _ => False) e s' → False) :
    PySem.W.WalkO q loose XP YP l.row.toRowW d [] (fun f vs => PySem.call f vs) := by
  refine Att.attach_callB hn hdf fun w s0 s1 mg mb fa o pm cd doc a vs ns G Y _ _ _ hmg hobj hints hlen hbits hg => ?_
  have KX := hY w _ Y
  obtain ⟨fd, cs, T, sp, L⟩ := F w mg fa _ Y KX G.T.g hmg
  exact law_run (m := ⟨l.prog, w, K w.params, mg, s1.heap, T⟩) (h := s1.heap) rfl ⟨KX, G.T.g, G.T.b, G.T.builtins, G.T.nolimit, L.off, L.cod, G.T.bmain⟩ ⟨hobj, fun b hb => by
    obtain ⟨p, hp, e⟩ := List.mem_map.1 hb
    rw [← e]; exact L.tab p hp⟩ hg hints (Nat.le_trans hlen hn2) hr (fun h1 h2 h3 => L.run _ h1 h2 h3) L.bnd (fun H h1 h2 => L.pre H a ns hlen hbits h1 h2) fun H e s' z => hCX w H s1 e s' z
end Vf
set_option maxRecDepth 100000
set_option maxHeartbeats 4000000
/-! Ob: any object that is handed: data with dicts in it, of which only is known that they are dicts. Own work. -/
namespace Vf
open PySem PySem.Spec PyProof.Rows L2 LamX
mutual
inductive Ob (K : PySem.W.Frag) (A : Addr → Prop) (H : Hp) : V → PyData → Prop
  | non : Ob K A H .non .none
  | bl (b : Bool) : Ob K A H (.bl b) (.bool b)
  | int (i : Int) : Ob K A H (.int i) (.int i)
  | str (x : Str) : x.length ≤ sizeLine → Ob K A H (.str x) (.str x)
  | lst {a : Addr} {xs : List V} {ds : List PyData} : A a → SqL K H a xs → ObAll K A H xs ds → xs.length < 1000000 → Ob K A H (.ref a) (.list ds)
  | tup {a : Addr} {xs : List V} {ds : List PyData} : SqT K H a xs → ObAll K A H xs ds → Ob K A H (.ref a) (.tuple ds)
  | dct {a : Addr} {kvs : List (Key × V)} : A a → H a = some (.dK kvs) → Ob K A H (.ref a) (.dict [])
inductive ObAll (K : PySem.W.Frag) (A : Addr → Prop) (H : Hp) : List V → List PyData → Prop
  | nil : ObAll K A H [] []
  | cons {v : V} {vs : List V} {d : PyData} {ds : List PyData} : Ob K A H v d → ObAll K A H vs ds → ObAll K A H (v :: vs) (d :: ds)
end
section
variable {K : PySem.W.Frag} {A A' : Addr → Prop} {H H' : Hp}
theorem ObAll.length : ∀ {vs : List V} {ds : List PyData}, ObAll K A H vs ds → vs.length = ds.length
  | _, _, .nil => rfl
  | _, _, .cons _ r => congrArg (· + 1) (ObAll.length r)
theorem ObAll.getV : ∀ {vs : List V} {ds : List PyData} {i : Nat} {v : V}, ObAll K A H vs ds → vs[i]? = some v → ∃ d, ds[i]? = some d ∧ Ob K A H v d
  | _, _, i, _, .nil, e => by simp at e
  | _, _, 0, _, .cons a _, e => by simp at e; subst e; exact ⟨_, rfl, a⟩
  | _, _, i + 1, d, .cons _ r, e => by
    obtain ⟨v, h1, h2⟩ := ObAll.getV (i := i) r (by simpa using e)
    exact ⟨v, by simpa using h1, h2⟩
mutual
theorem Ob.mono (hA : ∀ a, A a → A' a) (hL : ∀ a xs, A a → SqL K H a xs → SqL K H' a xs) (hT : ∀ a xs, SqT K H a xs → SqT K H' a xs) (hD : ∀ a (kvs : List (Key × V)), A a → H a = some (.dK kvs) → H' a = some (.dK kvs)) : ∀ (d : PyData) (v : V), Ob K A H v d → Ob K A' H' v d
  | .none, _, h => by cases h; exact .non
  | .bool b, _, h => by cases h; exact .bl b
  | .int i, _, h => by cases h; exact .int i
  | .str x, _, h => by cases h with | str _ l => exact .str x l
  | .list ds, _, h => by cases h with | lst a s r l => exact .lst (hA _ a) (hL _ _ a s) (ObAll.mono hA hL hT hD ds _ r) l
  | .tuple ds, _, h => by cases h with | tup s r => exact .tup (hT _ _ s) (ObAll.mono hA hL hT hD ds _ r)
  | .dict _, _, h => by cases h with | dct a e => exact .dct (hA _ a) (hD _ _ a e)
theorem ObAll.mono (hA : ∀ a, A a → A' a) (hL : ∀ a xs, A a → SqL K H a xs → SqL K H' a xs) (hT : ∀ a xs, SqT K H a xs → SqT K H' a xs) (hD : ∀ a (kvs : List (Key × V)), A a → H a = some (.dK kvs) → H' a = some (.dK kvs)) : ∀ (ds : List PyData) (vs : List V), ObAll K A H vs ds → ObAll K A' H' vs ds
  | [], _, h => by cases h; exact .nil
  | d :: ds, _, h => by cases h with | cons a b => exact .cons (Ob.mono hA hL hT hD d _ a) (ObAll.mono hA hL hT hD ds _ b)
end
mutual
/-- texts of a size that len asks -/
def txOk : PyData → Prop
  | .str x => x.length ≤ sizeLine
  | .list ds => ds.length < 1000000 ∧ txOks ds
  | .tuple ds => txOks ds
  | .none | .bool _ | .int _ | .dict _ => True
def txOks : List PyData → Prop
  | [] => True
  | d :: ds => txOk d ∧ txOks ds
end
mutual
theorem Da.ob : ∀ (d : PyData) (v : V), Da K A H v d → txOk d → Ob K A H v d
  | .none, _, h, _ => by cases h; exact .non
  | .bool b, _, h, _ => by cases h; exact .bl b
  | .int i, _, h, _ => by cases h; exact .int i
  | .str x, _, h, t => by cases h; exact .str x t
  | .list ds, _, h, t => by cases h with | lst a s r => exact .lst a s (DaAll.ob ds _ r t.2) (by rw [r.length]; exact t.1)
  | .tuple ds, _, h, t => by cases h with | tup s r => exact .tup s (DaAll.ob ds _ r t)
  | .dict _, _, h, _ => by cases h
theorem DaAll.ob : ∀ (ds : List PyData) (vs : List V), DaAll K A H vs ds → txOks ds → ObAll K A H vs ds
  | [], _, h, _ => by cases h; exact .nil
  | d :: ds, _, h, t => by cases h with | cons a b => exact .cons (Da.ob d _ a t.1) (DaAll.ob ds _ b t.2)
end
/-- the type of data -/
def tyD : PyData → String
  | .none => "NoneType"
  | .bool _ => "bool"
  | .int _ => "int"
  | .str _ => "str"
  | .list _ => "list"
  | .tuple _ => "tuple"
  | .dict _ => "dict"
theorem tyx_lst {a : Addr} {xs : List V} (h : SqL K H a xs) : TyX K H (.ref a) (.type "list") := by
  rcases h with (h | ⟨o, h⟩) | ⟨o, its, n, e, c, _⟩
  · exact .base (.lst h)
  · exact .base (.frz h)
  · exact .kList e c
theorem tyx_tup {a : Addr} {xs : List V} (h : SqT K H a xs) : TyX K H (.ref a) (.type "tuple") := by
  rcases h with (h | ⟨o, h⟩) | ⟨o, its, n, e, c, _⟩
  · exact .base (.tup h)
  · exact .fTuple h
  · exact .kTuple e c
theorem Ob.ty {v : V} {d : PyData} (h : Ob K A H v d) : TyX K H v (.type (tyD d)) := by
  cases h with
  | non => exact .base .non
  | bl b => exact .base (.bl b)
  | int i => exact .base (.int i)
  | str x _ => exact .base (.str x)
  | lst _ s _ _ => exact tyx_lst s
  | tup s _ => exact tyx_tup s
  | dct _ e => exact .base (.dK e)
end
/-! ### what is a term -/
/-- the text z -/
def isS (z : Str) : PyData → Bool
  | .str y => y == z
  | _ => false
def isWh : PyData → Bool
  | .int _ => true
  | _ => false
def nmB (z : Str) : Bool := decide (1 ≤ z.length) && decide (z.length ≤ 8) && z.cps.toList.all fun c => decide (97 ≤ c) && decide (c ≤ 122)
theorem nmB_iff {z : Str} : nmB z = true ↔ IsName z := by
  unfold nmB IsName
  rw [Bool.and_eq_true, Bool.and_eq_true, decide_eq_true_eq, decide_eq_true_eq, List.all_eq_true, and_assoc]
  simp only [Bool.and_eq_true, decide_eq_true_eq]
def isNm : PyData → Bool
  | .str z => nmB z
  | _ => false
def rkOk : PyData → PyData → Bool
  | .int r, .list ds => decide (1 ≤ r) && decide (r ≤ ds.length)
  | _, _ => false
mutual
def isTm : PyData → Bool
  | .tuple ds => isTm3 ds
  | _ => false
def isTm3 : List PyData → Bool
  | [d, x] => (isS "first" d || isS "last" d) && isTl x
  | [d, x, y] => ((isS "of" d || isS "now" d) && isNm x && isWh y) || (isS "rank" d && isTl y && rkOk x y)
  | _ => false
def isTl : PyData → Bool
  | .list ds => !ds.isEmpty && isTms ds
  | _ => false
def isTms : List PyData → Bool
  | [] => true
  | d :: ds => isTm d && isTms ds
end
/-! isinstance of any object -/
def isIn (T : String) (d : PyData) : Bool := decide (tyD d = T) || (T == "int" && decide (tyD d = "bool"))
theorem kit_all (T : String) (hT : T ∈ ["int", "bool", "str", "tuple", "list", "dict"]) : ∀ d : PyData, kitB (tyD d) T = some (isIn T d) := by
  have all : ∀ t ∈ ["NoneType", "bool", "int", "str", "list", "tuple", "dict"], ∀ T ∈ ["int", "bool", "str", "tuple", "list", "dict"], kitB t T = some (decide (t = T) || (T == "int" && decide (t = "bool"))) := by decide +kernel
  intro d
  exact all (tyD d) (by cases d <;> simp [tyD]) T hT
theorem isWh_eq (d : PyData) : isWh d = (isIn "int" d && !isIn "bool" d) := by cases d <;> simp [isWh, isIn, tyD]
end Vf
set_option maxRecDepth 100000
set_option maxHeartbeats 4000000
/-! Ex: names of types, constants of modules, chains, comprehensions over texts. Own work. -/
namespace Vf
open PySem PySem.Spec PyProof.Rows L2 LamX
section
variable {m : Md} {N : List Str} {sc scope : Scope} {i j k : Nat} {X : Cx} {a b c e o elt iter : Expr} {es : List Expr} {σ : L2.St} {H : Hp} {Q : VK} {QB : Bool → Hp → Prop} {pos p p1 p2 : Pos} {x y : Str}
/-- a built-in type as a value -/
theorem w_tyn {T : String} (h : At m N sc k X) (hm : m.mg x = none) (hg : sc.names.lookup x = some .globalImplicit) (hv : bootBuiltins x = some (.type T)) (q : Q (.ty T) H) (hn : x ≠ "__name__" := by with_unfolding_all decide) (hd : (x == ("__debug__" : Str)) = false := by with_unfolding_all decide) : wE X (.Name x pos) σ H Q :=
  toE (pe_bltn (v := .ty T) (h.gl hg) (by rw [h.mm]; exact hm) hv rfl hn hd) q
/-- a name of the module -/
theorem w_glb {v : V} {u : Value} (h : At m N sc k X) (hm : m.mg x = some u) (r : L2.RelV v u) (hg : sc.names.lookup x = some .globalImplicit) (q : Q v H) (hd : (x == ("__debug__" : Str)) = false := by with_unfolding_all decide) : wE X (.Name x pos) σ H Q :=
  toE (pe_glob (h.gl hg) (by rw [h.mm]; exact hm) r hd) q
theorem w_chain {op op' : CmpOp} (q : wE X a σ H fun x H1 => wE X b σ H1 fun y H2 => gOp X (compareOp op) x y H2 fun z H3 => ∃ k, z = .bl k ∧ (if k = true then wE X c σ H3 fun w H4 => gOp X (compareOp op') y w H4 Q else Q (.bl false) H3))
    (hm : lastMarks [op, op'] [b, c] = false := by with_unfolding_all rfl) : wE X (.Compare a [op, op'] [b, c] pos) σ H Q := toE (pe_chain gOp_ok gOp_ok cE cE cE hm) q
theorem t_chain {op op' : CmpOp} (q : wE X a σ H fun x H1 => wE X b σ H1 fun y H2 => gOp X (compareOp op) x y H2 fun z H3 => ∃ k, z = .bl k ∧ (if k = true then wE X c σ H3 fun w H4 => gOp X (compareOp op') y w H4 fun r H5 => ∃ k', r = .bl k' ∧ QB k' H5 else QB false H3))
    (hm : lastMarks [op, op'] [b, c] = false := by with_unfolding_all rfl) : wT X (.Compare a [op, op'] [b, c] pos) σ H QB := by
  refine toT (pt_chain gOp_ok gOp_ok cE cE cE hm) ?_
  refine wE.mono q fun x H1 q1 => wE.mono q1 fun y H2 q2 => ?_
  refine fun pins s σ v u I rx ry => wpAny_mono (q2 pins s σ v u I rx ry) (fun w s' z => ?_) fun _ _ z => z
  obtain ⟨z', H', I', rz, k, ez, q3⟩ := z
  refine ⟨z', H', I', rz, k, ez, ?_⟩
  cases k with
  | true => exact q3
  | false => exact ⟨false, rfl, q3⟩
theorem g_leT {i j : Str} (q : Q (.bl (!decide (j.cps.toList < i.cps.toList))) H) : gOp X (compareOp .LtE) (.str i) (.str j) H Q := gOp.of op_le_str ⟨_, _, rfl, rfl, q⟩
/-- [elt for x in z], z a text -/
theorem w_lcS (h : At m N sc k X) (ok : blkC N sc scope [(x, i)] = true) (n : NL N (relS scope sc) i x)
    (q : wE X iter σ H fun v H1 => ∃ z : Str, v = .str z ∧ ∀ D, H1 D = none → ∃ Pv : Nat → Hp → Prop, Pv 0 (upd H1 D (.lst [])) ∧
      (∀ j c H, z.cps[j]? = some c → Pv j H → ∀ X', At m N (relS scope sc) k X' → wE X' elt (σ.set i (some (.str ⟨#[c]⟩))) H (App D (Pv (j + 1)))) ∧ ∀ H, Pv z.cps.size H → Q (.ref D) H)
    (hs : ∀ x, foldedSetIterable iter X.env x = pure x := by with_unfolding_all (intro _; rfl)) : wE X (.ListComp elt [⟨.Name x p1, iter, [], 0⟩] scope pos) σ H Q := by
  refine toE (pe_lc (own := [(x, i)]) (g := gName i) (tt := tYes) (te := inBlk m N (relS scope sc) k elt) h.calm (by rw [h.nn]; exact h.nd) (pi_str cE) (by rw [h.nn, h.ss]; exact blkOk_by ok) (fun s H C cl fp => pg_nl (blk_at h s H C cl fp) n) (fun _ _ _ _ _ => pts_nil) (fun s H C cl fp => blk_pe h s H C cl fp) hs) ?_
  refine wE.mono q fun v H1 ⟨z, ev, go⟩ => ⟨z, ev, fun D hD => ?_⟩
  obtain ⟨Pv, p0, turn, fin⟩ := go D hD
  refine lc_it walk_str (g := gName i) (tt := tYes) (te := inBlk m N (relS scope sc) k elt) (vs := [i]) (σ := σ) Pv p0 (fun _ _ _ _ => trivial) (fun j y H H' hj hp hy => ?_) fin
  obtain ⟨rfl, c, hc, rfl⟩ := hy
  refine ⟨by rw [wipe1]; simp [wipe, List.set_set], ?_⟩
  unfold tYes
  refine iteT fun X' hX' => ?_
  rw [set_wipe]
  exact turn j c _ hc hp X' hX'
end
end Vf
set_option maxRecDepth 100000
set_option maxHeartbeats 4000000
/-! InOb: is an object one of two texts; is it a text. Own work. -/
namespace Vf
open PySem PySem.Spec PyProof.Rows L2 LamX
theorem str_dec (z : Str) (tk : Tok) (l : Addr) (c : Value) (es : Array DictEntry) (ep : Nat) (dd : Option Addr) (sl : Array (Option Value)) :
    Meets (Builtin.«str.__eq__» ⟨[.str z tk, .ref l], []⟩) (fun _ R s => s.heap.get? l = some { cls := c, dict := dd, data := .dict es ep, slots := sl } ∧ R (.ok (.ret .notImplemented)) s) :=
  .of_wp fun prog w A R s q => by
    obtain ⟨hp, g, d, t, os⟩ := s
    obtain ⟨at1, q⟩ := q
    wp_walk using wpAny_loadPart' at1, wpAny_load at1
    exact ⟨_, rfl, q⟩
theorem dict_dec (l : Addr) (es : Array DictEntry) (ep : Nat) (dd : Option Addr) (sl : Array (Option Value)) (z : Str) (tk : Tok) :
    Meets (Builtin.«dict.__eq__» ⟨[.ref l, .str z tk], []⟩) (fun _ R s => s.heap.get? l = some { cls := .type "dict", dict := dd, data := .dict es ep, slots := sl } ∧ R (.ok (.ret .notImplemented)) s) :=
  .of_wp fun prog w A R s q => by
    obtain ⟨hp, g, d, t, os⟩ := s
    obtain ⟨at1, q⟩ := q
    have f1 := F.sub_str_dict
    wp_walk using wpAny_loadPart' at1, wpAny_load at1
    exact ⟨_, rfl, q⟩
section
variable {A : Around} {s : Shared} {l : Addr} {es : Array DictEntry} {ep : Nat} {dd : Option Addr} {sl : Array (Option Value)}
theorem rc_str_dict (z : Str) (tk : Tok) (ho : s.heap.get? l = some { cls := .type "dict", dict := dd, data := .dict es ep, slots := sl }) (hu : A.units < cLine) : SeqAt.RcAt A s (.str z tk) (.ref l) false := fun prog w E Q q =>
  SeqAt.rc_eq_decline_or (k := false) (typeIs_str s z tk) ⟨_, ho, rfl⟩ (by decide) F.sub_dict_str F.slot_str_eq F.slot_dict_eq_refl
    (fun _ hq => call_meets F.slot_str_eq (typeIs_str s z tk) F.entry_str_eq (F.args_str_eq_2 _ _) (str_dec z tk l (.type "dict") es ep dd sl) ⟨ho, hq⟩)
    (fun _ hq => call_meets F.slot_dict_eq_refl ⟨_, ho, rfl⟩ F.entry_dict_eq (F.args_dict_eq_2 _ _) (dict_dec l es ep dd sl z tk) ⟨ho, hq⟩)
    (fun _ hq => wpAny_of_eq (rfl : isSame (.str z tk) (.ref l) = pure false) hq) (.inr hu) q
theorem rc_dict_str (z : Str) (tk : Tok) (ho : s.heap.get? l = some { cls := .type "dict", dict := dd, data := .dict es ep, slots := sl }) (hu : A.units < cLine) : SeqAt.RcAt A s (.ref l) (.str z tk) false := fun prog w E Q q =>
  SeqAt.rc_eq_decline_or (k := false) ⟨_, ho, rfl⟩ (typeIs_str s z tk) (by decide) F.sub_str_dict F.slot_dict_eq F.slot_str_eq_refl
    (fun _ hq => call_meets F.slot_dict_eq ⟨_, ho, rfl⟩ F.entry_dict_eq (F.args_dict_eq_2 _ _) (dict_dec l es ep dd sl z tk) ⟨ho, hq⟩)
    (fun _ hq => call_meets F.slot_str_eq_refl (typeIs_str s z tk) F.entry_str_eq (F.args_str_eq_2 _ _) (str_dec z tk l (.type "dict") es ep dd sl) ⟨ho, hq⟩)
    (fun _ hq => wpAny_of_eq (rfl : isSame (.ref l) (.str z tk) = pure false) hq) (.inr hu) q
theorem eqAt_str_dict (z : Str) (tk : Tok) (ho : s.heap.get? l = some { cls := .type "dict", dict := dd, data := .dict es ep, slots := sl }) (hu : A.units < cLine) : SeqAt.EqAt A s (.str z tk) (.ref l) false := fun prog w E Q q => by
  unfold eqBool
  refine wpAny_holding ?_
  refine wpAny_ite_split (fun e => absurd (eq_of_beq e) nofun) (fun _ => ?_)
  exact wpAny_bind (rc_str_dict z tk ho hu prog w E _ (wpAny_truthy_bool q))
end
section
variable {X : Cx} {pins : List (Addr × Obj)} {σ : L2.St} {H : Hp} {s : Shared} {A : Addr → Prop} {v : V} {d : PyData} {u : Value}
theorem dct_at {a : Addr} {kvs : List (Key × V)} (I : Inv X pins σ H s) (e : H a = some (.dK kvs)) : ∃ dd es ep sl, s.heap.get? a = some ({ cls := .type "dict", dict := dd, data := .dict es ep, slots := sl } : Obj) := by
  obtain ⟨_, _, vs, _, ob, es, ep, h1, h2, h3, _⟩ := (show ObjOk X.prog X.w H s.heap a (.dK kvs) from I.hok a _ e)
  obtain ⟨c, dd, dat, sl⟩ := ob
  have hc : c = .type "dict" := h2.1
  have hd : dat = .dict es ep := h3
  subst hc hd
  exact ⟨dd, es, ep, sl, h1⟩
theorem ob_rc (I : Inv X pins σ H s) (o : Ob X.K A H v d) (r : L2.RelV v u) (hu : X.A.units < cLine) (z : Str) (tk : Tok) : SeqAt.RcAt X.A s u (.str z tk) (isS z d) := by
  cases o with
  | non => cases r; exact SeqAt.RcAt.none_str z tk
  | bl b => cases r; exact SeqAt.RcAt.bool_str b z tk
  | int i => obtain ⟨t, rfl⟩ := r; exact SeqAt.RcAt.int_str i t z tk
  | str y _ => obtain ⟨t, rfl⟩ := r; exact SeqAt.RcAt.str_str y t z tk
  | lst _ hs _ _ => cases r; obtain ⟨its, _, pl, _⟩ := I.list hs; exact SeqAt.RcAt.list_str z tk pl.isList hu
  | tup hs _ => cases r; obtain ⟨its, _, pl, _⟩ := I.tuple hs; exact SeqAt.RcAt.tuple_str z tk pl hu
  | dct _ e =>
    cases r
    obtain ⟨dd, es, ep, sl, h1⟩ := dct_at I e
    exact rc_dict_str z tk h1 hu
theorem ob_eq {A0 : Around} (I : Inv X pins σ H s) (o : Ob X.K A H v d) (r : L2.RelV v u) (hu : A0.units < cLine) (z : Str) (tk : Tok) : SeqAt.EqAt A0 s (.str z tk) u (isS z d) := by
  cases o with
  | non => cases r; exact SeqAt.EqAt.str_none z tk
  | bl b => cases r; exact SeqAt.EqAt.str_bool z tk b
  | int i => obtain ⟨t, rfl⟩ := r; exact SeqAt.EqAt.str_int z tk i t
  | str y _ =>
    obtain ⟨t, rfl⟩ := r
    have e : isS z (.str y) = (z == y) := by
      show (y == z) = (z == y)
      rw [Bool.eq_iff_iff, beq_iff_eq, beq_iff_eq]; exact eq_comm
    rw [e]
    exact SeqAt.EqAt.str_str z tk y t
  | lst _ hs _ _ => cases r; obtain ⟨its, _, pl, _⟩ := I.list hs; exact SeqAt.EqAt.str_list z tk pl.isList hu
  | tup hs _ => cases r; obtain ⟨its, _, pl, _⟩ := I.tuple hs; exact SeqAt.EqAt.str_tuple z tk pl hu
  | dct _ e =>
    cases r
    obtain ⟨dd, es, ep, sl, h1⟩ := dct_at I e
    exact eqAt_str_dict z tk h1 hu
end
section
variable {m : Md} {N : List Str} {sc : Scope} {k : Nat} {X : Cx} {H : Hp} {Q : VK} {A : Addr → Prop} {v : V} {d : PyData}
/-- x == z, z a text -/
theorem g_eqOb (h : At m N sc k X) {z : Str} (o : Ob m.K A H v d) (q : Q (.bl (isS z d)) H) : gOp X (compareOp .Eq) v (.str z) H Q := fun pins s σ u w I r rz => by
  obtain ⟨tk, rfl⟩ := rz
  have hu := h.hu
  exact ob_rc I (by rw [h.kk]; exact o) r (by omega) z tk X.prog X.w X.xe _ ⟨.bl (isS z d), H, I, rfl, q⟩
/-- x in (z1, z2), two texts -/
theorem g_inOb (h : At m N sc k X) {a : Addr} {z1 z2 : Str} (o : Ob m.K A H v d) (ht : H a = some (.tup [.str z1, .str z2])) (q : Q (.bl (isS z1 d || isS z2 d)) H) : gOp X (compareOp .In) v (.ref a) H Q := fun pins s σ u w I r rz => by
  cases rz
  have hu := h.hu
  obtain ⟨its, rv, pl, hz⟩ := I.tuple (SqT.of ht)
  cases rv with | cons r1 rv => cases rv with | cons r2 rv =>
  cases rv
  obtain ⟨t1, rfl⟩ := r1
  obtain ⟨t2, rfl⟩ := r2
  have o' : Ob X.K A H v d := by rw [h.kk]; exact o
  refine SeqAt.in_tupleAt (fun y => match y with | .str z _ => isS z d | _ => false) pl (fun y hy => ?_) ⟨.bl (isS z1 d || isS z2 d), H, I, by simp [L2.RelV], q⟩
  have hy2 : y = .str z1 t1 ∨ y = .str z2 t2 := by simpa using hy
  rcases hy2 with e | e
  · subst e; exact ob_eq I o' r (by show X.A.units + 1 < cLine; omega) z1 t1
  · subst e; exact ob_eq I o' r (by show X.A.units + 1 < cLine; omega) z2 t2
end
end Vf
set_option maxRecDepth 100000
set_option maxHeartbeats 4000000
/-! Tp: slices and sums of tuples. Own work. -/
namespace Vf
open PySem PySem.Spec PyProof.Rows L2 LamX
section
variable {m : Md} {N : List Str} {sc : Scope} {k : Nat} {X : Cx} {a b c e o : Expr} {σ : L2.St} {H : Hp} {Q : VK} {pos p2 : Pos}
/-- e[:hi] of a tuple, not the whole of it -/
theorem w_sliceToT {hi : Expr} (h : At m N sc k X) (q : wE X e σ H fun x H1 => wE X hi σ H1 fun u H3 => ∃ j : Int, u = .int j ∧ ∃ (a : Addr) (xs : List V), x = .ref a ∧ SqT m.K H3 a xs ∧ HT.sIx xs.length xs.length (some j) ≠ xs.length ∧ ∀ p, H3 p = none → Q (.ref p) (upd H3 p (.tup (cutV xs none (some j))))) :
    wE X (.Subscript e (.Slice none (some hi) none p2) pos) σ H Q := by
  refine toE (pe_slice sl_tup cE po_none (po_some cE)) ?_
  refine wE.mono q fun x H1 q1 => ?_
  show wE X hi σ H1 _
  exact wE.mono q1 fun u H3 ⟨j, ej, a, xs, ea, hs, hn, q3⟩ => ⟨j, ej, a, xs, ea, by rw [h.kk]; exact hs, fun z => hn z.2, q3⟩
theorem g_catT (h : At m N sc k X) {l r : Addr} {xs ys : List V} (h1 : SqT m.K H l xs) (h2 : SqT m.K H r ys) (n1 : xs ≠ []) (n2 : ys ≠ []) (hz : xs.length + ys.length ≤ sizeLine) (q : ∀ p, H p = none → Q (.ref p) (upd H p (.tup (xs ++ ys)))) : gOp X (binaryOp .Add) (.ref l) (.ref r) H Q :=
  gOp.of op_catT ⟨l, r, xs, ys, rfl, rfl, by rw [h.kk]; exact h1, by rw [h.kk]; exact h2, n1, hz, fun e => absurd e n2, fun _ => q⟩
end
theorem six_val (hd : List V) (x : V) : HT.sIx (hd ++ [x]).length (hd ++ [x]).length (some (-1)) = hd.length := by
  have e : (hd ++ [x]).length = hd.length + 1 := by simp
  rw [e]
  unfold HT.sIx
  dsimp only
  rw [if_pos (by decide)]
  omega
theorem cut_last (hd : List V) (x : V) : cutV (hd ++ [x]) none (some (-1)) = hd := by
  unfold cutV
  rw [HT.sIx_none, List.drop_zero, Nat.sub_zero, six_val, List.take_left']
  rfl
theorem six_last (hd : List V) (x : V) : HT.sIx (hd ++ [x]).length (hd ++ [x]).length (some (-1)) ≠ (hd ++ [x]).length := by
  rw [six_val]
  simp
theorem at_last (hd : List V) (x : V) : atI (hd ++ [x]) (-1) = some x := by
  unfold atI ixN
  rw [if_neg (by decide), List.length_append, List.length_singleton, if_pos (by omega)]
  show (hd ++ [x])[((-1 : Int) + ((hd.length + 1 : Nat) : Int)).toNat]? = some x
  rw [show ((-1 : Int) + ((hd.length + 1 : Nat) : Int)).toNat = hd.length from by omega]
  simp
end Vf
set_option maxRecDepth 100000
set_option maxHeartbeats 4000000
/-! Dn: data with the places of its lists, told one by one. Own work. -/
namespace Vf
open PySem PySem.Spec PyProof.Rows L2 LamX
mutual
/-- v is the data d; L: where its lists lie, from the left -/
inductive Dn (K : PySem.W.Frag) (H : Hp) : V → PyData → List Addr → Prop
  | non : Dn K H .non .none []
  | bl (b : Bool) : Dn K H (.bl b) (.bool b) []
  | int (i : Int) : Dn K H (.int i) (.int i) []
  | str (x : Str) : Dn K H (.str x) (.str x) []
  | lst {a : Addr} {xs : List V} {ds : List PyData} {L : List Addr} : H a = some (.lst xs) → DnAll K H xs ds L → Dn K H (.ref a) (.list ds) (a :: L)
  | tup {a : Addr} {xs : List V} {ds : List PyData} {L : List Addr} : SqT K H a xs → DnAll K H xs ds L → Dn K H (.ref a) (.tuple ds) L
inductive DnAll (K : PySem.W.Frag) (H : Hp) : List V → List PyData → List Addr → Prop
  | nil : DnAll K H [] [] []
  | cons {v : V} {vs : List V} {d : PyData} {ds : List PyData} {L M : List Addr} : Dn K H v d L → DnAll K H vs ds M → DnAll K H (v :: vs) (d :: ds) (L ++ M)
end
section
variable {K : PySem.W.Frag} {H H' : Hp} {A : Addr → Prop}
mutual
theorem Dn.da : ∀ {v : V} {d : PyData} {L : List Addr}, Dn K H v d L → (∀ a ∈ L, A a) → Da K A H v d
  | _, _, _, .non, _ => .non
  | _, _, _, .bl b, _ => .bl b
  | _, _, _, .int i, _ => .int i
  | _, _, _, .str x, _ => .str x
  | _, _, _, .lst h r, z => .lst (z _ (by simp)) (SqL.of h) (DnAll.da r fun a ha => z a (by simp [ha]))
  | _, _, _, .tup h r, z => .tup h (DnAll.da r z)
theorem DnAll.da : ∀ {v : List V} {d : List PyData} {L : List Addr}, DnAll K H v d L → (∀ a ∈ L, A a) → DaAll K A H v d
  | _, _, _, .nil, _ => .nil
  | _, _, _, .cons a r, z => .cons (Dn.da a fun b hb => z b (by simp [hb])) (DnAll.da r fun b hb => z b (by simp [hb]))
end
mutual
theorem Dn.mono (hL : ∀ a xs, H a = some (.lst xs) → A a → H' a = some (.lst xs)) (hT : ∀ a xs, SqT K H a xs → SqT K H' a xs) : ∀ {v : V} {d : PyData} {L : List Addr}, Dn K H v d L → (∀ a ∈ L, A a) → Dn K H' v d L
  | _, _, _, .non, _ => .non
  | _, _, _, .bl b, _ => .bl b
  | _, _, _, .int i, _ => .int i
  | _, _, _, .str x, _ => .str x
  | _, _, _, .lst h r, z => .lst (hL _ _ h (z _ (by simp))) (DnAll.mono hL hT r fun a ha => z a (by simp [ha]))
  | _, _, _, .tup h r, z => .tup (hT _ _ h) (DnAll.mono hL hT r z)
theorem DnAll.mono (hL : ∀ a xs, H a = some (.lst xs) → A a → H' a = some (.lst xs)) (hT : ∀ a xs, SqT K H a xs → SqT K H' a xs) : ∀ {v : List V} {d : List PyData} {L : List Addr}, DnAll K H v d L → (∀ a ∈ L, A a) → DnAll K H' v d L
  | _, _, _, .nil, _ => .nil
  | _, _, _, .cons a r, z => .cons (Dn.mono hL hT a fun b hb => z b (by simp [hb])) (DnAll.mono hL hT r fun b hb => z b (by simp [hb]))
end
mutual
theorem Dn.some : ∀ {v : V} {d : PyData} {L : List Addr}, Dn K H v d L → ∀ a ∈ L, ∃ xs, H a = some (.lst xs)
  | _, _, _, .non, _, h => by simp at h
  | _, _, _, .bl _, _, h => by simp at h
  | _, _, _, .int _, _, h => by simp at h
  | _, _, _, .str _, _, h => by simp at h
  | _, _, _, .lst h r, a, ha => by
    rcases List.mem_cons.1 ha with e | e
    · exact ⟨_, e ▸ h⟩
    · exact DnAll.some r a e
  | _, _, _, .tup _ r, a, ha => DnAll.some r a ha
theorem DnAll.some : ∀ {v : List V} {d : List PyData} {L : List Addr}, DnAll K H v d L → ∀ a ∈ L, ∃ xs, H a = some (.lst xs)
  | _, _, _, .nil, _, h => by simp at h
  | _, _, _, .cons a r, b, hb => by
    rcases List.mem_append.1 hb with e | e
    · exact Dn.some a b e
    · exact DnAll.some r b e
end
theorem DnAll.length : ∀ {vs : List V} {ds : List PyData} {L : List Addr}, DnAll K H vs ds L → vs.length = ds.length
  | _, _, _, .nil => rfl
  | _, _, _, .cons _ r => congrArg (· + 1) (DnAll.length r)
theorem DnAll.append : ∀ {vs ws : List V} {ds es : List PyData} {L M : List Addr}, DnAll K H vs ds L → DnAll K H ws es M → DnAll K H (vs ++ ws) (ds ++ es) (L ++ M)
  | _, _, _, _, _, _, .nil, s => s
  | _, _, _, _, _, _, .cons a r, s => by rw [List.append_assoc]; exact .cons a (DnAll.append r s)
theorem GrowX.dn {T : List (Addr × Str)} {S : Addr → Prop} {v : V} {d : PyData} {L : List Addr} (g : GrowX T S H H') (h : Dn K H v d L) (n : ∀ a ∈ L, ¬ S a) : Dn K H' v d L :=
  Dn.mono (A := fun a => ¬ S a) (fun a xs e z => g.ext _ _ z e (fun _ w => by cases w)) (fun a xs e => g.seqT e) h n
theorem GrowX.dnAll {T : List (Addr × Str)} {S : Addr → Prop} {v : List V} {d : List PyData} {L : List Addr} (g : GrowX T S H H') (h : DnAll K H v d L) (n : ∀ a ∈ L, ¬ S a) : DnAll K H' v d L :=
  DnAll.mono (A := fun a => ¬ S a) (fun a xs e z => g.ext _ _ z e (fun _ w => by cases w)) (fun a xs e => g.seqT e) h n
/-- fresh data: all its lists are new and apart -/
def Fr (K : PySem.W.Frag) (H H' : Hp) (v : V) (d : PyData) : Prop := ∃ L, Dn K H' v d L ∧ L.Nodup ∧ ∀ a ∈ L, New H a
theorem Fr.da {v : V} {d : PyData} (h : Fr K H H' v d) : Da K (New H) H' v d := by
  obtain ⟨L, h, _, n⟩ := h
  exact h.da n
theorem Fr.pre {T : List (Addr × Str)} {H0 : Hp} {v : V} {d : PyData} (g : Grow T H0 H) (h : Fr K H H' v d) : Fr K H0 H' v d := by
  obtain ⟨L, h, nd, n⟩ := h
  exact ⟨L, h, nd, fun a ha => g.keep _ (n a ha)⟩
theorem Fr.post {T : List (Addr × Str)} {H2 : Hp} {v : V} {d : PyData} (h : Fr K H H' v d) (g : Grow T H' H2) : Fr K H H2 v d := by
  obtain ⟨L, h, nd, n⟩ := h
  exact ⟨L, GrowX.dn g h fun _ _ z => z, nd, n⟩
end
end Vf
set_option maxRecDepth 100000
set_option maxHeartbeats 4000000
/-! Lit: displays of constants, tuples, lists and known names, at once. Own work. -/
namespace Vf
open PySem PySem.Spec PyProof.Rows L2 LamX
mutual
/-- the data that a display is; env: what names hold -/
def lit (env : List (Str × PyData)) : Expr → Option PyData
  | .Constant (.int i) _ _ => some (.int i)
  | .Constant (.bool b) _ _ => some (.bool b)
  | .Constant (.str z) _ _ => if z.length ≤ 1000 then some (.str z) else none
  | .Constant .none _ _ => some .none
  | .Tuple es _ _ => (lits env es).bind fun ds => if ds.length ≤ 1000 then some (.tuple ds) else none
  | .UnaryOp .USub (.Constant (.int i) _ _) _ => some (.int (-i))
  | .List es _ => (lits env es).bind fun ds => if ds.length ≤ 1000 then some (.list ds) else none
  | .Dict [] [] _ => some (.dict [])
  | .Dict [some (.Constant (.str _) _ _)] [e] _ => (lit env e).map fun _ => .dict []
  | .Name x _ => env.lookup x
  | _ => none
def lits (env : List (Str × PyData)) : List Expr → Option (List PyData)
  | [] => some []
  | e :: es => (lit env e).bind fun d => (lits env es).map fun ds => d :: ds
end
section
variable {m : Md} {X : Cx} {σ : L2.St} {env : List (Str × PyData)} {H0 : Hp}
/-- the names of env hold their data, wherever the heap has grown -/
def EnvOk (m : Md) (X : Cx) (σ : L2.St) (env : List (Str × PyData)) (A : Addr → Prop) (H0 : Hp) : Prop := ∀ x d pos, env.lookup x = some d → ∃ v, Ob m.K A H0 v d ∧ ∀ H Q, Q v H → wE X (.Name x pos) σ H Q
theorem starPlain {e : Expr} {es : List Expr} {d : PyData} (h : lit env e = some d) : starEach (e :: es) X.env = (false, eval e X.env) :: starEach es X.env := by
  cases e <;> first | rfl | (simp [lit] at h)
theorem lit_neg {op : UnaryOp} {e : Expr} {pos : Pos} {d : PyData} (h : lit env (.UnaryOp op e pos) = some d) : ∃ i k ps, op = .USub ∧ e = .Constant (.int i) k ps ∧ d = .int (-i) := by
  unfold lit at h
  split at h <;> first | (cases h; done) | skip
  all_goals first
    | (rename_i hh; cases hh; cases h; exact ⟨_, _, _, rfl, rfl, rfl⟩)
    | (simp at *)
theorem lit_d0 {ks : List (Option Expr)} {pos : Pos} {d : PyData} (h : lit env (.Dict ks [] pos) = some d) : ks = [] ∧ d = .dict [] := by
  unfold lit at h
  split at h <;> first | (cases h; done) | skip
  all_goals first
    | (rename_i hh; cases hh; cases h; exact ⟨rfl, rfl⟩)
    | (simp at *)
theorem lit_d1 {ks : List (Option Expr)} {e : Expr} {pos : Pos} {d : PyData} (h : lit env (.Dict ks [e] pos) = some d) : (∃ z k ps, ks = [some (.Constant (.str z) k ps)]) ∧ (∃ d', lit env e = some d') ∧ d = .dict [] := by
  unfold lit at h
  split at h <;> first | (cases h; done) | skip
  all_goals first
    | (rename_i hh; cases hh; obtain ⟨d', h1, h2⟩ := Option.map_eq_some_iff.1 h; cases h2; exact ⟨⟨_, _, _, rfl⟩, ⟨d', h1⟩, rfl⟩)
    | (simp at *)
theorem lit_d2 {ks : List (Option Expr)} {e e2 : Expr} {es : List Expr} {pos : Pos} {d : PyData} (h : lit env (.Dict ks (e :: e2 :: es) pos) = some d) : False := by
  unfold lit at h
  split at h <;> first | (cases h; done) | skip
  all_goals first
    | (rename_i hh; cases hh; done)
    | (simp at *)
theorem grow_ob {T : List (Addr × Str)} {K : PySem.W.Frag} {A : Addr → Prop} {H H1 : Hp} {v : V} {d : PyData} (g : Grow T H H1) (h : Ob K A H v d) : Ob K A H1 v d :=
  Ob.mono (fun _ z => z) (fun a xs _ e => GrowX.seqL g e fun z => z) (fun a xs e => GrowX.seqT g e) (fun a kvs _ e => g.extN _ _ e (fun _ z => by cases z)) d v h
theorem grow_obs {T : List (Addr × Str)} {K : PySem.W.Frag} {A : Addr → Prop} {H H1 : Hp} {v : List V} {d : List PyData} (g : Grow T H H1) (h : ObAll K A H v d) : ObAll K A H1 v d :=
  ObAll.mono (fun _ z => z) (fun a xs _ e => GrowX.seqL g e fun z => z) (fun a xs e => GrowX.seqT g e) (fun a kvs _ e => g.extN _ _ e (fun _ z => by cases z)) d v h
theorem obs_sub {K : PySem.W.Frag} {A A' : Addr → Prop} {H : Hp} {v : List V} {d : List PyData} (h : ObAll K A H v d) (s : ∀ a, A a → A' a) : ObAll K A' H v d := ObAll.mono s (fun _ _ _ e => e) (fun _ _ e => e) (fun _ _ _ e => e) d v h
theorem ob_sub {K : PySem.W.Frag} {A A' : Addr → Prop} {H : Hp} {v : V} {d : PyData} (h : Ob K A H v d) (s : ∀ a, A a → A' a) : Ob K A' H v d := Ob.mono s (fun _ _ _ e => e) (fun _ _ e => e) (fun _ _ _ e => e) d v h
/-- new in H, and there in H' -/
abbrev Nw (H H' : Hp) : Addr → Prop := fun a => New H a ∧ H' a ≠ none
theorem nw_up {T : List (Addr × Str)} {A : Addr → Prop} {H H1 H2 : Hp} (g : Grow T H1 H2) : ∀ a, A a ∨ Nw H H1 a → A a ∨ Nw H H2 a := fun a z => z.imp id fun w => ⟨w.1, fun e => w.2 (g.keep _ e)⟩
mutual
theorem w_lit {A : Addr → Prop} (hE : EnvOk m X σ env A H0) : ∀ (e : Expr) (d : PyData) (H : Hp) (Q : VK), lit env e = some d → Grow m.T H0 H → (∀ v H', Grow m.T H H' → Ob m.K (fun a => A a ∨ Nw H H' a) H' v d → Q v H') → wE X e σ H Q
  | .Constant (.int i) _ _, d, H, Q, h, g0, q => by
    rw [lit] at h; cases h
    exact w_int (q _ _ GrowX.refl (.int i))
  | .Constant (.bool i) _ _, d, H, Q, h, g0, q => by
    rw [lit] at h; cases h
    exact w_bl (q _ _ GrowX.refl (.bl i))
  | .Constant .none _ _, d, H, Q, h, g0, q => by
    rw [lit] at h; cases h
    exact w_non (q _ _ GrowX.refl .non)
  | .Constant (.str z) _ _, d, H, Q, h, g0, q => by
    rw [lit] at h
    split at h
    · cases h
      refine w_str (q _ _ GrowX.refl (.str z ?_))
      rw [sizeLine_eq]; omega
    · cases h
  | .Name x _, d, H, Q, h, g0, q => by
    rw [lit] at h
    obtain ⟨v, o, r⟩ := hE x d _ h
    refine r H Q (q v H GrowX.refl ?_)
    exact Ob.mono (fun _ z => .inl z) (fun a xs _ e => GrowX.seqL g0 e fun z => z) (fun a xs e => GrowX.seqT g0 e) (fun a kvs _ e => g0.extN _ _ e (fun _ z => by cases z)) d v o
  | .Tuple es _ _, d, H, Q, h, g0, q => by
    rw [lit] at h
    obtain ⟨ds, h1, h2⟩ := Option.bind_eq_some_iff.1 h
    split at h2
    · rename_i hl
      cases h2
      refine w_tup (w_lits hE es ds H _ h1 g0 fun vs H' g o => ⟨by rw [o.length, sizeLine_eq]; omega, fun p hp => ?_⟩)
      have gn := Grow.new (T := m.T) (o := .tup vs) hp
      exact q _ _ (g.trans gn) (.tup (SqT.of upd_same) (obs_sub (grow_obs gn o) (nw_up gn)))
    · cases h2
  | .List es _, d, H, Q, h, g0, q => by
    rw [lit] at h
    obtain ⟨ds, h1, h2⟩ := Option.bind_eq_some_iff.1 h
    split at h2
    · rename_i hl
      cases h2
      refine w_lst (w_lits hE es ds H _ h1 g0 fun vs H' g o => ⟨by rw [o.length, sizeLine_eq]; omega, fun p hp => ?_⟩)
      have gn := Grow.new (T := m.T) (o := .lst vs) hp
      exact q _ _ (g.trans gn) (.lst (.inr ⟨g.keep _ hp, by rw [upd_same]; exact fun z => by cases z⟩) (SqL.of upd_same) (obs_sub (grow_obs gn o) (nw_up gn)) (by rw [o.length]; omega))
    · cases h2
  | .UnaryOp op e _, d, H, Q, h, g0, q => by
    obtain ⟨i, k, ps, rfl, rfl, rfl⟩ := lit_neg h
    exact w_neg (w_int ⟨i, rfl, q _ _ GrowX.refl (.int (-i))⟩)
  | .Constant (.float _) _ _, d, H, Q, h, g0, q => by simp [lit] at h
  | .Constant (.complex _ _) _ _, d, H, Q, h, g0, q => by simp [lit] at h
  | .Constant (.bytes _) _ _, d, H, Q, h, g0, q => by simp [lit] at h
  | .Constant .ellipsis _ _, d, H, Q, h, g0, q => by simp [lit] at h
  | .BoolOp .., d, H, Q, h, g0, q => by simp [lit] at h
  | .NamedExpr .., d, H, Q, h, g0, q => by simp [lit] at h
  | .BinOp .., d, H, Q, h, g0, q => by simp [lit] at h
  | .Lambda .., d, H, Q, h, g0, q => by simp [lit] at h
  | .IfExp .., d, H, Q, h, g0, q => by simp [lit] at h
  | .Dict ks [] _, d, H, Q, h, g0, q => by
    obtain ⟨rfl, rfl⟩ := lit_d0 h
    refine toE pe_dnewK fun p hp => ?_
    exact q _ _ (Grow.new hp) (.dct (.inr ⟨hp, by rw [upd_same]; exact fun z => by cases z⟩) upd_same)
  | .Dict ks [e] _, d, H, Q, h, g0, q => by
    obtain ⟨⟨z, k, ps, rfl⟩, ⟨d', h1⟩, rfl⟩ := lit_d1 h
    refine toE (pe_disp (pps_cons (cE (e := .Constant (.str z) k ps)) (cE (e := e)) pps_nil) rfl rfl (by simp) (show 1 ≤ 15 by decide)) fun p hp => ?_
    have g1 := Grow.new (T := m.T) (o := .dK []) hp
    refine w_str ?_
    refine w_lit hE e d' _ _ h1 (g0.trans g1) fun v H1 g2 _ => ?_
    have h2 : H1 p = some (.dK []) := g2.extN _ _ upd_same (fun _ w => by cases w)
    refine ⟨h2, [(.inr z, v)], rfl, by simp, ?_⟩
    have gX : GrowX m.T (· = p) H1 (upd H1 p (.dK (mergeK [] [(.inr z, v)]))) := GrowX.set rfl h2 (fun _ z => by cases z) (fun _ z => by unfold CodeO at z; cases z) (fun _ z => by cases z) (fun _ _ z => by cases z)
    exact q _ _ (Grow.intoNew (g1.trans g2) gX fun c w => by rw [w]; exact hp) (.dct (.inr ⟨hp, by rw [upd_same]; exact fun z => by cases z⟩) upd_same)
  | .Dict ks (e :: e2 :: es) _, d, H, Q, h, g0, q => (lit_d2 h).elim
  | .Set .., d, H, Q, h, g0, q => by simp [lit] at h
  | .ListComp .., d, H, Q, h, g0, q => by simp [lit] at h
  | .SetComp .., d, H, Q, h, g0, q => by simp [lit] at h
  | .DictComp .., d, H, Q, h, g0, q => by simp [lit] at h
  | .GeneratorExp .., d, H, Q, h, g0, q => by simp [lit] at h
  | .Await .., d, H, Q, h, g0, q => by simp [lit] at h
  | .Yield .., d, H, Q, h, g0, q => by simp [lit] at h
  | .YieldFrom .., d, H, Q, h, g0, q => by simp [lit] at h
  | .Compare .., d, H, Q, h, g0, q => by simp [lit] at h
  | .Call .., d, H, Q, h, g0, q => by simp [lit] at h
  | .FormattedValue .., d, H, Q, h, g0, q => by simp [lit] at h
  | .JoinedStr .., d, H, Q, h, g0, q => by simp [lit] at h
  | .Attribute .., d, H, Q, h, g0, q => by simp [lit] at h
  | .Subscript .., d, H, Q, h, g0, q => by simp [lit] at h
  | .Starred .., d, H, Q, h, g0, q => by simp [lit] at h
  | .Slice .., d, H, Q, h, g0, q => by simp [lit] at h
theorem w_lits {A : Addr → Prop} (hE : EnvOk m X σ env A H0) : ∀ (es : List Expr) (ds : List PyData) (H : Hp) (Q : List V → Hp → Prop), lits env es = some ds → Grow m.T H0 H → (∀ vs H', Grow m.T H H' → ObAll m.K (fun a => A a ∨ Nw H H' a) H' vs ds → Q vs H') → wA X es σ H Q
  | [], ds, H, Q, h, g0, q => by
    rw [lits] at h; cases h
    exact w_nil (q [] H GrowX.refl .nil)
  | e :: es, ds, H, Q, h, g0, q => by
    rw [lits] at h
    obtain ⟨d, h1, h2⟩ := Option.bind_eq_some_iff.1 h
    obtain ⟨ds', h3, rfl⟩ := Option.map_eq_some_iff.1 h2
    refine w_cons (w_lit hE e d H _ h1 g0 fun v H1 g1 o => ?_) (starPlain h1)
    refine w_lits hE es ds' H1 _ h3 (g0.trans g1) fun vs H2 g2 os => ?_
    refine q (v :: vs) H2 (g1.trans g2) (.cons (ob_sub (grow_ob g2 o) (nw_up g2)) (obs_sub os fun a z => ?_))
    rcases z with z | z
    · exact .inl z
    · exact .inr ⟨g1.keep _ z.1, z.2⟩
end
end
end Vf
set_option maxRecDepth 100000
set_option maxHeartbeats 4000000
/-! Exk: an own exception class over ValueError called with any arguments, by place and by name, its own __init__ run. Own work. -/
namespace Vf
open PySem PySem.Spec PySem.W PySem.Calls PyProof.Rows PySem.HandSPX Builtin
section
variable {prog : Program} {w : World} {A : Around} {E : Value → Shared → Prop} {R : Result → Shared → Prop} {M : Model}
variable {hp : Heap} {ga : Array GenState} {dr : Drawn} {tk : Nat} {oo : OsState}
variable {cn cq : Str} {C Nn : Addr} {bases tl : List Value} {snm : List Str} {subs : List Value} {abs : Bool} {coll : Option Bool} {dic : Option Addr} {c0 c1 c2 c3 c5 : Option Value}
/-- the new object is asked for with names, too -/
theorem xk_askNew {rest : List Value} {kw : List (Str × Value)} {Q : Unit → Shared → Prop} (hb : refsVE tl = true)
    (hC : hp.get? C = some (excClassObj cn cq C Nn bases tl true snm subs abs coll dic c0 c1 c2 c3 c5 "ValueError.__new__")) (q : Q () ⟨hp, ga, dr, tk, oo⟩) :
    wpAny M A (checkBuiltinCall "ValueError.__new__" ⟨.ref C :: rest, kw⟩) Q E ⟨hp, ga, dr, tk, oo⟩ := by
  have F := F.excBase_ValueError
  have has : (Value.ref C :: tl).contains (.type "ValueError") = true := by rw [List.contains_cons, refsVE_contains "ValueError" tl hb]; rfl
  have st := F.noStar
  simp only [checkBuiltinCall, F.newKind, F.newSplit, F.newRow]
  repeat (first | with_reducible refine wpAny_loadPart_at hC ?_ | (with_reducible refine wpAny_isSubtype_exc hC ?_; rw [has]) | with_reducible refine wpAny_staticBase_exc hC ?_ | with_reducible refine wpAny_madeBy_exc hC ?_ | simp only [bne_self_eq_false, Bool.false_eq_true, if_false] | wp_step)
  exact q
theorem xk_new {rest : List Value} {kw : List (Str × Value)} (hb : refsVE tl = true)
    (hC : hp.get? C = some (excClassObj cn cq C Nn bases tl true snm subs abs coll dic c0 c1 c2 c3 c5 "ValueError.__new__")) (few : rest.length ≤ sizeLine)
    (q : R (.ok (.ret (.ref (hp.objs.size + 1)))) ⟨(hp.push (W.kdv_tup rest)).push (excO C hp.objs.size), ga, dr, tk, oo⟩) :
    codeAny (model prog w) A (.builtin "ValueError.__new__" ⟨.ref C :: rest, kw⟩) R ⟨hp, ga, dr, tk, oo⟩ := by
  have F := F.excBase_ValueError
  have ends := F.ends
  have has : (Value.ref C :: tl).contains (.type "ValueError") = true := by rw [List.contains_cons, refsVE_contains "ValueError" tl hb]; rfl
  have noA : (Value.ref C :: tl).contains (.type "AttributeError") = false := by rw [List.contains_cons, refsVE_contains "AttributeError" tl hb]; rfl
  have noN : (Value.ref C :: tl).contains (.type "NameError") = false := by rw [List.contains_cons, refsVE_contains "NameError" tl hb]; rfl
  refine codeAny_builtinAt F.entry ?_
  unfold «BaseException.__new__»
  refine PySem.wpAt_bind ?_; show PySem.wpAt _ _ _ (stack >>= _) _ _ _
  refine PySem.wpAt_bind (PySem.wpAt_stack fun p below => PySem.wpAt_of_wpAny ?_)
  wp_walk
  refine PySem.wpAt_of_wpAny ?_
  rw [F.owner]
  repeat (first | with_reducible refine wpAny_madeHere_exc F.canon hC ?_ | with_reducible refine wpAny_loadPart_at hC ?_ | (with_reducible refine wpAny_isSubtype_exc hC ?_; first | rw [has] | rw [noA] | rw [noN]) | wp_step)
  show R _ _
  rw [Heap.size_push]
  exact q
theorem xk_typeCall {rest : List Value} {kw : List (Str × Value)} {fI : Addr} {Q : Fin → Shared → Prop} (hb : refsVE tl = true)
    (hC : hp.get? C = some (excClassObj cn cq C Nn bases tl true snm subs abs coll dic c0 c1 c2 c3 c5 "ValueError.__new__"))
    (hi : Looks (model prog w) hp (typeLookup (.ref C) "__init__") (some (.ref fI))) (bi : ∀ self, Looks (model prog w) hp (bindSpecial (.ref fI) self) (.ref fI, [self])) (few : rest.length ≤ sizeLine)
    (q : codeAny (model prog w) A (.call (.ref fI) ⟨.ref (hp.objs.size + 1) :: rest, kw⟩)
      (fun r s' => match r with | .ok (.ret v) => v = .none ∧ Q (.done (.ret (.ref (hp.objs.size + 1)))) s' | .ok _ => False | .error e => E e s')
      ⟨(hp.push (W.kdv_tup rest)).push (excO C hp.objs.size), ga, dr, tk, oo⟩) :
    wpAny (model prog w) A (Builtin.«type.__call__» ⟨.ref C :: rest, kw⟩) Q E ⟨hp, ga, dr, tk, oo⟩ := by
  have F := F.excBase_ValueError
  repeat (first | with_reducible refine wpAny_loadPart_at hC ?_ | with_reducible refine wpAny_madeBy_exc hC ?_ | wp_step)
  refine codeAny_call_builtin_code (Code.quiet_builtin _ F.quiet) (xk_askNew hb hC ?_)
  refine xk_new hb hC few ?_
  show wpAny _ _ _ _ _ _
  have stay : ∀ b o, hp.get? b = some o → ((hp.push (W.kdv_tup rest)).push (excO C hp.objs.size)).get? b = some o := fun b o e => Heap.get?_push_of_some _ (Heap.get?_push_of_some _ e)
  have hC' := stay _ _ hC
  have there : ((hp.push (W.kdv_tup rest)).push (excO C hp.objs.size)).get? (hp.objs.size + 1) = some (excO C hp.objs.size) := by heap_get
  have self : (Value.ref C :: tl).contains (.ref C) = true := by simp
  have i1 := hi.keeps stay
  have b1 := (bi (.ref (hp.objs.size + 1))).keeps stay
  unfold isInstance
  repeat (first | with_reducible refine wpAny_loadPart_at there ?_ | (with_reducible refine wpAny_isSubtype_exc hC' ?_; rw [self]) | wp_step)
  show wpAny _ _ (typeLookup (.ref C) _) _ _ _
  refine i1.at ?_
  refine wpAny_holding (wpAny_bind (b1.at ?_))
  refine wpAny_bind (wpAny_call (codeAny_mono q fun r s' z => ?_))
  rcases r with e | (v | _ | _ | _) <;> first | exact z | exact z.elim | skip
  obtain ⟨rfl, z⟩ := z
  first
    | exact wpAny_pure (wpAny_pure z)
    | (wp_walk; exact z)
theorem xk_call {rest : List Value} {kw : List (Str × Value)} {fI : Addr} (hb : refsVE tl = true)
    (hC : hp.get? C = some (excClassObj cn cq C Nn bases tl true snm subs abs coll dic c0 c1 c2 c3 c5 "ValueError.__new__"))
    (hi : Looks (model prog w) hp (typeLookup (.ref C) "__init__") (some (.ref fI))) (bi : ∀ self, Looks (model prog w) hp (bindSpecial (.ref fI) self) (.ref fI, [self])) (few : rest.length ≤ sizeLine)
    (q : codeAny (model prog w) (A.under (.builtin "type.__call__" ⟨.ref C :: rest, kw⟩)) (.call (.ref fI) ⟨.ref (hp.objs.size + 1) :: rest, kw⟩) (InitBack (hp.objs.size + 1) R)
      ⟨(hp.push (W.kdv_tup rest)).push (excO C hp.objs.size), ga, dr, tk, oo⟩) :
    codeAny (model prog w) A (.call (.ref C) ⟨rest, kw⟩) R ⟨hp, ga, dr, tk, oo⟩ := by
  have f1 := tc_lookup
  have f2 := tc_bind (.ref C)
  have ty : (⟨hp, ga, dr, tk, oo⟩ : Shared).TypeIs (.ref C) "type" := ⟨_, hC, rfl⟩
  have typ : Looks (model prog w) hp (isInstance (.ref C) (.type "type")) true := by
    intro A' Q' E' s' k q'
    unfold isInstance
    have hC2 := k _ _ hC
    have f3 := tc_sub
    repeat (any_goals (first | assumption | with_reducible refine wpAny_loadPart_at hC2 ?_ | wp_step))
  refine codeAny_of_tree (?_ : wpAny _ _ (callAny (.ref C) _) _ _ _)
  repeat (any_goals (first | assumption | with_reducible refine wpAny_loadPart_at hC ?_ | wp_step))
  refine ⟨rfl, ?_⟩
  refine codeAny_call_builtin_at (Code.quiet_builtin _ (by decide +kernel)) entry_typeCall (check_slot tc_kind tc_split typ (tc_args _ _ _) (xk_typeCall hb hC hi bi few ?_))
  refine codeAny_mono q fun r s' z => ?_
  rcases r with e | (v | _ | _ | _) <;> exact z
end
end Vf
set_option maxRecDepth 100000
set_option maxHeartbeats 4000000
/-! Exv: own errors as values: made by place, by name, with nothing; asked for their class; their field. Own work. -/
namespace Vf
open PySem PySem.Spec PyProof.Rows L2 LamX
/-- what the __init__ of an own error does -/
abbrev IniSp (C : Addr) : Sp := fun vs H Q _ => ∃ (a : Addr) (v : V), vs = [.ref a, v] ∧ H a = some (exo a C none) ∧ ∀ dx, H dx = none → dx ≠ a → Q .non (upd (upd H dx (exd dx [("value", v)])) a (exo a C (some dx)))
/-- how its arguments are bound -/
structure IniB (K : PySem.W.Frag) (fd : FuncData) : Prop where
  b2 : ∀ (s : Shared) (a u : Value), K.In s.heap → BindsTo s fd ⟨[a, u], []⟩ [("self", a), ("value", u)]
  b1 : ∀ (s : Shared) (a : Value), K.In s.heap → BindsTo s fd ⟨[a], []⟩ [("self", a), ("value", .none)]
  bk : ∀ (s : Shared) (a u : Value), K.In s.heap → BindsTo s fd ⟨[a], [("value", u)]⟩ [("self", a), ("value", u)]
/-- an own error class x at C with the field value -/
structure ErrV (m : Md) (x : Str) (C : Addr) : Prop where
  oex : OexC m.K C
  xf : XfC m.K C
  no : PySem.W.findIn m.K (.ref C) "value" = some none
  gC : m.mg x = some (.ref C)
  init : ∃ (fI : Addr) (fd : FuncData), PySem.W.findIn m.K (.ref C) "__init__" = some (some (.ref fI)) ∧ PySem.W.typeIn m.K (.ref fI) = some (.type "function") ∧ IniB m.K fd ∧ FnOk m.P m.w m.K m.mg m.base C8.CX0 1 fI fd ["self", "value"] (IniSp C)
/-- v is an error of the class at C that holds x -/
def ErrAt (H : Hp) (v : V) (C : Addr) (x : V) : Prop := ∃ a d, v = .ref a ∧ H a = some (exo a C (some d)) ∧ H d = some (exd d [("value", x)])
/-- v is an error of the class at C, with the field or without -/
def ErrOf (H : Hp) (v : V) (C : Addr) : Prop := (∃ x, ErrAt H v C x) ∨ ∃ a, v = .ref a ∧ H a = some (ExO (.ref C) a)
section
variable {T : List (Addr × Str)} {S : Addr → Prop} {H H1 : Hp} {v x : V} {C : Addr}
theorem ext_tbl {φ : Heap → Prop} : ∀ ps, HO.ext φ ≠ .tbl ps := fun ps z => by cases z
theorem GrowX.errAt (g : GrowX T S H H1) (h : ErrAt H v C x) (n : ∀ a, S a → (∃ xs, H a = some (.lst xs)) ∨ H a = none) : ErrAt H1 v C x := by
  obtain ⟨a, d, e, ha, hd⟩ := h
  have nS : ∀ {b : Addr} {φ : Heap → Prop}, H b = some (.ext φ) → ¬ S b := fun {b φ} hb s => by
    rcases n b s with ⟨xs, z⟩ | z <;> rw [hb] at z <;> cases z
  exact ⟨a, d, e, g.ext a _ (nS ha) ha (ext_tbl), g.ext d _ (nS hd) hd ext_tbl⟩
theorem Grow.errAt (g : Grow T H H1) (h : ErrAt H v C x) : ErrAt H1 v C x := GrowX.errAt g h fun _ z => z.elim
theorem Grow.errOf (g : Grow T H H1) (h : ErrOf H v C) : ErrOf H1 v C := by
  rcases h with ⟨x, h⟩ | ⟨a, e, ha⟩
  · exact .inl ⟨x, g.errAt h⟩
  · exact .inr ⟨a, e, g.ext a _ (fun z => z) ha ext_tbl⟩
end
section
variable {m : Md} {N : List Str} {sc : Scope} {i k : Nat} {X : Cx} {a b c e o : Expr} {es : List Expr} {σ : L2.St} {H : Hp} {Q : VK} {pos p p1 p2 kp : Pos} {x nm fn : Str} {C : Addr} {pins : List (Addr × Obj)} {s : Shared}
/-- the call itself -/
theorem run_err (h : At m N sc k X) (g : ErrV m x C) (hk : 2 ≤ k) (I : Inv X pins σ H s) {u : Value} {v : V} (rv : RelV v u) {us : List Value} {kw : List (Str × Value)}
    (hu : (us = [u] ∧ kw = []) ∨ (us = [] ∧ kw = [] ∧ u = .none) ∨ (us = [] ∧ kw = [(("value" : Str), u)]))
    (q : ∀ a d, H a = none → H d = none → d ≠ a → Q (.ref a) (upd (upd H d (exd d [("value", v)])) a (exo a C (some d)))) :
    wpAny (model X.prog X.w) X.A (call (.ref C) us kw) (EP X pins σ Q) X.xe s := by
  obtain ⟨fI, fd, iC, tI, b, F⟩ := g.init
  obtain ⟨cn, cq, Nn, bases, tl, snm, subs, abs, coll, dic, c0, c1, c2, c3, c5, hC, hb⟩ := g.oex.cls
  rw [← h.kk] at hC iC tI b
  rw [← h.pp, ← h.ww, ← h.kk, ← h.mm, ← h.bb] at F
  obtain ⟨hp, gs, dr, tk, os⟩ := s
  have hsz : hp.objs.size ≤ hp.objs.size + 1 := Nat.le_succ _
  have hn : H (hp.objs.size + 1) = none := I.hok.fresh hsz
  have stay : ∀ b o, hp.get? b = some o → ((hp.push (PySem.W.kdv_tup us)).push (PySem.HandSPX.excO C hp.objs.size)).get? b = some o := fun b o e => Heap.get?_push_of_some _ (Heap.get?_push_of_some _ e)
  have there : ((hp.push (PySem.W.kdv_tup us)).push (PySem.HandSPX.excO C hp.objs.size)).get? (hp.objs.size + 1) = some (PySem.HandSPX.excO C hp.objs.size) := by heap_get
  have I2 : Inv X pins σ (upd H (hp.objs.size + 1) (exo (hp.objs.size + 1) C none)) ⟨(hp.push (PySem.W.kdv_tup us)).push (PySem.HandSPX.excO C hp.objs.size), gs, dr, tk, os⟩ :=
    I.laid (t' := tk) (a := hp.objs.size + 1) (o := exo (hp.objs.size + 1) C none) (h' := (hp.push (PySem.W.kdv_tup us)).push (PySem.HandSPX.excO C hp.objs.size)) stay hsz (exo_ok there)
  have few : us.length ≤ sizeLine := by
    rw [sizeLine_eq]
    rcases hu with ⟨rfl, _⟩ | ⟨rfl, _⟩ | ⟨rfl, _⟩ <;> simp
  have bd : ∀ s' : Shared, X.K.In s'.heap → BindsTo s' fd ⟨.ref (hp.objs.size + 1) :: us, kw⟩ ((["self", "value"] : List Str).zip [.ref (hp.objs.size + 1), u]) := fun s' hs => by
    rcases hu with ⟨rfl, rfl⟩ | ⟨rfl, rfl, rfl⟩ | ⟨rfl, rfl⟩
    · exact b.b2 s' _ _ hs
    · exact b.b1 s' _ hs
    · exact b.bk s' _ _ hs
  refine wpAny_call (xk_call hb (I.kIn _ _ hC) (PySem.W.looks_findIn I.kIn iC) (fun self => PySem.W.bind_fn I.kIn self tI) few
    (codeAny_mono (F.run _ X.stack _ _ ⟨Value.ref (hp.objs.size + 1) :: us, kw⟩ [Value.ref (hp.objs.size + 1), u] [V.ref (hp.objs.size + 1), v] (fun w H' => w = .non ∧ Q (.ref (hp.objs.size + 1)) H') (fun _ _ _ => False) ((h.room.mono hk).make C us kw) (I2.env0.make C us kw) (bd _ I2.kIn) (.cons rfl (.cons rv .nil))
      ⟨hp.objs.size + 1, v, rfl, upd_same, fun dx hdx ne => ⟨rfl, ?_⟩⟩) fun r s' hq' => ?_))
  · rw [upd_ne ne] at hdx
    have z := q _ dx hn hdx ne
    have e : upd (upd (upd H (hp.objs.size + 1) (exo (hp.objs.size + 1) C none)) dx (exd dx [("value", v)])) (hp.objs.size + 1) (exo (hp.objs.size + 1) C (some dx)) = upd (upd H dx (exd dx [("value", v)])) (hp.objs.size + 1) (exo (hp.objs.size + 1) C (some dx)) := by
      funext y
      by_cases y1 : y = hp.objs.size + 1
      · rw [y1, upd_same, upd_same]
      · rw [upd_ne y1, upd_ne y1]
        by_cases y2 : y = dx
        · rw [y2, upd_same, upd_same]
        · rw [upd_ne y2, upd_ne y2, upd_ne y1]
    rw [e]
    exact z
  · cases r with
    | error er => exact C8.pass0 (E := fun _ _ _ => False) pins σ _ _ er s' I2 hq'
    | ok fl =>
      cases fl with
      | ret w =>
        obtain ⟨w', H', I3, rw', ew, q3⟩ := I2.after hq'
        subst ew
        exact ⟨rw', ⟨V.ref (hp.objs.size + 1), H', I3, rfl, q3⟩⟩
      | next => exact False.elim hq'
      | brk => exact False.elim hq'
      | cont => exact False.elim hq'
/-- what is known of a new error, no more -/
theorem err_new (T : List (Addr × Str)) {v : V} {a d : Addr} (ha : H a = none) (hd : H d = none) (ne : d ≠ a) :
    Grow T H (upd (upd H d (exd d [("value", v)])) a (exo a C (some d))) ∧ ErrAt (upd (upd H d (exd d [("value", v)])) a (exo a C (some d))) (.ref a) C v :=
  ⟨(Grow.new hd).trans (Grow.new (by rw [upd_ne (Ne.symm ne)]; exact ha)), a, d, rfl, upd_same, by rw [upd_ne ne, upd_same]⟩
theorem w_mkE (h : At m N sc k X) (g : ErrV m x C) (hk : 2 ≤ k) (hg : sc.names.lookup x = some .globalImplicit)
    (q : wE X e σ H fun v H1 => ∀ w H2, Grow m.T H1 H2 → ErrAt H2 w C v → Q w H2)
    (hdb : (x == ("__debug__" : Str)) = false := by with_unfolding_all decide) (he : starEach [e] X.env = (false, eval e X.env) :: starEach [] X.env := by with_unfolding_all rfl) (hpl : (backTo pos (starEach [] X.env)).any (·.1) = false := by with_unfolding_all rfl) : wE X (.Call (.Name x p) [e] [] pos) σ H Q := by
  unfold wE
  intro pins s I
  refine wpAny_Call_Name_kw (ld_glob I (h.gl hg) (by rw [h.mm]; exact g.gC) ?_ hdb)
  refine PySem.W.callWith_K (h₀ := X.base) I.ok.mod.kin (by rw [h.kk]; exact g.oex.kC) (thn ((cA (X := X) (es := [e])).run pos pins s σ H (fun vs H1 => ∃ v, vs = [v] ∧ ∀ w H2, Grow m.T H1 H2 → ErrAt H2 w C v → Q w H2) I ?_) fun us s1 ⟨vs, H1, I1, r, v, ev, q1⟩ => ⟨I1.kIn, ?_⟩) he hpl
  · refine w_cons (wE.mono q fun v H1 q1 => w_nil ⟨v, rfl, q1⟩) he
  · subst ev
    obtain ⟨u, rfl, ru⟩ := vals1 r
    exact run_err h g hk I1 ru (.inl ⟨rfl, rfl⟩) fun a d ha hd ne => q1 _ _ (err_new m.T ha hd ne).1 (err_new m.T ha hd ne).2
theorem w_mkE0 (h : At m N sc k X) (g : ErrV m x C) (hk : 2 ≤ k) (hg : sc.names.lookup x = some .globalImplicit)
    (q : ∀ w H2, Grow m.T H H2 → ErrAt H2 w C .non → Q w H2) (hdb : (x == ("__debug__" : Str)) = false := by with_unfolding_all decide) : wE X (.Call (.Name x p) [] [] pos) σ H Q := by
  unfold wE
  intro pins s I
  refine wpAny_Call_Name_kw (ld_glob I (h.gl hg) (by rw [h.mm]; exact g.gC) ?_ hdb)
  refine PySem.W.callWith_K0 I.kIn (by rw [h.kk]; exact g.oex.kC) ?_
  exact run_err h g hk I (u := .none) (v := .non) rfl (.inr (.inl ⟨rfl, rfl, rfl⟩)) fun a d ha hd ne => q _ _ (err_new m.T ha hd ne).1 (err_new m.T ha hd ne).2
theorem w_mkEk (h : At m N sc k X) (g : ErrV m x C) (hk : 2 ≤ k) (hg : sc.names.lookup x = some .globalImplicit)
    (q : wE X e σ H fun v H1 => ∀ w H2, Grow m.T H1 H2 → ErrAt H2 w C v → Q w H2) (hdb : (x == ("__debug__" : Str)) = false := by with_unfolding_all decide) : wE X (.Call (.Name x p) [] [⟨some "value", e, kp⟩] pos) σ H Q := by
  unfold wE
  intro pins s I
  refine wpAny_Call_Name_kw (ld_glob I (h.gl hg) (by rw [h.mm]; exact g.gC) ?_ hdb)
  refine PySem.W.callWith_KW0 (h₀ := X.base) I.ok.mod.kin (by rw [h.kk]; exact g.oex.kC) (by rfl) (thn ((pk_cons (nm := some "value") (kpos := kp) (cE (e := e)) pk_nil).run pos pins s σ H (fun vs H1 => ∃ v, vs = [v] ∧ ∀ w H2, Grow m.T H1 H2 → ErrAt H2 w C v → Q w H2) I ?_) fun us s1 ⟨vs, H1, I1, r, v, ev, q1⟩ => ⟨I1.kIn, ?_⟩) (by rfl)
  · exact wE.mono q fun v H1 q1 => ⟨v, rfl, q1⟩
  · subst ev
    obtain ⟨u, rfl, ru⟩ := vals1 r
    exact run_err h g hk I1 ru (.inr (.inr ⟨rfl, rfl⟩)) fun a d ha hd ne => q1 _ _ (err_new m.T ha hd ne).1 (err_new m.T ha hd ne).2
/-- an own error class without an __init__ of its own -/
structure ErrB (m : Md) (x : Str) (C : Addr) : Prop where
  ex : PySem.W.excIn m.K C PySem.HandSPX.veTail "ValueError.__new__" = true
  gC : m.mg x = some (.ref C)
  kC : PySem.W.keepIn m.K (.ref C) = true
/-! the field -/
theorem w_errF (h : At m N sc k X) (xf : XfC m.K C) (no : PySem.W.findIn m.K (.ref C) "value" = some none) (q : wE X e σ H fun y H1 => ∃ v, ErrAt H1 y C v ∧ Q v H1)
    (hb : attributeBase e "value" X.env (eval e X.env) = eval e X.env := by with_unfolding_all rfl) : wE X (.Attribute e "value" pos) σ H Q := by
  unfold wE
  intro pins s I
  refine attr_of hb (thn ((cE (X := X) (e := e)).run pins s σ H _ I q) fun u s1 hh => ?_)
  obtain ⟨y, H1, I1, ry, v, ⟨a, d, ey, ha, hd⟩, q1⟩ := hh
  subst ey
  obtain rfl : u = Value.ref a := ry
  obtain ⟨t1, ho⟩ := exo_at I1.hok ha
  obtain ⟨mA, hns, rel⟩ := exd_at I1.hok hd
  obtain ⟨od, hod, hl⟩ := lookIn_ns hns
  obtain ⟨u, hu, ru⟩ := RelO.some_of (v := v) (o := mA "value") (rel "value")
  have J : PySem.W.InstAt s1.heap a { cls := .ref C, dict := some d, data := .fields #[.ref t1, .none, .none, .none, .bool false, .none] } C (some od) := ⟨ho, rfl, rfl, hod⟩
  rw [← h.kk] at xf no
  exact HandSPX.exc_get I1.kIn J xf.ga xf.gg xf.exC (PySem.W.findObj_own xf.hdC no rfl (by rw [hl, hu])) (handed_of ru) ⟨v, H1, I1.tok _, ru, q1⟩
end
end Vf
set_option maxRecDepth 100000
set_option maxHeartbeats 4000000
/-! Exi: isinstance of own errors held as values. Own work. -/
namespace Vf
section
open PySem PySem.Spec PySem.W PySem.Calls PyProof.Rows
variable {prog : Program} {w : World} {A : Around} {E : Value → Shared → Prop} {s : Shared} {K : Frag} {x D : Addr} {ox : Obj} {od : Option Obj}
theorem xk_cls {Q : Option Value → Shared → Prop} (c : L2.ExcC K D) (hf : findObj K D od "__class__" = some (.bind (.builtin "getset_descriptor.__get__") (.builtin "object.__class__")))
    (hin : K.In s.heap) (J : InstAt s.heap x ox D od) (q : Q (some (.ref D)) { s with toks := s.toks + 1 }) : wpAny (model prog w) A (getAttr? (.ref x) "__class__") Q E s := by
  obtain ⟨hh, gg, dd, tt, os⟩ := s
  have T0 := J.type (M := model prog w)
  have T1 := looks_findIn (M := model prog w) hin c.hg
  have T2 := looks_findIn (M := model prog w) hin c.hk
  have T3 := looks_find (M := model prog w) hin J hf
  have isB : Looks (model prog w) hh (isInstance (.ref x) (.type "BaseException")) true := T0.andThen (looks_subIn hin c.hs)
  have e0 : (false && onTheHeap (Value.builtin "BaseException.__getattribute__")) = false := rfl
  have e2 : (Value.builtin "BaseException.__getattribute__" == Value.builtin "object.__getattribute__") = false := by decide +kernel
  have e1 : (onTheHeap (Value.ref D) && Value.builtin "BaseException.__getattribute__" == Value.builtin "object.__getattribute__") = false := by rw [e2]; rfl
  unfold getAttr? getAttrBy? getAttrBy
  refine wpAny_bind (wpAny_mkText (wpAny_bind (wpAny_attempt (wpAny_holding (wpAny_bind (T0.at (wpAny_bind (T1.at (?_))))))))); show wpAny _ _ (if (onTheHeap (Value.ref D) && Value.builtin "BaseException.__getattribute__" == Value.builtin "object.__getattribute__") = true then _ else _) _ _ _
  rw [e1, if_neg Bool.false_ne_true]
  unfold getAttrByItsOwn hookBefore
  refine wpAny_bind ?_
  rw [if_pos (show onTheHeap (Value.ref D) = true from rfl)]
  refine T2.at ?_
  refine wpAny_bind (wpAny_attempt (wpAny_holding ?_))
  unfold callGetattribute; rw [e0, if_neg Bool.false_ne_true]
  unfold boundAndCalled; rw [PySem.F.excAttr_ValueError.ga.bind (.ref x)]
  refine wpAny_bind (wpAny_pure (?_)); show wpAny _ _ (call (.builtin "BaseException.__getattribute__") [.ref x, .str "__class__" tt]) _ _ _
  refine wpAny_call (codeAny_call_builtin PySem.F.excAttr_ValueError.ga.plain PySem.F.entry_bexc_ga (?_))
  refine @check_slot (model prog w) _ _ ⟨hh, gg, dd, tt + 1, os⟩ "BaseException.__getattribute__" "BaseException" "__getattribute__" (.ref x) [.str "__class__" tt] [] _ (by decide +kernel) (by decide +kernel) isB (PySem.F.args_bexc_ga (.ref x) (.str "__class__" tt)) ?_
  unfold Builtin.«object.__getattribute__»; refine wpAny_bind (wpAny_of_eq (a := ((Value.ref x : Value), [Value.str "__class__" tt])) (by first | rfl | (simp only [slotArgs]; rfl)) ?_)
  refine wpAny_bind (wpAny_pure (wpAny_bind (T0.at (wpAny_bind (T3.at (?_)))))); show wpAny _ _ (holding [Value.builtin "object.__class__"] (call (.builtin "getset_descriptor.__get__") [.builtin "object.__class__", .ref x, .ref D]) >>= ret) _ _ _
  refine wpAny_bind (wpAny_holding (wpAny_call (class_get (s := ⟨hh, gg, dd, tt + 1, os⟩) (ox := ox) (od := od) hin J c.hm (wpAny_pure ?_))))
  show wpAny _ _ (handedOut (.ref D)) _ _ _
  rw [handedOut_of (v := .ref D) rfl]
  first
    | exact wpAny_pure (wpAny_pure q)
    | exact wpAny_pure q
    | exact wpAny_pure (wpAny_bind (wpAny_pure (wpAny_pure q)))
theorem kit_err (c : L2.ExcC K D) : KitX K (.ref x) (.ref D) (fun h => ∃ (ox : Obj) (od : Option Obj), InstAt h x ox D od ∧ findObj K D od "__class__" = some (.bind (.builtin "getset_descriptor.__get__") (.builtin "object.__class__"))) where
  ty := fun _ _ _ ⟨_, _, J, _⟩ => J.type
  it := fun _ _ hin _ => by
    obtain ⟨cd, hc, _⟩ := any_some c.hd
    unfold clsIn at hc
    split at hc
    · rename_i o1 o2 o3 o4 ho
      intro A' Q' E' s' k q
      unfold isType loadHead; exact wpAny_bind (wpAny_loadPart (k _ _ (hin _ _ ho)) (wpAny_pure q))
    · cases hc
  ne := fun h tp dd its n sl hin htp => by
    obtain ⟨cd, hc, _⟩ := any_some c.hd
    refine Bool.eq_false_iff.mpr fun q => ?_
    obtain rfl : D = tp := Value.ref.inj (beq_iff_eq.mp q)
    unfold clsIn at hc
    split at hc
    · rename_i o1 o2 o3 o4 ho
      have z := (hin _ _ ho).symm.trans htp
      cases z
    · cases hc
  ca := fun hin ⟨_, _, J, hf⟩ q => xk_cls c hf hin J q
end
open PySem PySem.Spec PyProof.Rows L2 LamX
section
variable {m : Md} {N : List Str} {sc : Scope} {i k : Nat} {X : Cx} {a b c e o : Expr} {es : List Expr} {σ : L2.St} {H : Hp} {Q : VK} {pos p p1 p2 kp : Pos} {x nm fn : Str} {C : Addr} {pins : List (Addr × Obj)} {s : Shared}
theorem g_isE (h : At m N sc k X) {v y : V} {u : Value} {r : Bool} (ec : ExcC m.K C) (he : ErrOf H v C) (hc : ClsV y u) (hr : PySem.W.kitOne m.K (.ref C) u = some r) (q : Q (.bl r) H) : gCall X (.builtin "isinstance") [v, y] H Q := by
  refine ⟨fun vs H' Q' => vs = [v, y] ∧ H' = H ∧ Q' (.bl r) H, ?_, rfl, rfl, q⟩
  intro pins s σ H' vs us Q' I rv ⟨e1, e2, q'⟩
  subst e1 e2
  obtain ⟨u1, u2, rfl, r1, r2⟩ := vals2 rv
  have e2 := hc.eq r2
  subst e2
  rw [← h.kk] at ec hr
  have J : ∃ a, u1 = .ref a ∧ ∃ (ox : Obj) (od : Option Obj), PySem.W.InstAt s.heap a ox C od ∧ PySem.W.findObj X.K C od "__class__" = some (.bind (.builtin "getset_descriptor.__get__") (.builtin "object.__class__")) := by
    rcases he with ⟨x, a, d, e, ha, hd⟩ | ⟨a, e, ha⟩
    · subst e
      obtain rfl : u1 = Value.ref a := r1
      obtain ⟨t1, ho⟩ := exo_at I.hok ha
      obtain ⟨mA, hns, _⟩ := exd_at I.hok hd
      obtain ⟨od, hod, hl⟩ := lookIn_ns hns
      exact ⟨a, rfl, _, some od, ⟨ho, rfl, rfl, hod⟩, PySem.W.findObj_data (by obtain ⟨cd, hc, _⟩ := PySem.W.any_some ec.hd; rw [hc]; rfl) ec.ha ec.hn ec.ht⟩
    · subst e
      obtain rfl : u1 = Value.ref a := r1
      obtain ⟨⟨oe, vs, ho, hz, hd, _⟩, _, _⟩ := I.hok a _ ha
      refine ⟨a, rfl, oe, none, ?_, PySem.W.findObj_dataN (by obtain ⟨cd, hc, _⟩ := PySem.W.any_some ec.hd; rw [hc]; rfl) ec.ha ec.hn ec.ht⟩
      obtain ⟨oc, od, oda, osl⟩ := oe
      obtain ⟨h1, h2⟩ := hz
      dsimp only at h1 h2 hd
      subst h1 h2 hd
      exact ⟨ho, rfl, rfl, trivial⟩
  obtain ⟨a, rfl, J⟩ := J
  exact PySem.W.kia_one (kit_err ec) I.kIn J hr (fun z => nomatch z) fun tk => ⟨.bl r, _, I.kept (t' := tk) fun _ _ z => z, rfl, q'⟩
theorem w_mkB (h : At m N sc k X) (g : ErrB m x C) (hg : sc.names.lookup x = some .globalImplicit)
    (q : ∀ w H2, Grow m.T H H2 → ErrOf H2 w C → Q w H2) (hdb : (x == ("__debug__" : Str)) = false := by with_unfolding_all decide) : wE X (.Call (.Name x p) [] [] pos) σ H Q := by
  unfold wE
  intro pins s I
  refine wpAny_Call_Name_kw (ld_glob I (h.gl hg) (by rw [h.mm]; exact g.gC) ?_ hdb)
  refine PySem.W.callWith_K0 I.kIn (by rw [h.kk]; exact g.kC) ?_
  have ex := g.ex
  rw [← h.kk] at ex
  obtain ⟨bm, Nn, cn, cq, bs, hd, sn, sub, ab, col, dd, k0, k1, k2, k3, k5, mN, hC, hN, hni, Tl⟩ := exc_obj I.kIn ex
  refine wpAny_call_exc_subT PySem.F.excBase_ValueError Tl hC hN hni (fun h' a hm => ?_) (by show 0 ≤ sizeLine; exact Nat.zero_le _)
  have hn : H a = none := I.hok.gone hm.new
  obtain ⟨t, ht, _, _⟩ := hm.there
  exact ⟨.ref a, upd H a (ExO (.ref C) a), I.laidN hm.keeps hm.new hn (exO_ok ht ⟨rfl, rfl⟩ rfl rfl rfl (show 4 < 6 by decide)), rfl, q _ _ (Grow.new hn) (.inr ⟨a, rfl, upd_same⟩)⟩
end
end Vf
namespace Vf
open PySem PySem.Spec PyProof.Rows L2 LamX
local macro_rules | `(tactic| walk_at "v") => `(tactic| first
  | ((with_reducible show wE _ _ _ _ _); first
      | with_reducible refine w_int ?_
      | with_reducible refine w_str ?_
      | with_reducible refine w_bl ?_
      | with_reducible refine w_non ?_
      | ((with_reducible refine' w_nl ?h ?n ?s ?q); (case h => with_reducible assumption); (case n => with_reducible assumption); (case s => rfl))
      | ((with_reducible refine' w_nc ?h ?n ?s ?q); (case h => with_reducible assumption); (case n => with_reducible assumption); (case s => rfl))
      | ((with_reducible refine' w_nf ?h ?n ?s ?q); (case h => with_reducible assumption); (case n => with_reducible assumption); (case s => rfl))
      | with_reducible refine g_bin ?_
      | with_reducible refine g_ix ?_
      | with_reducible refine w_lst ?_
      | with_reducible refine w_tup ?_
      | with_reducible refine g_cmp ?_
      | with_reducible refine w_if ?_
      | with_reducible refine w_not ?_
      | with_reducible refine w_and ?_
      | with_reducible refine w_or ?_
      | with_reducible refine w_one ?_
      | with_reducible refine w_neg ?_)
  | ((with_reducible show wA _ _ _ _ _); first
      | with_reducible refine w_nil ?_
      | with_reducible refine w_cons ?_)
  | ((with_reducible show gOp _ _ _ _ _ _); first
      | with_reducible refine g_addI ?_
      | with_reducible refine g_subI ?_
      | with_reducible refine g_gtI ?_
      | with_reducible refine g_ltI ?_
      | with_reducible refine g_leI ?_
      | with_reducible refine g_geI ?_
      | with_reducible refine g_eqI ?_
      | with_reducible refine g_neI ?_
      | with_reducible refine g_isN ?_
      | with_reducible refine g_notN ?_
      | with_reducible refine g_eqS ?_
      | with_reducible refine g_neS ?_)
  | ((with_reducible show wS _ _ _ _ _); first
      | with_reducible refine s_ret ?_
      | with_reducible refine s_if ?_
      | with_reducible refine s_expr ?_
      | ((with_reducible refine' s_nl ?h ?n ?q); (case h => with_reducible assumption); (case n => with_reducible assumption))
      | with_reducible refine s_subL ?_
      | with_reducible refine s_retN ?_)
  | ((with_reducible show wB _ _ _ _ _); first
      | with_reducible refine b_nil ?_
      | with_reducible refine b_one ?_
      | with_reducible refine b_cons ?_)
  | ((with_reducible show wT _ _ _ _ _); first
      | with_reducible refine gt_cmp ?_
      | with_reducible refine t_not ?_
      | with_reducible refine t_and ?_
      | with_reducible refine t_or ?_
      | with_reducible refine gt_tru ?_)
  | ((with_reducible show gTru _ _ _ _); first
      | with_reducible refine g_truB ?_)
  | ((with_reducible show wW _ _ _ _ _); first
      | with_reducible refine k_and ?_
      | with_reducible refine k_or ?_
      | with_reducible refine k_and1 ?_
      | with_reducible refine k_or1 ?_)
  | with_reducible refine ⟨_, rfl, ?_⟩)
local macro_rules | `(tactic| walk_at "e") => `(tactic| first
  | ((with_reducible show wE _ _ _ _ _); first
      | with_reducible refine w_int ?_
      | with_reducible refine w_str ?_
      | with_reducible refine w_bl ?_
      | with_reducible refine w_non ?_
      | ((with_reducible refine' w_nl ?h ?n ?s ?q); (case h => with_reducible assumption); (case n => with_reducible assumption); (case s => rfl))
      | ((with_reducible refine' w_nc ?h ?n ?s ?q); (case h => with_reducible assumption); (case n => with_reducible assumption); (case s => rfl))
      | ((with_reducible refine' w_nf ?h ?n ?s ?q); (case h => with_reducible assumption); (case n => with_reducible assumption); (case s => rfl))
      | with_reducible refine g_bin ?_
      | with_reducible refine g_ix ?_
      | with_reducible refine w_lst ?_
      | with_reducible refine w_tup ?_
      | with_reducible refine g_cmp ?_
      | with_reducible refine w_if ?_
      | with_reducible refine w_not ?_
      | with_reducible refine w_and ?_
      | with_reducible refine w_or ?_
      | with_reducible refine w_one ?_
      | with_reducible refine w_neg ?_)
  | ((with_reducible show wA _ _ _ _ _); first
      | with_reducible refine w_nil ?_
      | with_reducible refine w_cons ?_)
  | ((with_reducible show gOp _ _ _ _ _ _); first
      | with_reducible refine g_addI ?_
      | with_reducible refine g_subI ?_
      | with_reducible refine g_gtI ?_
      | with_reducible refine g_ltI ?_
      | with_reducible refine g_leI ?_
      | with_reducible refine g_geI ?_
      | with_reducible refine g_eqI ?_
      | with_reducible refine g_neI ?_
      | with_reducible refine g_isN ?_
      | with_reducible refine g_notN ?_
      | with_reducible refine g_eqS ?_
      | with_reducible refine g_neS ?_)
  | ((with_reducible show wT _ _ _ _ _); first
      | with_reducible refine gt_cmp ?_
      | with_reducible refine t_not ?_
      | with_reducible refine t_and ?_
      | with_reducible refine t_or ?_
      | with_reducible refine gt_tru ?_)
  | ((with_reducible show gTru _ _ _ _); first
      | with_reducible refine g_truB ?_)
  | ((with_reducible show wW _ _ _ _ _); first
      | with_reducible refine k_and ?_
      | with_reducible refine k_or ?_
      | with_reducible refine k_and1 ?_
      | with_reducible refine k_or1 ?_)
  | with_reducible refine ⟨_, rfl, ?_⟩)
local macro_rules | `(tactic| walk_at "E") => `(tactic| repeat (walk_at "e"))
local macro_rules | `(tactic| walk_at "V") => `(tactic| repeat (walk_at "v"))
local macro_rules | `(tactic| walk_at "B") => `(tactic| first | refine b_cons ?_ | refine b_one ?_)
local macro_rules | `(tactic| walk_at "S") => `(tactic| (simp only [List.length_cons, List.length_nil, List.length_append, List.length_map, sizeLine_eq] <;> omega))
def top (i : Nat) : Stmt := PySem.Challenge.pw_leafwaits_k01_errors_made.main.body.getD i (.Pass ⟨0, 0, 0, 0⟩)
abbrev st_InvalidTerm_init : Stmt := inClass (top 2) 0
abbrev nl_InvalidTerm_init : List Str := ["self", "value"]
abbrev ps_InvalidTerm_init : List Str := ["self", "value"]
theorem sc_InvalidTerm_init : FnScope nl_InvalidTerm_init ps_InvalidTerm_init (C8.fnScope st_InvalidTerm_init) := ⟨rfl, rfl, rfl, by decide +kernel, rfl, by decide +kernel, by decide +kernel⟩
-- 0:self 1:value
theorem nv_InvalidTerm_init : NL nl_InvalidTerm_init (C8.fnScope st_InvalidTerm_init) 0 "self" ∧ NL nl_InvalidTerm_init (C8.fnScope st_InvalidTerm_init) 1 "value" := ⟨⟨rfl, rfl⟩, ⟨rfl, rfl⟩⟩
abbrev st_InvalidRule_init : Stmt := inClass (top 3) 0
abbrev nl_InvalidRule_init : List Str := ["self", "value"]
abbrev ps_InvalidRule_init : List Str := ["self", "value"]
theorem sc_InvalidRule_init : FnScope nl_InvalidRule_init ps_InvalidRule_init (C8.fnScope st_InvalidRule_init) := ⟨rfl, rfl, rfl, by decide +kernel, rfl, by decide +kernel, by decide +kernel⟩
-- 0:self 1:value
theorem nv_InvalidRule_init : NL nl_InvalidRule_init (C8.fnScope st_InvalidRule_init) 0 "self" ∧ NL nl_InvalidRule_init (C8.fnScope st_InvalidRule_init) 1 "value" := ⟨⟨rfl, rfl⟩, ⟨rfl, rfl⟩⟩
abbrev st_NotFlat_init : Stmt := inClass (top 4) 0
abbrev nl_NotFlat_init : List Str := ["self", "value"]
abbrev ps_NotFlat_init : List Str := ["self", "value"]
theorem sc_NotFlat_init : FnScope nl_NotFlat_init ps_NotFlat_init (C8.fnScope st_NotFlat_init) := ⟨rfl, rfl, rfl, by decide +kernel, rfl, by decide +kernel, by decide +kernel⟩
-- 0:self 1:value
theorem nv_NotFlat_init : NL nl_NotFlat_init (C8.fnScope st_NotFlat_init) 0 "self" ∧ NL nl_NotFlat_init (C8.fnScope st_NotFlat_init) 1 "value" := ⟨⟨rfl, rfl⟩, ⟨rfl, rfl⟩⟩
abbrev st_InvalidPath_init : Stmt := inClass (top 5) 0
abbrev nl_InvalidPath_init : List Str := ["self", "value"]
abbrev ps_InvalidPath_init : List Str := ["self", "value"]
theorem sc_InvalidPath_init : FnScope nl_InvalidPath_init ps_InvalidPath_init (C8.fnScope st_InvalidPath_init) := ⟨rfl, rfl, rfl, by decide +kernel, rfl, by decide +kernel, by decide +kernel⟩
-- 0:self 1:value
theorem nv_InvalidPath_init : NL nl_InvalidPath_init (C8.fnScope st_InvalidPath_init) 0 "self" ∧ NL nl_InvalidPath_init (C8.fnScope st_InvalidPath_init) 1 "value" := ⟨⟨rfl, rfl⟩, ⟨rfl, rfl⟩⟩
abbrev st_InvalidRows_init : Stmt := inClass (top 6) 0
abbrev nl_InvalidRows_init : List Str := ["self", "value"]
abbrev ps_InvalidRows_init : List Str := ["self", "value"]
theorem sc_InvalidRows_init : FnScope nl_InvalidRows_init ps_InvalidRows_init (C8.fnScope st_InvalidRows_init) := ⟨rfl, rfl, rfl, by decide +kernel, rfl, by decide +kernel, by decide +kernel⟩
-- 0:self 1:value
theorem nv_InvalidRows_init : NL nl_InvalidRows_init (C8.fnScope st_InvalidRows_init) 0 "self" ∧ NL nl_InvalidRows_init (C8.fnScope st_InvalidRows_init) 1 "value" := ⟨⟨rfl, rfl⟩, ⟨rfl, rfl⟩⟩
abbrev st_InvalidHours_init : Stmt := inClass (top 7) 0
abbrev nl_InvalidHours_init : List Str := ["self", "value"]
abbrev ps_InvalidHours_init : List Str := ["self", "value"]
theorem sc_InvalidHours_init : FnScope nl_InvalidHours_init ps_InvalidHours_init (C8.fnScope st_InvalidHours_init) := ⟨rfl, rfl, rfl, by decide +kernel, rfl, by decide +kernel, by decide +kernel⟩
-- 0:self 1:value
theorem nv_InvalidHours_init : NL nl_InvalidHours_init (C8.fnScope st_InvalidHours_init) 0 "self" ∧ NL nl_InvalidHours_init (C8.fnScope st_InvalidHours_init) 1 "value" := ⟨⟨rfl, rfl⟩, ⟨rfl, rfl⟩⟩
abbrev st_InvalidWhole_init : Stmt := inClass (top 8) 0
abbrev nl_InvalidWhole_init : List Str := ["self", "value"]
abbrev ps_InvalidWhole_init : List Str := ["self", "value"]
theorem sc_InvalidWhole_init : FnScope nl_InvalidWhole_init ps_InvalidWhole_init (C8.fnScope st_InvalidWhole_init) := ⟨rfl, rfl, rfl, by decide +kernel, rfl, by decide +kernel, by decide +kernel⟩
-- 0:self 1:value
theorem nv_InvalidWhole_init : NL nl_InvalidWhole_init (C8.fnScope st_InvalidWhole_init) 0 "self" ∧ NL nl_InvalidWhole_init (C8.fnScope st_InvalidWhole_init) 1 "value" := ⟨⟨rfl, rfl⟩, ⟨rfl, rfl⟩⟩
abbrev st_InvalidCount_init : Stmt := inClass (top 9) 0
abbrev nl_InvalidCount_init : List Str := ["self", "value"]
abbrev ps_InvalidCount_init : List Str := ["self", "value"]
theorem sc_InvalidCount_init : FnScope nl_InvalidCount_init ps_InvalidCount_init (C8.fnScope st_InvalidCount_init) := ⟨rfl, rfl, rfl, by decide +kernel, rfl, by decide +kernel, by decide +kernel⟩
-- 0:self 1:value
theorem nv_InvalidCount_init : NL nl_InvalidCount_init (C8.fnScope st_InvalidCount_init) 0 "self" ∧ NL nl_InvalidCount_init (C8.fnScope st_InvalidCount_init) 1 "value" := ⟨⟨rfl, rfl⟩, ⟨rfl, rfl⟩⟩
abbrev st_InvalidName_init : Stmt := inClass (top 10) 0
abbrev nl_InvalidName_init : List Str := ["self", "value"]
abbrev ps_InvalidName_init : List Str := ["self", "value"]
theorem sc_InvalidName_init : FnScope nl_InvalidName_init ps_InvalidName_init (C8.fnScope st_InvalidName_init) := ⟨rfl, rfl, rfl, by decide +kernel, rfl, by decide +kernel, by decide +kernel⟩
-- 0:self 1:value
theorem nv_InvalidName_init : NL nl_InvalidName_init (C8.fnScope st_InvalidName_init) 0 "self" ∧ NL nl_InvalidName_init (C8.fnScope st_InvalidName_init) 1 "value" := ⟨⟨rfl, rfl⟩, ⟨rfl, rfl⟩⟩
abbrev st_InvalidNames_init : Stmt := inClass (top 11) 0
abbrev nl_InvalidNames_init : List Str := ["self", "value"]
abbrev ps_InvalidNames_init : List Str := ["self", "value"]
theorem sc_InvalidNames_init : FnScope nl_InvalidNames_init ps_InvalidNames_init (C8.fnScope st_InvalidNames_init) := ⟨rfl, rfl, rfl, by decide +kernel, rfl, by decide +kernel, by decide +kernel⟩
-- 0:self 1:value
theorem nv_InvalidNames_init : NL nl_InvalidNames_init (C8.fnScope st_InvalidNames_init) 0 "self" ∧ NL nl_InvalidNames_init (C8.fnScope st_InvalidNames_init) 1 "value" := ⟨⟨rfl, rfl⟩, ⟨rfl, rfl⟩⟩
abbrev st_UnknownName_init : Stmt := inClass (top 12) 0
abbrev nl_UnknownName_init : List Str := ["self", "value"]
abbrev ps_UnknownName_init : List Str := ["self", "value"]
theorem sc_UnknownName_init : FnScope nl_UnknownName_init ps_UnknownName_init (C8.fnScope st_UnknownName_init) := ⟨rfl, rfl, rfl, by decide +kernel, rfl, by decide +kernel, by decide +kernel⟩
-- 0:self 1:value
theorem nv_UnknownName_init : NL nl_UnknownName_init (C8.fnScope st_UnknownName_init) 0 "self" ∧ NL nl_UnknownName_init (C8.fnScope st_UnknownName_init) 1 "value" := ⟨⟨rfl, rfl⟩, ⟨rfl, rfl⟩⟩
abbrev st_TakenName_init : Stmt := inClass (top 13) 0
abbrev nl_TakenName_init : List Str := ["self", "value"]
abbrev ps_TakenName_init : List Str := ["self", "value"]
theorem sc_TakenName_init : FnScope nl_TakenName_init ps_TakenName_init (C8.fnScope st_TakenName_init) := ⟨rfl, rfl, rfl, by decide +kernel, rfl, by decide +kernel, by decide +kernel⟩
-- 0:self 1:value
theorem nv_TakenName_init : NL nl_TakenName_init (C8.fnScope st_TakenName_init) 0 "self" ∧ NL nl_TakenName_init (C8.fnScope st_TakenName_init) 1 "value" := ⟨⟨rfl, rfl⟩, ⟨rfl, rfl⟩⟩
abbrev st_InvalidRules_init : Stmt := inClass (top 14) 0
abbrev nl_InvalidRules_init : List Str := ["self", "value"]
abbrev ps_InvalidRules_init : List Str := ["self", "value"]
theorem sc_InvalidRules_init : FnScope nl_InvalidRules_init ps_InvalidRules_init (C8.fnScope st_InvalidRules_init) := ⟨rfl, rfl, rfl, by decide +kernel, rfl, by decide +kernel, by decide +kernel⟩
-- 0:self 1:value
theorem nv_InvalidRules_init : NL nl_InvalidRules_init (C8.fnScope st_InvalidRules_init) 0 "self" ∧ NL nl_InvalidRules_init (C8.fnScope st_InvalidRules_init) 1 "value" := ⟨⟨rfl, rfl⟩, ⟨rfl, rfl⟩⟩
abbrev st_InvalidBook_init : Stmt := inClass (top 15) 0
abbrev nl_InvalidBook_init : List Str := ["self", "value"]
abbrev ps_InvalidBook_init : List Str := ["self", "value"]
theorem sc_InvalidBook_init : FnScope nl_InvalidBook_init ps_InvalidBook_init (C8.fnScope st_InvalidBook_init) := ⟨rfl, rfl, rfl, by decide +kernel, rfl, by decide +kernel, by decide +kernel⟩
-- 0:self 1:value
theorem nv_InvalidBook_init : NL nl_InvalidBook_init (C8.fnScope st_InvalidBook_init) 0 "self" ∧ NL nl_InvalidBook_init (C8.fnScope st_InvalidBook_init) 1 "value" := ⟨⟨rfl, rfl⟩, ⟨rfl, rfl⟩⟩
abbrev st_Unlike_init : Stmt := inClass (top 16) 0
abbrev nl_Unlike_init : List Str := ["self", "value"]
abbrev ps_Unlike_init : List Str := ["self", "value"]
theorem sc_Unlike_init : FnScope nl_Unlike_init ps_Unlike_init (C8.fnScope st_Unlike_init) := ⟨rfl, rfl, rfl, by decide +kernel, rfl, by decide +kernel, by decide +kernel⟩
-- 0:self 1:value
theorem nv_Unlike_init : NL nl_Unlike_init (C8.fnScope st_Unlike_init) 0 "self" ∧ NL nl_Unlike_init (C8.fnScope st_Unlike_init) 1 "value" := ⟨⟨rfl, rfl⟩, ⟨rfl, rfl⟩⟩
abbrev st_InvalidLates_init : Stmt := inClass (top 17) 0
abbrev nl_InvalidLates_init : List Str := ["self", "value"]
abbrev ps_InvalidLates_init : List Str := ["self", "value"]
theorem sc_InvalidLates_init : FnScope nl_InvalidLates_init ps_InvalidLates_init (C8.fnScope st_InvalidLates_init) := ⟨rfl, rfl, rfl, by decide +kernel, rfl, by decide +kernel, by decide +kernel⟩
-- 0:self 1:value
theorem nv_InvalidLates_init : NL nl_InvalidLates_init (C8.fnScope st_InvalidLates_init) 0 "self" ∧ NL nl_InvalidLates_init (C8.fnScope st_InvalidLates_init) 1 "value" := ⟨⟨rfl, rfl⟩, ⟨rfl, rfl⟩⟩
abbrev st_InvalidCorners_init : Stmt := inClass (top 18) 0
abbrev nl_InvalidCorners_init : List Str := ["self", "value"]
abbrev ps_InvalidCorners_init : List Str := ["self", "value"]
theorem sc_InvalidCorners_init : FnScope nl_InvalidCorners_init ps_InvalidCorners_init (C8.fnScope st_InvalidCorners_init) := ⟨rfl, rfl, rfl, by decide +kernel, rfl, by decide +kernel, by decide +kernel⟩
-- 0:self 1:value
theorem nv_InvalidCorners_init : NL nl_InvalidCorners_init (C8.fnScope st_InvalidCorners_init) 0 "self" ∧ NL nl_InvalidCorners_init (C8.fnScope st_InvalidCorners_init) 1 "value" := ⟨⟨rfl, rfl⟩, ⟨rfl, rfl⟩⟩
abbrev st_InvalidStair_init : Stmt := inClass (top 19) 0
abbrev nl_InvalidStair_init : List Str := ["self", "value"]
abbrev ps_InvalidStair_init : List Str := ["self", "value"]
theorem sc_InvalidStair_init : FnScope nl_InvalidStair_init ps_InvalidStair_init (C8.fnScope st_InvalidStair_init) := ⟨rfl, rfl, rfl, by decide +kernel, rfl, by decide +kernel, by decide +kernel⟩
-- 0:self 1:value
theorem nv_InvalidStair_init : NL nl_InvalidStair_init (C8.fnScope st_InvalidStair_init) 0 "self" ∧ NL nl_InvalidStair_init (C8.fnScope st_InvalidStair_init) 1 "value" := ⟨⟨rfl, rfl⟩, ⟨rfl, rfl⟩⟩
abbrev st_InvalidWindows_init : Stmt := inClass (top 20) 0
abbrev nl_InvalidWindows_init : List Str := ["self", "value"]
abbrev ps_InvalidWindows_init : List Str := ["self", "value"]
theorem sc_InvalidWindows_init : FnScope nl_InvalidWindows_init ps_InvalidWindows_init (C8.fnScope st_InvalidWindows_init) := ⟨rfl, rfl, rfl, by decide +kernel, rfl, by decide +kernel, by decide +kernel⟩
-- 0:self 1:value
theorem nv_InvalidWindows_init : NL nl_InvalidWindows_init (C8.fnScope st_InvalidWindows_init) 0 "self" ∧ NL nl_InvalidWindows_init (C8.fnScope st_InvalidWindows_init) 1 "value" := ⟨⟨rfl, rfl⟩, ⟨rfl, rfl⟩⟩
abbrev st_InvalidSights_init : Stmt := inClass (top 21) 0
abbrev nl_InvalidSights_init : List Str := ["self", "value"]
abbrev ps_InvalidSights_init : List Str := ["self", "value"]
theorem sc_InvalidSights_init : FnScope nl_InvalidSights_init ps_InvalidSights_init (C8.fnScope st_InvalidSights_init) := ⟨rfl, rfl, rfl, by decide +kernel, rfl, by decide +kernel, by decide +kernel⟩
-- 0:self 1:value
theorem nv_InvalidSights_init : NL nl_InvalidSights_init (C8.fnScope st_InvalidSights_init) 0 "self" ∧ NL nl_InvalidSights_init (C8.fnScope st_InvalidSights_init) 1 "value" := ⟨⟨rfl, rfl⟩, ⟨rfl, rfl⟩⟩
abbrev st_Clash_init : Stmt := inClass (top 22) 0
abbrev nl_Clash_init : List Str := ["self", "value"]
abbrev ps_Clash_init : List Str := ["self", "value"]
theorem sc_Clash_init : FnScope nl_Clash_init ps_Clash_init (C8.fnScope st_Clash_init) := ⟨rfl, rfl, rfl, by decide +kernel, rfl, by decide +kernel, by decide +kernel⟩
-- 0:self 1:value
theorem nv_Clash_init : NL nl_Clash_init (C8.fnScope st_Clash_init) 0 "self" ∧ NL nl_Clash_init (C8.fnScope st_Clash_init) 1 "value" := ⟨⟨rfl, rfl⟩, ⟨rfl, rfl⟩⟩
abbrev st_InvalidHall_init : Stmt := inClass (top 23) 0
abbrev nl_InvalidHall_init : List Str := ["self", "value"]
abbrev ps_InvalidHall_init : List Str := ["self", "value"]
theorem sc_InvalidHall_init : FnScope nl_InvalidHall_init ps_InvalidHall_init (C8.fnScope st_InvalidHall_init) := ⟨rfl, rfl, rfl, by decide +kernel, rfl, by decide +kernel, by decide +kernel⟩
-- 0:self 1:value
theorem nv_InvalidHall_init : NL nl_InvalidHall_init (C8.fnScope st_InvalidHall_init) 0 "self" ∧ NL nl_InvalidHall_init (C8.fnScope st_InvalidHall_init) 1 "value" := ⟨⟨rfl, rfl⟩, ⟨rfl, rfl⟩⟩
abbrev st_InvalidScript_init : Stmt := inClass (top 24) 0
abbrev nl_InvalidScript_init : List Str := ["self", "value"]
abbrev ps_InvalidScript_init : List Str := ["self", "value"]
theorem sc_InvalidScript_init : FnScope nl_InvalidScript_init ps_InvalidScript_init (C8.fnScope st_InvalidScript_init) := ⟨rfl, rfl, rfl, by decide +kernel, rfl, by decide +kernel, by decide +kernel⟩
-- 0:self 1:value
theorem nv_InvalidScript_init : NL nl_InvalidScript_init (C8.fnScope st_InvalidScript_init) 0 "self" ∧ NL nl_InvalidScript_init (C8.fnScope st_InvalidScript_init) 1 "value" := ⟨⟨rfl, rfl⟩, ⟨rfl, rfl⟩⟩
abbrev st_InvalidLog_init : Stmt := inClass (top 25) 0
abbrev nl_InvalidLog_init : List Str := ["self", "value"]
abbrev ps_InvalidLog_init : List Str := ["self", "value"]
theorem sc_InvalidLog_init : FnScope nl_InvalidLog_init ps_InvalidLog_init (C8.fnScope st_InvalidLog_init) := ⟨rfl, rfl, rfl, by decide +kernel, rfl, by decide +kernel, by decide +kernel⟩
-- 0:self 1:value
theorem nv_InvalidLog_init : NL nl_InvalidLog_init (C8.fnScope st_InvalidLog_init) 0 "self" ∧ NL nl_InvalidLog_init (C8.fnScope st_InvalidLog_init) 1 "value" := ⟨⟨rfl, rfl⟩, ⟨rfl, rfl⟩⟩
abbrev st_InvalidText_init : Stmt := inClass (top 26) 0
abbrev nl_InvalidText_init : List Str := ["self", "value"]
abbrev ps_InvalidText_init : List Str := ["self", "value"]
theorem sc_InvalidText_init : FnScope nl_InvalidText_init ps_InvalidText_init (C8.fnScope st_InvalidText_init) := ⟨rfl, rfl, rfl, by decide +kernel, rfl, by decide +kernel, by decide +kernel⟩
-- 0:self 1:value
theorem nv_InvalidText_init : NL nl_InvalidText_init (C8.fnScope st_InvalidText_init) 0 "self" ∧ NL nl_InvalidText_init (C8.fnScope st_InvalidText_init) 1 "value" := ⟨⟨rfl, rfl⟩, ⟨rfl, rfl⟩⟩
abbrev st_StillNeeded_init : Stmt := inClass (top 27) 0
abbrev nl_StillNeeded_init : List Str := ["self", "value"]
abbrev ps_StillNeeded_init : List Str := ["self", "value"]
theorem sc_StillNeeded_init : FnScope nl_StillNeeded_init ps_StillNeeded_init (C8.fnScope st_StillNeeded_init) := ⟨rfl, rfl, rfl, by decide +kernel, rfl, by decide +kernel, by decide +kernel⟩
-- 0:self 1:value
theorem nv_StillNeeded_init : NL nl_StillNeeded_init (C8.fnScope st_StillNeeded_init) 0 "self" ∧ NL nl_StillNeeded_init (C8.fnScope st_StillNeeded_init) 1 "value" := ⟨⟨rfl, rfl⟩, ⟨rfl, rfl⟩⟩
abbrev st_purse : Stmt := top 31
abbrev nl_purse : List Str := ["_law_script", "_law_at", "_law_seed"]
abbrev ps_purse : List Str := ["_law_script", "_law_at"]
theorem sc_purse : FnScope nl_purse ps_purse (C8.fnScope st_purse) := ⟨rfl, rfl, rfl, by decide +kernel, rfl, by decide +kernel, by decide +kernel⟩
-- 0:_law_script 1:_law_at 2:_law_seed
theorem nv_purse : NL nl_purse (C8.fnScope st_purse) 0 "_law_script" ∧ NL nl_purse (C8.fnScope st_purse) 1 "_law_at" ∧ NL nl_purse (C8.fnScope st_purse) 2 "_law_seed" := ⟨⟨rfl, rfl⟩, ⟨rfl, rfl⟩, ⟨rfl, rfl⟩⟩
abbrev st_mixed : Stmt := top 32
abbrev nl_mixed : List Str := ["_law_seed", "_law_turn", "_law_at", "_law_mixed_here"]
abbrev ps_mixed : List Str := ["_law_seed", "_law_turn", "_law_at"]
theorem sc_mixed : FnScope nl_mixed ps_mixed (C8.fnScope st_mixed) := ⟨rfl, rfl, rfl, by decide +kernel, rfl, by decide +kernel, by decide +kernel⟩
-- 0:_law_seed 1:_law_turn 2:_law_at 3:_law_mixed_here
theorem nv_mixed : NL nl_mixed (C8.fnScope st_mixed) 0 "_law_seed" ∧ NL nl_mixed (C8.fnScope st_mixed) 1 "_law_turn" ∧ NL nl_mixed (C8.fnScope st_mixed) 2 "_law_at" ∧ NL nl_mixed (C8.fnScope st_mixed) 3 "_law_mixed_here" := ⟨⟨rfl, rfl⟩, ⟨rfl, rfl⟩, ⟨rfl, rfl⟩, ⟨rfl, rfl⟩⟩
abbrev st_draw : Stmt := top 33
abbrev nl_draw : List Str := ["_law_purse_here", "_law_many", "_law_drawn", "_law_found", "_law_piece"]
abbrev ps_draw : List Str := ["_law_purse_here", "_law_many"]
theorem sc_draw : FnScope nl_draw ps_draw (C8.fnScope st_draw) := ⟨rfl, rfl, rfl, by decide +kernel, rfl, by decide +kernel, by decide +kernel⟩
-- 0:_law_purse_here 1:_law_many 2:_law_drawn 3:_law_found 4:_law_piece
theorem nv_draw : NL nl_draw (C8.fnScope st_draw) 0 "_law_purse_here" ∧ NL nl_draw (C8.fnScope st_draw) 1 "_law_many" ∧ NL nl_draw (C8.fnScope st_draw) 2 "_law_drawn" ∧ NL nl_draw (C8.fnScope st_draw) 3 "_law_found" ∧ NL nl_draw (C8.fnScope st_draw) 4 "_law_piece" := ⟨⟨rfl, rfl⟩, ⟨rfl, rfl⟩, ⟨rfl, rfl⟩, ⟨rfl, rfl⟩, ⟨rfl, rfl⟩⟩
abbrev st_purses : Stmt := top 34
abbrev nl_purses : List Str := ["_law_script", "_law_few", "_law_at"]
abbrev ps_purses : List Str := ["_law_script", "_law_few"]
theorem sc_purses : FnScope nl_purses ps_purses (C8.fnScope st_purses) := ⟨rfl, rfl, rfl, by decide +kernel, rfl, by decide +kernel, by decide +kernel⟩
-- 1:_law_few 0:_law_script*
theorem nv_purses : NL nl_purses (C8.fnScope st_purses) 1 "_law_few" ∧ NC nl_purses (C8.fnScope st_purses) 0 "_law_script" := ⟨⟨rfl, rfl⟩, ⟨rfl, rfl⟩⟩
abbrev st_one_of : Stmt := top 35
abbrev nl_one_of : List Str := ["_law_purse_here", "_law_some"]
abbrev ps_one_of : List Str := ["_law_purse_here", "_law_some"]
theorem sc_one_of : FnScope nl_one_of ps_one_of (C8.fnScope st_one_of) := ⟨rfl, rfl, rfl, by decide +kernel, rfl, by decide +kernel, by decide +kernel⟩
-- 0:_law_purse_here 1:_law_some
theorem nv_one_of : NL nl_one_of (C8.fnScope st_one_of) 0 "_law_purse_here" ∧ NL nl_one_of (C8.fnScope st_one_of) 1 "_law_some" := ⟨⟨rfl, rfl⟩, ⟨rfl, rfl⟩⟩
abbrev st_word : Stmt := top 36
abbrev nl_word : List Str := ["_law_purse_here", "_law_found", "_law_turn"]
abbrev ps_word : List Str := ["_law_purse_here"]
theorem sc_word : FnScope nl_word ps_word (C8.fnScope st_word) := ⟨rfl, rfl, rfl, by decide +kernel, rfl, by decide +kernel, by decide +kernel⟩
-- 0:_law_purse_here 1:_law_found 2:_law_turn
theorem nv_word : NL nl_word (C8.fnScope st_word) 0 "_law_purse_here" ∧ NL nl_word (C8.fnScope st_word) 1 "_law_found" ∧ NL nl_word (C8.fnScope st_word) 2 "_law_turn" := ⟨⟨rfl, rfl⟩, ⟨rfl, rfl⟩, ⟨rfl, rfl⟩⟩
abbrev st_first : Stmt := top 37
abbrev nl_first : List Str := ["_law_thing", "_law_found"]
abbrev ps_first : List Str := ["_law_thing"]
theorem sc_first : FnScope nl_first ps_first (C8.fnScope st_first) := ⟨rfl, rfl, rfl, by decide +kernel, rfl, by decide +kernel, by decide +kernel⟩
-- 0:_law_thing 1:_law_found
theorem nv_first : NL nl_first (C8.fnScope st_first) 0 "_law_thing" ∧ NL nl_first (C8.fnScope st_first) 1 "_law_found" := ⟨⟨rfl, rfl⟩, ⟨rfl, rfl⟩⟩
abbrev st_named : Stmt := top 38
abbrev nl_named : List Str := ["_law_thing", "_law_found"]
abbrev ps_named : List Str := ["_law_thing"]
theorem sc_named : FnScope nl_named ps_named (C8.fnScope st_named) := ⟨rfl, rfl, rfl, by decide +kernel, rfl, by decide +kernel, by decide +kernel⟩
-- 0:_law_thing 1:_law_found
theorem nv_named : NL nl_named (C8.fnScope st_named) 0 "_law_thing" ∧ NL nl_named (C8.fnScope st_named) 1 "_law_found" := ⟨⟨rfl, rfl⟩, ⟨rfl, rfl⟩⟩
abbrev st_bare : Stmt := top 39
abbrev nl_bare : List Str := ["_law_found"]
abbrev ps_bare : List Str := []
theorem sc_bare : FnScope nl_bare ps_bare (C8.fnScope st_bare) := ⟨rfl, rfl, rfl, by decide +kernel, rfl, by decide +kernel, by decide +kernel⟩
-- 0:_law_found
theorem nv_bare : NL nl_bare (C8.fnScope st_bare) 0 "_law_found" := ⟨rfl, rfl⟩
abbrev st_code : Stmt := top 40
abbrev nl_code : List Str := ["_law_error", "_law_found", "_law_at"]
abbrev ps_code : List Str := ["_law_error"]
theorem sc_code : FnScope nl_code ps_code (C8.fnScope st_code) := ⟨rfl, rfl, rfl, by decide +kernel, rfl, by decide +kernel, by decide +kernel⟩
-- 0:_law_error 1:_law_found*
theorem nv_code : NL nl_code (C8.fnScope st_code) 0 "_law_error" ∧ NC nl_code (C8.fnScope st_code) 1 "_law_found" := ⟨⟨rfl, rfl⟩, ⟨rfl, rfl⟩⟩
abbrev st_is_error : Stmt := top 41
abbrev nl_is_error : List Str := ["_law_error"]
abbrev ps_is_error : List Str := ["_law_error"]
theorem sc_is_error : FnScope nl_is_error ps_is_error (C8.fnScope st_is_error) := ⟨rfl, rfl, rfl, by decide +kernel, rfl, by decide +kernel, by decide +kernel⟩
-- 0:_law_error
theorem nv_is_error : NL nl_is_error (C8.fnScope st_is_error) 0 "_law_error" := ⟨rfl, rfl⟩
abbrev st_right : Stmt := top 42
abbrev nl_right : List Str := ["_law_some", "_law_noted", "_law_error", "_law_at"]
abbrev ps_right : List Str := ["_law_some", "_law_noted"]
theorem sc_right : FnScope nl_right ps_right (C8.fnScope st_right) := ⟨rfl, rfl, rfl, by decide +kernel, rfl, by decide +kernel, by decide +kernel⟩
-- 0:_law_some 1:_law_noted*
theorem nv_right : NL nl_right (C8.fnScope st_right) 0 "_law_some" ∧ NC nl_right (C8.fnScope st_right) 1 "_law_noted" := ⟨⟨rfl, rfl⟩, ⟨rfl, rfl⟩⟩
abbrev st_law : Stmt := top 43
abbrev nl_law : List Str := ["_law_script", "_law_purse_here", "_law_word_here", "_law_falses", "_law_some", "_law_rest", "_law_thing", "_law_error"]
abbrev ps_law : List Str := ["_law_script"]
theorem sc_law : FnScope nl_law ps_law (C8.fnScope st_law) := ⟨rfl, rfl, rfl, by decide +kernel, rfl, by decide +kernel, by decide +kernel⟩
-- 0:_law_script 1:_law_purse_here 2:_law_word_here 3:_law_falses 4:_law_some 5:_law_rest 6:_law_thing*
theorem nv_law : NL nl_law (C8.fnScope st_law) 0 "_law_script" ∧ NL nl_law (C8.fnScope st_law) 1 "_law_purse_here" ∧ NL nl_law (C8.fnScope st_law) 2 "_law_word_here" ∧ NL nl_law (C8.fnScope st_law) 3 "_law_falses" ∧ NL nl_law (C8.fnScope st_law) 4 "_law_some" ∧ NL nl_law (C8.fnScope st_law) 5 "_law_rest" ∧ NC nl_law (C8.fnScope st_law) 6 "_law_thing" := ⟨⟨rfl, rfl⟩, ⟨rfl, rfl⟩, ⟨rfl, rfl⟩, ⟨rfl, rfl⟩, ⟨rfl, rfl⟩, ⟨rfl, rfl⟩, ⟨rfl, rfl⟩⟩
/-! ### the law's purse -/
/-- a purse at p that has been drawn from at most n times -/
def Purse (H : Hp) (p : Addr) (n : Nat) : Prop := ∃ a b c d : Int, H p = some (.lst [.int a, .int b, .int c, .int d]) ∧ 0 ≤ a ∧ a.natAbs < 2 ^ 1600 ∧ (0 ≤ b ∧ b < 2147483629) ∧ (0 ≤ c ∧ c ≤ n) ∧ (0 ≤ d ∧ d < 1000)
def sp_mixed : Sp := fun vs H Q _ => ∃ s t a : Int, vs = [.int s, .int t, .int a] ∧ (0 ≤ s ∧ s < 2147483629) ∧ (0 ≤ t ∧ t < 2 ^ 40) ∧ (0 ≤ a ∧ a < 1000) ∧ ∀ r : Int, 0 ≤ r → r < 2147483587 → Q (.int r) H
theorem c_mixed {m : Md} {f : Addr} {fd : FuncData} (F : C8.Def m.K m.mg "_law_mixed" st_mixed f fd) (b : L2.Binds m.K fd ps_mixed []) : Cal m 1 "_law_mixed" sp_mixed := by
  refine cal_of F b sc_mixed (fun vs H Q E h => by obtain ⟨_, _, _, rfl, _⟩ := h; rfl) fun X vs H Q E hA h => ?_
  obtain ⟨s, t, a, rfl, hs, ht, ha, k⟩ := h
  obtain ⟨n0, n1, n2, n3⟩ := nv_mixed
  walk_at "B"
  walk_at "V"
  refine g_mulI (.inl (by omega)) ?_
  walk_at "V"
  refine g_mulI (.inl (by omega)) ?_
  walk_at "V"
  refine g_mulI (.inl (by omega)) ?_
  walk_at "V"
  refine g_mulI (.inl (by omega)) ?_
  walk_at "V"
  refine g_modB (by omega) fun r1 h1 h1' => ?_
  walk_at "V"
  refine g_mulI (.inl (by omega)) ?_
  walk_at "V"
  refine g_modB (by omega) fun r2 h2 h2' => ?_
  walk_at "V"
  refine g_mulI (.inl (by omega)) ?_
  walk_at "V"
  refine g_modB (by omega) fun r3 h3 h3' => ?_
  exact k r3 h3 h3'
/-- the purse at p alone has changed: it was drawn from at most j times -/
structure Drew (m : Md) (p : Addr) (n j : Nat) (H H' : Hp) : Prop where
  grow : GrowX m.T (· = p) H H'
  purse : Purse H' p (n + j)
theorem Purse.mono {H : Hp} {p : Addr} {n j : Nat} (h : Purse H p n) (l : n ≤ j) : Purse H p j := by
  obtain ⟨a, b, c, d, h1, h2, h3, h4, h5, h6⟩ := h
  exact ⟨a, b, c, d, h1, h2, h3, h4, ⟨h5.1, by omega⟩, h6⟩
theorem Drew.trans {m : Md} {p : Addr} {n i j : Nat} {H H1 H2 : Hp} (a : Drew m p n i H H1) (b : Drew m p (n + i) j H1 H2) : Drew m p n (i + j) H H2 := ⟨a.grow.trans b.grow, by rw [← Nat.add_assoc]; exact b.purse⟩
theorem Drew.mono {m : Md} {p : Addr} {n i j : Nat} {H H1 : Hp} (a : Drew m p n i H H1) (l : i ≤ j) : Drew m p n j H H1 := ⟨a.grow, a.purse.mono (by omega)⟩
theorem Purse.new {m : Md} {H H' : Hp} {p : Addr} {n : Nat} (h : Purse H p n) (g : Grow m.T H H') : Purse H' p n := by
  obtain ⟨a, b, c, d, h1, r⟩ := h
  exact ⟨a, b, c, d, g.ext _ _ (fun z => z) h1 (fun _ z => by cases z), r⟩
theorem Purse.drew {m : Md} {H H' : Hp} {p : Addr} {n : Nat} (h : Purse H p n) (g : Grow m.T H H') : Drew m p n 0 H H' := ⟨g.to, h.new g⟩
def sp_draw (m : Md) : Sp := fun vs H Q _ => ∃ (p : Addr) (n : Nat) (z : Int), vs = [.ref p, .int z] ∧ Purse H p n ∧ n ≤ 2 ^ 39 ∧ 0 < z ∧ z < 2 ^ 200 ∧
  ∀ (r : Int) (H' : Hp), 0 ≤ r → r < z → Drew m p n 8 H H' → Q (.int r) H'
theorem Purse.at_ {H : Hp} {p : Addr} {n : Nat} (h : Purse H p n) : ∃ xs, H p = some (.lst xs) := ⟨_, h.choose_spec.choose_spec.choose_spec.choose_spec.1⟩
theorem Purse.x {m : Md} {S : Addr → Prop} {H H' : Hp} {p : Addr} {n : Nat} (h : Purse H p n) (g : GrowX m.T S H H') (hs : ¬ S p) : Purse H' p n := by
  obtain ⟨a, b, c, d, h1, r⟩ := h
  exact ⟨a, b, c, d, g.ext _ _ hs h1 (fun _ z => by cases z), r⟩
theorem Drew.pre {m : Md} {H H1 H2 : Hp} {p : Addr} {n j : Nat} (g : Grow m.T H H1) (d : Drew m p n j H1 H2) : Drew m p n j H H2 := ⟨g.to.trans d.grow, d.purse⟩
theorem Drew.post {m : Md} {H H1 H2 : Hp} {p : Addr} {n j : Nat} (d : Drew m p n j H H1) (g : Grow m.T H1 H2) : Drew m p n j H H2 := ⟨d.grow.trans g.to, d.purse.new g⟩
theorem c_draw {m : Md} {f : Addr} {fd : FuncData} (F : C8.Def m.K m.mg "_law_draw" st_draw f fd) (b : L2.Binds m.K fd ps_draw []) (hr : m.mg "range" = none) (M : Cal m 1 "_law_mixed" sp_mixed) : Cal m 2 "_law_draw" (sp_draw m) := by
  refine cal_of F b sc_draw (fun vs H Q E h => by obtain ⟨_, _, _, rfl, _⟩ := h; rfl) fun X vs H Q E hA h => ?_
  obtain ⟨p, n, mm, rfl, ⟨a, bb, c, d, hp, ha, ha2, hb, hc, hd⟩, hn, hm, hm2, k⟩ := h
  obtain ⟨n0, n1, n2, n3, n4⟩ := nv_draw
  walk_at "B"
  walk_at "V"
  refine g_ixL hA (SqL.of hp) (atI_at (j := 0) rfl) ?_
  walk_at "V"
  refine ite2 (fun h0 => ?_) fun h0 => ?_
  · simp only [decide_eq_true_eq] at h0
    walk_at "V"
    refine g_ixL hA (SqL.of hp) (atI_at (j := 0) rfl) ?_
    walk_at "V"
    refine g_modB hm fun r h1 h2 => ?_
    walk_at "V"
    refine g_ixL hA (SqL.of hp) (atI_at (j := 0) rfl) ?_
    walk_at "V"
    refine g_divW (wide_div (b := 200) hm (by omega) (by omega) (by omega)) ?_
    walk_at "V"
    refine ⟨p, _, _, 0, rfl, rfl, hp, rfl, ?_⟩
    walk_at "V"
    refine k r _ h1 h2 ⟨GrowX.set rfl hp (fun _ z => by cases z) (fun _ z => by unfold CodeO at z; cases z) (fun _ z => by cases z) (fun _ _ z => by cases z), a / mm, bb, c, d, by rw [upd_same]; rfl, Int.ediv_nonneg ha (by omega), ?_, hb, by omega, hd⟩
    have q1 : 0 ≤ a / mm := Int.ediv_nonneg ha (by omega)
    have q2 : a / mm ≤ a := Int.ediv_le_self _ ha
    omega
  · walk_at "V"
    have hbits : Builtin.Int.intBits mm ≤ 200 := PyProof.Rows.intBits_le (by omega)
    refine s_forR hA (pg_nl hA n4) hr rfl ?_
    walk_at "V"
    refine g_bits ?_
    walk_at "V"
    refine g_divI (by omega) ?_
    walk_at "V"
    have e : (0 : Int) ≤ (Builtin.Int.intBits mm : Int) / 28 ∧ (Builtin.Int.intBits mm : Int) / 28 ≤ 7 := by omega
    refine ⟨by omega, by omega, fun i σ H' => ∃ c' g : Int, σ = [some (.ref p), some (.int mm), none, some (.int g), σ.getD 4 none] ∧ H' = upd H p (.lst [.int a, .int bb, .int c', .int d]) ∧ 0 ≤ g ∧ 0 ≤ c' ∧ c' ≤ n + i, ?_, ?_, ?_⟩
    · refine ⟨c, 0, rfl, ?_, by omega, by omega, by omega⟩
      funext q
      by_cases z : q = p
      · rw [z, upd_same, hp]
      · rw [upd_ne z]
    · rintro i σ H' hi ⟨c', g, es, rfl, g0, c0, c1⟩
      rw [es]
      walk_at "B"
      walk_at "V"
      refine g_ixL hA (SqL.of upd_same) (atI_at (j := 2) rfl) ?_
      walk_at "V"
      refine ⟨p, _, _, 2, rfl, rfl, upd_same, rfl, ?_⟩
      rw [upd_upd]
      walk_at "V"
      refine g_mulI (.inr (by omega)) ?_
      walk_at "V"
      refine w_call hA M (by omega) rfl ?_
      walk_at "V"
      refine g_ixL hA (SqL.of upd_same) (atI_at (j := 1) rfl) ?_
      walk_at "V"
      refine g_ixL hA (SqL.of upd_same) (atI_at (j := 2) rfl) ?_
      walk_at "V"
      refine g_ixL hA (SqL.of upd_same) (atI_at (j := 3) rfl) ?_
      walk_at "V"
      refine ⟨bb, c' + 1, d, rfl, hb, by omega, by omega, fun r r0 r1 => ?_⟩
      walk_at "V"
      exact ⟨c' + 1, g * 2147483587 + r, rfl, rfl, by omega, by omega, by omega⟩
    · rintro σ H' ⟨c', g, es, rfl, g0, c0, c1⟩
      rw [es]
      walk_at "B"
      walk_at "V"
      refine g_modB hm fun r r0 r1 => ?_
      refine k r _ r0 r1 ⟨GrowX.set rfl hp (fun _ z => by cases z) (fun _ z => by unfold CodeO at z; cases z) (fun _ z => by cases z) (fun _ _ z => by cases z), a, bb, c', d, upd_same, ha, ha2, hb, by omega, hd⟩
def sp_purse (m : Md) : Sp := fun vs H Q _ => ∃ (a : Addr) (ns : List Int) (i : Int), vs = [.ref a, .int i] ∧ SqL m.K H a (ns.map V.int) ∧ 0 ≤ i ∧ i < 1000 ∧ ∀ p H', Grow m.T H H' → New H p → Purse H' p 0 → Q (.ref p) H'
theorem big_mod (z : Int) : 0 ≤ z % ((10 : Int) ^ (60 : Int).toNat) ^ (8 : Int).toNat ∧ (z % ((10 : Int) ^ (60 : Int).toNat) ^ (8 : Int).toNat).natAbs < 2 ^ 1600 := by
  have hp : (0 : Int) < ((10 : Int) ^ (60 : Int).toNat) ^ (8 : Int).toNat := by decide +kernel
  have h1 := Int.emod_nonneg z (show ((10 : Int) ^ (60 : Int).toNat) ^ (8 : Int).toNat ≠ 0 by omega)
  have h2 := Int.emod_lt_of_pos z hp
  have h3 : ((10 : Int) ^ (60 : Int).toNat) ^ (8 : Int).toNat < 2 ^ 1600 := by decide +kernel
  refine ⟨h1, ?_⟩
  have h4 : z % ((10 : Int) ^ (60 : Int).toNat) ^ (8 : Int).toNat < 2 ^ 1600 := Int.lt_trans h2 h3
  omega
theorem c_purse {m : Md} {f : Addr} {fd : FuncData} (F : C8.Def m.K m.mg "_law_purse" st_purse f fd) (b : L2.Binds m.K fd ps_purse []) (hsum : m.mg "sum" = none) (hmax : m.mg "max" = none) : Cal m 1 "_law_purse" (sp_purse m) := by
  refine cal_of F b sc_purse (fun vs H Q E h => by obtain ⟨_, _, _, rfl, _⟩ := h; rfl) fun X vs H Q E hA h => ?_
  obtain ⟨a, ns, i, rfl, hs, hi, hi2, k⟩ := h
  obtain ⟨n0, n1, n2⟩ := nv_purse
  walk_at "B"
  walk_at "V"
  refine g_blt hA hsum rfl bt_sum ?_
  walk_at "V"
  refine w_slice hA ?_
  walk_at "V"
  refine ⟨a, _, rfl, hs, fun p hp => ?_⟩
  walk_at "V"
  obtain ⟨ys, ey, _⟩ := cutV_map V.int ns (some i) (some (i + 1))
  refine g_sum (ns := ys) hA (SqL.of (by rw [← ey]; exact upd_same)) ?_
  generalize ys.sum = z
  walk_at "V"
  refine g_blt hA hmax rfl bt_max ?_
  walk_at "V"
  refine g_powI ⟨by omega, by omega, by omega⟩ ?_
  walk_at "V"
  refine g_max2 hA ?_
  walk_at "V"
  refine g_powI ⟨by omega, by omega, by omega⟩ ?_
  walk_at "V"
  refine g_powW (by omega) (by have := PyProof.Rows.intBits_le (show ((10 : Int) ^ (60 : Int).toNat).natAbs < 2 ^ 200 by decide +kernel); omega) ?_
  walk_at "V"
  refine g_modI (by decide +kernel) ?_
  walk_at "V"
  refine g_modB (by omega) fun r h1 h2 => ?_
  walk_at "V"
  refine ⟨by show 4 ≤ sizeLine; decide, fun d hd => ?_⟩
  obtain ⟨g1, g2⟩ := big_mod (if 0 > z - 10 ^ (18 : Int).toNat then 0 else z - 10 ^ (18 : Int).toNat)
  refine k d _ ((Grow.new hp).trans (Grow.new hd)) (NdefX.upd_none hd) ⟨_, r, 0, i, upd_same, g1, g2, ⟨h1, h2⟩, by omega, ⟨hi, hi2⟩⟩
def sp_one_of (m : Md) : Sp := fun vs H Q _ => ∃ (p : Addr) (n : Nat) (a : Addr) (xs : List V), vs = [.ref p, .ref a] ∧ Purse H p n ∧ n ≤ 2 ^ 39 ∧ SqL m.K H a xs ∧ a ≠ p ∧ 0 < xs.length ∧ xs.length < 1000000 ∧
  ∀ (j : Nat) (v : V) (H' : Hp), xs[j]? = some v → Drew m p n 8 H H' → Q v H'
theorem c_one_of {m : Md} {f : Addr} {fd : FuncData} (F : C8.Def m.K m.mg "_law_one_of" st_one_of f fd) (b : L2.Binds m.K fd ps_one_of []) (hlen : m.mg "len" = none) (D : Cal m 2 "_law_draw" (sp_draw m)) : Cal m 3 "_law_one_of" (sp_one_of m) := by
  refine cal_of F b sc_one_of (fun vs H Q E h => by obtain ⟨_, _, _, _, rfl, _⟩ := h; rfl) fun X vs H Q E hA h => ?_
  obtain ⟨p, n, a, xs, rfl, hp, hn, hs, hne, hl, hl2, k⟩ := h
  obtain ⟨n0, n1⟩ := nv_one_of
  walk_at "B"
  walk_at "V"
  refine w_call hA D (by omega) rfl ?_
  walk_at "V"
  refine g_blt hA hlen rfl bt_len ?_
  walk_at "V"
  refine g_lenL hA hs ?_
  walk_at "V"
  refine ⟨p, n, _, rfl, hp, hn, by omega, by omega, fun r H' r0 r1 dr => ?_⟩
  walk_at "V"
  have hr : (r.toNat : Int) = r := by omega
  rw [← hr]
  refine g_ixL hA (dr.grow.seqL hs hne) (atI_at (List.getElem?_eq_getElem (show r.toNat < xs.length by omega))) ?_
  exact k r.toNat _ H' (List.getElem?_eq_getElem (by omega)) dr
def sp_word (m : Md) : Sp := fun vs H Q _ => ∃ (p : Addr) (n : Nat), vs = [.ref p] ∧ Purse H p n ∧ n ≤ 2 ^ 38 ∧ ∀ (z : Str) (H' : Hp), IsName z → Drew m p n 72 H H' → Q (.str z) H'
theorem abc_at (r : Nat) (h : r < 26) : (("abcdefghijklmnopqrstuvwxyz" : Str).cps.toList)[r]? = some (97 + r) := by
  have e : ("abcdefghijklmnopqrstuvwxyz" : Str).cps.toList = (List.range 26).map (97 + ·) := by decide +kernel
  rw [e, List.getElem?_map, List.getElem?_range h]
  rfl
theorem c_word {m : Md} {f : Addr} {fd : FuncData} (F : C8.Def m.K m.mg "_law_word" st_word f fd) (b : L2.Binds m.K fd ps_word []) (hr : m.mg "range" = none) (D : Cal m 2 "_law_draw" (sp_draw m)) : Cal m 3 "_law_word" (sp_word m) := by
  refine cal_of F b sc_word (fun vs H Q E h => by obtain ⟨_, _, rfl, _⟩ := h; rfl) fun X vs H Q E hA h => ?_
  obtain ⟨p, n, rfl, hp, hn, k⟩ := h
  obtain ⟨n0, n1, n2⟩ := nv_word
  walk_at "B"
  walk_at "V"
  refine s_forR hA (pg_nl hA n2) hr rfl ?_
  walk_at "V"
  refine w_call hA D (by omega) rfl ?_
  walk_at "V"
  refine ⟨p, n, _, rfl, hp, by omega, by omega, by omega, fun r H1 r0 r1 d1 => ?_⟩
  walk_at "V"
  refine ⟨by omega, by omega, fun i σ H' => ∃ z : Str, σ = [some (.ref p), some (.str z), σ.getD 2 none] ∧ Drew m p n (8 + 8 * i) H H' ∧ z.length = i ∧ ∀ c ∈ z.cps.toList, 97 ≤ c ∧ c ≤ 122, ?_, ?_, ?_⟩
  · exact ⟨"", rfl, d1, rfl, fun c hc => by rw [show ("" : Str).cps.toList = [] from by decide +kernel] at hc; cases hc⟩
  · rintro i σ H' hi ⟨z, es, dr, zl, zc⟩
    rw [es]
    walk_at "B"
    walk_at "V"
    refine w_call hA D (by omega) rfl ?_
    walk_at "V"
    refine ⟨p, _, _, rfl, dr.purse, by omega, by omega, by omega, fun r2 H2 q0 q1 d2 => ?_⟩
    have hr2 : (r2.toNat : Int) = r2 := by omega
    rw [← hr2]
    refine g_ixS (by decide) (atI_at (abc_at r2.toNat (by omega))) ?_
    refine g_addS (by rw [zl]; show i + 1 ≤ sizeLine; rw [sizeLine_eq]; omega) ?_
    walk_at "V"
    refine ⟨(dr.trans d2), ?_, fun c hc => ?_⟩
    · rw [Str.length_append, zl]; rfl
    · rcases List.mem_append.1 ((show (z ++ (⟨#[97 + r2.toNat]⟩ : Str)).cps.toList = z.cps.toList ++ [97 + r2.toNat] from by show (z.cps ++ #[97 + r2.toNat]).toList = _; simp) ▸ hc) with h | h
      · exact zc c h
      · have := List.mem_singleton.1 h; omega
  · rintro σ H' ⟨z, es, dr, zl, zc⟩
    rw [es]
    walk_at "B"
    walk_at "V"
    exact k z H' ⟨by omega, by omega, zc⟩ (dr.mono (by omega))
/-- the purses of a list: apart, all new, each fresh -/
structure Purses (m : Md) (H H' : Hp) (r : Addr) (ps : List Addr) : Prop where
  grow : Grow m.T H H'
  isn : New H r
  seq : SqL m.K H' r (ps.map V.ref)
  nd : (r :: ps).Nodup
  new : ∀ p ∈ ps, New H p
  purse : ∀ p ∈ ps, Purse H' p 0
def sp_purses (m : Md) : Sp := fun vs H Q _ => ∃ (a : Addr) (ns : List Int) (few : Int), vs = [.ref a, .int few] ∧ SqL m.K H a (ns.map V.int) ∧ ns.length < 1000 ∧ 0 ≤ few ∧ few < 1000 ∧
  ∀ r ps H', Purses m H H' r ps → (ps.length : Int) = max 1 (min few ns.length) → Q (.ref r) H'
theorem c_purses {m : Md} {f : Addr} {fd : FuncData} (F : C8.Def m.K m.mg "_law_purses" st_purses f fd) (b : L2.Binds m.K fd ps_purses []) (hr : m.mg "range" = none) (hmax : m.mg "max" = none) (hmin : m.mg "min" = none) (hlen : m.mg "len" = none) (D1 : Cal m 1 "_law_purse" (sp_purse m)) : Cal m 2 "_law_purses" (sp_purses m) := by
  refine cal_of F b sc_purses (fun vs H Q E h => by obtain ⟨_, _, _, rfl, _⟩ := h; rfl) fun X vs H Q E hA h => ?_
  obtain ⟨a, ns, few, rfl, hs, hn, hf, hf2, k⟩ := h
  obtain ⟨n1, n0⟩ := nv_purses
  walk_at "B"
  walk_at "V"
  refine w_lcR hA hr rfl (by decide +kernel) (i := 2) ⟨rfl, rfl⟩ ?_
  refine g_blt hA hmax rfl bt_max ?_
  walk_at "V"
  refine g_blt hA hmin rfl bt_min ?_
  walk_at "V"
  refine g_blt hA hlen rfl bt_len ?_
  walk_at "V"
  refine g_lenL hA hs ?_
  walk_at "V"
  refine g_min2 hA ?_
  walk_at "V"
  refine g_max2 hA ?_
  rw [List.length_map]
  have e : (if (if (ns.length : Int) < few then (ns.length : Int) else few) > 1 then (if (ns.length : Int) < few then (ns.length : Int) else few) else 1) = max 1 (min few ns.length) := by omega
  rw [e]
  walk_at "V"
  refine ⟨by omega, by omega, fun D hD => ⟨fun i H' => ∃ ps : List Addr, ps.length = i ∧ Purses m H H' D ps ∧ H' D = some (.lst (ps.map V.ref)), ?_, ?_, ?_⟩⟩
  · exact ⟨[], rfl, ⟨Grow.new hD, hD, SqL.of upd_same, by simp, by simp, by simp⟩, upd_same⟩
  · rintro j H' hj ⟨ps, el, P, hl⟩ X' hX'
    have c0 := nc_of hX' 0 "_law_script"
    have c2 := nl_of hX' 2 "_law_at"
    refine w_call hX' D1 (by omega) rfl ?_
    walk_at "V"
    refine ⟨a, ns, j, rfl, P.grow.seqL hs (fun z => z), by omega, by omega, fun p H2 g np pp => ?_⟩
    have hD2 := g.extN D _ hl (fun _ z => by cases z)
    have hne : D ≠ p := (New.ne np hl).symm
    refine ⟨_, hD2, by rw [List.length_map, sizeLine_eq]; omega, ps ++ [p], by simp [el], ?_, by rw [upd_same]; simp⟩
    have gX := GrowX.lst (T := m.T) (ys := ps.map V.ref ++ [V.ref p]) hD2
    have gr := P.grow.intoNew (g.to.trans gX) (fun c z => by rw [z]; exact P.isn)
    refine ⟨gr, P.isn, by rw [List.map_append]; exact SqL.of upd_same, ?_, ?_, ?_⟩
    · have := P.nd
      have hp : p ∉ ps := fun z => by
        obtain ⟨_, e⟩ := (P.purse p z).at_
        rw [np] at e; cases e
      rw [List.nodup_cons] at this ⊢
      refine ⟨fun z => ?_, List.nodup_append.2 ⟨this.2, by simp, fun x hx y hy => ?_⟩⟩
      · rcases List.mem_append.1 z with z | z
        · exact this.1 z
        · exact hne (List.mem_singleton.1 z)
      · rw [List.mem_singleton.1 hy]; exact fun z => hp (z ▸ hx)
    · intro x hx
      rcases List.mem_append.1 hx with z | z
      · exact P.new x z
      · rw [List.mem_singleton.1 z]; exact P.grow.keep _ np
    · intro x hx
      rcases List.mem_append.1 hx with z | z
      · have nx : x ≠ D := fun w => (List.nodup_cons.1 P.nd).1 (w ▸ z)
        exact ((P.purse x z).new g).x gX nx
      · rw [List.mem_singleton.1 z]; exact pp.x gX hne.symm
  · rintro H' ⟨ps, el, P, hl⟩
    exact k D ps H' P (by omega)
/-! ### the own errors -/
/-- the names of the own error classes in the law's order, the last two without a field -/
def erN : List Str := ["InvalidTerm", "InvalidRule", "NotFlat", "InvalidPath", "InvalidRows", "InvalidHours", "InvalidWhole", "InvalidCount", "InvalidName", "InvalidNames", "UnknownName", "TakenName", "InvalidRules", "InvalidBook", "Unlike", "InvalidLates", "InvalidCorners", "InvalidStair", "InvalidWindows", "InvalidSights", "Clash", "InvalidHall", "InvalidScript", "InvalidLog", "InvalidText", "StillNeeded", "NothingToUndo", "NothingToRedo", "LeafError"]
structure Ers (m : Md) (C : Nat → Addr) : Prop where
  ev : ∀ i, i < 26 → ErrV m (erN.getD i "") (C i)
  eb : ∀ i, 26 ≤ i → i < 29 → ErrB m (erN.getD i "") (C i)
  ec : ∀ i, i < 29 → ExcC m.K (C i)
  gc : ∀ i, i < 29 → m.mg (erN.getD i "") = some (.ref (C i))
  ki : ∀ i j, i < 29 → j < 28 → PySem.W.kitOne m.K (.ref (C i)) (.ref (C j)) = some (decide (i = j))
  kl : ∀ i, i < 29 → PySem.W.kitOne m.K (.ref (C i)) (.ref (C 28)) = some true
  kv : ∀ i, i < 29 → PySem.W.kitOne m.K (.ref (C i)) (.type "ValueError") = some true
/-- a list of errors of these classes that hold t -/
def ErrsAt (H : Hp) (t : V) : List V → List Addr → Prop
  | [], [] => True
  | v :: vs, c :: cs => ErrAt H v c t ∧ ErrsAt H t vs cs
  | _, _ => False
theorem ErrsAt.app {H : Hp} {t : V} : ∀ {vs ws : List V} {cs ds : List Addr}, ErrsAt H t vs cs → ErrsAt H t ws ds → ErrsAt H t (vs ++ ws) (cs ++ ds)
  | [], _, [], _, _, h => h
  | _ :: _, _, _ :: _, _, h, g => ⟨h.1, ErrsAt.app h.2 g⟩
  | [], _, _ :: _, _, h, _ => h.elim
  | _ :: _, _, [], _, h, _ => h.elim
theorem Grow.errsAt {T : List (Addr × Str)} {H H1 : Hp} {t : V} (g : Grow T H H1) : ∀ {vs : List V} {cs : List Addr}, ErrsAt H t vs cs → ErrsAt H1 t vs cs
  | [], [], h => h
  | _ :: _, _ :: _, h => ⟨g.errAt h.1, Grow.errsAt g h.2⟩
  | [], _ :: _, h => h.elim
  | _ :: _, [], h => h.elim
theorem ErrsAt.len {H : Hp} {t : V} : ∀ {vs : List V} {cs : List Addr}, ErrsAt H t vs cs → vs.length = cs.length
  | [], [], _ => rfl
  | _ :: _, _ :: _, h => congrArg (· + 1) (ErrsAt.len h.2)
  | [], _ :: _, h => h.elim
  | _ :: _, [], h => h.elim
theorem ErrsAt.get {H : Hp} {t : V} : ∀ {vs : List V} {cs : List Addr} {j : Nat} {v : V}, ErrsAt H t vs cs → vs[j]? = some v → ∃ c, cs[j]? = some c ∧ ErrAt H v c t
  | _ :: _, _ :: _, 0, _, h, e => by simp at e; subst e; exact ⟨_, rfl, h.1⟩
  | _ :: _, _ :: _, j + 1, _, h, e => by simpa using ErrsAt.get h.2 (by simpa using e)
  | [], _, _, _, _, e => by simp at e
  | _ :: _, [], _, _, h, _ => h.elim
/-- displays of errors: 0 by place, 1 by name, 2 with nothing -/
inductive MkS (m : Md) (sc : Scope) (nm : Str) : Nat → List Expr → List Addr → Prop
  | nil {w : Nat} : MkS m sc nm w [] []
  | one {x : Str} {p p2 pos : Pos} {es : List Expr} {C : Addr} {cs : List Addr} (e : ErrV m x C) (g : sc.names.lookup x = some .globalImplicit) (d : (x == ("__debug__" : Str)) = false) (r : MkS m sc nm 0 es cs) : MkS m sc nm 0 (.Call (.Name x p) [.Name nm p2] [] pos :: es) (C :: cs)
  | key {x : Str} {p p2 kp pos : Pos} {es : List Expr} {C : Addr} {cs : List Addr} (e : ErrV m x C) (g : sc.names.lookup x = some .globalImplicit) (d : (x == ("__debug__" : Str)) = false) (r : MkS m sc nm 1 es cs) : MkS m sc nm 1 (.Call (.Name x p) [] [⟨some "value", .Name nm p2, kp⟩] pos :: es) (C :: cs)
  | bare {x : Str} {p pos : Pos} {es : List Expr} {C : Addr} {cs : List Addr} (e : ErrV m x C) (g : sc.names.lookup x = some .globalImplicit) (d : (x == ("__debug__" : Str)) = false) (r : MkS m sc nm 2 es cs) : MkS m sc nm 2 (.Call (.Name x p) [] [] pos :: es) (C :: cs)
section
variable {m : Md} {N : List Str} {sc : Scope} {a k : Nat} {X : Cx} {σ : L2.St} {nm : Str} {t : V}
theorem wa_errs (h : At m N sc k X) (hk : 2 ≤ k) (hd : (nm == ("__debug__" : Str)) = false) (hc : (nm == ("__classdict__" : Str)) = false) {w : Nat} {es : List Expr} {cs : List Addr} (S : MkS m sc nm w es cs) :
    ∀ {H : Hp} {Q : List V → Hp → Prop}, (w ≠ 2 → NL N sc a nm ∧ σ[a]? = some (some t)) → (w = 2 → t = .non) → (∀ vs H', Grow m.T H H' → ErrsAt H' t vs cs → Q vs H') → wA X es σ H Q := by
  induction S with
  | nil => intro H Q _ _ q; exact w_nil (q [] H GrowX.refl trivial)
  | one e g d r ih =>
    intro H Q n z q
    obtain ⟨n1, n2⟩ := n (by decide)
    refine w_cons (w_mkE h e hk g (w_nl h n1 n2 (fun w H2 g2 e2 => ?_) hd hc) d)
    exact ih n z fun vs H' g' es' => q _ _ (g2.trans g') ⟨g'.errAt e2, es'⟩
  | key e g d r ih =>
    intro H Q n z q
    obtain ⟨n1, n2⟩ := n (by decide)
    refine w_cons (w_mkEk h e hk g (w_nl h n1 n2 (fun w H2 g2 e2 => ?_) hd hc) d)
    exact ih n z fun vs H' g' es' => q _ _ (g2.trans g') ⟨g'.errAt e2, es'⟩
  | bare e g d r ih =>
    intro H Q n z q
    have z' := z rfl
    subst z'
    refine w_cons (w_mkE0 h e hk g (fun w H2 g2 e2 => ?_) d)
    exact ih n z fun vs H' g' es' => q _ _ (g2.trans g') ⟨g'.errAt e2, es'⟩
end
/-- a list just made of a grown heap -/
theorem lst_post {T : List (Addr × Str)} {H H1 : Hp} {p : Addr} {xs : List V} (g : Grow T H H1) (h : H1 p = none) : Grow T H (upd H1 p (.lst xs)) ∧ New H p := ⟨g.trans (Grow.new h), g.keep p h⟩
def sp_first (m : Md) (C : Nat → Addr) : Sp := fun vs H Q _ => ∃ t, vs = [t] ∧ ∀ (a : Addr) (xs : List V) H', Grow m.T H H' → New H a → H' a = some (.lst xs) → ErrsAt H' t xs ((List.range 26).map C) → Q (.ref a) H'
/-- one row more: found = found + [..] -/
theorem s_more {m : Md} {N : List Str} {sc : Scope} {a b k w : Nat} {X : Cx} {σ : L2.St} {nm fo : Str} {t : V} {H0 H : Hp} {l : Addr} {xs : List V} {cs ds : List Addr} {es : List Expr} {nx : L2.St → Hp → Prop} {rt : VK} {bk ct : L2.St → Hp → Prop} {p1 p2 p3 p4 p5 : Pos}
    (h : At m N sc k X) (hk : 2 ≤ k) (hd : (nm == ("__debug__" : Str)) = false) (hc : (nm == ("__classdict__" : Str)) = false) (S : MkS m sc nm w es ds) (nf : NL N sc b fo) (hf : σ[b]? = some (some (.ref l))) (hl : H l = some (.lst xs)) (E : ErrsAt H t xs cs) (G : Grow m.T H0 H)
    (hz : cs.length + ds.length ≤ 1000) (n : w ≠ 2 → NL N sc a nm ∧ σ[a]? = some (some t)) (z : w = 2 → t = .non) (q : ∀ (p : Addr) (ys : List V) H', Grow m.T H0 H' → New H0 p → H' p = some (.lst ys) → ErrsAt H' t ys (cs ++ ds) → nx (σ.set b (some (.ref p))) H')
    (hfd : (fo == ("__debug__" : Str)) = false := by with_unfolding_all decide) (hfc : (fo == ("__classdict__" : Str)) = false := by with_unfolding_all decide)
    (hs : swapsWith (.BinOp (.Name fo p2) .Add (.List es p3) p4) (some (.Name fo p1)) p5.line X.env = pure false := by with_unfolding_all rfl) : wS X (.Assign [.Name fo p1] (.BinOp (.Name fo p2) .Add (.List es p3) p4) p5) ⟨nx, rt, bk, ct⟩ σ H := by
  refine s_nl h nf (g_bin (w_nl h nf hf (w_lst (wa_errs h hk hd hc S n z fun vs H1 g1 e1 => ?_)) hfd hfc)) hs
  have l1 := E.len
  have l2 := e1.len
  refine ⟨by rw [l2, sizeLine_eq]; omega, fun r hr => ?_⟩
  have hl1 := Grow.extN (g1.trans (Grow.new (T := m.T) (o := .lst vs) hr)) _ _ hl (fun _ z => by cases z)
  refine g_cat hl1 upd_same (by rw [l1, l2, sizeLine_eq]; omega) fun p hp => ?_
  have g3 := (G.trans g1).trans ((Grow.new (T := m.T) (o := .lst vs) hr).trans (Grow.new (T := m.T) (o := .lst (xs ++ vs)) hp))
  have g2 := (Grow.new (T := m.T) (o := .lst vs) hr).trans (Grow.new (T := m.T) (o := .lst (xs ++ vs)) hp)
  exact q p _ _ g3 (((G.trans g1).trans (Grow.new (T := m.T) (o := .lst vs) hr)).keep p hp) upd_same (ErrsAt.app (Grow.errsAt (g1.trans g2) E) (Grow.errsAt g2 e1))
theorem c_first {m : Md} {C : Nat → Addr} {f : Addr} {fd : FuncData} (R : Ers m C) (F : C8.Def m.K m.mg "_law_first" st_first f fd) (b : L2.Binds m.K fd ps_first []) : Cal m 3 "_law_first" (sp_first m C) := by
  refine cal_of F b sc_first (fun vs H Q E h => by obtain ⟨_, rfl, _⟩ := h; rfl) fun X vs H Q E hA h => ?_
  obtain ⟨t, rfl, k⟩ := h
  obtain ⟨n0, n1⟩ := nv_first
  have ev := R.ev
  walk_at "B"
  walk_at "v"
  walk_at "v"
  refine wa_errs hA (by decide) (nm := "_law_thing") (a := 0) (t := t) (w := 0) (by with_unfolding_all decide) (by with_unfolding_all decide) (.one (ev 0 (by decide)) rfl (by decide) (.one (ev 1 (by decide)) rfl (by decide) (.one (ev 2 (by decide)) rfl (by decide) (.one (ev 3 (by decide)) rfl (by decide) .nil)))) (fun _ => ⟨n0, rfl⟩) (fun z => by cases z) fun vs H1 g1 e1 => ?_
  refine ⟨by rw [e1.len, sizeLine_eq]; exact Nat.le_of_ble_eq_true rfl, fun l hl => ?_⟩
  obtain ⟨g2, nl2⟩ := lst_post (xs := vs) g1 hl
  have e2 := (Grow.new (T := m.T) (o := .lst vs) hl).errsAt e1
  have hl2 : upd H1 l (.lst vs) l = some (.lst vs) := upd_same
  generalize upd H1 l (.lst vs) = H2 at g2 e2 hl2 ⊢
  refine b_cons (s_more hA (by decide) (nm := "_law_thing") (a := 0) (t := t) (by with_unfolding_all decide) (by with_unfolding_all decide) (.one (ev 4 (by decide)) rfl (by decide) (.one (ev 5 (by decide)) rfl (by decide) (.one (ev 6 (by decide)) rfl (by decide) (.one (ev 7 (by decide)) rfl (by decide) .nil)))) n1 rfl hl2 e2 g2 (Nat.le_of_ble_eq_true rfl) (fun _ => ⟨n0, rfl⟩) (fun z => by cases z) fun p3 ys3 H3 g3 nl3 hl3 e3 => ?_)
  refine b_cons (s_more hA (by decide) (nm := "_law_thing") (a := 0) (t := t) (by with_unfolding_all decide) (by with_unfolding_all decide) (.one (ev 8 (by decide)) rfl (by decide) (.one (ev 9 (by decide)) rfl (by decide) (.one (ev 10 (by decide)) rfl (by decide) (.one (ev 11 (by decide)) rfl (by decide) .nil)))) n1 rfl hl3 e3 g3 (Nat.le_of_ble_eq_true rfl) (fun _ => ⟨n0, rfl⟩) (fun z => by cases z) fun p4 ys4 H4 g4 nl4 hl4 e4 => ?_)
  refine b_cons (s_more hA (by decide) (nm := "_law_thing") (a := 0) (t := t) (by with_unfolding_all decide) (by with_unfolding_all decide) (.one (ev 12 (by decide)) rfl (by decide) (.one (ev 13 (by decide)) rfl (by decide) (.one (ev 14 (by decide)) rfl (by decide) (.one (ev 15 (by decide)) rfl (by decide) .nil)))) n1 rfl hl4 e4 g4 (Nat.le_of_ble_eq_true rfl) (fun _ => ⟨n0, rfl⟩) (fun z => by cases z) fun p5 ys5 H5 g5 nl5 hl5 e5 => ?_)
  refine b_cons (s_more hA (by decide) (nm := "_law_thing") (a := 0) (t := t) (by with_unfolding_all decide) (by with_unfolding_all decide) (.one (ev 16 (by decide)) rfl (by decide) (.one (ev 17 (by decide)) rfl (by decide) (.one (ev 18 (by decide)) rfl (by decide) (.one (ev 19 (by decide)) rfl (by decide) .nil)))) n1 rfl hl5 e5 g5 (Nat.le_of_ble_eq_true rfl) (fun _ => ⟨n0, rfl⟩) (fun z => by cases z) fun p6 ys6 H6 g6 nl6 hl6 e6 => ?_)
  refine b_cons (s_more hA (by decide) (nm := "_law_thing") (a := 0) (t := t) (by with_unfolding_all decide) (by with_unfolding_all decide) (.one (ev 20 (by decide)) rfl (by decide) (.one (ev 21 (by decide)) rfl (by decide) (.one (ev 22 (by decide)) rfl (by decide) (.one (ev 23 (by decide)) rfl (by decide) .nil)))) n1 rfl hl6 e6 g6 (Nat.le_of_ble_eq_true rfl) (fun _ => ⟨n0, rfl⟩) (fun z => by cases z) fun p7 ys7 H7 g7 nl7 hl7 e7 => ?_)
  refine b_cons (s_more hA (by decide) (nm := "_law_thing") (a := 0) (t := t) (by with_unfolding_all decide) (by with_unfolding_all decide) (.one (ev 24 (by decide)) rfl (by decide) (.one (ev 25 (by decide)) rfl (by decide) .nil)) n1 rfl hl7 e7 g7 (Nat.le_of_ble_eq_true rfl) (fun _ => ⟨n0, rfl⟩) (fun z => by cases z) fun p8 ys8 H8 g8 nl8 hl8 e8 => ?_)
  walk_at "B"
  walk_at "V"
  exact k _ _ _ g8 nl8 hl8 e8
theorem c_named {m : Md} {C : Nat → Addr} {f : Addr} {fd : FuncData} (R : Ers m C) (F : C8.Def m.K m.mg "_law_named" st_named f fd) (b : L2.Binds m.K fd ps_named []) : Cal m 3 "_law_named" (sp_first m C) := by
  refine cal_of F b sc_named (fun vs H Q E h => by obtain ⟨_, rfl, _⟩ := h; rfl) fun X vs H Q E hA h => ?_
  obtain ⟨t, rfl, k⟩ := h
  obtain ⟨n0, n1⟩ := nv_named
  have ev := R.ev
  walk_at "B"
  walk_at "v"
  walk_at "v"
  refine wa_errs hA (by decide) (nm := "_law_thing") (a := 0) (t := t) (w := 1) (by with_unfolding_all decide) (by with_unfolding_all decide) (.key (ev 0 (by decide)) rfl (by decide) (.key (ev 1 (by decide)) rfl (by decide) (.key (ev 2 (by decide)) rfl (by decide) .nil))) (fun _ => ⟨n0, rfl⟩) (fun z => by cases z) fun vs H1 g1 e1 => ?_
  refine ⟨by rw [e1.len, sizeLine_eq]; exact Nat.le_of_ble_eq_true rfl, fun l hl => ?_⟩
  obtain ⟨g2, nl2⟩ := lst_post (xs := vs) g1 hl
  have e2 := (Grow.new (T := m.T) (o := .lst vs) hl).errsAt e1
  have hl2 : upd H1 l (.lst vs) l = some (.lst vs) := upd_same
  generalize upd H1 l (.lst vs) = H2 at g2 e2 hl2 ⊢
  refine b_cons (s_more hA (by decide) (nm := "_law_thing") (a := 0) (t := t) (by with_unfolding_all decide) (by with_unfolding_all decide) (.key (ev 3 (by decide)) rfl (by decide) (.key (ev 4 (by decide)) rfl (by decide) (.key (ev 5 (by decide)) rfl (by decide) .nil))) n1 rfl hl2 e2 g2 (Nat.le_of_ble_eq_true rfl) (fun _ => ⟨n0, rfl⟩) (fun z => by cases z) fun p3 ys3 H3 g3 nl3 hl3 e3 => ?_)
  refine b_cons (s_more hA (by decide) (nm := "_law_thing") (a := 0) (t := t) (by with_unfolding_all decide) (by with_unfolding_all decide) (.key (ev 6 (by decide)) rfl (by decide) (.key (ev 7 (by decide)) rfl (by decide) (.key (ev 8 (by decide)) rfl (by decide) .nil))) n1 rfl hl3 e3 g3 (Nat.le_of_ble_eq_true rfl) (fun _ => ⟨n0, rfl⟩) (fun z => by cases z) fun p4 ys4 H4 g4 nl4 hl4 e4 => ?_)
  refine b_cons (s_more hA (by decide) (nm := "_law_thing") (a := 0) (t := t) (by with_unfolding_all decide) (by with_unfolding_all decide) (.key (ev 9 (by decide)) rfl (by decide) (.key (ev 10 (by decide)) rfl (by decide) (.key (ev 11 (by decide)) rfl (by decide) .nil))) n1 rfl hl4 e4 g4 (Nat.le_of_ble_eq_true rfl) (fun _ => ⟨n0, rfl⟩) (fun z => by cases z) fun p5 ys5 H5 g5 nl5 hl5 e5 => ?_)
  refine b_cons (s_more hA (by decide) (nm := "_law_thing") (a := 0) (t := t) (by with_unfolding_all decide) (by with_unfolding_all decide) (.key (ev 12 (by decide)) rfl (by decide) (.key (ev 13 (by decide)) rfl (by decide) (.key (ev 14 (by decide)) rfl (by decide) .nil))) n1 rfl hl5 e5 g5 (Nat.le_of_ble_eq_true rfl) (fun _ => ⟨n0, rfl⟩) (fun z => by cases z) fun p6 ys6 H6 g6 nl6 hl6 e6 => ?_)
  refine b_cons (s_more hA (by decide) (nm := "_law_thing") (a := 0) (t := t) (by with_unfolding_all decide) (by with_unfolding_all decide) (.key (ev 15 (by decide)) rfl (by decide) (.key (ev 16 (by decide)) rfl (by decide) (.key (ev 17 (by decide)) rfl (by decide) .nil))) n1 rfl hl6 e6 g6 (Nat.le_of_ble_eq_true rfl) (fun _ => ⟨n0, rfl⟩) (fun z => by cases z) fun p7 ys7 H7 g7 nl7 hl7 e7 => ?_)
  refine b_cons (s_more hA (by decide) (nm := "_law_thing") (a := 0) (t := t) (by with_unfolding_all decide) (by with_unfolding_all decide) (.key (ev 18 (by decide)) rfl (by decide) (.key (ev 19 (by decide)) rfl (by decide) (.key (ev 20 (by decide)) rfl (by decide) .nil))) n1 rfl hl7 e7 g7 (Nat.le_of_ble_eq_true rfl) (fun _ => ⟨n0, rfl⟩) (fun z => by cases z) fun p8 ys8 H8 g8 nl8 hl8 e8 => ?_)
  refine b_cons (s_more hA (by decide) (nm := "_law_thing") (a := 0) (t := t) (by with_unfolding_all decide) (by with_unfolding_all decide) (.key (ev 21 (by decide)) rfl (by decide) (.key (ev 22 (by decide)) rfl (by decide) (.key (ev 23 (by decide)) rfl (by decide) .nil))) n1 rfl hl8 e8 g8 (Nat.le_of_ble_eq_true rfl) (fun _ => ⟨n0, rfl⟩) (fun z => by cases z) fun p9 ys9 H9 g9 nl9 hl9 e9 => ?_)
  refine b_cons (s_more hA (by decide) (nm := "_law_thing") (a := 0) (t := t) (by with_unfolding_all decide) (by with_unfolding_all decide) (.key (ev 24 (by decide)) rfl (by decide) (.key (ev 25 (by decide)) rfl (by decide) .nil)) n1 rfl hl9 e9 g9 (Nat.le_of_ble_eq_true rfl) (fun _ => ⟨n0, rfl⟩) (fun z => by cases z) fun p10 ys10 H10 g10 nl10 hl10 e10 => ?_)
  walk_at "B"
  walk_at "V"
  exact k _ _ _ g10 nl10 hl10 e10
def sp_bare (m : Md) (C : Nat → Addr) : Sp := fun vs H Q _ => vs = [] ∧ ∀ (a : Addr) (xs : List V) H', Grow m.T H H' → New H a → H' a = some (.lst xs) → ErrsAt H' .non xs ((List.range 26).map C) → Q (.ref a) H'
theorem c_bare {m : Md} {C : Nat → Addr} {f : Addr} {fd : FuncData} (R : Ers m C) (F : C8.Def m.K m.mg "_law_bare" st_bare f fd) (b : L2.Binds m.K fd ps_bare []) : Cal m 3 "_law_bare" (sp_bare m C) := by
  refine cal_of F b sc_bare (fun vs H Q E h => by obtain ⟨rfl, _⟩ := h; rfl) fun X vs H Q E hA h => ?_
  obtain ⟨rfl, k⟩ := h
  have n1 := nv_bare
  have ev := R.ev
  walk_at "B"
  walk_at "v"
  walk_at "v"
  refine wa_errs hA (by decide) (nm := "_law_found") (a := 0) (t := .non) (w := 2) (by with_unfolding_all decide) (by with_unfolding_all decide) (.bare (ev 0 (by decide)) rfl (by decide) (.bare (ev 1 (by decide)) rfl (by decide) (.bare (ev 2 (by decide)) rfl (by decide) (.bare (ev 3 (by decide)) rfl (by decide) .nil)))) (fun z => absurd rfl z) (fun _ => rfl) fun vs H1 g1 e1 => ?_
  refine ⟨by rw [e1.len, sizeLine_eq]; exact Nat.le_of_ble_eq_true rfl, fun l hl => ?_⟩
  obtain ⟨g2, nl2⟩ := lst_post (xs := vs) g1 hl
  have e2 := (Grow.new (T := m.T) (o := .lst vs) hl).errsAt e1
  have hl2 : upd H1 l (.lst vs) l = some (.lst vs) := upd_same
  generalize upd H1 l (.lst vs) = H2 at g2 e2 hl2 ⊢
  refine b_cons (s_more hA (by decide) (nm := "_law_found") (a := 0) (t := .non) (by with_unfolding_all decide) (by with_unfolding_all decide) (.bare (ev 4 (by decide)) rfl (by decide) (.bare (ev 5 (by decide)) rfl (by decide) (.bare (ev 6 (by decide)) rfl (by decide) (.bare (ev 7 (by decide)) rfl (by decide) .nil)))) n1 rfl hl2 e2 g2 (Nat.le_of_ble_eq_true rfl) (fun z => absurd rfl z) (fun _ => rfl) fun p3 ys3 H3 g3 nl3 hl3 e3 => ?_)
  refine b_cons (s_more hA (by decide) (nm := "_law_found") (a := 0) (t := .non) (by with_unfolding_all decide) (by with_unfolding_all decide) (.bare (ev 8 (by decide)) rfl (by decide) (.bare (ev 9 (by decide)) rfl (by decide) (.bare (ev 10 (by decide)) rfl (by decide) (.bare (ev 11 (by decide)) rfl (by decide) .nil)))) n1 rfl hl3 e3 g3 (Nat.le_of_ble_eq_true rfl) (fun z => absurd rfl z) (fun _ => rfl) fun p4 ys4 H4 g4 nl4 hl4 e4 => ?_)
  refine b_cons (s_more hA (by decide) (nm := "_law_found") (a := 0) (t := .non) (by with_unfolding_all decide) (by with_unfolding_all decide) (.bare (ev 12 (by decide)) rfl (by decide) (.bare (ev 13 (by decide)) rfl (by decide) (.bare (ev 14 (by decide)) rfl (by decide) (.bare (ev 15 (by decide)) rfl (by decide) .nil)))) n1 rfl hl4 e4 g4 (Nat.le_of_ble_eq_true rfl) (fun z => absurd rfl z) (fun _ => rfl) fun p5 ys5 H5 g5 nl5 hl5 e5 => ?_)
  refine b_cons (s_more hA (by decide) (nm := "_law_found") (a := 0) (t := .non) (by with_unfolding_all decide) (by with_unfolding_all decide) (.bare (ev 16 (by decide)) rfl (by decide) (.bare (ev 17 (by decide)) rfl (by decide) (.bare (ev 18 (by decide)) rfl (by decide) (.bare (ev 19 (by decide)) rfl (by decide) .nil)))) n1 rfl hl5 e5 g5 (Nat.le_of_ble_eq_true rfl) (fun z => absurd rfl z) (fun _ => rfl) fun p6 ys6 H6 g6 nl6 hl6 e6 => ?_)
  refine b_cons (s_more hA (by decide) (nm := "_law_found") (a := 0) (t := .non) (by with_unfolding_all decide) (by with_unfolding_all decide) (.bare (ev 20 (by decide)) rfl (by decide) (.bare (ev 21 (by decide)) rfl (by decide) (.bare (ev 22 (by decide)) rfl (by decide) (.bare (ev 23 (by decide)) rfl (by decide) .nil)))) n1 rfl hl6 e6 g6 (Nat.le_of_ble_eq_true rfl) (fun z => absurd rfl z) (fun _ => rfl) fun p7 ys7 H7 g7 nl7 hl7 e7 => ?_)
  refine b_cons (s_more hA (by decide) (nm := "_law_found") (a := 0) (t := .non) (by with_unfolding_all decide) (by with_unfolding_all decide) (.bare (ev 24 (by decide)) rfl (by decide) (.bare (ev 25 (by decide)) rfl (by decide) .nil)) n1 rfl hl7 e7 g7 (Nat.le_of_ble_eq_true rfl) (fun z => absurd rfl z) (fun _ => rfl) fun p8 ys8 H8 g8 nl8 hl8 e8 => ?_)
  walk_at "B"
  walk_at "V"
  exact k _ _ _ g8 nl8 hl8 e8
/-! ### which error it is -/
inductive IsS (m : Md) (sc : Scope) (C : Nat → Addr) (nm : Str) : List Expr → List Nat → Prop
  | nil : IsS m sc C nm [] []
  | cons {x : Str} {p p2 p3 pos : Pos} {es : List Expr} {j : Nat} {js : List Nat} (gj : m.mg x = some (.ref (C j))) (hj : j < 28) (g : sc.names.lookup x = some .globalImplicit) (d : (x == ("__debug__" : Str)) = false) (r : IsS m sc C nm es js) : IsS m sc C nm (.Call (.Name "isinstance" p) [.Name nm p2, .Name x p3] [] pos :: es) (j :: js)
/-- the answers -/
def isB (i : Nat) (js : List Nat) : List V := js.map fun j => V.bl (decide (i = j))
theorem isB_len (i : Nat) (js : List Nat) : (isB i js).length = js.length := by rw [isB, List.length_map]
section
variable {m : Md} {N : List Str} {sc : Scope} {a k i : Nat} {X : Cx} {σ : L2.St} {nm : Str} {v : V} {C : Nat → Addr}
theorem wa_isi (h : At m N sc k X) (R : Ers m C) (n : NL N sc a nm) (hs : σ[a]? = some (some v)) (hi : m.mg "isinstance" = none) (hg : sc.names.lookup ("isinstance" : Str) = some .globalImplicit) (h9 : i < 29) {H : Hp} (er : ErrOf H v (C i))
    {es : List Expr} {js : List Nat} (S : IsS m sc C nm es js) {Q : List V → Hp → Prop} (q : Q (isB i js) H) (hd : (nm == ("__debug__" : Str)) = false := by with_unfolding_all decide) (hc : (nm == ("__classdict__" : Str)) = false := by with_unfolding_all decide) : wA X es σ H Q := by
  induction S generalizing Q with
  | nil => exact w_nil q
  | cons gj hj g d r ih => exact w_cons (g_blt h hi hg bt_isinstance (w_cons (w_nl h n hs (w_cons (w_glb (v := .ref (C _)) h gj rfl g (w_nil (g_isE h (R.ec i h9) er (.own _) (R.ki i _ h9 hj) (ih q))) d)) hd hc)))
theorem s_moreB {H0 H : Hp} {b : Nat} {fo : Str} {l : Addr} {js ks : List Nat} {es : List Expr} {nx : L2.St → Hp → Prop} {rt : VK} {bk ct : L2.St → Hp → Prop} {p1 p2 p3 p4 p5 : Pos}
    (h : At m N sc k X) (R : Ers m C) (n : NL N sc a nm) (hs : σ[a]? = some (some v)) (hi : m.mg "isinstance" = none) (hg : sc.names.lookup ("isinstance" : Str) = some .globalImplicit) (h9 : i < 29) (er : ErrOf H v (C i)) (S : IsS m sc C nm es ks)
    (nf : NC N sc b fo) (hfn : ∀ y, X.fn y = true) (hf : σ[b]? = some (some (.ref l))) (hl : H l = some (.lst (isB i js))) (G : Grow m.T H0 H) (hz : js.length + ks.length ≤ 1000)
    (q : ∀ (p : Addr) H', Grow m.T H0 H' → New H0 p → H' p = some (.lst (isB i (js ++ ks))) → nx (σ.set b (some (.ref p))) H')
    (hd : (nm == ("__debug__" : Str)) = false := by with_unfolding_all decide) (hc : (nm == ("__classdict__" : Str)) = false := by with_unfolding_all decide)
    (hfd : (fo == ("__debug__" : Str)) = false := by with_unfolding_all decide) (hfc : (fo == ("__classdict__" : Str)) = false := by with_unfolding_all decide)
    (hsw : swapsWith (.BinOp (.Name fo p2) .Add (.List es p3) p4) (some (.Name fo p1)) p5.line X.env = pure false := by with_unfolding_all rfl) : wS X (.Assign [.Name fo p1] (.BinOp (.Name fo p2) .Add (.List es p3) p4) p5) ⟨nx, rt, bk, ct⟩ σ H := by
  refine s_nc h nf hfn (g_bin (w_nc h nf hf (w_lst (wa_isi h R n hs hi hg h9 er S ?_ hd hc)) hfd hfc)) hsw
  have e1 : (isB i js).length = js.length := by rw [isB, List.length_map]
  have e2 : (isB i ks).length = ks.length := by rw [isB, List.length_map]
  refine ⟨by rw [e2, sizeLine_eq]; omega, fun r hr => ?_⟩
  have g1 := Grow.new (T := m.T) (o := .lst (isB i ks)) hr
  refine g_cat (g1.extN _ _ hl (fun _ z => by cases z)) upd_same (by rw [e1, e2, sizeLine_eq]; omega) fun p hp => ?_
  have e3 : isB i js ++ isB i ks = isB i (js ++ ks) := by rw [isB, isB, isB, List.map_append]
  rw [e3]
  exact q p _ ((G.trans g1).trans (Grow.new hp)) ((G.trans g1).keep p hp) upd_same
end
def sp_code (m : Md) (C : Nat → Addr) : Sp := fun vs H Q _ => ∃ (v : V) (i : Nat), vs = [v] ∧ i < 29 ∧ ErrOf H v (C i) ∧ ∀ (a : Addr) H', Grow m.T H H' → New H a → H' a = some (.lst ((if i < 28 then [i] else []).map fun n : Nat => V.int n)) → Q (.ref a) H'
theorem c_code {m : Md} {C : Nat → Addr} {f : Addr} {fd : FuncData} (R : Ers m C) (F : C8.Def m.K m.mg "_law_code" st_code f fd) (b : L2.Binds m.K fd ps_code []) (hi : m.mg "isinstance" = none) (hr : m.mg "range" = none) (hlen : m.mg "len" = none) : Cal m 3 "_law_code" (sp_code m C) := by
  refine cal_ofM F b sc_code (fun vs H Q E h => by obtain ⟨_, _, rfl, _⟩ := h; rfl) fun X vs H Q E hA hM h => ?_
  obtain ⟨v, i, rfl, hi9, er, k⟩ := h
  obtain ⟨n0, n1⟩ := nv_code
  have gc := R.gc
  walk_at "B"
  refine s_nc hA n1 hM.fn (w_lst (wa_isi hA R n0 rfl hi rfl hi9 er (.cons (gc 0 (by decide)) (by decide) rfl (by decide) (.cons (gc 1 (by decide)) (by decide) rfl (by decide) (.cons (gc 2 (by decide)) (by decide) rfl (by decide) .nil))) ⟨by rw [isB_len, sizeLine_eq]; decide, fun l2 hl2n => ?_⟩))
  have g2 := Grow.new (T := m.T) (o := .lst (isB i [0, 1, 2])) hl2n
  have nl2 : New H l2 := hl2n
  have hl2 : upd H l2 (.lst (isB i [0, 1, 2])) l2 = some (.lst (isB i [0, 1, 2])) := upd_same
  generalize upd H l2 (.lst (isB i [0, 1, 2])) = H2 at g2 hl2 ⊢
  refine b_cons (s_moreB hA R n0 rfl hi rfl hi9 (g2.errOf er) (.cons (gc 3 (by decide)) (by decide) rfl (by decide) (.cons (gc 4 (by decide)) (by decide) rfl (by decide) (.cons (gc 5 (by decide)) (by decide) rfl (by decide) .nil))) n1 hM.fn rfl hl2 g2 (by decide) fun l3 H3 g3 nl3 hl3 => ?_)
  refine b_cons (s_moreB hA R n0 rfl hi rfl hi9 (g3.errOf er) (.cons (gc 6 (by decide)) (by decide) rfl (by decide) (.cons (gc 7 (by decide)) (by decide) rfl (by decide) (.cons (gc 8 (by decide)) (by decide) rfl (by decide) .nil))) n1 hM.fn rfl hl3 g3 (by decide) fun l4 H4 g4 nl4 hl4 => ?_)
  refine b_cons (s_moreB hA R n0 rfl hi rfl hi9 (g4.errOf er) (.cons (gc 9 (by decide)) (by decide) rfl (by decide) (.cons (gc 10 (by decide)) (by decide) rfl (by decide) (.cons (gc 11 (by decide)) (by decide) rfl (by decide) .nil))) n1 hM.fn rfl hl4 g4 (by decide) fun l5 H5 g5 nl5 hl5 => ?_)
  refine b_cons (s_moreB hA R n0 rfl hi rfl hi9 (g5.errOf er) (.cons (gc 12 (by decide)) (by decide) rfl (by decide) (.cons (gc 13 (by decide)) (by decide) rfl (by decide) (.cons (gc 14 (by decide)) (by decide) rfl (by decide) .nil))) n1 hM.fn rfl hl5 g5 (by decide) fun l6 H6 g6 nl6 hl6 => ?_)
  refine b_cons (s_moreB hA R n0 rfl hi rfl hi9 (g6.errOf er) (.cons (gc 15 (by decide)) (by decide) rfl (by decide) (.cons (gc 16 (by decide)) (by decide) rfl (by decide) .nil)) n1 hM.fn rfl hl6 g6 (by decide) fun l7 H7 g7 nl7 hl7 => ?_)
  refine b_cons (s_moreB hA R n0 rfl hi rfl hi9 (g7.errOf er) (.cons (gc 17 (by decide)) (by decide) rfl (by decide) .nil) n1 hM.fn rfl hl7 g7 (by decide) fun l8 H8 g8 nl8 hl8 => ?_)
  refine b_cons (s_moreB hA R n0 rfl hi rfl hi9 (g8.errOf er) (.cons (gc 18 (by decide)) (by decide) rfl (by decide) (.cons (gc 19 (by decide)) (by decide) rfl (by decide) (.cons (gc 20 (by decide)) (by decide) rfl (by decide) .nil))) n1 hM.fn rfl hl8 g8 (by decide) fun l9 H9 g9 nl9 hl9 => ?_)
  refine b_cons (s_moreB hA R n0 rfl hi rfl hi9 (g9.errOf er) (.cons (gc 21 (by decide)) (by decide) rfl (by decide) (.cons (gc 22 (by decide)) (by decide) rfl (by decide) (.cons (gc 23 (by decide)) (by decide) rfl (by decide) .nil))) n1 hM.fn rfl hl9 g9 (by decide) fun l10 H10 g10 nl10 hl10 => ?_)
  refine b_cons (s_moreB hA R n0 rfl hi rfl hi9 (g10.errOf er) (.cons (gc 24 (by decide)) (by decide) rfl (by decide) (.cons (gc 25 (by decide)) (by decide) rfl (by decide) .nil)) n1 hM.fn rfl hl10 g10 (by decide) fun l11 H11 g11 nl11 hl11 => ?_)
  refine b_cons (s_moreB hA R n0 rfl hi rfl hi9 (g11.errOf er) (.cons (gc 26 (by decide)) (by decide) rfl (by decide) (.cons (gc 27 (by decide)) (by decide) rfl (by decide) .nil)) n1 hM.fn rfl hl11 g11 (by decide) fun l12 H12 g12 nl12 hl12 => ?_)
  have hlR : H12 l12 = some (.lst (isB i (List.range 28))) := hl12
  walk_at "B"
  walk_at "V"
  refine w_lcRi hA hr rfl (by decide +kernel) (i := 2) ⟨rfl, rfl⟩ ?_
  walk_at "V"
  refine g_blt hA hlen rfl bt_len ?_
  walk_at "V"
  refine g_lenL hA (SqL.of hlR) ?_
  walk_at "V"
  rw [isB_len, List.length_range]
  refine ⟨by decide, by decide, fun D hD => ?_⟩
  have hDn : New H D := g12.keep D hD
  refine ⟨fun j H4 => Grow m.T H H4 ∧ H4 l12 = some (.lst (isB i (List.range 28))) ∧ H4 D = some (.lst (((List.range j).filter fun n => decide (i = n)).map fun n : Nat => V.int n)), ⟨g12.trans (Grow.new hD), (Grow.new (T := m.T) hD).extN _ _ hlR (fun _ z => by cases z), by rw [upd_same]; rfl⟩, ?_, ?_⟩
  · rintro j H4 hj ⟨g4, hf4, hd4⟩ X' hX'
    have c1 := nc_of hX' 1 "_law_found"
    have c2 := nl_of hX' 2 "_law_at"
    have hj : j < 28 := by simpa using hj
    walk_at "V"
    refine g_ixL hX' (SqL.of hf4) (atI_at (by rw [isB, List.getElem?_map, List.getElem?_range hj]; rfl)) ?_
    walk_at "V"
    have hlD : l12 ≠ D := fun w => by rw [w] at hlR; rw [hD] at hlR; cases hlR
    refine ite2 (fun h0 => ?_) fun h0 => ?_
    · intro X2 hX2
      have c2 := nl_of hX2 2 "_law_at"
      walk_at "V"
      refine ⟨_, hd4, by rw [List.length_map, sizeLine_eq]; have := List.length_filter_le (fun n => decide (i = n)) (List.range j); rw [List.length_range] at this; omega, Grow.intoNew g4 (GrowX.lst hd4) fun c w => by rw [w]; exact hDn, ?_, ?_⟩
      · rw [upd_ne hlD]; exact hf4
      · rw [upd_same, List.range_succ, List.filter_append, List.map_append]
        rw [show List.filter (fun n => decide (i = n)) [j] = [j] from by simp only [List.filter, h0]]
        rfl
    · refine ⟨g4, hf4, ?_⟩
      rw [hd4, List.range_succ, List.filter_append, List.map_append]
      have h1 : decide (i = j) = false := by simpa using h0
      rw [show List.filter (fun n => decide (i = n)) [j] = [] from by simp only [List.filter, h1]]
      simp
  · rintro H4 ⟨g4, hf4, hd4⟩
    refine k D H4 g4 hDn ?_
    rw [hd4]
    have key : ∀ i, i < 29 → (List.filter (fun n => decide (i = n)) (List.range 28)) = if i < 28 then [i] else [] := by decide
    rw [show ((28 : Nat) : Int).toNat = 28 from rfl, key i hi9]
theorem bt_VE : bootBuiltins "ValueError" = some (.type "ValueError") := by decide +kernel
def sp_isE (m : Md) (C : Nat → Addr) : Sp := fun vs H Q _ => ∃ (v : V) (i : Nat), vs = [v] ∧ i < 29 ∧ ErrOf H v (C i) ∧ Q (.bl true) H
theorem c_isE {m : Md} {C : Nat → Addr} {f : Addr} {fd : FuncData} (R : Ers m C) (F : C8.Def m.K m.mg "_law_is_error" st_is_error f fd) (b : L2.Binds m.K fd ps_is_error []) (hi : m.mg "isinstance" = none) (hv : m.mg "ValueError" = none) : Cal m 3 "_law_is_error" (sp_isE m C) := by
  refine cal_of F b sc_is_error (fun vs H Q E h => by obtain ⟨_, _, rfl, _⟩ := h; rfl) fun X vs H Q E hA h => ?_
  obtain ⟨v, i, rfl, hi9, er, k⟩ := h
  have n0 := nv_is_error
  walk_at "B"
  walk_at "V"
  refine g_blt hA hi rfl bt_isinstance ?_
  walk_at "V"
  refine w_glb (v := .ref (C 28)) hA (R.gc 28 (by decide)) rfl rfl ?_
  walk_at "V"
  refine g_isE hA (R.ec i hi9) er (.own _) (R.kl i hi9) ?_
  walk_at "V"
  refine iteT ?_
  walk_at "V"
  refine g_blt hA hi rfl bt_isinstance ?_
  walk_at "V"
  refine w_tyn hA hv rfl bt_VE ?_
  walk_at "V"
  refine g_isE hA (R.ec i hi9) er (.ty _) (R.kv i hi9) ?_
  exact k
/-! ### the things that the errors hold -/
/-- repr makes it -/
structure Fits (d : PyData) : Prop where
  a : d.showable = true
  b : d.shown.length ≤ sizeLine
  c : d.depth ≤ 60
theorem fits_of {d : PyData} (h1 : d.showable = true) (h2 : d.layable0 = true) (h3 : d.intsShort 13 = true) (h4 : d.depth ≤ 60) : Fits d := ⟨h1, by have := shown_le13 h2 h3; rw [sizeLine_eq]; omega, h4⟩
theorem nm_size {z : Str} (h : IsName z) : z.cps.size ≤ 8 := h.2.1
/-- data, or an empty dict -/
def Rp (K : PySem.W.Frag) (A : Addr → Prop) (H : Hp) (v : V) (d : PyData) : Prop := Da K A H v d ∨ ∃ a, v = .ref a ∧ A a ∧ H a = some (.dK []) ∧ d = .dict []
theorem g_reprT {m : Md} {N : List Str} {sc : Scope} {k : Nat} {X : Cx} (h : At m N sc k X) {A : Addr → Prop} {H : Hp} {v : V} {d : PyData} (r : Rp m.K A H v d) (f : Fits d) {Q : VK} (q : Q (.str d.shown) H) : gCall X (.builtin "repr") [v] H Q := by
  rcases r with r | ⟨a, rfl, _, ha, rfl⟩
  · exact g_repr h r.dp f.a f.b f.c q
  · refine ⟨fun vs H' Q' => vs = [.ref a] ∧ H' a = some (.dK []) ∧ Q' (.str (PyData.dict []).shown) H', ?_, rfl, ha, q⟩
    intro pins s σ H' vs us Q' I rv ⟨e1, ha', q'⟩
    subst e1
    obtain ⟨u, rfl, ru⟩ := vals1 rv
    obtain rfl : u = Value.ref a := ru
    obtain ⟨_, hy, ws, kv, o, es, ep, e1, e2, e3, e4⟩ := (show ObjOk X.prog X.w H' s.heap a (.dK []) from I.hok a _ ha')
    cases kv
    have e5 : es.toList = [] := by
      obtain ⟨_, pr, _⟩ := e4
      generalize es.toList = l at pr
      cases pr
      rfl
    have rd : Reads s.heap (.ref a) (.dict []) [a] := .dict (kvs := []) (as := []) (bs := []) e1 e2.1 e3 (by rw [e5]; exact ReadsAll.nil) (by rw [e5]; exact ReadsAll.nil)
    have hu := h.room.units
    refine repr_of_reads' rd f.a (fun _ w => ?_) h.gd (by show X.A.units + (0 + 1 + 1) < cLine; omega) (fun _ _ e => e) (fun h' u' tk kp => ⟨.str (PyData.dict []).shown, H', I.kept kp, ⟨_, rfl⟩, q'⟩) f.b
    have := List.mem_singleton.1 w
    rw [this] at hy
    simp at hy
theorem strOk_nm {z : Str} (h : IsName z) : PyData.strOk z = true := by
  unfold PyData.strOk
  rw [Array.all_eq_true']
  intro c hc
  have := h.2.2 c (by simpa using hc)
  simp; omega
theorem strOk_l : PyData.strOk "later" = true := by decide +kernel
theorem sz_l : ("later" : Str).cps.size ≤ 8 := by decide +kernel
theorem fits_l1 {z : Str} (h : IsName z) : Fits (.list [.str z]) := by
  have e1 := nm_size h
  have e2 := strOk_nm h
  refine fits_of (by simp [PyData.showable, PyData.showableAll]) ?_ (by simp [PyData.intsShort, PyData.intsShortAll]) (by simp [PyData.depth, PyData.depthAll])
  simp [PyData.layable0, PyData.canLay0, PyData.canLayAll0, PyData.depth, PyData.depthAll, PyData.weight, PyData.weightAll, e2]; omega
theorem fits_l1' {z : Str} (h : IsName z) : Fits (.list ([.str z] ++ [.str "later"])) := by
  have e1 := nm_size h
  have e2 := strOk_nm h
  have e3 := sz_l
  refine fits_of (by simp [PyData.showable, PyData.showableAll]) ?_ (by simp [PyData.intsShort, PyData.intsShortAll]) (by simp [PyData.depth, PyData.depthAll])
  simp [PyData.layable0, PyData.canLay0, PyData.canLayAll0, PyData.depth, PyData.depthAll, PyData.weight, PyData.weightAll, e2, strOk_l]; omega
theorem shI1 : ((PyData.int 1).shown).length ≤ 13 := PyData.shown_int_le (by decide)
theorem fits_t1 {z : Str} (h : IsName z) : Fits (.tuple [.str z, .int 1]) := by
  have e1 := nm_size h
  have e2 := strOk_nm h
  have e3 : Nat.log2 1 = 0 := by decide +kernel
  refine fits_of (by simp [PyData.showable, PyData.showableAll, e3]) ?_ (by simp [PyData.intsShort, PyData.intsShortAll]; exact PyData.shown_int_le (by decide)) (by simp [PyData.depth, PyData.depthAll])
  simp [PyData.layable0, PyData.canLay0, PyData.canLayAll0, PyData.depth, PyData.depthAll, PyData.weight, PyData.weightAll, e2, e3]; omega
theorem fits_s {z : Str} (h : IsName z) : Fits (.str z) := by
  have e1 := nm_size h
  have e2 := strOk_nm h
  refine fits_of (by simp [PyData.showable]) ?_ (by simp [PyData.intsShort]) (by simp [PyData.depth])
  simp [PyData.layable0, PyData.canLay0, PyData.depth, PyData.weight, e2]
  exact decide_eq_true (Nat.le_trans e1 (by decide))
theorem fits_l6 {z : Str} (h : IsName z) : Fits (.list [.tuple [.str z, .list []]]) := by
  have e1 := nm_size h
  have e2 := strOk_nm h
  refine fits_of (by simp [PyData.showable, PyData.showableAll]) ?_ (by simp [PyData.intsShort, PyData.intsShortAll]) (by simp [PyData.depth, PyData.depthAll])
  simp [PyData.layable0, PyData.canLay0, PyData.canLayAll0, PyData.depth, PyData.depthAll, PyData.weight, PyData.weightAll, e2]; omega
theorem fits_l6' {z : Str} (h : IsName z) : Fits (.list ([.tuple [.str z, .list []]] ++ [.str "later"])) := by
  have e1 := nm_size h
  have e2 := strOk_nm h
  have e3 := sz_l
  refine fits_of (by simp [PyData.showable, PyData.showableAll]) ?_ (by simp [PyData.intsShort, PyData.intsShortAll]) (by simp [PyData.depth, PyData.depthAll])
  simp [PyData.layable0, PyData.canLay0, PyData.canLayAll0, PyData.depth, PyData.depthAll, PyData.weight, PyData.weightAll, e2, strOk_l]; omega
theorem fits_l7 {z : Str} (h : IsName z) : Fits (.list [.list [.str z, .tuple []]]) := by
  have e1 := nm_size h
  have e2 := strOk_nm h
  refine fits_of (by simp [PyData.showable, PyData.showableAll]) ?_ (by simp [PyData.intsShort, PyData.intsShortAll]) (by simp [PyData.depth, PyData.depthAll])
  simp [PyData.layable0, PyData.canLay0, PyData.canLayAll0, PyData.depth, PyData.depthAll, PyData.weight, PyData.weightAll, e2]; omega
theorem fits_l7' {z : Str} (h : IsName z) : Fits (.list ([.list [.str z, .tuple []]] ++ [.str "later"])) := by
  have e1 := nm_size h
  have e2 := strOk_nm h
  have e3 := sz_l
  refine fits_of (by simp [PyData.showable, PyData.showableAll]) ?_ (by simp [PyData.intsShort, PyData.intsShortAll]) (by simp [PyData.depth, PyData.depthAll])
  simp [PyData.layable0, PyData.canLay0, PyData.canLayAll0, PyData.depth, PyData.depthAll, PyData.weight, PyData.weightAll, e2, strOk_l]; omega
theorem fits_n : Fits .none := by exact fits_of (by decide +kernel) (by decide +kernel) (by decide +kernel) (by decide +kernel)
theorem fits_b (b : Bool) : Fits (.bool b) := by cases b <;> exact fits_of (by decide +kernel) (by decide +kernel) (by decide +kernel) (by decide +kernel)
theorem fits_0 : Fits (.int 0) := by exact fits_of (by decide +kernel) (by decide +kernel) (by decide +kernel) (by decide +kernel)
theorem fits_e : Fits (.str "") := by exact fits_of (by decide +kernel) (by decide +kernel) (by decide +kernel) (by decide +kernel)
theorem fits_li : Fits (.list []) := by exact fits_of (by decide +kernel) (by decide +kernel) (by decide +kernel) (by decide +kernel)
theorem fits_li' : Fits (.list ([] ++ [.str "later"])) := by exact fits_of (by decide +kernel) (by decide +kernel) (by decide +kernel) (by decide +kernel)
theorem fits_tu : Fits (.tuple []) := by exact fits_of (by decide +kernel) (by decide +kernel) (by decide +kernel) (by decide +kernel)
theorem fits_d : Fits (.dict []) := ⟨by decide +kernel, by rw [sizeLine_eq]; decide +kernel, by decide +kernel⟩
theorem Da.tyx {K : PySem.W.Frag} {A : Addr → Prop} {H : Hp} {v : V} {d : PyData} (h : Da K A H v d) : TyX K H v (.type (tyD d)) := by
  cases h with
  | non => exact .base .non
  | bl b => exact .base (.bl b)
  | int i => exact .base (.int i)
  | str x => exact .base (.str x)
  | lst _ s _ => exact tyx_lst s
  | tup s _ => exact tyx_tup s
theorem Rp.tyx {K : PySem.W.Frag} {A : Addr → Prop} {H : Hp} {v : V} {d : PyData} (h : Rp K A H v d) : TyX K H v (.type (tyD d)) := by
  rcases h with h | ⟨a, rfl, _, ha, rfl⟩
  · exact h.tyx
  · exact .base (.dK ha)
theorem Rp.grow {T : List (Addr × Str)} {S : Addr → Prop} {K : PySem.W.Frag} {A : Addr → Prop} {H H1 : Hp} {v : V} {d : PyData} (h : Rp K A H v d) (g : GrowX T S H H1) (n : ∀ b, A b → ¬ S b) : Rp K A H1 v d := by
  rcases h with h | ⟨a, e, aa, ha, e2⟩
  · exact .inl (g.da h n)
  · exact .inr ⟨a, e, aa, g.ext a _ (n a aa) ha (fun _ z => by cases z), e2⟩
/-- what the law hands to the errors: a list that may change, or another thing -/
def Thing (m : Md) (A : Addr → Prop) (H : Hp) (v : V) (d : PyData) : Prop := Fits d ∧
  ((∃ a xs ds, v = .ref a ∧ d = .list ds ∧ A a ∧ H a = some (.lst xs) ∧ DaAll m.K (fun b => A b ∧ b ≠ a) H xs ds ∧ xs.length < 1000 ∧ Fits (.list (ds ++ [.str "later"]))) ∨ (isIn "list" d = false ∧ Rp m.K A H v d))
theorem Thing.rp {m : Md} {A : Addr → Prop} {H : Hp} {v : V} {d : PyData} (h : Thing m A H v d) : Rp m.K A H v d := by
  obtain ⟨_, ⟨a, xs, ds, rfl, rfl, aa, ha, hd, _⟩ | ⟨_, h⟩⟩ := h
  · exact .inl (.lst aa (SqL.of ha) (hd.sub fun b z => z.1))
  · exact h
theorem Thing.grow {m : Md} {T : List (Addr × Str)} {S A : Addr → Prop} {H H1 : Hp} {v : V} {d : PyData} (h : Thing m A H v d) (g : GrowX T S H H1) (n : ∀ b, A b → ¬ S b) : Thing m A H1 v d := by
  obtain ⟨f, ⟨a, xs, ds, e1, e2, aa, ha, hd, hl, f2⟩ | ⟨e, h⟩⟩ := h
  · exact ⟨f, .inl ⟨a, xs, ds, e1, e2, aa, g.ext a _ (n a aa) ha (fun _ z => by cases z), g.daAll hd fun b z => n b z.1, hl, f2⟩⟩
  · exact ⟨f, .inr ⟨e, h.grow g n⟩⟩
theorem Thing.growN {m : Md} {T : List (Addr × Str)} {A : Addr → Prop} {H H1 : Hp} {v : V} {d : PyData} (h : Thing m A H v d) (g : Grow T H H1) : Thing m A H1 v d := h.grow g fun _ _ z => z
theorem Thing.oth {m : Md} {A : Addr → Prop} {H : Hp} {v : V} {d : PyData} (r : Da m.K A H v d) (f : Fits d) (e : isIn "list" d = false) : Thing m A H v d := ⟨f, .inr ⟨e, .inl r⟩⟩
/-- each of these is such a thing -/
def Things (m : Md) (A : Addr → Prop) (H : Hp) : List V → Prop
  | [] => True
  | v :: vs => (∃ d, Thing m A H v d) ∧ Things m A H vs
theorem Things.get {m : Md} {A : Addr → Prop} {H : Hp} : ∀ {vs : List V} {j : Nat} {v : V}, Things m A H vs → vs[j]? = some v → ∃ d, Thing m A H v d
  | [], _, _, _, e => by simp at e
  | _ :: _, 0, _, h, e => by simp at e; subst e; exact h.1
  | _ :: _, j + 1, _, h, e => Things.get h.2 (by simpa using e)
theorem Things.growN {m : Md} {T : List (Addr × Str)} {A : Addr → Prop} {H H1 : Hp} (g : Grow T H H1) : ∀ {vs : List V}, Things m A H vs → Things m A H1 vs
  | [], _ => trivial
  | _ :: _, h => ⟨h.1.imp fun _ z => z.growN g, Things.growN g h.2⟩
theorem GrowX.errsAt {T : List (Addr × Str)} {S : Addr → Prop} {H H1 : Hp} {t : V} (g : GrowX T S H H1) (n : ∀ a, S a → (∃ xs, H a = some (.lst xs)) ∨ H a = none) : ∀ {vs : List V} {cs : List Addr}, ErrsAt H t vs cs → ErrsAt H1 t vs cs
  | [], [], h => h
  | _ :: _, _ :: _, h => ⟨GrowX.errAt g h.1 n, GrowX.errsAt g n h.2⟩
  | [], _ :: _, h => h.elim
  | _ :: _, [], h => h.elim
theorem ErrsAt.at {H : Hp} {t : V} {C : Nat → Addr} {vs : List V} {j : Nat} {v : V} (h : ErrsAt H t vs ((List.range 26).map C)) (e : vs[j]? = some v) : j < 26 ∧ ErrAt H v (C j) t := by
  obtain ⟨c, hc, he⟩ := h.get e
  have l := h.len
  rw [List.length_map, List.length_range] at l
  have hj : j < 26 := by rw [← l]; exact (List.getElem?_eq_some_iff.1 e).1
  rw [List.getElem?_map, List.getElem?_range hj] at hc
  cases hc
  exact ⟨hj, he⟩
/-- xs.pop() -/
theorem g_popL {X : Cx} {o : Expr} {σ : L2.St} {H : Hp} {Q : VK} {pos apos : Pos} (q : wE X o σ H fun x H1 => tyV X.K "list" x H1 ∧ rPop x [] H1 Q) (hbase : attributeBase o "pop" X.env (eval o X.env) = eval o X.env := by with_unfolding_all rfl) (hline : (apos.endLine == pos.line) = true := by with_unfolding_all rfl) :
    wE X (.Call (.Attribute o "pop" apos) [] [] pos) σ H Q := toE (pe_bm0 PySem.F.plainAttrs_list PySem.F.slot_list_pop PySem.F.type_list_pop mt_pop cE hbase hline) q
/-! ### all of them right -/
theorem w26_eqv : PyData.eqv (.list ((List.range 26).map fun n : Nat => PyData.list [.int n])) (.list ((List.range 26).map fun n : Nat => PyData.list [.int n])) = true := by decide +kernel
theorem w26_shaped : SeqAt.shaped (.list ((List.range 26).map fun n : Nat => PyData.list [.int n])) = true := by decide +kernel
def sp_right (m : Md) (C : Nat → Addr) : Sp := fun vs H Q _ => ∃ (l : Addr) (xs : List V) (v : V) (d : PyData) (A : Addr → Prop), vs = [.ref l, .str d.shown] ∧ H l = some (.lst xs) ∧ ErrsAt H v xs ((List.range 26).map C) ∧ Rp m.K A H v d ∧ Fits d ∧ ∀ H', Grow m.T H H' → Q (.bl true) H'
theorem c_right {m : Md} {C : Nat → Addr} {f : Addr} {fd : FuncData} (R : Ers m C) (F : C8.Def m.K m.mg "_law_right" st_right f fd) (b : L2.Binds m.K fd ps_right []) (hr : m.mg "range" = none) (hrepr : m.mg "repr" = none) (Co : Cal m 3 "_law_code" (sp_code m C)) (Ie : Cal m 3 "_law_is_error" (sp_isE m C)) : Cal m 4 "_law_right" (sp_right m C) := by
  refine cal_ofM F b sc_right (fun vs H Q E h => by obtain ⟨_, _, _, _, _, rfl, _⟩ := h; rfl) fun X vs H Q E hA hM h => ?_
  obtain ⟨l, xs, v, d, A, rfl, hl, es, rp, ft, k⟩ := h
  replace hA : At m nl_right (C8.fnScope st_right) 3 X := hA
  obtain ⟨n0, n1⟩ := nv_right
  have elen := es.len
  rw [List.length_map, List.length_range] at elen
  walk_at "B"
  walk_at "V"
  refine w_lcL hA (by decide +kernel) (i := 2) ⟨rfl, rfl⟩ ?_
  walk_at "V"
  refine ⟨l, xs, rfl, SqL.of hl, fun D hD => ?_⟩
  have hDn : New H D := hD
  refine ⟨fun j H4 => Grow m.T H H4 ∧ ∃ ys, H4 D = some (.lst ys) ∧ DaAll m.K (· ≠ D) H4 ys ((List.range j).map fun n : Nat => PyData.list [.int n]), ⟨Grow.new hD, [], upd_same, .nil⟩, ?_, ?_, ?_⟩
  · rintro j H4 _ ⟨g, _⟩
    exact SqL.of (g.extN _ _ hl (fun _ z => by cases z))
  · rintro j x H4 hx ⟨g4, ys, hd4, dy⟩ X' hX'
    obtain ⟨hj, ej⟩ := es.at hx
    have c2 := nl_of hX' 2 "_law_error"
    refine w_call hX' Co (by omega) rfl ?_
    walk_at "V"
    refine ⟨x, j, rfl, by omega, .inl ⟨v, g4.errAt ej⟩, fun a H5 g5 na ha => ?_⟩
    rw [if_pos (show j < 28 by omega)] at ha
    have hd5 := g5.extN _ _ hd4 (fun _ z => by cases z)
    have hly := dy.length
    rw [List.length_map, List.length_range] at hly
    have haD : a ≠ D := fun w => by rw [w] at na; rw [show H4 D = none from na] at hd4; cases hd4
    refine ⟨ys, hd5, by rw [hly, sizeLine_eq]; omega, Grow.intoNew (g4.trans g5) (GrowX.lst hd5) fun c w => by rw [w]; exact hDn, ys ++ [.ref a], upd_same, ?_⟩
    rw [List.range_succ, List.map_append]
    have gl := GrowX.lst (T := m.T) (ys := ys ++ [.ref a]) hd5
    refine DaAll.append (gl.daAll (Grow.daAll g5 dy) fun b z => z) (.cons (.lst haD (SqL.of (xs := [.int j]) ?_) (.cons (.int _) .nil)) .nil)
    rw [upd_ne haD]
    exact ha
  rintro H4 ⟨g4, ys, hd4, dy⟩
  rw [elen] at dy
  refine w_lcR hA hr rfl (by decide +kernel) (i := 3) ⟨rfl, rfl⟩ ?_
  walk_at "V"
  refine ⟨by decide, by decide, fun D2 hD2 => ?_⟩
  have hDn2 : New H4 D2 := hD2
  refine ⟨fun j H5 => Grow m.T H4 H5 ∧ ∃ zs, H5 D2 = some (.lst zs) ∧ DaAll m.K (· ≠ D2) H5 zs ((List.range j).map fun n : Nat => PyData.list [.int n]), ⟨Grow.new hD2, [], upd_same, .nil⟩, ?_, ?_⟩
  · rintro j H5 hj ⟨g5, zs, hd5, dz⟩ X' hX'
    have c3 := nl_of hX' 3 "_law_at"
    walk_at "V"
    refine ⟨by walk_at "S", fun a ha => ?_⟩
    have g6 := Grow.new (T := m.T) (o := .lst [.int j]) ha
    have hd6 := g6.extN _ _ hd5 (fun _ z => by cases z)
    have haD : a ≠ D2 := fun w => by rw [w] at ha; rw [ha] at hd5; cases hd5
    have hly := dz.length
    rw [List.length_map, List.length_range] at hly
    have hj : j < 26 := by simpa using hj
    refine ⟨zs, hd6, by rw [hly, sizeLine_eq]; omega, Grow.intoNew (g5.trans g6) (GrowX.lst hd6) fun c w => by rw [w]; exact hDn2, zs ++ [.ref a], upd_same, ?_⟩
    rw [List.range_succ, List.map_append]
    have gl := GrowX.lst (T := m.T) (ys := zs ++ [.ref a]) hd6
    refine DaAll.append (gl.daAll (Grow.daAll g6 dz) fun b z => z) (.cons (.lst haD (SqL.of (xs := [.int j]) ?_) (.cons (.int _) .nil)) .nil)
    rw [upd_ne haD]
    exact upd_same
  rintro H5 ⟨g5, zs, hd5, dz⟩
  rw [show ((26 : Int)).toNat = 26 from rfl] at dz
  have dy5 := Grow.daAll g5 dy
  have hd45 := g5.extN _ _ hd4 (fun _ z => by cases z)
  refine g_neD hA (Dp.lst (SqL.of hd45) (DaAll.dp _ _ dy5)) (Dp.lst (SqL.of hd5) (DaAll.dp _ _ dz)) w26_shaped w26_shaped ?_
  rw [w26_eqv]
  walk_at "V"
  refine iteF (b_nil ?_)
  have g45 := g4.trans g5
  have hl5 := Grow.extN g45 _ _ hl (fun _ z => by cases z)
  have es5 := Grow.errsAt g45 es
  walk_at "B"
  walk_at "V"
  refine w_lcLi hA (by decide +kernel) (i := 2) ⟨rfl, rfl⟩ ?_
  walk_at "V"
  refine ⟨l, xs, rfl, SqL.of hl5, fun D3 hD3 => ?_⟩
  refine ⟨fun j H6 => Grow m.T H5 H6 ∧ H6 D3 = some (.lst []), ⟨Grow.new hD3, upd_same⟩, ?_, ?_, ?_⟩
  · rintro j H6 _ ⟨g, _⟩
    exact SqL.of (g.extN _ _ hl5 (fun _ z => by cases z))
  · rintro j x H6 hx ⟨g6, hd6⟩ X' hX'
    obtain ⟨hj, ej⟩ := es5.at hx
    have ej6 := g6.errAt ej
    have c1 := nc_of hX' 1 "_law_noted"
    have c2 := nl_of hX' 2 "_law_error"
    walk_at "V"
    refine w_call hX' Ie (by omega) rfl ?_
    walk_at "V"
    refine ⟨x, j, rfl, by omega, .inl ⟨v, ej6⟩, ?_⟩
    walk_at "V"
    refine iteF ?_
    walk_at "V"
    refine g_blt hX' hrepr rfl bt_repr ?_
    walk_at "V"
    refine w_errF hX' (R.ev j hj).xf (R.ev j hj).no ?_
    walk_at "V"
    refine ⟨v, ej6, ?_⟩
    walk_at "V"
    refine g_reprT hX' (A := A) (rp.grow (GrowX.trans g45 g6) fun _ _ z => z) ft ?_
    walk_at "V"
    rw [show (!decide (d.shown = d.shown)) = false from by simp]
    exact iteF ⟨g6, hd6⟩
  rintro H6 ⟨g6, hd6⟩
  walk_at "V"
  refine ⟨by walk_at "S", fun e7 he7 => ?_⟩
  have g7 := Grow.new (T := m.T) (o := .lst []) he7
  refine g_eqD hA (Dp.lst (SqL.of (g7.extN _ _ hd6 (fun _ z => by cases z))) .nil) (Dp.lst (SqL.of upd_same) .nil) rfl rfl ?_
  exact k _ ((g45.trans g6).trans g7)
/-! ### the law -/
/-- a drawn thing, some lists of errors that hold it -/
def sp_law (m : Md) : Sp := fun vs H Q _ => ∃ (a : Addr) (ns : List Int), vs = [.ref a] ∧ SqL m.K H a (ns.map V.int) ∧ ns.length < 1000 ∧ Tabs m.T H ∧ ∀ H', Q (.bl true) H'
theorem f_law {m : Md} {C : Nat → Addr} {f : Addr} {fd : FuncData} (R : Ers m C) (F : C8.Fun m.K "law" "law" st_law f fd) (hdict : m.mg "dict" = none) (hlist : m.mg "list" = none) (hi : m.mg "isinstance" = none) (hrepr : m.mg "repr" = none)
    (Pu : Cal m 2 "_law_purses" (sp_purses m)) (Wo : Cal m 3 "_law_word" (sp_word m)) (On : Cal m 3 "_law_one_of" (sp_one_of m)) (Fi : Cal m 3 "_law_first" (sp_first m C)) (Na : Cal m 3 "_law_named" (sp_first m C)) (Ba : Cal m 3 "_law_bare" (sp_bare m C))
    (Co : Cal m 3 "_law_code" (sp_code m C)) (Ie : Cal m 3 "_law_is_error" (sp_isE m C)) (Ri : Cal m 4 "_law_right" (sp_right m C)) : FnG m C8.CX0 6 f fd ps_law (sp_law m) := by
  refine fnG_of F sc_law (fun vs H Q E h => by obtain ⟨_, _, rfl, _⟩ := h; rfl) fun X vs H Q E hA hM h => ?_
  obtain ⟨a, ns, rfl, hs, hn, hT, k⟩ := h
  replace hA : At m nl_law (C8.fnScope st_law) 5 X := hA
  obtain ⟨n0, n1, n2, n3, n4, n5, n6⟩ := nv_law
  walk_at "B"
  refine s_forL hA (pg_nl hA n1) ?_
  refine w_call hA Pu (by omega) rfl ?_
  walk_at "V"
  refine ⟨a, ns, 3, rfl, hs, hn, by omega, by omega, fun r ps H1 P hl => ?_⟩
  have hrp : ∀ q ∈ ps, r ≠ q := fun q hq w => (List.nodup_cons.1 P.nd).1 (w ▸ hq)
  have hnd := (List.nodup_cons.1 P.nd).2
  refine ⟨r, ps.map V.ref, rfl, P.seq, fun j (σ : L2.St) H' => σ = [some (.ref a), σ.getD 1 none, σ.getD 2 none, σ.getD 3 none, σ.getD 4 none, none, σ.getD 6 none, none] ∧ GrowX m.T (· ∈ ps) H1 H' ∧ ∀ q ∈ ps.drop j, Purse H' q 0, ?_, ?_, ?_, ?_⟩
  · exact ⟨rfl, GrowX.refl, fun q hq => P.purse q (by simpa using hq)⟩
  · rintro j σ H' _ ⟨_, gg, _⟩
    exact gg.seqL P.seq fun z => hrp r z rfl
  · rintro j x σ H' hx ⟨es, gg, hp⟩
    rw [List.getElem?_map] at hx
    obtain ⟨q, hq, rfl⟩ := Option.map_eq_some_iff.1 hx
    have hj : j < ps.length := (List.getElem?_eq_some_iff.1 hq).1
    have ed : ps.drop j = q :: ps.drop (j + 1) := by
      rw [List.drop_eq_getElem_cons hj, (List.getElem?_eq_some_iff.1 hq).2]
    have hqm := List.mem_of_getElem? hq
    have hpq := hp q (by rw [ed]; simp)
    have done : ∀ (HZ : Hp) (σ' : L2.St), σ' = [some (.ref a), σ'.getD 1 none, σ'.getD 2 none, σ'.getD 3 none, σ'.getD 4 none, none, σ'.getD 6 none, none] → GrowX m.T (· = q) H' HZ → σ' = [some (.ref a), σ'.getD 1 none, σ'.getD 2 none, σ'.getD 3 none, σ'.getD 4 none, none, σ'.getD 6 none, none] ∧ GrowX m.T (· ∈ ps) H1 HZ ∧ ∀ q ∈ ps.drop (j + 1), Purse HZ q 0 := by
      intro HZ σ' e g
      refine ⟨e, gg.trans (g.weak fun b z => by rw [z]; exact hqm), fun y hy => ?_⟩
      have hnd2 : (q :: ps.drop (j + 1)).Nodup := by rw [← ed]; exact hnd.sublist (List.drop_sublist _ _)
      exact (hp y (by rw [ed]; simp [hy])).x g fun z => (List.nodup_cons.1 hnd2).1 (z ▸ hy)
    rw [es]
    walk_at "B"
    walk_at "V"
    refine w_call hA Wo (by omega) rfl ?_
    walk_at "V"
    refine ⟨q, 0, rfl, hpq, by omega, fun z H2 nz d2 => ?_⟩
    have nw2 : ∀ {b : Addr}, New H2 b → New H' b := fun hb => d2.grow.keep _ hb
    -- the falses
    walk_at "B"
    walk_at "V"
    refine ⟨by walk_at "S", fun f2 hf2 => ?_⟩
    have g2 := Grow.new (T := m.T) (o := .lst []) hf2
    have t2 : Thing m (New H') (upd H2 f2 (.lst [])) (.ref f2) (.list []) := ⟨fits_li, .inl ⟨f2, [], [], rfl, rfl, nw2 hf2, upd_same, .nil, by decide, fits_li'⟩⟩
    generalize upd H2 f2 (.lst []) = H3 at g2 t2 ⊢
    walk_at "V"
    refine ⟨by walk_at "S", fun f4 hf4 => ?_⟩
    have g3 := Grow.new (T := m.T) (o := .tup []) hf4
    have t4 : Thing m (New H') (upd H3 f4 (.tup [])) (.ref f4) (.tuple []) := .oth (.tup (SqT.of upd_same) .nil) fits_tu rfl
    generalize upd H3 f4 (.tup []) = H4 at g3 t4 ⊢
    walk_at "V"
    refine g_typ hA hdict rfl bt_dict ?_
    walk_at "V"
    refine ⟨by walk_at "S", fun e5 he5 => ?_⟩
    have g4 := Grow.new (T := m.T) (o := .lst []) he5
    walk_at "V"
    refine ⟨_, call_dictP hA.calm, e5, [], [], rfl, SqL.of upd_same, .nil, fun f5 hf5 => ?_⟩
    have g5 := Grow.new (T := m.T) (o := .dK []) hf5
    have g45 := g4.trans g5
    have nw4 : ∀ {b : Addr}, New H4 b → New H' b := fun hb => nw2 ((g2.trans g3).keep _ hb)
    have t5 : Thing m (New H') (upd (upd H4 e5 (.lst [])) f5 (.dK [])) (.ref f5) (.dict []) := ⟨fits_d, .inr ⟨rfl, .inr ⟨f5, rfl, nw4 (g4.keep _ hf5), upd_same, rfl⟩⟩⟩
    show _
    rw [show mergeK ([] : List (Key × V)) [] = [] from rfl]
    generalize upd (upd H4 e5 (.lst [])) f5 (.dK []) = H5 at g45 t5 ⊢
    walk_at "V"
    refine ⟨by walk_at "S", fun fl hfl => ?_⟩
    have g6 := Grow.new (T := m.T) (o := .lst [.int 0, .str "", .ref f2, .bl false, .ref f4, .ref f5]) hfl
    have hF := upd_same (H := H5) (a := fl) (o := .lst [.int 0, .str "", .ref f2, .bl false, .ref f4, .ref f5])
    have tF : Things m (New H') (upd H5 fl (.lst [.int 0, .str "", .ref f2, .bl false, .ref f4, .ref f5])) [.int 0, .str "", .ref f2, .bl false, .ref f4, .ref f5] :=
      ⟨⟨_, .oth (.int 0) fits_0 rfl⟩, ⟨_, .oth (.str "") fits_e rfl⟩, ⟨_, t2.growN ((g3.trans g45).trans g6)⟩, ⟨_, .oth (.bl false) (fits_b _) rfl⟩, ⟨_, t4.growN (g45.trans g6)⟩, ⟨_, t5.growN g6⟩, trivial⟩
    have g26 := ((g2.trans g3).trans g45).trans g6
    generalize upd H5 fl (.lst [.int 0, .str "", .ref f2, .bl false, .ref f4, .ref f5]) = H6 at hF tF g26 ⊢
    have nw6 : ∀ {b : Addr}, New H6 b → New H' b := fun hb => nw2 (g26.keep _ hb)
    clear t2 t4 t5 g6 g45 g5 g4 g3 g2
    walk_at "B"
    refine s_nc hA n6 hM.fn (w_call hA On (by omega) rfl ?_)
    walk_at "V"
    refine ⟨by walk_at "S", fun p1 hp1 => ?_⟩
    have g7 := Grow.new (T := m.T) (o := .lst [.str z]) hp1
    have t7 : Thing m (New H') (upd H6 p1 (.lst [.str z])) (.ref p1) (.list [.str z]) := ⟨fits_l1 nz, .inl ⟨p1, [.str z], [.str z], rfl, rfl, nw6 hp1, upd_same, .cons (.str z) .nil, by simp, fits_l1' nz⟩⟩
    generalize upd H6 p1 (.lst [.str z]) = H7 at g7 t7 ⊢
    walk_at "V"
    refine ⟨by walk_at "S", fun p2 hp2 => ?_⟩
    have g8 := Grow.new (T := m.T) (o := .tup [.str z, .int 1]) hp2
    have t8 : Thing m (New H') (upd H7 p2 (.tup [.str z, .int 1])) (.ref p2) (.tuple [.str z, .int 1]) := .oth (.tup (SqT.of upd_same) (.cons (.str z) (.cons (.int 1) .nil))) (fits_t1 nz) rfl
    generalize upd H7 p2 (.tup [.str z, .int 1]) = H8 at g8 t8 ⊢
    walk_at "V"
    refine ⟨by walk_at "S", fun p3 hp3 => ?_⟩
    have g9 := Grow.new (T := m.T) (o := .lst []) hp3
    have nw8 : ∀ {b : Addr}, New H8 b → New H' b := fun hb => nw6 ((g7.trans g8).keep _ hb)
    have i9 := upd_same (H := H8) (a := p3) (o := .lst [])
    generalize upd H8 p3 (.lst []) = H9 at g9 i9 ⊢
    walk_at "V"
    refine ⟨by walk_at "S", fun p4 hp4 => ?_⟩
    have g10 := Grow.new (T := m.T) (o := .tup [.str z, .ref p3]) hp4
    have i10 := upd_same (H := H9) (a := p4) (o := .tup [.str z, .ref p3])
    have i9' := g10.extN _ _ i9 (fun _ z => by cases z)
    generalize upd H9 p4 (.tup [.str z, .ref p3]) = H10 at g10 i10 i9' ⊢
    walk_at "V"
    refine ⟨by walk_at "S", fun p5 hp5 => ?_⟩
    have g11 := Grow.new (T := m.T) (o := .lst [.ref p4]) hp5
    have n35 : p3 ≠ p5 := fun w => by rw [← w, i9'] at hp5; cases hp5
    have t11 : Thing m (New H') (upd H10 p5 (.lst [.ref p4])) (.ref p5) (.list [.tuple [.str z, .list []]]) := ⟨fits_l6 nz, .inl ⟨p5, [.ref p4], [.tuple [.str z, .list []]], rfl, rfl, nw8 ((g9.trans g10).keep _ hp5), upd_same,
      .cons (.tup (SqT.of (g11.extN _ _ i10 (fun _ z => by cases z))) (.cons (.str z) (.cons (.lst ⟨nw8 hp3, n35⟩ (SqL.of (g11.extN _ _ i9' (fun _ z => by cases z))) .nil) .nil))) .nil, by simp, fits_l6' nz⟩⟩
    generalize upd H10 p5 (.lst [.ref p4]) = H11 at g11 t11 ⊢
    have nw11 : ∀ {b : Addr}, New H11 b → New H' b := fun hb => nw8 (((g9.trans g10).trans g11).keep _ hb)
    walk_at "V"
    refine ⟨by walk_at "S", fun p6 hp6 => ?_⟩
    have g12 := Grow.new (T := m.T) (o := .tup []) hp6
    have i12 := upd_same (H := H11) (a := p6) (o := .tup [])
    generalize upd H11 p6 (.tup []) = H12 at g12 i12 ⊢
    walk_at "V"
    refine ⟨by walk_at "S", fun p7 hp7 => ?_⟩
    have g13 := Grow.new (T := m.T) (o := .lst [.str z, .ref p6]) hp7
    have i13 := upd_same (H := H12) (a := p7) (o := .lst [.str z, .ref p6])
    have i12' := g13.extN _ _ i12 (fun _ z => by cases z)
    generalize upd H12 p7 (.lst [.str z, .ref p6]) = H13 at g13 i13 i12' ⊢
    walk_at "V"
    refine ⟨by walk_at "S", fun p8 hp8 => ?_⟩
    have g14 := Grow.new (T := m.T) (o := .lst [.ref p7]) hp8
    have n78 : p7 ≠ p8 := fun w => by rw [← w, i13] at hp8; cases hp8
    have t14 : Thing m (New H') (upd H13 p8 (.lst [.ref p7])) (.ref p8) (.list [.list [.str z, .tuple []]]) := ⟨fits_l7 nz, .inl ⟨p8, [.ref p7], [.list [.str z, .tuple []]], rfl, rfl, nw11 ((g12.trans g13).keep _ hp8), upd_same,
      .cons (.lst ⟨nw11 (g12.keep _ hp7), n78⟩ (SqL.of (g14.extN _ _ i13 (fun _ z => by cases z))) (.cons (.str z) (.cons (.tup (SqT.of (g14.extN _ _ i12' (fun _ z => by cases z))) .nil) .nil))) .nil, by simp, fits_l7' nz⟩⟩
    generalize upd H13 p8 (.lst [.ref p7]) = H14 at g14 t14 ⊢
    walk_at "V"
    refine ⟨by walk_at "S", fun p9 hp9 => ?_⟩
    have g15 := Grow.new (T := m.T) (o := .lst [.ref p1, .ref p2, .str z, .non, .bl true, .ref p5, .ref p8]) hp9
    have gC := ((g12.trans g13).trans g14).trans g15
    have gB := ((g9.trans g10).trans g11).trans gC
    have gA := (g7.trans g8).trans gB
    have tS : Things m (New H') (upd H14 p9 (.lst [.ref p1, .ref p2, .str z, .non, .bl true, .ref p5, .ref p8])) ([.ref p1, .ref p2, .str z, .non, .bl true, .ref p5, .ref p8] ++ [.int 0, .str "", .ref f2, .bl false, .ref f4, .ref f5]) :=
      ⟨⟨_, t7.growN (g8.trans gB)⟩, ⟨_, t8.growN gB⟩, ⟨_, .oth (.str z) (fits_s nz) rfl⟩, ⟨_, .oth .non fits_n rfl⟩, ⟨_, .oth (.bl true) (fits_b _) rfl⟩, ⟨_, t11.growN gC⟩, ⟨_, t14.growN g15⟩, Things.growN gA tF⟩
    have i15 := upd_same (H := H14) (a := p9) (o := .lst [.ref p1, .ref p2, .str z, .non, .bl true, .ref p5, .ref p8])
    have hF15 := Grow.extN gA _ _ hF (fun _ z => by cases z)
    generalize upd H14 p9 (.lst [.ref p1, .ref p2, .str z, .non, .bl true, .ref p5, .ref p8]) = H15 at gA tS i15 hF15 ⊢
    clear t7 t8 t11 t14 gC gB g7 g8 g9 g10 g11 g12 g13 g14 g15
    walk_at "V"
    refine g_cat i15 hF15 (by walk_at "S") fun pl hpl => ?_
    have g16 := Grow.new (T := m.T) (o := .lst ([.ref p1, .ref p2, .str z, .non, .bl true, .ref p5, .ref p8] ++ [.int 0, .str "", .ref f2, .bl false, .ref f4, .ref f5])) hpl
    have t16 := Things.growN g16 tS
    have i16 := upd_same (H := H15) (a := pl) (o := .lst ([.ref p1, .ref p2, .str z, .non, .bl true, .ref p5, .ref p8] ++ [.int 0, .str "", .ref f2, .bl false, .ref f4, .ref f5]))
    have gD := (g26.trans gA).trans g16
    have d16 := d2.post gD
    have hplq : pl ≠ q := fun w => by obtain ⟨_, e⟩ := (d2.post (g26.trans gA)).purse.at_; rw [← w, hpl] at e; cases e
    generalize upd H15 pl (.lst ([.ref p1, .ref p2, .str z, .non, .bl true, .ref p5, .ref p8] ++ [.int 0, .str "", .ref f2, .bl false, .ref f4, .ref f5])) = H16 at gD t16 i16 d16 ⊢
    have l13 : ([.ref p1, .ref p2, .str z, .non, .bl true, .ref p5, .ref p8] ++ [.int 0, .str "", .ref f2, .bl false, .ref f4, .ref f5] : List V).length = 13 := rfl
    generalize ([.ref p1, .ref p2, .str z, .non, .bl true, .ref p5, .ref p8] ++ [.int 0, .str "", .ref f2, .bl false, .ref f4, .ref f5] : List V) = xs13 at t16 i16 l13 ⊢
    clear gD gA tS i15 hF15 hF tF g26
    walk_at "V"
    refine ⟨q, _, pl, xs13, rfl, d16.purse, by omega, SqL.of i16, hplq, by omega, by omega, fun jj v H17 hjj d17 => ?_⟩
    obtain ⟨d, th⟩ := t16.get hjj
    have nq : ∀ b, New H' b → b ≠ q := fun b hb w => by obtain ⟨_, e⟩ := hpq.at_; rw [← w, show H' b = none from hb] at e; cases e
    have th := th.grow d17.grow nq
    have d017 := d16.trans d17
    clear d16 d17 t16 i16 hjj xs13 l13
    -- both lists
    walk_at "B"
    refine s_forT hA (pg_nl hA n4) ?_
    walk_at "V"
    refine w_call hA Fi (by omega) rfl ?_
    walk_at "V"
    refine ⟨v, rfl, fun a1 xs1 H18 g18 na1 ha1 e1 => ?_⟩
    walk_at "V"
    refine w_call hA Na (by omega) rfl ?_
    walk_at "V"
    refine ⟨v, rfl, fun a2 xs2 H19 g19 na2 ha2 e2 => ?_⟩
    walk_at "V"
    refine ⟨by walk_at "S", fun tt htt => ?_⟩
    have g20 := Grow.new (T := m.T) (o := .tup [.ref a1, .ref a2]) htt
    have th20 := th.growN ((g18.trans g19).trans g20)
    have d20 := d017.post ((g18.trans g19).trans g20)
    have ha1' := Grow.extN (g19.trans g20) _ _ ha1 (fun _ z => by cases z)
    have ha2' := g20.extN _ _ ha2 (fun _ z => by cases z)
    have e1' := Grow.errsAt (g19.trans g20) e1
    have e2' := Grow.errsAt g20 e2
    have hex : ∀ b, (v = .ref b ∧ isIn "list" d = true) → New H' b ∧ (∃ xs, H17 b = some (.lst xs)) ∧ ∃ xs, upd H19 tt (.tup [.ref a1, .ref a2]) b = some (.lst xs) := by
      rintro b ⟨ev, el⟩
      obtain ⟨_, ⟨ya, yx, yd, q1, q2, q3, q4, _⟩ | ⟨e, _⟩⟩ := th
      · rw [ev] at q1
        cases q1
        exact ⟨q3, ⟨_, q4⟩, _, Grow.extN ((g18.trans g19).trans g20) _ _ q4 (fun _ z => by cases z)⟩
      · rw [e] at el; cases el
    have na2' : New H17 a2 := g18.keep _ na2
    have iT := upd_same (H := H19) (a := tt) (o := .tup [.ref a1, .ref a2])
    generalize upd H19 tt (.tup [.ref a1, .ref a2]) = H20 at th20 d20 ha1' ha2' e1' e2' hex iT ⊢
    obtain ⟨mu, hmut⟩ : ∃ mu : Addr → Prop, mu = fun b => v = .ref b ∧ isIn "list" d = true := ⟨_, rfl⟩
    have hex' : ∀ b, mu b → New H' b ∧ (∃ xs, H17 b = some (.lst xs)) ∧ ∃ xs, H20 b = some (.lst xs) := fun b hb => hex b (by rw [hmut] at hb; exact hb)
    have both : ∀ (j : Nat) (x : V), ([.ref a1, .ref a2] : List V)[j]? = some x → ∃ l xs, x = .ref l ∧ New H17 l ∧ H20 l = some (.lst xs) ∧ ErrsAt H20 v xs ((List.range 26).map C) := by
      intro j x hx
      match j, hx with
      | 0, hx => simp at hx; exact ⟨a1, xs1, hx.symm, na1, ha1', e1'⟩
      | 1, hx => simp at hx; exact ⟨a2, xs2, hx.symm, na2', ha2', e2'⟩
      | j + 2, hx => simp at hx
    refine ⟨tt, [.ref a1, .ref a2], rfl, SqT.of iT, fun j (σ : L2.St) HL => σ = [some (.ref a), some (.ref q), some (.str z), some (.ref fl), σ.getD 4 none, none, some v, none] ∧ GrowX m.T mu H20 HL ∧ Thing m (New H') HL v d, ?_, ?_, ?_, ?_⟩
    · exact ⟨rfl, GrowX.refl, th20⟩
    · rintro j σ HL _ ⟨_, g, _⟩
      exact g.seqT (SqT.of iT)
    · rintro j x σ HL hx ⟨es, g, thL⟩
      obtain ⟨l, xs, rfl, nl, hl20, el20⟩ := both j x hx
      have nm : ¬ mu l := fun w => by obtain ⟨_, ⟨_, e⟩, _⟩ := hex' l w; rw [show H17 l = none from nl] at e; cases e
      have hlL := g.ext l _ nm hl20 (fun _ z => by cases z)
      have eL := g.errsAt (fun b hb => .inl (hex' b hb).2.2) el20
      rw [es]
      walk_at "B"
      walk_at "V"
      refine w_call hA Ri (by omega) rfl ?_
      walk_at "V"
      refine g_blt hA hrepr rfl bt_repr ?_
      walk_at "V"
      refine g_reprT hA thL.rp thL.1 ?_
      walk_at "V"
      refine ⟨l, xs, v, d, _, rfl, hlL, eL, thL.rp, thL.1, fun HM gM => ?_⟩
      walk_at "V"
      refine iteF (b_nil ?_)
      have thM := thL.growN gM
      have hlM := gM.extN _ _ hlL (fun _ z => by cases z)
      have eM := Grow.errsAt gM eL
      walk_at "B"
      walk_at "V"
      refine g_blt hA hi rfl bt_isinstance ?_
      walk_at "V"
      refine w_tyn hA hlist rfl bt_list ?_
      walk_at "V"
      refine g_isi hA (.ty "list") thM.rp.tyx (kit_ty (kit_all "list" (by decide) d)) ?_
      walk_at "V"
      refine ite2 (fun h0 => ?_) fun h0 => ?_
      · have hL : ∃ a xs ds, v = .ref a ∧ d = .list ds ∧ New H' a ∧ HM a = some (.lst xs) ∧ DaAll m.K (fun b => New H' b ∧ b ≠ a) HM xs ds ∧ xs.length < 1000 ∧ Fits (.list (ds ++ [.str "later"])) := by
          obtain ⟨_, h | ⟨e, _⟩⟩ := thM
          · exact h
          · rw [e] at h0; cases h0
        have fd := thM.1
        obtain ⟨ya, yx, yd, rfl, rfl, yA, yH, yD, yl, yf⟩ := hL
        have hyl : l ≠ ya := fun w => nm (by rw [hmut]; exact ⟨by rw [w], h0⟩)
        walk_at "B"
        walk_at "V"
        refine g_append ?_
        walk_at "V"
        refine ⟨tyL yH, ?_⟩
        walk_at "V"
        refine ⟨ya, yx, _, rfl, rfl, yH, by rw [sizeLine_eq]; omega, ?_⟩
        have gN := GrowX.lst (T := m.T) (ys := yx ++ [.str ("later" : Str)]) yH
        have hlN := gN.ext l _ hyl hlM (fun _ z => by cases z)
        have eN := gN.errsAt (fun b hb => .inl ⟨yx, by rw [hb]; exact yH⟩) eM
        have yHN := upd_same (H := HM) (a := ya) (o := .lst (yx ++ [.str ("later" : Str)]))
        have yDN : DaAll m.K (fun b => New H' b ∧ b ≠ ya) (upd HM ya (.lst (yx ++ [.str ("later" : Str)]))) (yx ++ [.str ("later" : Str)]) (yd ++ [.str ("later" : Str)]) := DaAll.append (gN.daAll yD fun b hb => hb.2) (.cons (.str _) .nil)
        generalize upd HM ya (.lst (yx ++ [.str ("later" : Str)])) = HN at gN hlN eN yHN yDN ⊢
        have rpN : Rp m.K (New H') HN (.ref ya) (.list (yd ++ [.str ("later" : Str)])) := .inl (.lst yA (SqL.of yHN) (yDN.sub fun b hb => hb.1))
        walk_at "B"
        walk_at "V"
        refine w_lcLi hA (by decide +kernel) (i := 7) ⟨rfl, rfl⟩ ?_
        walk_at "V"
        refine ⟨l, xs, rfl, SqL.of hlN, fun D3 hD3 => ?_⟩
        refine ⟨fun j H6 => Grow m.T HN H6 ∧ H6 D3 = some (.lst []), ⟨Grow.new hD3, upd_same⟩, ?_, ?_, ?_⟩
        · rintro j H6 _ ⟨g, _⟩
          exact SqL.of (g.extN _ _ hlN (fun _ z => by cases z))
        · rintro j x H6 hx ⟨g6, hd6⟩ X' hX'
          obtain ⟨hj, ej⟩ := eN.at hx
          have ej6 := g6.errAt ej
          have c6 := nc_of hX' 6 "_law_thing"
          have c7 := nl_of hX' 7 "_law_error"
          have rp6 := rpN.grow g6 fun _ _ z => z
          walk_at "V"
          refine g_blt hX' hrepr rfl bt_repr ?_
          walk_at "V"
          refine w_errF hX' (R.ev j hj).xf (R.ev j hj).no ?_
          walk_at "V"
          refine ⟨_, ej6, ?_⟩
          walk_at "V"
          refine g_reprT hX' rp6 yf ?_
          walk_at "V"
          refine g_blt hX' hrepr rfl bt_repr ?_
          walk_at "V"
          refine g_reprT hX' rp6 yf ?_
          walk_at "V"
          rw [show (!decide ((PyData.list (yd ++ [.str ("later" : Str)])).shown = (PyData.list (yd ++ [.str ("later" : Str)])).shown)) = false from by simp]
          exact iteF ⟨g6, hd6⟩
        rintro H6 ⟨g6, hd6⟩
        walk_at "V"
        refine ⟨by walk_at "S", fun e7 he7 => ?_⟩
        have g7 := Grow.new (T := m.T) (o := .lst []) he7
        refine g_neD hA (Dp.lst (SqL.of (g7.extN _ _ hd6 (fun _ z => by cases z))) .nil) (Dp.lst (SqL.of upd_same) .nil) rfl rfl ?_
        rw [show PyData.eqv (.list []) (.list []) = true from rfl]
        walk_at "V"
        refine iteF (b_nil ?_)
        have g67 := g6.trans g7
        have yH7 := Grow.extN g67 _ _ yHN (fun _ z => by cases z)
        have yD7 := Grow.daAll g67 yDN
        have hn7 := Grow.extN g67 _ _ hlN (fun _ z => by cases z)
        generalize upd H6 e7 (.lst []) = H7 at g67 yH7 yD7 ⊢
        walk_at "B"
        walk_at "V"
        refine g_popL ?_
        walk_at "V"
        refine ⟨tyL yH7, ya, _, .str ("later" : Str), rfl, rfl, yH7, by simp, ?_⟩
        rw [List.dropLast_concat]
        have gZ := GrowX.lst (T := m.T) (ys := yx) yH7
        walk_at "V"
        have hmu : ∀ b, b = ya → mu b := fun b hb => by rw [hmut, hb]; exact ⟨rfl, h0⟩
        refine ⟨rfl, ((g.trans gM.to).trans (gN.weak hmu)).trans ((Grow.to g67).trans (gZ.weak hmu)), fd, .inl ⟨ya, yx, yd, rfl, rfl, yA, upd_same, ?_, yl, yf⟩⟩
        refine DaAll.mono (fun _ z => z) (fun b ys hb e => ?_) (fun b ys e => ?_) _ _ yD
        · exact gZ.seqL (GrowX.seqL (gN.trans (Grow.to g67)) e hb.2) hb.2
        · exact gZ.seqT (GrowX.seqT (gN.trans (Grow.to g67)) e)
      · exact b_nil (b_nil ⟨rfl, g.trans gM.to, thM⟩)
    · rintro σ HL ⟨es, g, thL⟩
      rw [es]
      refine b_nil (done _ _ rfl ?_)
      exact d20.grow.into g fun b hb => .inl (hex' b hb).1
  · rintro σ H' ⟨es, gg, _⟩
    rw [es]
    generalize σ.getD 1 none = s1
    generalize σ.getD 2 none = s2
    generalize σ.getD 3 none = s3
    generalize σ.getD 4 none = s4
    generalize σ.getD 6 none = s6
    clear es gg
    walk_at "B"
    refine s_forT hA (pg_nc hA n6 hM.fn) ?_
    walk_at "V"
    refine ⟨by walk_at "S", fun u1 hu1 => ?_⟩
    walk_at "V"
    refine ⟨by walk_at "S", fun tt htt => ?_⟩
    have gT := (Grow.new (T := m.T) (o := .tup []) hu1).trans (Grow.new (T := m.T) (o := .tup [.int 0, .str ("" : Str), .bl false, .ref u1]) htt)
    have iT := upd_same (H := upd H' u1 (.tup [])) (a := tt) (o := .tup [.int 0, .str ("" : Str), .bl false, .ref u1])
    have iu := (Grow.new (T := m.T) (o := .tup [.int 0, .str ("" : Str), .bl false, .ref u1]) htt).extN _ _ (upd_same (H := H') (a := u1) (o := .tup [])) (fun _ z => by cases z)
    generalize upd (upd H' u1 (.tup [])) tt (.tup [.int 0, .str ("" : Str), .bl false, .ref u1]) = HT at gT iT iu ⊢
    have each : ∀ (j : Nat) (x : V), ([.int 0, .str ("" : Str), .bl false, .ref u1] : List V)[j]? = some x → ∃ d, Fits d ∧ Da m.K Any HT x d := by
      intro j x hx
      match j, hx with
      | 0, hx => simp at hx; subst hx; exact ⟨_, fits_0, .int 0⟩
      | 1, hx => simp at hx; subst hx; exact ⟨_, fits_e, .str _⟩
      | 2, hx => simp at hx; subst hx; exact ⟨_, fits_b false, .bl _⟩
      | 3, hx => simp at hx; subst hx; exact ⟨_, fits_tu, .tup (SqT.of iu) .nil⟩
      | j + 4, hx => simp at hx
    refine ⟨tt, _, rfl, SqT.of iT, fun j (σ : L2.St) HL => σ = [some (.ref a), s1, s2, s3, s4, none, σ.getD 6 none, none] ∧ Grow m.T HT HL, ?_, ?_, ?_, ?_⟩
    · exact ⟨rfl, GrowX.refl⟩
    · rintro j σ HL _ ⟨_, g⟩
      exact GrowX.seqT g (SqT.of iT)
    · rintro j x σ HL hx ⟨es, g⟩
      obtain ⟨d, ft, da⟩ := each j x hx
      rw [es]
      walk_at "B"
      walk_at "V"
      refine w_call hA Ri (by omega) rfl ?_
      walk_at "V"
      refine w_call hA Fi (by omega) rfl ?_
      walk_at "V"
      refine ⟨x, rfl, fun a1 xs1 H18 g18 na1 ha1 e1 => ?_⟩
      walk_at "V"
      refine g_blt hA hrepr rfl bt_repr ?_
      walk_at "V"
      have r1 : Rp m.K Any H18 x d := .inl (Grow.da (GrowX.trans g g18) da)
      refine g_reprT hA r1 ft ?_
      walk_at "V"
      refine ⟨a1, xs1, x, d, _, rfl, ha1, e1, r1, ft, fun HM gM => ?_⟩
      walk_at "V"
      refine iteF ?_
      walk_at "V"
      refine w_call hA Ri (by omega) rfl ?_
      walk_at "V"
      refine w_call hA Na (by omega) rfl ?_
      walk_at "V"
      refine ⟨x, rfl, fun a2 xs2 H19 g19 na2 ha2 e2 => ?_⟩
      walk_at "V"
      refine g_blt hA hrepr rfl bt_repr ?_
      walk_at "V"
      have g19' := (g18.trans gM).trans g19
      have r2 : Rp m.K Any H19 x d := .inl (Grow.da (GrowX.trans g g19') da)
      refine g_reprT hA r2 ft ?_
      walk_at "V"
      refine ⟨a2, xs2, x, d, _, rfl, ha2, e2, r2, ft, fun HN gN => ?_⟩
      walk_at "V"
      refine iteF (b_nil (b_nil ⟨rfl, (g.trans g19').trans gN⟩))
    · rintro σ HL ⟨es, g⟩
      rw [es]
      generalize σ.getD 6 none = s6
      clear es
      walk_at "B"
      walk_at "V"
      refine w_call hA Ri (by omega) rfl ?_
      walk_at "V"
      refine w_callX0 (CX := C8.CX0) (E := C8.E0) hA Ba (by omega) rfl C8.pass0 ?_
      refine ⟨rfl, fun a3 xs3 H20 g20 na3 ha3 e3 => ?_⟩
      walk_at "V"
      refine ⟨a3, xs3, .non, .none, Any, rfl, ha3, e3, .inl .non, fits_n, fun H21 g21 => ?_⟩
      walk_at "V"
      refine iteF (b_nil ?_)
      clear g20 g21 ha3 e3
      walk_at "B"
      walk_at "V"
      refine w_mkB hA (R.eb 26 (by decide) (by decide)) rfl (fun w1 H22 g22 x1 => ?_)
      walk_at "V"
      refine w_mkB hA (R.eb 27 (by decide) (by decide)) rfl (fun w2 H23 g23 x2 => ?_)
      walk_at "V"
      refine ⟨by walk_at "S", fun lr hlr => ?_⟩
      have g24 := Grow.new (T := m.T) (o := .lst [w1, w2]) hlr
      have y1 := g24.errOf (g23.errOf x1)
      have y2 := g24.errOf x2
      have hR := upd_same (H := H23) (a := lr) (o := .lst [w1, w2])
      generalize upd H23 lr (.lst [w1, w2]) = H24 at y1 y2 hR ⊢
      clear x1 x2 g22 g23 g24
      have eachR : ∀ (j : Nat) (x : V), ([w1, w2] : List V)[j]? = some x → j < 2 ∧ ErrOf H24 x (C (26 + j)) := by
        intro j x hx
        match j, hx with
        | 0, hx => simp at hx; subst hx; exact ⟨by decide, y1⟩
        | 1, hx => simp at hx; subst hx; exact ⟨by decide, y2⟩
        | j + 2, hx => simp at hx
      walk_at "B"
      walk_at "V"
      refine w_lcL hA (by decide +kernel) (i := 7) ⟨rfl, rfl⟩ ?_
      walk_at "V"
      refine ⟨lr, [w1, w2], rfl, SqL.of hR, fun D hD => ?_⟩
      have hDn : New H24 D := hD
      refine ⟨fun j H4 => Grow m.T H24 H4 ∧ ∃ ys, H4 D = some (.lst ys) ∧ DaAll m.K (· ≠ D) H4 ys ((List.range j).map fun n : Nat => PyData.list [.int (26 + n : Nat)]), ⟨Grow.new hD, [], upd_same, .nil⟩, ?_, ?_, ?_⟩
      · rintro j H4 _ ⟨g, _⟩
        exact SqL.of (g.extN _ _ hR (fun _ z => by cases z))
      · rintro j x H4 hx ⟨g4, ys, hd4, dy⟩ X' hX'
        obtain ⟨hj, ej⟩ := eachR j x hx
        have c7 := nl_of hX' 7 "_law_error"
        refine w_call hX' Co (by omega) rfl ?_
        walk_at "V"
        refine ⟨x, 26 + j, rfl, by omega, g4.errOf ej, fun a H5 g5 na ha => ?_⟩
        rw [if_pos (show 26 + j < 28 by omega)] at ha
        have hd5 := g5.extN _ _ hd4 (fun _ z => by cases z)
        have hly := dy.length
        rw [List.length_map, List.length_range] at hly
        have haD : a ≠ D := fun w => by rw [w] at na; rw [show H4 D = none from na] at hd4; cases hd4
        refine ⟨ys, hd5, by rw [hly, sizeLine_eq]; omega, Grow.intoNew (g4.trans g5) (GrowX.lst hd5) fun c w => by rw [w]; exact hDn, ys ++ [.ref a], upd_same, ?_⟩
        rw [List.range_succ, List.map_append]
        have gl := GrowX.lst (T := m.T) (ys := ys ++ [.ref a]) hd5
        refine DaAll.append (gl.daAll (Grow.daAll g5 dy) fun b z => z) (.cons (.lst haD (SqL.of (xs := [.int (26 + j : Nat)]) ?_) (.cons (.int _) .nil)) .nil)
        rw [upd_ne haD]
        exact ha
      rintro H4 ⟨g4, ys, hd4, dy⟩
      walk_at "V"
      refine ⟨by walk_at "S", fun q1 hq1 => ?_⟩
      have k1 := Grow.new (T := m.T) (o := .lst [.int 26]) hq1
      have j1 := upd_same (H := H4) (a := q1) (o := .lst [.int 26])
      generalize upd H4 q1 (.lst [.int 26]) = H5 at k1 j1 ⊢
      walk_at "V"
      refine ⟨by walk_at "S", fun q2 hq2 => ?_⟩
      have k2 := Grow.new (T := m.T) (o := .lst [.int 27]) hq2
      have j2 := upd_same (H := H5) (a := q2) (o := .lst [.int 27])
      have j1' := k2.extN _ _ j1 (fun _ z => by cases z)
      generalize upd H5 q2 (.lst [.int 27]) = H6 at k2 j2 j1' ⊢
      walk_at "V"
      refine ⟨by walk_at "S", fun q3 hq3 => ?_⟩
      have k3 := Grow.new (T := m.T) (o := .lst [.ref q1, .ref q2]) hq3
      have k13 := (k1.trans k2).trans k3
      refine g_neD hA (d := .list [.list [.int 26], .list [.int 27]]) (e := .list [.list [.int 26], .list [.int 27]]) (Dp.lst (SqL.of (Grow.extN k13 _ _ hd4 (fun _ z => by cases z))) (DaAll.dp _ _ (Grow.daAll k13 dy))) (Da.dp (A := Any) _ _ (.lst trivial (SqL.of upd_same) (.cons (.lst trivial (SqL.of (k3.extN _ _ j1' (fun _ z => by cases z))) (.cons (.int _) .nil)) (.cons (.lst trivial (SqL.of (k3.extN _ _ j2 (fun _ z => by cases z))) (.cons (.int _) .nil)) .nil)))) (by decide +kernel) (by decide +kernel) ?_
      rw [show PyData.eqv (.list [.list [.int 26], .list [.int 27]]) (.list [.list [.int 26], .list [.int 27]]) = true from by decide +kernel]
      have g44 := g4.trans k13
      have hR7 := Grow.extN g44 _ _ hR (fun _ z => by cases z)
      have z1 := Grow.errOf g44 y1
      have z2 := Grow.errOf g44 y2
      generalize upd H6 q3 (.lst [.ref q1, .ref q2]) = H7 at hR7 z1 z2 ⊢
      clear k1 k2 k3 k13 g44 j1 j2 j1' hd4 dy
      walk_at "V"
      refine iteF ?_
      walk_at "V"
      refine w_call hA Ie (by omega) rfl ?_
      walk_at "V"
      refine g_ixL hA (SqL.of hR7) (i := ((0 : Nat) : Int)) (atI_at rfl) ?_
      walk_at "V"
      refine ⟨w1, 26, rfl, by decide, z1, ?_⟩
      walk_at "V"
      refine iteF ?_
      walk_at "V"
      refine w_call hA Ie (by omega) rfl ?_
      walk_at "V"
      refine g_ixL hA (SqL.of hR7) (i := ((1 : Nat) : Int)) (atI_at rfl) ?_
      walk_at "V"
      refine ⟨w2, 27, rfl, by decide, z2, ?_⟩
      walk_at "V"
      refine iteF (b_nil ?_)
      walk_at "B"
      walk_at "V"
      refine w_call hA Ie (by omega) rfl ?_
      walk_at "V"
      refine w_mkB hA (R.eb 28 (by decide) (by decide)) rfl (fun w3 H8 g8 x3 => ?_)
      walk_at "V"
      refine ⟨w3, 28, rfl, by decide, x3, ?_⟩
      walk_at "V"
      refine iteT ?_
      walk_at "V"
      refine w_call hA Co (by omega) rfl ?_
      walk_at "V"
      refine w_mkB hA (R.eb 28 (by decide) (by decide)) rfl (fun w4 H9 g9 x4 => ?_)
      walk_at "V"
      refine ⟨w4, 28, rfl, by decide, x4, fun aa HA gA nA hA4 => ?_⟩
      walk_at "V"
      refine ⟨by walk_at "S", fun q4 hq4 => ?_⟩
      have k4 := Grow.new (T := m.T) (o := .lst []) hq4
      refine g_eqD hA (Dp.lst (SqL.of (xs := []) (k4.extN _ _ hA4 (fun _ z => by cases z))) .nil) (Dp.lst (SqL.of upd_same) .nil) rfl rfl ?_
      exact k _
/-! ### the head's facts -/
/-- a def of the top, as it stands in the written part -/
def DefF (K : PySem.W.Frag) (x : Str) (st : Stmt) : Prop := ∃ (f : Addr) (fd : FuncData), PySem.W.nsIn K mainGlobals x = some (some (.ref f)) ∧ C8.Fun K x x st f fd ∧ PySem.W.keepIn K (.ref f) = true ∧ fd.defaults = .none
theorem mk_def {K : PySem.W.Frag} {x : Str} {st : Stmt} {f : Addr} {od an : Option Addr} {oc kV doc pm cdv ct : Value} {osl : Array (Option Value)} (a : PySem.W.nsIn K mainGlobals x = some (some (.ref f)))
    (l : K.lookup f = some ⟨oc, od, .func (PySem.W.fnOf x x (C8.fnArgs st) (C8.fnBody st) (C8.fnScope st) .none kV doc pm an cdv ct), osl⟩) (c : PySem.W.codeIn K cdv x = true) (k : PySem.W.keepIn K (.ref f) = true) : DefF K x st :=
  ⟨f, _, a, ⟨⟨oc, od, .none, kV, doc, pm, an, cdv, ct, osl, rfl, l, c⟩⟩, k, rfl⟩
theorem DefF.def_ {K : PySem.W.Frag} {h : Heap} {mg : Str → Option Value} {x : Str} {st : Stmt} (D : DefF K x st) (X : K.In h) (G : h.Ns mainGlobals mg) : ∃ f fd, C8.Def K mg x st f fd ∧ fd.defaults = .none := by
  obtain ⟨f, fd, a, F, k, d⟩ := D
  exact ⟨f, fd, ⟨F, PySem.W.mg_of X G a, k⟩, d⟩
/-- an own error class with its field -/
structure ErF (K : PySem.W.Frag) (x : Str) (C : Addr) : Prop where
  gC : PySem.W.nsIn K mainGlobals x = some (some (.ref C))
  cls : ∃ nm q N bs bm sn sub ab col dd k0 k1 k2 k3 k5, K.lookup C = some (excClassObj nm q C N bs bm true sn sub ab col dd k0 k1 k2 k3 k5 "ValueError.__new__") ∧ PySem.HandSPX.refsVE bm = true
  sa : PySem.W.findIn K (.ref C) "__setattr__" = some (some (.builtin "object.__setattr__"))
  exC : PySem.W.subIn K (.ref C) (.type "BaseException") = some true
  tyC : PySem.W.typeIn K (.ref C) = some (.type "type")
  kC : PySem.W.keepIn K (.ref C) = true
  ga : PySem.W.findIn K (.ref C) "__getattribute__" = some (some (.builtin "BaseException.__getattribute__"))
  gg : PySem.W.findIn K (.ref C) "__getattr__" = some none
  hdC : PySem.W.hasDictIn K C = true
  no : PySem.W.findIn K (.ref C) "value" = some none
  ha : PySem.W.findIn K (.ref C) "__class__" = some (some (.builtin "object.__class__"))
  hm : PySem.W.mroIn K C (.type "object") = some true
/-- one without a field -/
structure ErB (K : PySem.W.Frag) (x : Str) (C : Addr) : Prop where
  gC : PySem.W.nsIn K mainGlobals x = some (some (.ref C))
  ex : PySem.W.excIn K C PySem.HandSPX.veTail "ValueError.__new__" = true
  exC : PySem.W.subIn K (.ref C) (.type "BaseException") = some true
  kC : PySem.W.keepIn K (.ref C) = true
  ga : PySem.W.findIn K (.ref C) "__getattribute__" = some (some (.builtin "BaseException.__getattribute__"))
  gg : PySem.W.findIn K (.ref C) "__getattr__" = some none
  hdC : PySem.W.hasDictIn K C = true
  ha : PySem.W.findIn K (.ref C) "__class__" = some (some (.builtin "object.__class__"))
  hm : PySem.W.mroIn K C (.type "object") = some true
theorem mk_clsV {K : PySem.W.Frag} {C N : Addr} {nm q : Str} {bs bm : List Value} {sn : List Str} {sub : List Value} {ab : Bool} {col : Option Bool} {dd : Option Addr} {k0 k1 k2 k3 k5 : Option Value} (l : K.lookup C = some (excClassObj nm q C N bs bm true sn sub ab col dd k0 k1 k2 k3 k5 "ValueError.__new__")) (r : PySem.HandSPX.refsVE bm = true) :
    ∃ nm q N bs bm sn sub ab col dd k0 k1 k2 k3 k5, K.lookup C = some (excClassObj nm q C N bs bm true sn sub ab col dd k0 k1 k2 k3 k5 "ValueError.__new__") ∧ PySem.HandSPX.refsVE bm = true := ⟨nm, q, N, bs, bm, sn, sub, ab, col, dd, k0, k1, k2, k3, k5, l, r⟩
/-- its __init__ -/
def IniV (K : PySem.W.Frag) (C : Addr) (qual : Str) (st : Stmt) : Prop := ∃ (f : Addr) (fd : FuncData), PySem.W.findIn K (.ref C) "__init__" = some (some (.ref f)) ∧ PySem.W.typeIn K (.ref f) = some (.type "function") ∧ FunD K "__init__" qual (C8.fnArgs st) (C8.fnBody st) (C8.fnScope st) [.non] [] f fd
theorem mk_iniV {K : PySem.W.Frag} {C f T : Addr} {qual : Str} {st : Stmt} {od an : Option Addr} {oc kV doc pm cdv ct : Value} {osl : Array (Option Value)} {oT : Option Addr} {cT : Value} {sT : Array (Option Value)} {nT : Nat} (a : PySem.W.findIn K (.ref C) "__init__" = some (some (.ref f))) (t : PySem.W.typeIn K (.ref f) = some (.type "function"))
    (l : K.lookup f = some ⟨oc, od, .func (PySem.W.fnOf "__init__" qual (C8.fnArgs st) (C8.fnBody st) (C8.fnScope st) (.ref T) kV doc pm an cdv ct), osl⟩) (c : PySem.W.codeIn K cdv qual = true)
    (lT : K.lookup T = some ⟨cT, oT, .seq #[.none] nT, sT⟩) (k : PySem.W.keepIn K (.ref f) = true) : IniV K C qual st :=
  ⟨f, _, a, t, ⟨⟨oc, od, .ref T, kV, doc, pm, an, cdv, ct, osl, rfl, l, c, .inr ⟨by simp, T, _, [.none], nT, rfl, lT, rfl, .cons rfl .nil⟩, .inl rfl⟩, k⟩⟩
/-- what its body and its binding must be -/
structure InOk (st : Stmt) : Prop where
  S : FnScope ["self", "value"] ["self", "value"] (C8.fnScope st)
  bd : ∀ {X : Cx}, X.N = (["self", "value"] : List Str) → X.env.scope = C8.fnScope st → ∃ t, PSs X (C8.fnBody st) t ∧ ∀ (D : Ends) (a C : Addr) (v : V) (H : Hp), OexC X.K C → PySem.W.findIn X.K (.ref C) "value" = some none → H a = some (exo a C none) → (∀ dx, H dx = none → dx ≠ a → D.nx [some (.ref a), some v] (upd (upd H dx (exd dx [("value", v)])) a (exo a C (some dx)))) → t D [some (.ref a), some v] H
theorem ini_okV {m : Md} {C f : Addr} {fd : FuncData} {qual : Str} {st : Stmt} (F : FunD m.K "__init__" qual (C8.fnArgs st) (C8.fnBody st) (C8.fnScope st) [.non] [] f fd) (O : OexC m.K C) (no : PySem.W.findIn m.K (.ref C) "value" = some none) (J : InOk st) :
    FnOk m.P m.w m.K m.mg m.base C8.CX0 1 f fd ["self", "value"] (IniSp C) := by
  refine F.ok J.S (fun vs H Q E h => by obtain ⟨_, _, rfl, _⟩ := h; rfl) fun cdv A outer s H vs Q E hr h => ?_
  obtain ⟨a, v, rfl, ha, k⟩ := h
  obtain ⟨t, ht, q⟩ := J.bd (X := L2.cxOf C8.CX0 m.P m.w m.K m.mg m.base ["self", "value"] qual (C8.fnScope st) f cdv A outer s H E) rfl rfl
  exact ⟨t, ht, q _ a C v H O no ha fun dx hdx hne => k dx hdx hne⟩
theorem in_ok {st : Stmt} {p1 p2 p3 p4 : Pos} (S : FnScope ["self", "value"] ["self", "value"] (C8.fnScope st)) (hb : C8.fnBody st = [.Assign [.Attribute (.Name "self" p1) "value" p2] (.Name "value" p3) p4]) (l1 : (C8.fnScope st).names.lookup ("self" : Str) = some .local) (l2 : (C8.fnScope st).names.lookup ("value" : Str) = some .local) : InOk st := by
  refine ⟨S, fun {X} hN hs => ?_⟩
  rw [hb]
  refine ⟨_, pss_one (ps_ost (pe_var (i := 0) (by rw [hN]; rfl) (.inl (by rw [hs]; exact l1)) (by with_unfolding_all decide) (by with_unfolding_all decide)) (pe_var (i := 1) (by rw [hN]; rfl) (.inl (by rw [hs]; exact l2)) (by with_unfolding_all decide) (by with_unfolding_all decide)) (by with_unfolding_all rfl)), fun D a C v H O no ha q => ?_⟩
  exact ⟨v, rfl, .ref a, rfl, a, C, rfl, O, no, .inl ⟨ha, fun dx hdx hne => q dx hdx hne⟩⟩
theorem inok_InvalidTerm : InOk st_InvalidTerm_init := in_ok sc_InvalidTerm_init rfl rfl rfl
theorem inb_InvalidTerm {K : PySem.W.Frag} {f : Addr} {fd : FuncData} {qual : Str} (F : FunD K "__init__" qual (C8.fnArgs st_InvalidTerm_init) (C8.fnBody st_InvalidTerm_init) (C8.fnScope st_InvalidTerm_init) [.non] [] f fd) : IniB K fd := by
  obtain ⟨oc, od, dV, kV, doc, pm, an, cdv, ct, osl, rfl, lk, hcd, hD, hK⟩ := F.ex
  rcases hD with ⟨e, _⟩ | ⟨_, T, oT, its, n, rfl, lT, eT, rT⟩
  · cases e
  · obtain ⟨u, rfl, ru⟩ := vals1 rT
    cases ru
    exact ⟨fun s a u hin => PySem.W.binds_K hin rfl lT eT rfl rfl, fun s a hin => PySem.W.binds_K hin rfl lT eT rfl rfl, fun s a u hin => PySem.W.binds_K hin rfl lT eT rfl rfl⟩
theorem inok_InvalidRule : InOk st_InvalidRule_init := in_ok sc_InvalidRule_init rfl rfl rfl
theorem inb_InvalidRule {K : PySem.W.Frag} {f : Addr} {fd : FuncData} {qual : Str} (F : FunD K "__init__" qual (C8.fnArgs st_InvalidRule_init) (C8.fnBody st_InvalidRule_init) (C8.fnScope st_InvalidRule_init) [.non] [] f fd) : IniB K fd := by
  obtain ⟨oc, od, dV, kV, doc, pm, an, cdv, ct, osl, rfl, lk, hcd, hD, hK⟩ := F.ex
  rcases hD with ⟨e, _⟩ | ⟨_, T, oT, its, n, rfl, lT, eT, rT⟩
  · cases e
  · obtain ⟨u, rfl, ru⟩ := vals1 rT
    cases ru
    exact ⟨fun s a u hin => PySem.W.binds_K hin rfl lT eT rfl rfl, fun s a hin => PySem.W.binds_K hin rfl lT eT rfl rfl, fun s a u hin => PySem.W.binds_K hin rfl lT eT rfl rfl⟩
theorem inok_NotFlat : InOk st_NotFlat_init := in_ok sc_NotFlat_init rfl rfl rfl
theorem inb_NotFlat {K : PySem.W.Frag} {f : Addr} {fd : FuncData} {qual : Str} (F : FunD K "__init__" qual (C8.fnArgs st_NotFlat_init) (C8.fnBody st_NotFlat_init) (C8.fnScope st_NotFlat_init) [.non] [] f fd) : IniB K fd := by
  obtain ⟨oc, od, dV, kV, doc, pm, an, cdv, ct, osl, rfl, lk, hcd, hD, hK⟩ := F.ex
  rcases hD with ⟨e, _⟩ | ⟨_, T, oT, its, n, rfl, lT, eT, rT⟩
  · cases e
  · obtain ⟨u, rfl, ru⟩ := vals1 rT
    cases ru
    exact ⟨fun s a u hin => PySem.W.binds_K hin rfl lT eT rfl rfl, fun s a hin => PySem.W.binds_K hin rfl lT eT rfl rfl, fun s a u hin => PySem.W.binds_K hin rfl lT eT rfl rfl⟩
theorem inok_InvalidPath : InOk st_InvalidPath_init := in_ok sc_InvalidPath_init rfl rfl rfl
theorem inb_InvalidPath {K : PySem.W.Frag} {f : Addr} {fd : FuncData} {qual : Str} (F : FunD K "__init__" qual (C8.fnArgs st_InvalidPath_init) (C8.fnBody st_InvalidPath_init) (C8.fnScope st_InvalidPath_init) [.non] [] f fd) : IniB K fd := by
  obtain ⟨oc, od, dV, kV, doc, pm, an, cdv, ct, osl, rfl, lk, hcd, hD, hK⟩ := F.ex
  rcases hD with ⟨e, _⟩ | ⟨_, T, oT, its, n, rfl, lT, eT, rT⟩
  · cases e
  · obtain ⟨u, rfl, ru⟩ := vals1 rT
    cases ru
    exact ⟨fun s a u hin => PySem.W.binds_K hin rfl lT eT rfl rfl, fun s a hin => PySem.W.binds_K hin rfl lT eT rfl rfl, fun s a u hin => PySem.W.binds_K hin rfl lT eT rfl rfl⟩
theorem inok_InvalidRows : InOk st_InvalidRows_init := in_ok sc_InvalidRows_init rfl rfl rfl
theorem inb_InvalidRows {K : PySem.W.Frag} {f : Addr} {fd : FuncData} {qual : Str} (F : FunD K "__init__" qual (C8.fnArgs st_InvalidRows_init) (C8.fnBody st_InvalidRows_init) (C8.fnScope st_InvalidRows_init) [.non] [] f fd) : IniB K fd := by
  obtain ⟨oc, od, dV, kV, doc, pm, an, cdv, ct, osl, rfl, lk, hcd, hD, hK⟩ := F.ex
  rcases hD with ⟨e, _⟩ | ⟨_, T, oT, its, n, rfl, lT, eT, rT⟩
  · cases e
  · obtain ⟨u, rfl, ru⟩ := vals1 rT
    cases ru
    exact ⟨fun s a u hin => PySem.W.binds_K hin rfl lT eT rfl rfl, fun s a hin => PySem.W.binds_K hin rfl lT eT rfl rfl, fun s a u hin => PySem.W.binds_K hin rfl lT eT rfl rfl⟩
theorem inok_InvalidHours : InOk st_InvalidHours_init := in_ok sc_InvalidHours_init rfl rfl rfl
theorem inb_InvalidHours {K : PySem.W.Frag} {f : Addr} {fd : FuncData} {qual : Str} (F : FunD K "__init__" qual (C8.fnArgs st_InvalidHours_init) (C8.fnBody st_InvalidHours_init) (C8.fnScope st_InvalidHours_init) [.non] [] f fd) : IniB K fd := by
  obtain ⟨oc, od, dV, kV, doc, pm, an, cdv, ct, osl, rfl, lk, hcd, hD, hK⟩ := F.ex
  rcases hD with ⟨e, _⟩ | ⟨_, T, oT, its, n, rfl, lT, eT, rT⟩
  · cases e
  · obtain ⟨u, rfl, ru⟩ := vals1 rT
    cases ru
    exact ⟨fun s a u hin => PySem.W.binds_K hin rfl lT eT rfl rfl, fun s a hin => PySem.W.binds_K hin rfl lT eT rfl rfl, fun s a u hin => PySem.W.binds_K hin rfl lT eT rfl rfl⟩
theorem inok_InvalidWhole : InOk st_InvalidWhole_init := in_ok sc_InvalidWhole_init rfl rfl rfl
theorem inb_InvalidWhole {K : PySem.W.Frag} {f : Addr} {fd : FuncData} {qual : Str} (F : FunD K "__init__" qual (C8.fnArgs st_InvalidWhole_init) (C8.fnBody st_InvalidWhole_init) (C8.fnScope st_InvalidWhole_init) [.non] [] f fd) : IniB K fd := by
  obtain ⟨oc, od, dV, kV, doc, pm, an, cdv, ct, osl, rfl, lk, hcd, hD, hK⟩ := F.ex
  rcases hD with ⟨e, _⟩ | ⟨_, T, oT, its, n, rfl, lT, eT, rT⟩
  · cases e
  · obtain ⟨u, rfl, ru⟩ := vals1 rT
    cases ru
    exact ⟨fun s a u hin => PySem.W.binds_K hin rfl lT eT rfl rfl, fun s a hin => PySem.W.binds_K hin rfl lT eT rfl rfl, fun s a u hin => PySem.W.binds_K hin rfl lT eT rfl rfl⟩
theorem inok_InvalidCount : InOk st_InvalidCount_init := in_ok sc_InvalidCount_init rfl rfl rfl
theorem inb_InvalidCount {K : PySem.W.Frag} {f : Addr} {fd : FuncData} {qual : Str} (F : FunD K "__init__" qual (C8.fnArgs st_InvalidCount_init) (C8.fnBody st_InvalidCount_init) (C8.fnScope st_InvalidCount_init) [.non] [] f fd) : IniB K fd := by
  obtain ⟨oc, od, dV, kV, doc, pm, an, cdv, ct, osl, rfl, lk, hcd, hD, hK⟩ := F.ex
  rcases hD with ⟨e, _⟩ | ⟨_, T, oT, its, n, rfl, lT, eT, rT⟩
  · cases e
  · obtain ⟨u, rfl, ru⟩ := vals1 rT
    cases ru
    exact ⟨fun s a u hin => PySem.W.binds_K hin rfl lT eT rfl rfl, fun s a hin => PySem.W.binds_K hin rfl lT eT rfl rfl, fun s a u hin => PySem.W.binds_K hin rfl lT eT rfl rfl⟩
theorem inok_InvalidName : InOk st_InvalidName_init := in_ok sc_InvalidName_init rfl rfl rfl
theorem inb_InvalidName {K : PySem.W.Frag} {f : Addr} {fd : FuncData} {qual : Str} (F : FunD K "__init__" qual (C8.fnArgs st_InvalidName_init) (C8.fnBody st_InvalidName_init) (C8.fnScope st_InvalidName_init) [.non] [] f fd) : IniB K fd := by
  obtain ⟨oc, od, dV, kV, doc, pm, an, cdv, ct, osl, rfl, lk, hcd, hD, hK⟩ := F.ex
  rcases hD with ⟨e, _⟩ | ⟨_, T, oT, its, n, rfl, lT, eT, rT⟩
  · cases e
  · obtain ⟨u, rfl, ru⟩ := vals1 rT
    cases ru
    exact ⟨fun s a u hin => PySem.W.binds_K hin rfl lT eT rfl rfl, fun s a hin => PySem.W.binds_K hin rfl lT eT rfl rfl, fun s a u hin => PySem.W.binds_K hin rfl lT eT rfl rfl⟩
theorem inok_InvalidNames : InOk st_InvalidNames_init := in_ok sc_InvalidNames_init rfl rfl rfl
theorem inb_InvalidNames {K : PySem.W.Frag} {f : Addr} {fd : FuncData} {qual : Str} (F : FunD K "__init__" qual (C8.fnArgs st_InvalidNames_init) (C8.fnBody st_InvalidNames_init) (C8.fnScope st_InvalidNames_init) [.non] [] f fd) : IniB K fd := by
  obtain ⟨oc, od, dV, kV, doc, pm, an, cdv, ct, osl, rfl, lk, hcd, hD, hK⟩ := F.ex
  rcases hD with ⟨e, _⟩ | ⟨_, T, oT, its, n, rfl, lT, eT, rT⟩
  · cases e
  · obtain ⟨u, rfl, ru⟩ := vals1 rT
    cases ru
    exact ⟨fun s a u hin => PySem.W.binds_K hin rfl lT eT rfl rfl, fun s a hin => PySem.W.binds_K hin rfl lT eT rfl rfl, fun s a u hin => PySem.W.binds_K hin rfl lT eT rfl rfl⟩
theorem inok_UnknownName : InOk st_UnknownName_init := in_ok sc_UnknownName_init rfl rfl rfl
theorem inb_UnknownName {K : PySem.W.Frag} {f : Addr} {fd : FuncData} {qual : Str} (F : FunD K "__init__" qual (C8.fnArgs st_UnknownName_init) (C8.fnBody st_UnknownName_init) (C8.fnScope st_UnknownName_init) [.non] [] f fd) : IniB K fd := by
  obtain ⟨oc, od, dV, kV, doc, pm, an, cdv, ct, osl, rfl, lk, hcd, hD, hK⟩ := F.ex
  rcases hD with ⟨e, _⟩ | ⟨_, T, oT, its, n, rfl, lT, eT, rT⟩
  · cases e
  · obtain ⟨u, rfl, ru⟩ := vals1 rT
    cases ru
    exact ⟨fun s a u hin => PySem.W.binds_K hin rfl lT eT rfl rfl, fun s a hin => PySem.W.binds_K hin rfl lT eT rfl rfl, fun s a u hin => PySem.W.binds_K hin rfl lT eT rfl rfl⟩
theorem inok_TakenName : InOk st_TakenName_init := in_ok sc_TakenName_init rfl rfl rfl
theorem inb_TakenName {K : PySem.W.Frag} {f : Addr} {fd : FuncData} {qual : Str} (F : FunD K "__init__" qual (C8.fnArgs st_TakenName_init) (C8.fnBody st_TakenName_init) (C8.fnScope st_TakenName_init) [.non] [] f fd) : IniB K fd := by
  obtain ⟨oc, od, dV, kV, doc, pm, an, cdv, ct, osl, rfl, lk, hcd, hD, hK⟩ := F.ex
  rcases hD with ⟨e, _⟩ | ⟨_, T, oT, its, n, rfl, lT, eT, rT⟩
  · cases e
  · obtain ⟨u, rfl, ru⟩ := vals1 rT
    cases ru
    exact ⟨fun s a u hin => PySem.W.binds_K hin rfl lT eT rfl rfl, fun s a hin => PySem.W.binds_K hin rfl lT eT rfl rfl, fun s a u hin => PySem.W.binds_K hin rfl lT eT rfl rfl⟩
theorem inok_InvalidRules : InOk st_InvalidRules_init := in_ok sc_InvalidRules_init rfl rfl rfl
theorem inb_InvalidRules {K : PySem.W.Frag} {f : Addr} {fd : FuncData} {qual : Str} (F : FunD K "__init__" qual (C8.fnArgs st_InvalidRules_init) (C8.fnBody st_InvalidRules_init) (C8.fnScope st_InvalidRules_init) [.non] [] f fd) : IniB K fd := by
  obtain ⟨oc, od, dV, kV, doc, pm, an, cdv, ct, osl, rfl, lk, hcd, hD, hK⟩ := F.ex
  rcases hD with ⟨e, _⟩ | ⟨_, T, oT, its, n, rfl, lT, eT, rT⟩
  · cases e
  · obtain ⟨u, rfl, ru⟩ := vals1 rT
    cases ru
    exact ⟨fun s a u hin => PySem.W.binds_K hin rfl lT eT rfl rfl, fun s a hin => PySem.W.binds_K hin rfl lT eT rfl rfl, fun s a u hin => PySem.W.binds_K hin rfl lT eT rfl rfl⟩
theorem inok_InvalidBook : InOk st_InvalidBook_init := in_ok sc_InvalidBook_init rfl rfl rfl
theorem inb_InvalidBook {K : PySem.W.Frag} {f : Addr} {fd : FuncData} {qual : Str} (F : FunD K "__init__" qual (C8.fnArgs st_InvalidBook_init) (C8.fnBody st_InvalidBook_init) (C8.fnScope st_InvalidBook_init) [.non] [] f fd) : IniB K fd := by
  obtain ⟨oc, od, dV, kV, doc, pm, an, cdv, ct, osl, rfl, lk, hcd, hD, hK⟩ := F.ex
  rcases hD with ⟨e, _⟩ | ⟨_, T, oT, its, n, rfl, lT, eT, rT⟩
  · cases e
  · obtain ⟨u, rfl, ru⟩ := vals1 rT
    cases ru
    exact ⟨fun s a u hin => PySem.W.binds_K hin rfl lT eT rfl rfl, fun s a hin => PySem.W.binds_K hin rfl lT eT rfl rfl, fun s a u hin => PySem.W.binds_K hin rfl lT eT rfl rfl⟩
theorem inok_Unlike : InOk st_Unlike_init := in_ok sc_Unlike_init rfl rfl rfl
theorem inb_Unlike {K : PySem.W.Frag} {f : Addr} {fd : FuncData} {qual : Str} (F : FunD K "__init__" qual (C8.fnArgs st_Unlike_init) (C8.fnBody st_Unlike_init) (C8.fnScope st_Unlike_init) [.non] [] f fd) : IniB K fd := by
  obtain ⟨oc, od, dV, kV, doc, pm, an, cdv, ct, osl, rfl, lk, hcd, hD, hK⟩ := F.ex
  rcases hD with ⟨e, _⟩ | ⟨_, T, oT, its, n, rfl, lT, eT, rT⟩
  · cases e
  · obtain ⟨u, rfl, ru⟩ := vals1 rT
    cases ru
    exact ⟨fun s a u hin => PySem.W.binds_K hin rfl lT eT rfl rfl, fun s a hin => PySem.W.binds_K hin rfl lT eT rfl rfl, fun s a u hin => PySem.W.binds_K hin rfl lT eT rfl rfl⟩
theorem inok_InvalidLates : InOk st_InvalidLates_init := in_ok sc_InvalidLates_init rfl rfl rfl
theorem inb_InvalidLates {K : PySem.W.Frag} {f : Addr} {fd : FuncData} {qual : Str} (F : FunD K "__init__" qual (C8.fnArgs st_InvalidLates_init) (C8.fnBody st_InvalidLates_init) (C8.fnScope st_InvalidLates_init) [.non] [] f fd) : IniB K fd := by
  obtain ⟨oc, od, dV, kV, doc, pm, an, cdv, ct, osl, rfl, lk, hcd, hD, hK⟩ := F.ex
  rcases hD with ⟨e, _⟩ | ⟨_, T, oT, its, n, rfl, lT, eT, rT⟩
  · cases e
  · obtain ⟨u, rfl, ru⟩ := vals1 rT
    cases ru
    exact ⟨fun s a u hin => PySem.W.binds_K hin rfl lT eT rfl rfl, fun s a hin => PySem.W.binds_K hin rfl lT eT rfl rfl, fun s a u hin => PySem.W.binds_K hin rfl lT eT rfl rfl⟩
theorem inok_InvalidCorners : InOk st_InvalidCorners_init := in_ok sc_InvalidCorners_init rfl rfl rfl
theorem inb_InvalidCorners {K : PySem.W.Frag} {f : Addr} {fd : FuncData} {qual : Str} (F : FunD K "__init__" qual (C8.fnArgs st_InvalidCorners_init) (C8.fnBody st_InvalidCorners_init) (C8.fnScope st_InvalidCorners_init) [.non] [] f fd) : IniB K fd := by
  obtain ⟨oc, od, dV, kV, doc, pm, an, cdv, ct, osl, rfl, lk, hcd, hD, hK⟩ := F.ex
  rcases hD with ⟨e, _⟩ | ⟨_, T, oT, its, n, rfl, lT, eT, rT⟩
  · cases e
  · obtain ⟨u, rfl, ru⟩ := vals1 rT
    cases ru
    exact ⟨fun s a u hin => PySem.W.binds_K hin rfl lT eT rfl rfl, fun s a hin => PySem.W.binds_K hin rfl lT eT rfl rfl, fun s a u hin => PySem.W.binds_K hin rfl lT eT rfl rfl⟩
theorem inok_InvalidStair : InOk st_InvalidStair_init := in_ok sc_InvalidStair_init rfl rfl rfl
theorem inb_InvalidStair {K : PySem.W.Frag} {f : Addr} {fd : FuncData} {qual : Str} (F : FunD K "__init__" qual (C8.fnArgs st_InvalidStair_init) (C8.fnBody st_InvalidStair_init) (C8.fnScope st_InvalidStair_init) [.non] [] f fd) : IniB K fd := by
  obtain ⟨oc, od, dV, kV, doc, pm, an, cdv, ct, osl, rfl, lk, hcd, hD, hK⟩ := F.ex
  rcases hD with ⟨e, _⟩ | ⟨_, T, oT, its, n, rfl, lT, eT, rT⟩
  · cases e
  · obtain ⟨u, rfl, ru⟩ := vals1 rT
    cases ru
    exact ⟨fun s a u hin => PySem.W.binds_K hin rfl lT eT rfl rfl, fun s a hin => PySem.W.binds_K hin rfl lT eT rfl rfl, fun s a u hin => PySem.W.binds_K hin rfl lT eT rfl rfl⟩
theorem inok_InvalidWindows : InOk st_InvalidWindows_init := in_ok sc_InvalidWindows_init rfl rfl rfl
theorem inb_InvalidWindows {K : PySem.W.Frag} {f : Addr} {fd : FuncData} {qual : Str} (F : FunD K "__init__" qual (C8.fnArgs st_InvalidWindows_init) (C8.fnBody st_InvalidWindows_init) (C8.fnScope st_InvalidWindows_init) [.non] [] f fd) : IniB K fd := by
  obtain ⟨oc, od, dV, kV, doc, pm, an, cdv, ct, osl, rfl, lk, hcd, hD, hK⟩ := F.ex
  rcases hD with ⟨e, _⟩ | ⟨_, T, oT, its, n, rfl, lT, eT, rT⟩
  · cases e
  · obtain ⟨u, rfl, ru⟩ := vals1 rT
    cases ru
    exact ⟨fun s a u hin => PySem.W.binds_K hin rfl lT eT rfl rfl, fun s a hin => PySem.W.binds_K hin rfl lT eT rfl rfl, fun s a u hin => PySem.W.binds_K hin rfl lT eT rfl rfl⟩
theorem inok_InvalidSights : InOk st_InvalidSights_init := in_ok sc_InvalidSights_init rfl rfl rfl
theorem inb_InvalidSights {K : PySem.W.Frag} {f : Addr} {fd : FuncData} {qual : Str} (F : FunD K "__init__" qual (C8.fnArgs st_InvalidSights_init) (C8.fnBody st_InvalidSights_init) (C8.fnScope st_InvalidSights_init) [.non] [] f fd) : IniB K fd := by
  obtain ⟨oc, od, dV, kV, doc, pm, an, cdv, ct, osl, rfl, lk, hcd, hD, hK⟩ := F.ex
  rcases hD with ⟨e, _⟩ | ⟨_, T, oT, its, n, rfl, lT, eT, rT⟩
  · cases e
  · obtain ⟨u, rfl, ru⟩ := vals1 rT
    cases ru
    exact ⟨fun s a u hin => PySem.W.binds_K hin rfl lT eT rfl rfl, fun s a hin => PySem.W.binds_K hin rfl lT eT rfl rfl, fun s a u hin => PySem.W.binds_K hin rfl lT eT rfl rfl⟩
theorem inok_Clash : InOk st_Clash_init := in_ok sc_Clash_init rfl rfl rfl
theorem inb_Clash {K : PySem.W.Frag} {f : Addr} {fd : FuncData} {qual : Str} (F : FunD K "__init__" qual (C8.fnArgs st_Clash_init) (C8.fnBody st_Clash_init) (C8.fnScope st_Clash_init) [.non] [] f fd) : IniB K fd := by
  obtain ⟨oc, od, dV, kV, doc, pm, an, cdv, ct, osl, rfl, lk, hcd, hD, hK⟩ := F.ex
  rcases hD with ⟨e, _⟩ | ⟨_, T, oT, its, n, rfl, lT, eT, rT⟩
  · cases e
  · obtain ⟨u, rfl, ru⟩ := vals1 rT
    cases ru
    exact ⟨fun s a u hin => PySem.W.binds_K hin rfl lT eT rfl rfl, fun s a hin => PySem.W.binds_K hin rfl lT eT rfl rfl, fun s a u hin => PySem.W.binds_K hin rfl lT eT rfl rfl⟩
theorem inok_InvalidHall : InOk st_InvalidHall_init := in_ok sc_InvalidHall_init rfl rfl rfl
theorem inb_InvalidHall {K : PySem.W.Frag} {f : Addr} {fd : FuncData} {qual : Str} (F : FunD K "__init__" qual (C8.fnArgs st_InvalidHall_init) (C8.fnBody st_InvalidHall_init) (C8.fnScope st_InvalidHall_init) [.non] [] f fd) : IniB K fd := by
  obtain ⟨oc, od, dV, kV, doc, pm, an, cdv, ct, osl, rfl, lk, hcd, hD, hK⟩ := F.ex
  rcases hD with ⟨e, _⟩ | ⟨_, T, oT, its, n, rfl, lT, eT, rT⟩
  · cases e
  · obtain ⟨u, rfl, ru⟩ := vals1 rT
    cases ru
    exact ⟨fun s a u hin => PySem.W.binds_K hin rfl lT eT rfl rfl, fun s a hin => PySem.W.binds_K hin rfl lT eT rfl rfl, fun s a u hin => PySem.W.binds_K hin rfl lT eT rfl rfl⟩
theorem inok_InvalidScript : InOk st_InvalidScript_init := in_ok sc_InvalidScript_init rfl rfl rfl
theorem inb_InvalidScript {K : PySem.W.Frag} {f : Addr} {fd : FuncData} {qual : Str} (F : FunD K "__init__" qual (C8.fnArgs st_InvalidScript_init) (C8.fnBody st_InvalidScript_init) (C8.fnScope st_InvalidScript_init) [.non] [] f fd) : IniB K fd := by
  obtain ⟨oc, od, dV, kV, doc, pm, an, cdv, ct, osl, rfl, lk, hcd, hD, hK⟩ := F.ex
  rcases hD with ⟨e, _⟩ | ⟨_, T, oT, its, n, rfl, lT, eT, rT⟩
  · cases e
  · obtain ⟨u, rfl, ru⟩ := vals1 rT
    cases ru
    exact ⟨fun s a u hin => PySem.W.binds_K hin rfl lT eT rfl rfl, fun s a hin => PySem.W.binds_K hin rfl lT eT rfl rfl, fun s a u hin => PySem.W.binds_K hin rfl lT eT rfl rfl⟩
theorem inok_InvalidLog : InOk st_InvalidLog_init := in_ok sc_InvalidLog_init rfl rfl rfl
theorem inb_InvalidLog {K : PySem.W.Frag} {f : Addr} {fd : FuncData} {qual : Str} (F : FunD K "__init__" qual (C8.fnArgs st_InvalidLog_init) (C8.fnBody st_InvalidLog_init) (C8.fnScope st_InvalidLog_init) [.non] [] f fd) : IniB K fd := by
  obtain ⟨oc, od, dV, kV, doc, pm, an, cdv, ct, osl, rfl, lk, hcd, hD, hK⟩ := F.ex
  rcases hD with ⟨e, _⟩ | ⟨_, T, oT, its, n, rfl, lT, eT, rT⟩
  · cases e
  · obtain ⟨u, rfl, ru⟩ := vals1 rT
    cases ru
    exact ⟨fun s a u hin => PySem.W.binds_K hin rfl lT eT rfl rfl, fun s a hin => PySem.W.binds_K hin rfl lT eT rfl rfl, fun s a u hin => PySem.W.binds_K hin rfl lT eT rfl rfl⟩
theorem inok_InvalidText : InOk st_InvalidText_init := in_ok sc_InvalidText_init rfl rfl rfl
theorem inb_InvalidText {K : PySem.W.Frag} {f : Addr} {fd : FuncData} {qual : Str} (F : FunD K "__init__" qual (C8.fnArgs st_InvalidText_init) (C8.fnBody st_InvalidText_init) (C8.fnScope st_InvalidText_init) [.non] [] f fd) : IniB K fd := by
  obtain ⟨oc, od, dV, kV, doc, pm, an, cdv, ct, osl, rfl, lk, hcd, hD, hK⟩ := F.ex
  rcases hD with ⟨e, _⟩ | ⟨_, T, oT, its, n, rfl, lT, eT, rT⟩
  · cases e
  · obtain ⟨u, rfl, ru⟩ := vals1 rT
    cases ru
    exact ⟨fun s a u hin => PySem.W.binds_K hin rfl lT eT rfl rfl, fun s a hin => PySem.W.binds_K hin rfl lT eT rfl rfl, fun s a u hin => PySem.W.binds_K hin rfl lT eT rfl rfl⟩
theorem inok_StillNeeded : InOk st_StillNeeded_init := in_ok sc_StillNeeded_init rfl rfl rfl
theorem inb_StillNeeded {K : PySem.W.Frag} {f : Addr} {fd : FuncData} {qual : Str} (F : FunD K "__init__" qual (C8.fnArgs st_StillNeeded_init) (C8.fnBody st_StillNeeded_init) (C8.fnScope st_StillNeeded_init) [.non] [] f fd) : IniB K fd := by
  obtain ⟨oc, od, dV, kV, doc, pm, an, cdv, ct, osl, rfl, lk, hcd, hD, hK⟩ := F.ex
  rcases hD with ⟨e, _⟩ | ⟨_, T, oT, its, n, rfl, lT, eT, rT⟩
  · cases e
  · obtain ⟨u, rfl, ru⟩ := vals1 rT
    cases ru
    exact ⟨fun s a u hin => PySem.W.binds_K hin rfl lT eT rfl rfl, fun s a hin => PySem.W.binds_K hin rfl lT eT rfl rfl, fun s a u hin => PySem.W.binds_K hin rfl lT eT rfl rfl⟩
section
variable {P : Program} {w : World} {K : PySem.W.Frag} {mg : Str → Option Value} {h : Heap} {fa cl0 cl1 cl2 cl3 cl4 cl5 cl6 cl7 cl8 cl9 cl10 cl11 cl12 cl13 cl14 cl15 cl16 cl17 cl18 cl19 cl20 cl21 cl22 cl23 cl24 cl25 cl26 cl27 cl28 : Addr}
theorem all_mk (X : K.In h) (G : h.Ns mainGlobals mg) (hfa : mg "law" = some (.ref fa)) (dL : DefF K "law" st_law)
    (e0 : ErF K "InvalidTerm" cl0) (i0 : IniV K cl0 "InvalidTerm.__init__" st_InvalidTerm_init)
    (e1 : ErF K "InvalidRule" cl1) (i1 : IniV K cl1 "InvalidRule.__init__" st_InvalidRule_init)
    (e2 : ErF K "NotFlat" cl2) (i2 : IniV K cl2 "NotFlat.__init__" st_NotFlat_init)
    (e3 : ErF K "InvalidPath" cl3) (i3 : IniV K cl3 "InvalidPath.__init__" st_InvalidPath_init)
    (e4 : ErF K "InvalidRows" cl4) (i4 : IniV K cl4 "InvalidRows.__init__" st_InvalidRows_init)
    (e5 : ErF K "InvalidHours" cl5) (i5 : IniV K cl5 "InvalidHours.__init__" st_InvalidHours_init)
    (e6 : ErF K "InvalidWhole" cl6) (i6 : IniV K cl6 "InvalidWhole.__init__" st_InvalidWhole_init)
    (e7 : ErF K "InvalidCount" cl7) (i7 : IniV K cl7 "InvalidCount.__init__" st_InvalidCount_init)
    (e8 : ErF K "InvalidName" cl8) (i8 : IniV K cl8 "InvalidName.__init__" st_InvalidName_init)
    (e9 : ErF K "InvalidNames" cl9) (i9 : IniV K cl9 "InvalidNames.__init__" st_InvalidNames_init)
    (e10 : ErF K "UnknownName" cl10) (i10 : IniV K cl10 "UnknownName.__init__" st_UnknownName_init)
    (e11 : ErF K "TakenName" cl11) (i11 : IniV K cl11 "TakenName.__init__" st_TakenName_init)
    (e12 : ErF K "InvalidRules" cl12) (i12 : IniV K cl12 "InvalidRules.__init__" st_InvalidRules_init)
    (e13 : ErF K "InvalidBook" cl13) (i13 : IniV K cl13 "InvalidBook.__init__" st_InvalidBook_init)
    (e14 : ErF K "Unlike" cl14) (i14 : IniV K cl14 "Unlike.__init__" st_Unlike_init)
    (e15 : ErF K "InvalidLates" cl15) (i15 : IniV K cl15 "InvalidLates.__init__" st_InvalidLates_init)
    (e16 : ErF K "InvalidCorners" cl16) (i16 : IniV K cl16 "InvalidCorners.__init__" st_InvalidCorners_init)
    (e17 : ErF K "InvalidStair" cl17) (i17 : IniV K cl17 "InvalidStair.__init__" st_InvalidStair_init)
    (e18 : ErF K "InvalidWindows" cl18) (i18 : IniV K cl18 "InvalidWindows.__init__" st_InvalidWindows_init)
    (e19 : ErF K "InvalidSights" cl19) (i19 : IniV K cl19 "InvalidSights.__init__" st_InvalidSights_init)
    (e20 : ErF K "Clash" cl20) (i20 : IniV K cl20 "Clash.__init__" st_Clash_init)
    (e21 : ErF K "InvalidHall" cl21) (i21 : IniV K cl21 "InvalidHall.__init__" st_InvalidHall_init)
    (e22 : ErF K "InvalidScript" cl22) (i22 : IniV K cl22 "InvalidScript.__init__" st_InvalidScript_init)
    (e23 : ErF K "InvalidLog" cl23) (i23 : IniV K cl23 "InvalidLog.__init__" st_InvalidLog_init)
    (e24 : ErF K "InvalidText" cl24) (i24 : IniV K cl24 "InvalidText.__init__" st_InvalidText_init)
    (e25 : ErF K "StillNeeded" cl25) (i25 : IniV K cl25 "StillNeeded.__init__" st_StillNeeded_init)
    (e26 : ErB K "NothingToUndo" cl26)
    (e27 : ErB K "NothingToRedo" cl27)
    (e28 : ErB K "LeafError" cl28)
    (hn : PySem.W.specialIn K (.builtin "object.__class__") "__get__" = some (some (.builtin "getset_descriptor.__get__"))) (ht : PySem.W.takesIn K (.builtin "object.__class__") = some true)
    (kt : ((List.range 29).all fun i => (List.range 28).all fun j => PySem.W.kitOne K (.ref ([cl0, cl1, cl2, cl3, cl4, cl5, cl6, cl7, cl8, cl9, cl10, cl11, cl12, cl13, cl14, cl15, cl16, cl17, cl18, cl19, cl20, cl21, cl22, cl23, cl24, cl25, cl26, cl27, cl28].getD i 0)) (.ref ([cl0, cl1, cl2, cl3, cl4, cl5, cl6, cl7, cl8, cl9, cl10, cl11, cl12, cl13, cl14, cl15, cl16, cl17, cl18, cl19, cl20, cl21, cl22, cl23, cl24, cl25, cl26, cl27, cl28].getD j 0)) == some (decide (i = j))) = true)
    (ku : ((List.range 29).all fun i => PySem.W.kitOne K (.ref ([cl0, cl1, cl2, cl3, cl4, cl5, cl6, cl7, cl8, cl9, cl10, cl11, cl12, cl13, cl14, cl15, cl16, cl17, cl18, cl19, cl20, cl21, cl22, cl23, cl24, cl25, cl26, cl27, cl28].getD i 0)) (.ref ([cl0, cl1, cl2, cl3, cl4, cl5, cl6, cl7, cl8, cl9, cl10, cl11, cl12, cl13, cl14, cl15, cl16, cl17, cl18, cl19, cl20, cl21, cl22, cl23, cl24, cl25, cl26, cl27, cl28].getD 28 0)) == some true && PySem.W.kitOne K (.ref ([cl0, cl1, cl2, cl3, cl4, cl5, cl6, cl7, cl8, cl9, cl10, cl11, cl12, cl13, cl14, cl15, cl16, cl17, cl18, cl19, cl20, cl21, cl22, cl23, cl24, cl25, cl26, cl27, cl28].getD i 0)) (.type "ValueError") == some true) = true)
    (d_purse : DefF K "_law_purse" st_purse) (d_mixed : DefF K "_law_mixed" st_mixed) (d_draw : DefF K "_law_draw" st_draw) (d_purses : DefF K "_law_purses" st_purses) (d_one_of : DefF K "_law_one_of" st_one_of) (d_word : DefF K "_law_word" st_word) (d_first : DefF K "_law_first" st_first) (d_named : DefF K "_law_named" st_named) (d_bare : DefF K "_law_bare" st_bare) (d_code : DefF K "_law_code" st_code) (d_is_error : DefF K "_law_is_error" st_is_error) (d_right : DefF K "_law_right" st_right)
    (z_isinstance : PySem.W.nsIn K mainGlobals "isinstance" = some none) (z_ValueError : PySem.W.nsIn K mainGlobals "ValueError" = some none) (z_dict : PySem.W.nsIn K mainGlobals "dict" = some none) (z_list : PySem.W.nsIn K mainGlobals "list" = some none) (z_repr : PySem.W.nsIn K mainGlobals "repr" = some none) (z_range : PySem.W.nsIn K mainGlobals "range" = some none) (z_len : PySem.W.nsIn K mainGlobals "len" = some none) (z_max : PySem.W.nsIn K mainGlobals "max" = some none) (z_min : PySem.W.nsIn K mainGlobals "min" = some none) (z_sum : PySem.W.nsIn K mainGlobals "sum" = some none)
    : ∃ fd cs T sp, LawG P w K C8.CX0 6 63 "_law_script" mg fa h fd cs T sp := by
  obtain ⟨f_purse, fd_purse, F_purse, e_purse⟩ := d_purse.def_ X G
  have b_purse := F_purse.fn.binds e_purse (ps := ps_purse) fun _ _ _ _ _ _ us hl => match us, hl with | [_, _], _ => rfl
  obtain ⟨f_mixed, fd_mixed, F_mixed, e_mixed⟩ := d_mixed.def_ X G
  have b_mixed := F_mixed.fn.binds e_mixed (ps := ps_mixed) fun _ _ _ _ _ _ us hl => match us, hl with | [_, _, _], _ => rfl
  obtain ⟨f_draw, fd_draw, F_draw, e_draw⟩ := d_draw.def_ X G
  have b_draw := F_draw.fn.binds e_draw (ps := ps_draw) fun _ _ _ _ _ _ us hl => match us, hl with | [_, _], _ => rfl
  obtain ⟨f_purses, fd_purses, F_purses, e_purses⟩ := d_purses.def_ X G
  have b_purses := F_purses.fn.binds e_purses (ps := ps_purses) fun _ _ _ _ _ _ us hl => match us, hl with | [_, _], _ => rfl
  obtain ⟨f_one_of, fd_one_of, F_one_of, e_one_of⟩ := d_one_of.def_ X G
  have b_one_of := F_one_of.fn.binds e_one_of (ps := ps_one_of) fun _ _ _ _ _ _ us hl => match us, hl with | [_, _], _ => rfl
  obtain ⟨f_word, fd_word, F_word, e_word⟩ := d_word.def_ X G
  have b_word := F_word.fn.binds e_word (ps := ps_word) fun _ _ _ _ _ _ us hl => match us, hl with | [_], _ => rfl
  obtain ⟨f_first, fd_first, F_first, e_first⟩ := d_first.def_ X G
  have b_first := F_first.fn.binds e_first (ps := ps_first) fun _ _ _ _ _ _ us hl => match us, hl with | [_], _ => rfl
  obtain ⟨f_named, fd_named, F_named, e_named⟩ := d_named.def_ X G
  have b_named := F_named.fn.binds e_named (ps := ps_named) fun _ _ _ _ _ _ us hl => match us, hl with | [_], _ => rfl
  obtain ⟨f_bare, fd_bare, F_bare, e_bare⟩ := d_bare.def_ X G
  have b_bare := F_bare.fn.binds e_bare (ps := ps_bare) fun _ _ _ _ _ _ us hl => match us, hl with | [], _ => rfl
  obtain ⟨f_code, fd_code, F_code, e_code⟩ := d_code.def_ X G
  have b_code := F_code.fn.binds e_code (ps := ps_code) fun _ _ _ _ _ _ us hl => match us, hl with | [_], _ => rfl
  obtain ⟨f_is_error, fd_is_error, F_is_error, e_is_error⟩ := d_is_error.def_ X G
  have b_is_error := F_is_error.fn.binds e_is_error (ps := ps_is_error) fun _ _ _ _ _ _ us hl => match us, hl with | [_], _ => rfl
  obtain ⟨f_right, fd_right, F_right, e_right⟩ := d_right.def_ X G
  have b_right := F_right.fn.binds e_right (ps := ps_right) fun _ _ _ _ _ _ us hl => match us, hl with | [_, _], _ => rfl
  obtain ⟨f_law, fd_law, F_law, e_law⟩ := dL.def_ X G
  obtain ⟨f_i0, fd_i0, a_i0, t_i0, F_i0⟩ := i0
  obtain ⟨f_i1, fd_i1, a_i1, t_i1, F_i1⟩ := i1
  obtain ⟨f_i2, fd_i2, a_i2, t_i2, F_i2⟩ := i2
  obtain ⟨f_i3, fd_i3, a_i3, t_i3, F_i3⟩ := i3
  obtain ⟨f_i4, fd_i4, a_i4, t_i4, F_i4⟩ := i4
  obtain ⟨f_i5, fd_i5, a_i5, t_i5, F_i5⟩ := i5
  obtain ⟨f_i6, fd_i6, a_i6, t_i6, F_i6⟩ := i6
  obtain ⟨f_i7, fd_i7, a_i7, t_i7, F_i7⟩ := i7
  obtain ⟨f_i8, fd_i8, a_i8, t_i8, F_i8⟩ := i8
  obtain ⟨f_i9, fd_i9, a_i9, t_i9, F_i9⟩ := i9
  obtain ⟨f_i10, fd_i10, a_i10, t_i10, F_i10⟩ := i10
  obtain ⟨f_i11, fd_i11, a_i11, t_i11, F_i11⟩ := i11
  obtain ⟨f_i12, fd_i12, a_i12, t_i12, F_i12⟩ := i12
  obtain ⟨f_i13, fd_i13, a_i13, t_i13, F_i13⟩ := i13
  obtain ⟨f_i14, fd_i14, a_i14, t_i14, F_i14⟩ := i14
  obtain ⟨f_i15, fd_i15, a_i15, t_i15, F_i15⟩ := i15
  obtain ⟨f_i16, fd_i16, a_i16, t_i16, F_i16⟩ := i16
  obtain ⟨f_i17, fd_i17, a_i17, t_i17, F_i17⟩ := i17
  obtain ⟨f_i18, fd_i18, a_i18, t_i18, F_i18⟩ := i18
  obtain ⟨f_i19, fd_i19, a_i19, t_i19, F_i19⟩ := i19
  obtain ⟨f_i20, fd_i20, a_i20, t_i20, F_i20⟩ := i20
  obtain ⟨f_i21, fd_i21, a_i21, t_i21, F_i21⟩ := i21
  obtain ⟨f_i22, fd_i22, a_i22, t_i22, F_i22⟩ := i22
  obtain ⟨f_i23, fd_i23, a_i23, t_i23, F_i23⟩ := i23
  obtain ⟨f_i24, fd_i24, a_i24, t_i24, F_i24⟩ := i24
  obtain ⟨f_i25, fd_i25, a_i25, t_i25, F_i25⟩ := i25
  have n_isinstance := PySem.W.mg_none_of X G z_isinstance
  have n_ValueError := PySem.W.mg_none_of X G z_ValueError
  have n_dict := PySem.W.mg_none_of X G z_dict
  have n_list := PySem.W.mg_none_of X G z_list
  have n_repr := PySem.W.mg_none_of X G z_repr
  have n_range := PySem.W.mg_none_of X G z_range
  have n_len := PySem.W.mg_none_of X G z_len
  have n_max := PySem.W.mg_none_of X G z_max
  have n_min := PySem.W.mg_none_of X G z_min
  have n_sum := PySem.W.mg_none_of X G z_sum
  have e := hfa.symm.trans F_law.mgf
  cases e
  refine ⟨fd_law, [], [], sp_law ⟨P, w, K, mg, h, []⟩, ?_⟩
  refine ⟨fun p hp => by simp at hp, fun p hp => by simp at hp, fun p hp => by simp at hp, ?_, ?_, ?_⟩
  · intro s u
    obtain ⟨oc, od, dV, kV, doc, pm, an, cdv, ct, osl, hfd, lk, hcd⟩ := F_law.fn.ex
    have e0 : dV = .none := by have := e_law; rw [hfd] at this; exact this
    subst e0
    subst hfd
    exact .of_eq rfl
  · intro H a ns hl _ hH hS
    exact ⟨a, ns, rfl, hS, by omega, fun p hp => by simp at hp, fun _ => rfl⟩
  · intro base GB XB TB
    obtain ⟨m, hm⟩ : ∃ m : Md, m = ⟨P, w, K, mg, base, []⟩ := ⟨_, rfl⟩
    rw [← hm]
    have hK : m.K = K := by rw [hm]
    have hg : m.mg = mg := by rw [hm]
    have hb : m.base = base := by rw [hm]
    have hTT : m.T = [] := by rw [hm]
    clear hm
    subst hK hg hb
    have v0 : ErrV m "InvalidTerm" cl0 := ⟨⟨e0.cls, e0.sa, e0.exC, e0.tyC, e0.kC⟩, ⟨e0.ga, e0.gg, e0.exC, e0.hdC⟩, e0.no, PySem.W.mg_of X G e0.gC, f_i0, fd_i0, a_i0, t_i0, inb_InvalidTerm F_i0, ini_okV F_i0 ⟨e0.cls, e0.sa, e0.exC, e0.tyC, e0.kC⟩ e0.no inok_InvalidTerm⟩
    have x0 : ExcC m.K cl0 := ⟨e0.ga, e0.gg, e0.exC, e0.hdC, e0.ha, hn, ht, e0.hm⟩
    have v1 : ErrV m "InvalidRule" cl1 := ⟨⟨e1.cls, e1.sa, e1.exC, e1.tyC, e1.kC⟩, ⟨e1.ga, e1.gg, e1.exC, e1.hdC⟩, e1.no, PySem.W.mg_of X G e1.gC, f_i1, fd_i1, a_i1, t_i1, inb_InvalidRule F_i1, ini_okV F_i1 ⟨e1.cls, e1.sa, e1.exC, e1.tyC, e1.kC⟩ e1.no inok_InvalidRule⟩
    have x1 : ExcC m.K cl1 := ⟨e1.ga, e1.gg, e1.exC, e1.hdC, e1.ha, hn, ht, e1.hm⟩
    have v2 : ErrV m "NotFlat" cl2 := ⟨⟨e2.cls, e2.sa, e2.exC, e2.tyC, e2.kC⟩, ⟨e2.ga, e2.gg, e2.exC, e2.hdC⟩, e2.no, PySem.W.mg_of X G e2.gC, f_i2, fd_i2, a_i2, t_i2, inb_NotFlat F_i2, ini_okV F_i2 ⟨e2.cls, e2.sa, e2.exC, e2.tyC, e2.kC⟩ e2.no inok_NotFlat⟩
    have x2 : ExcC m.K cl2 := ⟨e2.ga, e2.gg, e2.exC, e2.hdC, e2.ha, hn, ht, e2.hm⟩
    have v3 : ErrV m "InvalidPath" cl3 := ⟨⟨e3.cls, e3.sa, e3.exC, e3.tyC, e3.kC⟩, ⟨e3.ga, e3.gg, e3.exC, e3.hdC⟩, e3.no, PySem.W.mg_of X G e3.gC, f_i3, fd_i3, a_i3, t_i3, inb_InvalidPath F_i3, ini_okV F_i3 ⟨e3.cls, e3.sa, e3.exC, e3.tyC, e3.kC⟩ e3.no inok_InvalidPath⟩
    have x3 : ExcC m.K cl3 := ⟨e3.ga, e3.gg, e3.exC, e3.hdC, e3.ha, hn, ht, e3.hm⟩
    have v4 : ErrV m "InvalidRows" cl4 := ⟨⟨e4.cls, e4.sa, e4.exC, e4.tyC, e4.kC⟩, ⟨e4.ga, e4.gg, e4.exC, e4.hdC⟩, e4.no, PySem.W.mg_of X G e4.gC, f_i4, fd_i4, a_i4, t_i4, inb_InvalidRows F_i4, ini_okV F_i4 ⟨e4.cls, e4.sa, e4.exC, e4.tyC, e4.kC⟩ e4.no inok_InvalidRows⟩
    have x4 : ExcC m.K cl4 := ⟨e4.ga, e4.gg, e4.exC, e4.hdC, e4.ha, hn, ht, e4.hm⟩
    have v5 : ErrV m "InvalidHours" cl5 := ⟨⟨e5.cls, e5.sa, e5.exC, e5.tyC, e5.kC⟩, ⟨e5.ga, e5.gg, e5.exC, e5.hdC⟩, e5.no, PySem.W.mg_of X G e5.gC, f_i5, fd_i5, a_i5, t_i5, inb_InvalidHours F_i5, ini_okV F_i5 ⟨e5.cls, e5.sa, e5.exC, e5.tyC, e5.kC⟩ e5.no inok_InvalidHours⟩
    have x5 : ExcC m.K cl5 := ⟨e5.ga, e5.gg, e5.exC, e5.hdC, e5.ha, hn, ht, e5.hm⟩
    have v6 : ErrV m "InvalidWhole" cl6 := ⟨⟨e6.cls, e6.sa, e6.exC, e6.tyC, e6.kC⟩, ⟨e6.ga, e6.gg, e6.exC, e6.hdC⟩, e6.no, PySem.W.mg_of X G e6.gC, f_i6, fd_i6, a_i6, t_i6, inb_InvalidWhole F_i6, ini_okV F_i6 ⟨e6.cls, e6.sa, e6.exC, e6.tyC, e6.kC⟩ e6.no inok_InvalidWhole⟩
    have x6 : ExcC m.K cl6 := ⟨e6.ga, e6.gg, e6.exC, e6.hdC, e6.ha, hn, ht, e6.hm⟩
    have v7 : ErrV m "InvalidCount" cl7 := ⟨⟨e7.cls, e7.sa, e7.exC, e7.tyC, e7.kC⟩, ⟨e7.ga, e7.gg, e7.exC, e7.hdC⟩, e7.no, PySem.W.mg_of X G e7.gC, f_i7, fd_i7, a_i7, t_i7, inb_InvalidCount F_i7, ini_okV F_i7 ⟨e7.cls, e7.sa, e7.exC, e7.tyC, e7.kC⟩ e7.no inok_InvalidCount⟩
    have x7 : ExcC m.K cl7 := ⟨e7.ga, e7.gg, e7.exC, e7.hdC, e7.ha, hn, ht, e7.hm⟩
    have v8 : ErrV m "InvalidName" cl8 := ⟨⟨e8.cls, e8.sa, e8.exC, e8.tyC, e8.kC⟩, ⟨e8.ga, e8.gg, e8.exC, e8.hdC⟩, e8.no, PySem.W.mg_of X G e8.gC, f_i8, fd_i8, a_i8, t_i8, inb_InvalidName F_i8, ini_okV F_i8 ⟨e8.cls, e8.sa, e8.exC, e8.tyC, e8.kC⟩ e8.no inok_InvalidName⟩
    have x8 : ExcC m.K cl8 := ⟨e8.ga, e8.gg, e8.exC, e8.hdC, e8.ha, hn, ht, e8.hm⟩
    have v9 : ErrV m "InvalidNames" cl9 := ⟨⟨e9.cls, e9.sa, e9.exC, e9.tyC, e9.kC⟩, ⟨e9.ga, e9.gg, e9.exC, e9.hdC⟩, e9.no, PySem.W.mg_of X G e9.gC, f_i9, fd_i9, a_i9, t_i9, inb_InvalidNames F_i9, ini_okV F_i9 ⟨e9.cls, e9.sa, e9.exC, e9.tyC, e9.kC⟩ e9.no inok_InvalidNames⟩
    have x9 : ExcC m.K cl9 := ⟨e9.ga, e9.gg, e9.exC, e9.hdC, e9.ha, hn, ht, e9.hm⟩
    have v10 : ErrV m "UnknownName" cl10 := ⟨⟨e10.cls, e10.sa, e10.exC, e10.tyC, e10.kC⟩, ⟨e10.ga, e10.gg, e10.exC, e10.hdC⟩, e10.no, PySem.W.mg_of X G e10.gC, f_i10, fd_i10, a_i10, t_i10, inb_UnknownName F_i10, ini_okV F_i10 ⟨e10.cls, e10.sa, e10.exC, e10.tyC, e10.kC⟩ e10.no inok_UnknownName⟩
    have x10 : ExcC m.K cl10 := ⟨e10.ga, e10.gg, e10.exC, e10.hdC, e10.ha, hn, ht, e10.hm⟩
    have v11 : ErrV m "TakenName" cl11 := ⟨⟨e11.cls, e11.sa, e11.exC, e11.tyC, e11.kC⟩, ⟨e11.ga, e11.gg, e11.exC, e11.hdC⟩, e11.no, PySem.W.mg_of X G e11.gC, f_i11, fd_i11, a_i11, t_i11, inb_TakenName F_i11, ini_okV F_i11 ⟨e11.cls, e11.sa, e11.exC, e11.tyC, e11.kC⟩ e11.no inok_TakenName⟩
    have x11 : ExcC m.K cl11 := ⟨e11.ga, e11.gg, e11.exC, e11.hdC, e11.ha, hn, ht, e11.hm⟩
    have v12 : ErrV m "InvalidRules" cl12 := ⟨⟨e12.cls, e12.sa, e12.exC, e12.tyC, e12.kC⟩, ⟨e12.ga, e12.gg, e12.exC, e12.hdC⟩, e12.no, PySem.W.mg_of X G e12.gC, f_i12, fd_i12, a_i12, t_i12, inb_InvalidRules F_i12, ini_okV F_i12 ⟨e12.cls, e12.sa, e12.exC, e12.tyC, e12.kC⟩ e12.no inok_InvalidRules⟩
    have x12 : ExcC m.K cl12 := ⟨e12.ga, e12.gg, e12.exC, e12.hdC, e12.ha, hn, ht, e12.hm⟩
    have v13 : ErrV m "InvalidBook" cl13 := ⟨⟨e13.cls, e13.sa, e13.exC, e13.tyC, e13.kC⟩, ⟨e13.ga, e13.gg, e13.exC, e13.hdC⟩, e13.no, PySem.W.mg_of X G e13.gC, f_i13, fd_i13, a_i13, t_i13, inb_InvalidBook F_i13, ini_okV F_i13 ⟨e13.cls, e13.sa, e13.exC, e13.tyC, e13.kC⟩ e13.no inok_InvalidBook⟩
    have x13 : ExcC m.K cl13 := ⟨e13.ga, e13.gg, e13.exC, e13.hdC, e13.ha, hn, ht, e13.hm⟩
    have v14 : ErrV m "Unlike" cl14 := ⟨⟨e14.cls, e14.sa, e14.exC, e14.tyC, e14.kC⟩, ⟨e14.ga, e14.gg, e14.exC, e14.hdC⟩, e14.no, PySem.W.mg_of X G e14.gC, f_i14, fd_i14, a_i14, t_i14, inb_Unlike F_i14, ini_okV F_i14 ⟨e14.cls, e14.sa, e14.exC, e14.tyC, e14.kC⟩ e14.no inok_Unlike⟩
    have x14 : ExcC m.K cl14 := ⟨e14.ga, e14.gg, e14.exC, e14.hdC, e14.ha, hn, ht, e14.hm⟩
    have v15 : ErrV m "InvalidLates" cl15 := ⟨⟨e15.cls, e15.sa, e15.exC, e15.tyC, e15.kC⟩, ⟨e15.ga, e15.gg, e15.exC, e15.hdC⟩, e15.no, PySem.W.mg_of X G e15.gC, f_i15, fd_i15, a_i15, t_i15, inb_InvalidLates F_i15, ini_okV F_i15 ⟨e15.cls, e15.sa, e15.exC, e15.tyC, e15.kC⟩ e15.no inok_InvalidLates⟩
    have x15 : ExcC m.K cl15 := ⟨e15.ga, e15.gg, e15.exC, e15.hdC, e15.ha, hn, ht, e15.hm⟩
    have v16 : ErrV m "InvalidCorners" cl16 := ⟨⟨e16.cls, e16.sa, e16.exC, e16.tyC, e16.kC⟩, ⟨e16.ga, e16.gg, e16.exC, e16.hdC⟩, e16.no, PySem.W.mg_of X G e16.gC, f_i16, fd_i16, a_i16, t_i16, inb_InvalidCorners F_i16, ini_okV F_i16 ⟨e16.cls, e16.sa, e16.exC, e16.tyC, e16.kC⟩ e16.no inok_InvalidCorners⟩
    have x16 : ExcC m.K cl16 := ⟨e16.ga, e16.gg, e16.exC, e16.hdC, e16.ha, hn, ht, e16.hm⟩
    have v17 : ErrV m "InvalidStair" cl17 := ⟨⟨e17.cls, e17.sa, e17.exC, e17.tyC, e17.kC⟩, ⟨e17.ga, e17.gg, e17.exC, e17.hdC⟩, e17.no, PySem.W.mg_of X G e17.gC, f_i17, fd_i17, a_i17, t_i17, inb_InvalidStair F_i17, ini_okV F_i17 ⟨e17.cls, e17.sa, e17.exC, e17.tyC, e17.kC⟩ e17.no inok_InvalidStair⟩
    have x17 : ExcC m.K cl17 := ⟨e17.ga, e17.gg, e17.exC, e17.hdC, e17.ha, hn, ht, e17.hm⟩
    have v18 : ErrV m "InvalidWindows" cl18 := ⟨⟨e18.cls, e18.sa, e18.exC, e18.tyC, e18.kC⟩, ⟨e18.ga, e18.gg, e18.exC, e18.hdC⟩, e18.no, PySem.W.mg_of X G e18.gC, f_i18, fd_i18, a_i18, t_i18, inb_InvalidWindows F_i18, ini_okV F_i18 ⟨e18.cls, e18.sa, e18.exC, e18.tyC, e18.kC⟩ e18.no inok_InvalidWindows⟩
    have x18 : ExcC m.K cl18 := ⟨e18.ga, e18.gg, e18.exC, e18.hdC, e18.ha, hn, ht, e18.hm⟩
    have v19 : ErrV m "InvalidSights" cl19 := ⟨⟨e19.cls, e19.sa, e19.exC, e19.tyC, e19.kC⟩, ⟨e19.ga, e19.gg, e19.exC, e19.hdC⟩, e19.no, PySem.W.mg_of X G e19.gC, f_i19, fd_i19, a_i19, t_i19, inb_InvalidSights F_i19, ini_okV F_i19 ⟨e19.cls, e19.sa, e19.exC, e19.tyC, e19.kC⟩ e19.no inok_InvalidSights⟩
    have x19 : ExcC m.K cl19 := ⟨e19.ga, e19.gg, e19.exC, e19.hdC, e19.ha, hn, ht, e19.hm⟩
    have v20 : ErrV m "Clash" cl20 := ⟨⟨e20.cls, e20.sa, e20.exC, e20.tyC, e20.kC⟩, ⟨e20.ga, e20.gg, e20.exC, e20.hdC⟩, e20.no, PySem.W.mg_of X G e20.gC, f_i20, fd_i20, a_i20, t_i20, inb_Clash F_i20, ini_okV F_i20 ⟨e20.cls, e20.sa, e20.exC, e20.tyC, e20.kC⟩ e20.no inok_Clash⟩
    have x20 : ExcC m.K cl20 := ⟨e20.ga, e20.gg, e20.exC, e20.hdC, e20.ha, hn, ht, e20.hm⟩
    have v21 : ErrV m "InvalidHall" cl21 := ⟨⟨e21.cls, e21.sa, e21.exC, e21.tyC, e21.kC⟩, ⟨e21.ga, e21.gg, e21.exC, e21.hdC⟩, e21.no, PySem.W.mg_of X G e21.gC, f_i21, fd_i21, a_i21, t_i21, inb_InvalidHall F_i21, ini_okV F_i21 ⟨e21.cls, e21.sa, e21.exC, e21.tyC, e21.kC⟩ e21.no inok_InvalidHall⟩
    have x21 : ExcC m.K cl21 := ⟨e21.ga, e21.gg, e21.exC, e21.hdC, e21.ha, hn, ht, e21.hm⟩
    have v22 : ErrV m "InvalidScript" cl22 := ⟨⟨e22.cls, e22.sa, e22.exC, e22.tyC, e22.kC⟩, ⟨e22.ga, e22.gg, e22.exC, e22.hdC⟩, e22.no, PySem.W.mg_of X G e22.gC, f_i22, fd_i22, a_i22, t_i22, inb_InvalidScript F_i22, ini_okV F_i22 ⟨e22.cls, e22.sa, e22.exC, e22.tyC, e22.kC⟩ e22.no inok_InvalidScript⟩
    have x22 : ExcC m.K cl22 := ⟨e22.ga, e22.gg, e22.exC, e22.hdC, e22.ha, hn, ht, e22.hm⟩
    have v23 : ErrV m "InvalidLog" cl23 := ⟨⟨e23.cls, e23.sa, e23.exC, e23.tyC, e23.kC⟩, ⟨e23.ga, e23.gg, e23.exC, e23.hdC⟩, e23.no, PySem.W.mg_of X G e23.gC, f_i23, fd_i23, a_i23, t_i23, inb_InvalidLog F_i23, ini_okV F_i23 ⟨e23.cls, e23.sa, e23.exC, e23.tyC, e23.kC⟩ e23.no inok_InvalidLog⟩
    have x23 : ExcC m.K cl23 := ⟨e23.ga, e23.gg, e23.exC, e23.hdC, e23.ha, hn, ht, e23.hm⟩
    have v24 : ErrV m "InvalidText" cl24 := ⟨⟨e24.cls, e24.sa, e24.exC, e24.tyC, e24.kC⟩, ⟨e24.ga, e24.gg, e24.exC, e24.hdC⟩, e24.no, PySem.W.mg_of X G e24.gC, f_i24, fd_i24, a_i24, t_i24, inb_InvalidText F_i24, ini_okV F_i24 ⟨e24.cls, e24.sa, e24.exC, e24.tyC, e24.kC⟩ e24.no inok_InvalidText⟩
    have x24 : ExcC m.K cl24 := ⟨e24.ga, e24.gg, e24.exC, e24.hdC, e24.ha, hn, ht, e24.hm⟩
    have v25 : ErrV m "StillNeeded" cl25 := ⟨⟨e25.cls, e25.sa, e25.exC, e25.tyC, e25.kC⟩, ⟨e25.ga, e25.gg, e25.exC, e25.hdC⟩, e25.no, PySem.W.mg_of X G e25.gC, f_i25, fd_i25, a_i25, t_i25, inb_StillNeeded F_i25, ini_okV F_i25 ⟨e25.cls, e25.sa, e25.exC, e25.tyC, e25.kC⟩ e25.no inok_StillNeeded⟩
    have x25 : ExcC m.K cl25 := ⟨e25.ga, e25.gg, e25.exC, e25.hdC, e25.ha, hn, ht, e25.hm⟩
    have v26 : ErrB m "NothingToUndo" cl26 := ⟨e26.ex, PySem.W.mg_of X G e26.gC, e26.kC⟩
    have x26 : ExcC m.K cl26 := ⟨e26.ga, e26.gg, e26.exC, e26.hdC, e26.ha, hn, ht, e26.hm⟩
    have v27 : ErrB m "NothingToRedo" cl27 := ⟨e27.ex, PySem.W.mg_of X G e27.gC, e27.kC⟩
    have x27 : ExcC m.K cl27 := ⟨e27.ga, e27.gg, e27.exC, e27.hdC, e27.ha, hn, ht, e27.hm⟩
    have v28 : ErrB m "LeafError" cl28 := ⟨e28.ex, PySem.W.mg_of X G e28.gC, e28.kC⟩
    have x28 : ExcC m.K cl28 := ⟨e28.ga, e28.gg, e28.exC, e28.hdC, e28.ha, hn, ht, e28.hm⟩
    have R : Ers m (fun i => [cl0, cl1, cl2, cl3, cl4, cl5, cl6, cl7, cl8, cl9, cl10, cl11, cl12, cl13, cl14, cl15, cl16, cl17, cl18, cl19, cl20, cl21, cl22, cl23, cl24, cl25, cl26, cl27, cl28].getD i 0) := ⟨fun i hi => match i, hi with | 0, _ => v0 | 1, _ => v1 | 2, _ => v2 | 3, _ => v3 | 4, _ => v4 | 5, _ => v5 | 6, _ => v6 | 7, _ => v7 | 8, _ => v8 | 9, _ => v9 | 10, _ => v10 | 11, _ => v11 | 12, _ => v12 | 13, _ => v13 | 14, _ => v14 | 15, _ => v15 | 16, _ => v16 | 17, _ => v17 | 18, _ => v18 | 19, _ => v19 | 20, _ => v20 | 21, _ => v21 | 22, _ => v22 | 23, _ => v23 | 24, _ => v24 | 25, _ => v25 | n + 26, h => absurd h (by omega), fun i lo hi => by
      rcases (show i = 26 ∨ i = 27 ∨ i = 28 by omega) with e | e | e
      · rw [e]; exact v26
      · rw [e]; exact v27
      · rw [e]; exact v28,
      fun i hi => match i, hi with | 0, _ => x0 | 1, _ => x1 | 2, _ => x2 | 3, _ => x3 | 4, _ => x4 | 5, _ => x5 | 6, _ => x6 | 7, _ => x7 | 8, _ => x8 | 9, _ => x9 | 10, _ => x10 | 11, _ => x11 | 12, _ => x12 | 13, _ => x13 | 14, _ => x14 | 15, _ => x15 | 16, _ => x16 | 17, _ => x17 | 18, _ => x18 | 19, _ => x19 | 20, _ => x20 | 21, _ => x21 | 22, _ => x22 | 23, _ => x23 | 24, _ => x24 | 25, _ => x25 | 26, _ => x26 | 27, _ => x27 | 28, _ => x28 | n + 29, h => absurd h (by omega), fun i hi => match i, hi with | 0, _ => v0.gC | 1, _ => v1.gC | 2, _ => v2.gC | 3, _ => v3.gC | 4, _ => v4.gC | 5, _ => v5.gC | 6, _ => v6.gC | 7, _ => v7.gC | 8, _ => v8.gC | 9, _ => v9.gC | 10, _ => v10.gC | 11, _ => v11.gC | 12, _ => v12.gC | 13, _ => v13.gC | 14, _ => v14.gC | 15, _ => v15.gC | 16, _ => v16.gC | 17, _ => v17.gC | 18, _ => v18.gC | 19, _ => v19.gC | 20, _ => v20.gC | 21, _ => v21.gC | 22, _ => v22.gC | 23, _ => v23.gC | 24, _ => v24.gC | 25, _ => v25.gC | 26, _ => v26.gC | 27, _ => v27.gC | 28, _ => v28.gC | n + 29, h => absurd h (by omega), fun i j hi hj => beq_iff_eq.mp (List.all_eq_true.1 (List.all_eq_true.1 kt i (List.mem_range.2 hi)) j (List.mem_range.2 hj)),
      fun i hi => beq_iff_eq.mp (Bool.and_eq_true_iff.mp (List.all_eq_true.1 ku i (List.mem_range.2 hi))).1, fun i hi => beq_iff_eq.mp (Bool.and_eq_true_iff.mp (List.all_eq_true.1 ku i (List.mem_range.2 hi))).2⟩
    have l1 := c_mixed F_mixed b_mixed
    have l2 := c_draw F_draw b_draw n_range l1
    have l3 := c_purse F_purse b_purse n_sum n_max
    have l4 := c_purses F_purses b_purses n_range n_max n_min n_len l3
    have l5 := c_one_of F_one_of b_one_of n_len l2
    have l6 := c_word F_word b_word n_range l2
    have r1 := c_first R F_first b_first
    have r2 := c_named R F_named b_named
    have r3 := c_bare R F_bare b_bare
    have r4 := c_code R F_code b_code n_isinstance n_range n_len
    have r5 := c_isE R F_is_error b_is_error n_isinstance n_ValueError
    have r6 := c_right R F_right b_right n_range n_repr r4 r5
    refine (f_law R F_law.fn n_dict n_list n_isinstance n_repr l4 l6 l5 r1 r2 r3 r4 r5 r6).imp fun vs H Q E z => ?_
    obtain ⟨a, ns, e, hs, hn, hT, k⟩ := z
    exact ⟨a, ns, e, hs, hn, by rw [hTT]; exact hT, k⟩
end
end Vf
open PySem PySem.W PyProof.Rows
set_option maxRecDepth 100000 in
set_option maxHeartbeats 0 in
theorem PySem.Challenge.cw_leafwaits_k01_errors_made_holds : PySem.Challenge.rw_leafwaits_k01_errors_made.Holds := by
  w_on; o_law; k_head; (case hw => w_witness2)
  k_fill
  refine Vf.walkG (l := PySem.Challenge.rw_leafwaits_k01_errors_made) (n := 63) (k := 6) (x := "_law_script") (CX := fun _ => C8.CX0) rfl (by decide) rfl ⟨rfl, by decide, by decide⟩ (fun w h Y => PySem.W.kIn_of Y) ?F (fun _ _ _ _ _ z => z)
  case F =>
    intro w mg fa h Y KX G hmg
    refine' Vf.all_mk KX G hmg ?dL ?e0 ?i0 ?e1 ?i1 ?e2 ?i2 ?e3 ?i3 ?e4 ?i4 ?e5 ?i5 ?e6 ?i6 ?e7 ?i7 ?e8 ?i8 ?e9 ?i9 ?e10 ?i10 ?e11 ?i11 ?e12 ?i12 ?e13 ?i13 ?e14 ?i14 ?e15 ?i15 ?e16 ?i16 ?e17 ?i17 ?e18 ?i18 ?e19 ?i19 ?e20 ?i20 ?e21 ?i21 ?e22 ?i22 ?e23 ?i23 ?e24 ?i24 ?e25 ?i25 ?e26 ?e27 ?e28 ?hn ?ht ?kt ?ku ?d_purse ?d_mixed ?d_draw ?d_purses ?d_one_of ?d_word ?d_first ?d_named ?d_bare ?d_code ?d_is_error ?d_right ?z_isinstance ?z_ValueError ?z_dict ?z_list ?z_repr ?z_range ?z_len ?z_max ?z_min ?z_sum
    (case dL => (refine' Vf.mk_def ?a ?l ?c ?k; (case a => k_is); (case l => k_is); (case c => k_is); (case k => k_is)))
    (case e0 => (refine' ⟨?gC, ?cls, ?sa, ?exC, ?tyC, ?kC, ?ga, ?gg, ?hdC, ?no, ?ha, ?hm⟩; (case gC => k_is); (case cls => (refine' Vf.mk_clsV ?l ?r; (case l => k_is); (case r => first | rfl | decide))); (case sa => k_is); (case exC => k_is); (case tyC => k_is); (case kC => k_is); (case ga => k_is); (case gg => k_is); (case hdC => k_is); (case no => k_is); (case ha => k_is); (case hm => k_is)))
    (case i0 => (refine' Vf.mk_iniV ?a ?t ?l ?c ?lT ?k; (case a => k_is); (case t => k_is); (case l => k_is); (case c => k_is); (case lT => k_is); (case k => k_is)))
    (case e1 => (refine' ⟨?gC, ?cls, ?sa, ?exC, ?tyC, ?kC, ?ga, ?gg, ?hdC, ?no, ?ha, ?hm⟩; (case gC => k_is); (case cls => (refine' Vf.mk_clsV ?l ?r; (case l => k_is); (case r => first | rfl | decide))); (case sa => k_is); (case exC => k_is); (case tyC => k_is); (case kC => k_is); (case ga => k_is); (case gg => k_is); (case hdC => k_is); (case no => k_is); (case ha => k_is); (case hm => k_is)))
    (case i1 => (refine' Vf.mk_iniV ?a ?t ?l ?c ?lT ?k; (case a => k_is); (case t => k_is); (case l => k_is); (case c => k_is); (case lT => k_is); (case k => k_is)))
    (case e2 => (refine' ⟨?gC, ?cls, ?sa, ?exC, ?tyC, ?kC, ?ga, ?gg, ?hdC, ?no, ?ha, ?hm⟩; (case gC => k_is); (case cls => (refine' Vf.mk_clsV ?l ?r; (case l => k_is); (case r => first | rfl | decide))); (case sa => k_is); (case exC => k_is); (case tyC => k_is); (case kC => k_is); (case ga => k_is); (case gg => k_is); (case hdC => k_is); (case no => k_is); (case ha => k_is); (case hm => k_is)))
    (case i2 => (refine' Vf.mk_iniV ?a ?t ?l ?c ?lT ?k; (case a => k_is); (case t => k_is); (case l => k_is); (case c => k_is); (case lT => k_is); (case k => k_is)))
    (case e3 => (refine' ⟨?gC, ?cls, ?sa, ?exC, ?tyC, ?kC, ?ga, ?gg, ?hdC, ?no, ?ha, ?hm⟩; (case gC => k_is); (case cls => (refine' Vf.mk_clsV ?l ?r; (case l => k_is); (case r => first | rfl | decide))); (case sa => k_is); (case exC => k_is); (case tyC => k_is); (case kC => k_is); (case ga => k_is); (case gg => k_is); (case hdC => k_is); (case no => k_is); (case ha => k_is); (case hm => k_is)))
    (case i3 => (refine' Vf.mk_iniV ?a ?t ?l ?c ?lT ?k; (case a => k_is); (case t => k_is); (case l => k_is); (case c => k_is); (case lT => k_is); (case k => k_is)))
    (case e4 => (refine' ⟨?gC, ?cls, ?sa, ?exC, ?tyC, ?kC, ?ga, ?gg, ?hdC, ?no, ?ha, ?hm⟩; (case gC => k_is); (case cls => (refine' Vf.mk_clsV ?l ?r; (case l => k_is); (case r => first | rfl | decide))); (case sa => k_is); (case exC => k_is); (case tyC => k_is); (case kC => k_is); (case ga => k_is); (case gg => k_is); (case hdC => k_is); (case no => k_is); (case ha => k_is); (case hm => k_is)))
    (case i4 => (refine' Vf.mk_iniV ?a ?t ?l ?c ?lT ?k; (case a => k_is); (case t => k_is); (case l => k_is); (case c => k_is); (case lT => k_is); (case k => k_is)))
    (case e5 => (refine' ⟨?gC, ?cls, ?sa, ?exC, ?tyC, ?kC, ?ga, ?gg, ?hdC, ?no, ?ha, ?hm⟩; (case gC => k_is); (case cls => (refine' Vf.mk_clsV ?l ?r; (case l => k_is); (case r => first | rfl | decide))); (case sa => k_is); (case exC => k_is); (case tyC => k_is); (case kC => k_is); (case ga => k_is); (case gg => k_is); (case hdC => k_is); (case no => k_is); (case ha => k_is); (case hm => k_is)))
    (case i5 => (refine' Vf.mk_iniV ?a ?t ?l ?c ?lT ?k; (case a => k_is); (case t => k_is); (case l => k_is); (case c => k_is); (case lT => k_is); (case k => k_is)))
    (case e6 => (refine' ⟨?gC, ?cls, ?sa, ?exC, ?tyC, ?kC, ?ga, ?gg, ?hdC, ?no, ?ha, ?hm⟩; (case gC => k_is); (case cls => (refine' Vf.mk_clsV ?l ?r; (case l => k_is); (case r => first | rfl | decide))); (case sa => k_is); (case exC => k_is); (case tyC => k_is); (case kC => k_is); (case ga => k_is); (case gg => k_is); (case hdC => k_is); (case no => k_is); (case ha => k_is); (case hm => k_is)))
    (case i6 => (refine' Vf.mk_iniV ?a ?t ?l ?c ?lT ?k; (case a => k_is); (case t => k_is); (case l => k_is); (case c => k_is); (case lT => k_is); (case k => k_is)))
    (case e7 => (refine' ⟨?gC, ?cls, ?sa, ?exC, ?tyC, ?kC, ?ga, ?gg, ?hdC, ?no, ?ha, ?hm⟩; (case gC => k_is); (case cls => (refine' Vf.mk_clsV ?l ?r; (case l => k_is); (case r => first | rfl | decide))); (case sa => k_is); (case exC => k_is); (case tyC => k_is); (case kC => k_is); (case ga => k_is); (case gg => k_is); (case hdC => k_is); (case no => k_is); (case ha => k_is); (case hm => k_is)))
    (case i7 => (refine' Vf.mk_iniV ?a ?t ?l ?c ?lT ?k; (case a => k_is); (case t => k_is); (case l => k_is); (case c => k_is); (case lT => k_is); (case k => k_is)))
    (case e8 => (refine' ⟨?gC, ?cls, ?sa, ?exC, ?tyC, ?kC, ?ga, ?gg, ?hdC, ?no, ?ha, ?hm⟩; (case gC => k_is); (case cls => (refine' Vf.mk_clsV ?l ?r; (case l => k_is); (case r => first | rfl | decide))); (case sa => k_is); (case exC => k_is); (case tyC => k_is); (case kC => k_is); (case ga => k_is); (case gg => k_is); (case hdC => k_is); (case no => k_is); (case ha => k_is); (case hm => k_is)))
    (case i8 => (refine' Vf.mk_iniV ?a ?t ?l ?c ?lT ?k; (case a => k_is); (case t => k_is); (case l => k_is); (case c => k_is); (case lT => k_is); (case k => k_is)))
    (case e9 => (refine' ⟨?gC, ?cls, ?sa, ?exC, ?tyC, ?kC, ?ga, ?gg, ?hdC, ?no, ?ha, ?hm⟩; (case gC => k_is); (case cls => (refine' Vf.mk_clsV ?l ?r; (case l => k_is); (case r => first | rfl | decide))); (case sa => k_is); (case exC => k_is); (case tyC => k_is); (case kC => k_is); (case ga => k_is); (case gg => k_is); (case hdC => k_is); (case no => k_is); (case ha => k_is); (case hm => k_is)))
    (case i9 => (refine' Vf.mk_iniV ?a ?t ?l ?c ?lT ?k; (case a => k_is); (case t => k_is); (case l => k_is); (case c => k_is); (case lT => k_is); (case k => k_is)))
    (case e10 => (refine' ⟨?gC, ?cls, ?sa, ?exC, ?tyC, ?kC, ?ga, ?gg, ?hdC, ?no, ?ha, ?hm⟩; (case gC => k_is); (case cls => (refine' Vf.mk_clsV ?l ?r; (case l => k_is); (case r => first | rfl | decide))); (case sa => k_is); (case exC => k_is); (case tyC => k_is); (case kC => k_is); (case ga => k_is); (case gg => k_is); (case hdC => k_is); (case no => k_is); (case ha => k_is); (case hm => k_is)))
    (case i10 => (refine' Vf.mk_iniV ?a ?t ?l ?c ?lT ?k; (case a => k_is); (case t => k_is); (case l => k_is); (case c => k_is); (case lT => k_is); (case k => k_is)))
    (case e11 => (refine' ⟨?gC, ?cls, ?sa, ?exC, ?tyC, ?kC, ?ga, ?gg, ?hdC, ?no, ?ha, ?hm⟩; (case gC => k_is); (case cls => (refine' Vf.mk_clsV ?l ?r; (case l => k_is); (case r => first | rfl | decide))); (case sa => k_is); (case exC => k_is); (case tyC => k_is); (case kC => k_is); (case ga => k_is); (case gg => k_is); (case hdC => k_is); (case no => k_is); (case ha => k_is); (case hm => k_is)))
    (case i11 => (refine' Vf.mk_iniV ?a ?t ?l ?c ?lT ?k; (case a => k_is); (case t => k_is); (case l => k_is); (case c => k_is); (case lT => k_is); (case k => k_is)))
    (case e12 => (refine' ⟨?gC, ?cls, ?sa, ?exC, ?tyC, ?kC, ?ga, ?gg, ?hdC, ?no, ?ha, ?hm⟩; (case gC => k_is); (case cls => (refine' Vf.mk_clsV ?l ?r; (case l => k_is); (case r => first | rfl | decide))); (case sa => k_is); (case exC => k_is); (case tyC => k_is); (case kC => k_is); (case ga => k_is); (case gg => k_is); (case hdC => k_is); (case no => k_is); (case ha => k_is); (case hm => k_is)))
    (case i12 => (refine' Vf.mk_iniV ?a ?t ?l ?c ?lT ?k; (case a => k_is); (case t => k_is); (case l => k_is); (case c => k_is); (case lT => k_is); (case k => k_is)))
    (case e13 => (refine' ⟨?gC, ?cls, ?sa, ?exC, ?tyC, ?kC, ?ga, ?gg, ?hdC, ?no, ?ha, ?hm⟩; (case gC => k_is); (case cls => (refine' Vf.mk_clsV ?l ?r; (case l => k_is); (case r => first | rfl | decide))); (case sa => k_is); (case exC => k_is); (case tyC => k_is); (case kC => k_is); (case ga => k_is); (case gg => k_is); (case hdC => k_is); (case no => k_is); (case ha => k_is); (case hm => k_is)))
    (case i13 => (refine' Vf.mk_iniV ?a ?t ?l ?c ?lT ?k; (case a => k_is); (case t => k_is); (case l => k_is); (case c => k_is); (case lT => k_is); (case k => k_is)))
    (case e14 => (refine' ⟨?gC, ?cls, ?sa, ?exC, ?tyC, ?kC, ?ga, ?gg, ?hdC, ?no, ?ha, ?hm⟩; (case gC => k_is); (case cls => (refine' Vf.mk_clsV ?l ?r; (case l => k_is); (case r => first | rfl | decide))); (case sa => k_is); (case exC => k_is); (case tyC => k_is); (case kC => k_is); (case ga => k_is); (case gg => k_is); (case hdC => k_is); (case no => k_is); (case ha => k_is); (case hm => k_is)))
    (case i14 => (refine' Vf.mk_iniV ?a ?t ?l ?c ?lT ?k; (case a => k_is); (case t => k_is); (case l => k_is); (case c => k_is); (case lT => k_is); (case k => k_is)))
    (case e15 => (refine' ⟨?gC, ?cls, ?sa, ?exC, ?tyC, ?kC, ?ga, ?gg, ?hdC, ?no, ?ha, ?hm⟩; (case gC => k_is); (case cls => (refine' Vf.mk_clsV ?l ?r; (case l => k_is); (case r => first | rfl | decide))); (case sa => k_is); (case exC => k_is); (case tyC => k_is); (case kC => k_is); (case ga => k_is); (case gg => k_is); (case hdC => k_is); (case no => k_is); (case ha => k_is); (case hm => k_is)))
    (case i15 => (refine' Vf.mk_iniV ?a ?t ?l ?c ?lT ?k; (case a => k_is); (case t => k_is); (case l => k_is); (case c => k_is); (case lT => k_is); (case k => k_is)))
    (case e16 => (refine' ⟨?gC, ?cls, ?sa, ?exC, ?tyC, ?kC, ?ga, ?gg, ?hdC, ?no, ?ha, ?hm⟩; (case gC => k_is); (case cls => (refine' Vf.mk_clsV ?l ?r; (case l => k_is); (case r => first | rfl | decide))); (case sa => k_is); (case exC => k_is); (case tyC => k_is); (case kC => k_is); (case ga => k_is); (case gg => k_is); (case hdC => k_is); (case no => k_is); (case ha => k_is); (case hm => k_is)))
    (case i16 => (refine' Vf.mk_iniV ?a ?t ?l ?c ?lT ?k; (case a => k_is); (case t => k_is); (case l => k_is); (case c => k_is); (case lT => k_is); (case k => k_is)))
    (case e17 => (refine' ⟨?gC, ?cls, ?sa, ?exC, ?tyC, ?kC, ?ga, ?gg, ?hdC, ?no, ?ha, ?hm⟩; (case gC => k_is); (case cls => (refine' Vf.mk_clsV ?l ?r; (case l => k_is); (case r => first | rfl | decide))); (case sa => k_is); (case exC => k_is); (case tyC => k_is); (case kC => k_is); (case ga => k_is); (case gg => k_is); (case hdC => k_is); (case no => k_is); (case ha => k_is); (case hm => k_is)))
    (case i17 => (refine' Vf.mk_iniV ?a ?t ?l ?c ?lT ?k; (case a => k_is); (case t => k_is); (case l => k_is); (case c => k_is); (case lT => k_is); (case k => k_is)))
    (case e18 => (refine' ⟨?gC, ?cls, ?sa, ?exC, ?tyC, ?kC, ?ga, ?gg, ?hdC, ?no, ?ha, ?hm⟩; (case gC => k_is); (case cls => (refine' Vf.mk_clsV ?l ?r; (case l => k_is); (case r => first | rfl | decide))); (case sa => k_is); (case exC => k_is); (case tyC => k_is); (case kC => k_is); (case ga => k_is); (case gg => k_is); (case hdC => k_is); (case no => k_is); (case ha => k_is); (case hm => k_is)))
    (case i18 => (refine' Vf.mk_iniV ?a ?t ?l ?c ?lT ?k; (case a => k_is); (case t => k_is); (case l => k_is); (case c => k_is); (case lT => k_is); (case k => k_is)))
    (case e19 => (refine' ⟨?gC, ?cls, ?sa, ?exC, ?tyC, ?kC, ?ga, ?gg, ?hdC, ?no, ?ha, ?hm⟩; (case gC => k_is); (case cls => (refine' Vf.mk_clsV ?l ?r; (case l => k_is); (case r => first | rfl | decide))); (case sa => k_is); (case exC => k_is); (case tyC => k_is); (case kC => k_is); (case ga => k_is); (case gg => k_is); (case hdC => k_is); (case no => k_is); (case ha => k_is); (case hm => k_is)))
    (case i19 => (refine' Vf.mk_iniV ?a ?t ?l ?c ?lT ?k; (case a => k_is); (case t => k_is); (case l => k_is); (case c => k_is); (case lT => k_is); (case k => k_is)))
    (case e20 => (refine' ⟨?gC, ?cls, ?sa, ?exC, ?tyC, ?kC, ?ga, ?gg, ?hdC, ?no, ?ha, ?hm⟩; (case gC => k_is); (case cls => (refine' Vf.mk_clsV ?l ?r; (case l => k_is); (case r => first | rfl | decide))); (case sa => k_is); (case exC => k_is); (case tyC => k_is); (case kC => k_is); (case ga => k_is); (case gg => k_is); (case hdC => k_is); (case no => k_is); (case ha => k_is); (case hm => k_is)))
    (case i20 => (refine' Vf.mk_iniV ?a ?t ?l ?c ?lT ?k; (case a => k_is); (case t => k_is); (case l => k_is); (case c => k_is); (case lT => k_is); (case k => k_is)))
    (case e21 => (refine' ⟨?gC, ?cls, ?sa, ?exC, ?tyC, ?kC, ?ga, ?gg, ?hdC, ?no, ?ha, ?hm⟩; (case gC => k_is); (case cls => (refine' Vf.mk_clsV ?l ?r; (case l => k_is); (case r => first | rfl | decide))); (case sa => k_is); (case exC => k_is); (case tyC => k_is); (case kC => k_is); (case ga => k_is); (case gg => k_is); (case hdC => k_is); (case no => k_is); (case ha => k_is); (case hm => k_is)))
    (case i21 => (refine' Vf.mk_iniV ?a ?t ?l ?c ?lT ?k; (case a => k_is); (case t => k_is); (case l => k_is); (case c => k_is); (case lT => k_is); (case k => k_is)))
    (case e22 => (refine' ⟨?gC, ?cls, ?sa, ?exC, ?tyC, ?kC, ?ga, ?gg, ?hdC, ?no, ?ha, ?hm⟩; (case gC => k_is); (case cls => (refine' Vf.mk_clsV ?l ?r; (case l => k_is); (case r => first | rfl | decide))); (case sa => k_is); (case exC => k_is); (case tyC => k_is); (case kC => k_is); (case ga => k_is); (case gg => k_is); (case hdC => k_is); (case no => k_is); (case ha => k_is); (case hm => k_is)))
    (case i22 => (refine' Vf.mk_iniV ?a ?t ?l ?c ?lT ?k; (case a => k_is); (case t => k_is); (case l => k_is); (case c => k_is); (case lT => k_is); (case k => k_is)))
    (case e23 => (refine' ⟨?gC, ?cls, ?sa, ?exC, ?tyC, ?kC, ?ga, ?gg, ?hdC, ?no, ?ha, ?hm⟩; (case gC => k_is); (case cls => (refine' Vf.mk_clsV ?l ?r; (case l => k_is); (case r => first | rfl | decide))); (case sa => k_is); (case exC => k_is); (case tyC => k_is); (case kC => k_is); (case ga => k_is); (case gg => k_is); (case hdC => k_is); (case no => k_is); (case ha => k_is); (case hm => k_is)))
    (case i23 => (refine' Vf.mk_iniV ?a ?t ?l ?c ?lT ?k; (case a => k_is); (case t => k_is); (case l => k_is); (case c => k_is); (case lT => k_is); (case k => k_is)))
    (case e24 => (refine' ⟨?gC, ?cls, ?sa, ?exC, ?tyC, ?kC, ?ga, ?gg, ?hdC, ?no, ?ha, ?hm⟩; (case gC => k_is); (case cls => (refine' Vf.mk_clsV ?l ?r; (case l => k_is); (case r => first | rfl | decide))); (case sa => k_is); (case exC => k_is); (case tyC => k_is); (case kC => k_is); (case ga => k_is); (case gg => k_is); (case hdC => k_is); (case no => k_is); (case ha => k_is); (case hm => k_is)))
    (case i24 => (refine' Vf.mk_iniV ?a ?t ?l ?c ?lT ?k; (case a => k_is); (case t => k_is); (case l => k_is); (case c => k_is); (case lT => k_is); (case k => k_is)))
    (case e25 => (refine' ⟨?gC, ?cls, ?sa, ?exC, ?tyC, ?kC, ?ga, ?gg, ?hdC, ?no, ?ha, ?hm⟩; (case gC => k_is); (case cls => (refine' Vf.mk_clsV ?l ?r; (case l => k_is); (case r => first | rfl | decide))); (case sa => k_is); (case exC => k_is); (case tyC => k_is); (case kC => k_is); (case ga => k_is); (case gg => k_is); (case hdC => k_is); (case no => k_is); (case ha => k_is); (case hm => k_is)))
    (case i25 => (refine' Vf.mk_iniV ?a ?t ?l ?c ?lT ?k; (case a => k_is); (case t => k_is); (case l => k_is); (case c => k_is); (case lT => k_is); (case k => k_is)))
    (case e26 => (refine' ⟨?gC, ?ex, ?exC, ?kC, ?ga, ?gg, ?hdC, ?ha, ?hm⟩; (case gC => k_is); (case ex => first | k_is | kernel_rfl); (case exC => k_is); (case kC => k_is); (case ga => k_is); (case gg => k_is); (case hdC => k_is); (case ha => k_is); (case hm => k_is)))
    (case e27 => (refine' ⟨?gC, ?ex, ?exC, ?kC, ?ga, ?gg, ?hdC, ?ha, ?hm⟩; (case gC => k_is); (case ex => first | k_is | kernel_rfl); (case exC => k_is); (case kC => k_is); (case ga => k_is); (case gg => k_is); (case hdC => k_is); (case ha => k_is); (case hm => k_is)))
    (case e28 => (refine' ⟨?gC, ?ex, ?exC, ?kC, ?ga, ?gg, ?hdC, ?ha, ?hm⟩; (case gC => k_is); (case ex => first | k_is | kernel_rfl); (case exC => k_is); (case kC => k_is); (case ga => k_is); (case gg => k_is); (case hdC => k_is); (case ha => k_is); (case hm => k_is)))
    (case hn => k_is)
    (case ht => k_is)
    (case kt => kernel_rfl)
    (case ku => kernel_rfl)
    (case d_purse => (refine' Vf.mk_def ?a ?l ?c ?k; (case a => k_is); (case l => k_is); (case c => k_is); (case k => k_is)))
    (case d_mixed => (refine' Vf.mk_def ?a ?l ?c ?k; (case a => k_is); (case l => k_is); (case c => k_is); (case k => k_is)))
    (case d_draw => (refine' Vf.mk_def ?a ?l ?c ?k; (case a => k_is); (case l => k_is); (case c => k_is); (case k => k_is)))
    (case d_purses => (refine' Vf.mk_def ?a ?l ?c ?k; (case a => k_is); (case l => k_is); (case c => k_is); (case k => k_is)))
    (case d_one_of => (refine' Vf.mk_def ?a ?l ?c ?k; (case a => k_is); (case l => k_is); (case c => k_is); (case k => k_is)))
    (case d_word => (refine' Vf.mk_def ?a ?l ?c ?k; (case a => k_is); (case l => k_is); (case c => k_is); (case k => k_is)))
    (case d_first => (refine' Vf.mk_def ?a ?l ?c ?k; (case a => k_is); (case l => k_is); (case c => k_is); (case k => k_is)))
    (case d_named => (refine' Vf.mk_def ?a ?l ?c ?k; (case a => k_is); (case l => k_is); (case c => k_is); (case k => k_is)))
    (case d_bare => (refine' Vf.mk_def ?a ?l ?c ?k; (case a => k_is); (case l => k_is); (case c => k_is); (case k => k_is)))
    (case d_code => (refine' Vf.mk_def ?a ?l ?c ?k; (case a => k_is); (case l => k_is); (case c => k_is); (case k => k_is)))
    (case d_is_error => (refine' Vf.mk_def ?a ?l ?c ?k; (case a => k_is); (case l => k_is); (case c => k_is); (case k => k_is)))
    (case d_right => (refine' Vf.mk_def ?a ?l ?c ?k; (case a => k_is); (case l => k_is); (case c => k_is); (case k => k_is)))
    (case z_isinstance => k_is)
    (case z_ValueError => k_is)
    (case z_dict => k_is)
    (case z_list => k_is)
    (case z_repr => k_is)
    (case z_range => k_is)
    (case z_len => k_is)
    (case z_max => k_is)
    (case z_min => k_is)
    (case z_sum => k_is)
