import PyProof.Rows.All
import Wide.All
import OpenK.AllK
import Wide.FinOn
import HandS.ForMost
import HandS.ForExc
import HandS.Codes
import HandS.Wide
import HandS.WideBits
import HandS.Deep
import HandS.More
import HandS.Flow
import HandS.Lambda
import HandS.Nested
import HandS.EndTab
import PyProof.Rows.RegFStrParts
import HandS.OwnEq
import HandS.IsInst
import HandS.ExcInit
import HandS.ExcField
import HandS.Walk
import HandS.Text
import PyProof.EqKinds
import HandS.Zip
import HandS.Style
import HandS.Property
import HandS.Defaults
import PySem.Challenge.RW_leafwaits_k43_stairs_made
set_option Elab.async false
set_option linter.all false
set_option maxRecDepth 100000
set_option maxHeartbeats 4000000
set_option maxRecDepth 100000
set_option maxHeartbeats 4000000
/-! Core: the layer's judgements as weakest preconditions over the syntax. Own work. -/
namespace Vf
open PySem PySem.Spec PyProof.Rows L2

/-! ### canonical readings -/
@[irreducible] def wE (X : Cx) (e : Expr) : TE := fun σ H Q => ∀ (pins : List (Addr × Obj)) (s : Shared), Inv X pins σ H s → wpAny (model X.prog X.w) X.A (eval e X.env) (EP X pins σ Q) X.xe s
@[irreducible] def wT (X : Cx) (e : Expr) : TT := fun σ H Q => ∀ (pins : List (Addr × Obj)) (s : Shared), Inv X pins σ H s → wpAny (model X.prog X.w) X.A (isTrue e X.env (eval e X.env)) (TP X pins σ Q) X.xe s
@[irreducible] def wW (X : Cx) (e : Expr) : TT := fun σ H Q => ∀ (whole : Sem Value) (pins : List (Addr × Obj)) (s : Shared), Inv X pins σ H s → wpAny (model X.prog X.w) X.A (isTrue e X.env whole) (TP X pins σ Q) X.xe s
@[irreducible] def wA (X : Cx) (es : List Expr) : TA := fun σ H Q => ∀ (pos : Pos) (pins : List (Addr × Obj)) (s : Shared), Inv X pins σ H s → wpAny (model X.prog X.w) X.A (spliced (backTo pos (starEach es X.env))) (AP X pins σ Q) X.xe s
@[irreducible] def wS (X : Cx) (st : Stmt) : TS := fun D σ H => ∀ (pins : List (Addr × Obj)) (s : Shared), Inv X pins σ H s → wpAny (model X.prog X.w) X.A (exec st X.env) (SP X pins D) X.xe s
@[irreducible] def wB (X : Cx) (st : List Stmt) : TS := fun D σ H => ∀ (pins : List (Addr × Obj)) (s : Shared), Inv X pins σ H s → wpAny (model X.prog X.w) X.A (execs st X.env) (SP X pins D) X.xe s
section
variable {X : Cx} {e a b c : Expr} {es : List Expr} {st : Stmt} {sts : List Stmt} {t : TE} {σ : L2.St} {H : Hp} {Q : VK} {D : Ends}
theorem cE : PE X e (wE X e) := ⟨fun pins s _ _ _ I h => by unfold wE at h; exact h pins s I⟩
theorem cT : PT X e (wT X e) := ⟨fun pins s _ _ _ I h => by unfold wT at h; exact h pins s I⟩
theorem cW : PW X e (wW X e) := ⟨fun wh pins s _ _ _ I h => by unfold wW at h; exact h wh pins s I⟩
theorem cA : PA X es (wA X es) := ⟨fun pos pins s _ _ _ I h => by unfold wA at h; exact h pos pins s I⟩
theorem cS : PS X st (wS X st) := ⟨fun pins s _ _ _ I h => by unfold wS at h; exact h pins s I⟩
theorem cB : PSs X sts (wB X sts) := ⟨fun pins s _ _ _ I h => by unfold wB at h; exact h pins s I⟩
theorem toE (h : PE X e t) (q : t σ H Q) : wE X e σ H Q := by unfold wE; exact fun pins s I => h.run pins s σ H Q I q
theorem toT {t : TT} {Q : Bool → Hp → Prop} (h : PT X e t) (q : t σ H Q) : wT X e σ H Q := by unfold wT; exact fun pins s I => h.run pins s σ H Q I q
theorem toW {t : TT} {Q : Bool → Hp → Prop} (h : PW X e t) (q : t σ H Q) : wW X e σ H Q := by unfold wW; exact fun wh pins s I => h.run wh pins s σ H Q I q
theorem toA {t : TA} {Q : List V → Hp → Prop} (h : PA X es t) (q : t σ H Q) : wA X es σ H Q := by unfold wA; exact fun pos pins s I => h.run pos pins s σ H Q I q
theorem toS {t : TS} (h : PS X st t) (q : t D σ H) : wS X st D σ H := by unfold wS; exact fun pins s I => h.run pins s σ H D I q
theorem toB {t : TS} (h : PSs X sts t) (q : t D σ H) : wB X sts D σ H := by unfold wB; exact fun pins s I => h.run pins s σ H D I q
theorem wE.mono {Q' : VK} (h : wE X e σ H Q) (k : ∀ v H', Q v H' → Q' v H') : wE X e σ H Q' := by
  unfold wE at h ⊢
  exact fun pins s I => thn (h pins s I) fun _ _ ⟨v, H', I', r, q⟩ => ⟨v, H', I', r, k v H' q⟩
end

/-! ### the module: program, world, written part, globals, base -/
structure Md where
  P : Program
  w : World
  K : PySem.W.Frag
  mg : Str → Option Value
  base : Heap
  /-- the tables of code objects (a lambda is looked up in its maker's), each with the one name that it tells -/
  T : List (Addr × Str)
/-- a def that keeps a promise where nothing is being shown (no repr under way): what is asked of it at one place is known of all -/
structure FnG (m : Md) (CX : CXT) (k : Nat) (f : Addr) (fd : FuncData) (ps : List Str) (sp : Sp) : Prop where
  len : ∀ vs H Q E, sp vs H Q E → vs.length = ps.length
  run : ∀ (A : Around) (outer : List Env) (s : Shared) (H : Hp) (args : Args) (us : List Value) (vs : List V) (Q : VK) (E : XK), A.guards = some [] → Room k A → Env0 m.P m.w m.K m.mg m.base A outer s H →
    BindsTo s fd args (ps.zip us) → Vals vs us → sp vs H Q E → codeAny (model m.P m.w) A (.call (.ref f) args) (CR CX outer m.P m.w H s Q E) s
theorem FnG.mono {m : Md} {CX : CXT} {j k : Nat} {f : Addr} {fd : FuncData} {ps : List Str} {sp : Sp} (F : FnG m CX j f fd ps sp) (h : j ≤ k) : FnG m CX k f fd ps sp := ⟨F.len, fun A outer s H args us vs Q E hg hr => F.run A outer s H args us vs Q E hg (hr.mono h)⟩
theorem FnG.imp {m : Md} {CX : CXT} {k : Nat} {f : Addr} {fd : FuncData} {ps : List Str} {sp sp' : Sp} (F : FnG m CX k f fd ps sp) (h : ∀ vs H Q E, sp' vs H Q E → sp vs H Q E) : FnG m CX k f fd ps sp' :=
  ⟨fun vs H Q E q => F.len vs H Q E (h _ _ _ _ q), fun A outer s H args us vs Q E hg hr he hb hv hs => F.run A outer s H args us vs Q E hg hr he hb hv (h _ _ _ _ hs)⟩
/-- X is a place in a def of the module m: names N, scope sc, room for k calls -/
structure At (m : Md) (N : List Str) (sc : Scope) (k : Nat) (X : Cx) : Prop where
  pp : X.prog = m.P
  ww : X.w = m.w
  kk : X.K = m.K
  mm : X.mg = m.mg
  bb : X.base = m.base
  nn : X.N = N
  ss : X.env.scope = sc
  calm : X.calm = true
  room : Room k X.A
  pass : PassesOwn (model X.prog X.w) X.A X.env X.xe
  nd : N.Nodup
  gd : X.A.guards = some []
section
variable {m : Md} {N : List Str} {sc : Scope} {k : Nat} {X : Cx} (h : At m N sc k X)
include h
theorem At.hu : X.A.units + 1 < cLine := hu_of h.room
end

def visB (sc : Scope) (x : Str) : Bool := match sc.names.lookup x with
  | some .local => true | some .cell => true | some .free => true | _ => false
theorem vis_of {sc : Scope} {x : Str} (h : visB sc x = true) : Vis sc x := by
  unfold visB at h
  unfold Vis
  split at h
  · next e => exact .inl e
  · next e => exact .inr (.inl e)
  · next e => exact .inr (.inr e)
  · cases h
section
variable {m : Md} {N : List Str} {sc : Scope} {k : Nat} {X : Cx} {a b c e : Expr} {es : List Expr} {σ : L2.St} {H : Hp} {Q : VK} {QB : Bool → Hp → Prop} {D : Ends} {pos p p1 p2 : Pos} {x y : Str} {i j : Nat} {v : V}
theorem At.gl (h : At m N sc k X) (e : sc.names.lookup x = some .globalImplicit) : Gl X x := by
  unfold Gl Env.kindOf
  rw [h.ss]
  exact e
theorem At.vis (h : At m N sc k X) (e : visB sc x = true) : Vis X.env.scope x := by rw [h.ss]; exact vis_of e

/-- the i-th name is x, a plain local of the scope; a local that others capture; one captured from outside -/
structure NL (N : List Str) (sc : Scope) (i : Nat) (x : Str) : Prop where
  ix : N[i]? = some x
  loc : sc.names.lookup x = some .local
structure NC (N : List Str) (sc : Scope) (i : Nat) (x : Str) : Prop where
  ix : N[i]? = some x
  cel : sc.names.lookup x = some .cell
structure NFr (N : List Str) (sc : Scope) (i : Nat) (x : Str) : Prop where
  ix : N[i]? = some x
  fre : sc.names.lookup x = some .free
/-! ### expressions -/
theorem w_var (h : At m N sc k X) (i : Nat) (hN : N[i]? = some x) (hv : visB sc x = true) (hs : σ[i]? = some (some v)) (q : Q v H) (hd : (x == ("__debug__" : Str)) = false := by with_unfolding_all decide) (hcd : (x == ("__classdict__" : Str)) = false := by with_unfolding_all decide) : wE X (.Name x pos) σ H Q :=
  toE (pe_var (by rw [h.nn]; exact hN) (h.vis hv) hd hcd) ⟨v, hs, q⟩
theorem w_nl (h : At m N sc k X) (n : NL N sc i x) (hs : σ[i]? = some (some v)) (q : Q v H) (hd : (x == ("__debug__" : Str)) = false := by with_unfolding_all decide) (hcd : (x == ("__classdict__" : Str)) = false := by with_unfolding_all decide) : wE X (.Name x pos) σ H Q :=
  toE (pe_var (by rw [h.nn]; exact n.ix) (by rw [h.ss]; exact .inl n.loc) hd hcd) ⟨v, hs, q⟩
theorem w_nc (h : At m N sc k X) (n : NC N sc i x) (hs : σ[i]? = some (some v)) (q : Q v H) (hd : (x == ("__debug__" : Str)) = false := by with_unfolding_all decide) (hcd : (x == ("__classdict__" : Str)) = false := by with_unfolding_all decide) : wE X (.Name x pos) σ H Q :=
  toE (pe_var (by rw [h.nn]; exact n.ix) (by rw [h.ss]; exact .inr (.inl n.cel)) hd hcd) ⟨v, hs, q⟩
theorem w_nf (h : At m N sc k X) (n : NFr N sc i x) (hs : σ[i]? = some (some v)) (q : Q v H) (hd : (x == ("__debug__" : Str)) = false := by with_unfolding_all decide) (hcd : (x == ("__classdict__" : Str)) = false := by with_unfolding_all decide) : wE X (.Name x pos) σ H Q :=
  toE (pe_var (by rw [h.nn]; exact n.ix) (by rw [h.ss]; exact .inr (.inr n.fre)) hd hcd) ⟨v, hs, q⟩
theorem w_int {i : Int} (q : Q (.int i) H) : wE X (.Constant (.int i) j pos) σ H Q := toE pe_int q
theorem w_bl {b : Bool} (q : Q (.bl b) H) : wE X (.Constant (.bool b) j pos) σ H Q := toE pe_bl q
theorem w_non (q : Q .non H) : wE X (.Constant .none j pos) σ H Q := toE pe_non q
theorem w_str {z : Str} (q : Q (.str z) H) : wE X (.Constant (.str z) j pos) σ H Q := toE pe_str q
theorem w_bin {op : Operator} {r : R2} (ho : OpR X (binaryOp op) r) (q : wE X a σ H fun x H1 => wE X b σ H1 fun y H2 => r x y H2 Q) : wE X (.BinOp a op b pos) σ H Q := toE (pe_op ho cE cE) q
theorem w_un {op : UnaryOp} {r : V → Hp → VK → Prop} (ho : UnR X (unaryOp op) r) (q : wE X a σ H fun x H1 => r x H1 Q) : wE X (.UnaryOp op a pos) σ H Q := toE (pe_un ho cE) q
theorem w_cmp {op : CmpOp} {r : R2} (ho : OpR X (compareOp op) r) (hm : behindInMarks op b = false) (q : wE X a σ H fun x H1 => wE X b σ H1 fun y H2 => r x y H2 Q) : wE X (.Compare a [op] [b] pos) σ H Q := toE (pe_cmpR ho cE cE hm) q
theorem w_not (q : wE X a σ H fun x H1 => ∃ c, x = .bl c ∧ Q (.bl (!c)) H1) : wE X (.UnaryOp .Not a pos) σ H Q := toE (pe_not cE) q
theorem w_and {rest : List Expr} (q : wE X a σ H fun x H1 => ∃ c, x = .bl c ∧ if c = true then wE X (.BoolOp .And (b :: rest) pos) σ H1 Q else Q (.bl false) H1) : wE X (.BoolOp .And (a :: b :: rest) pos) σ H Q := toE (pe_and cE cE) q
theorem w_or {rest : List Expr} (q : wE X a σ H fun x H1 => ∃ c, x = .bl c ∧ if c = true then Q (.bl true) H1 else wE X (.BoolOp .Or (b :: rest) pos) σ H1 Q) : wE X (.BoolOp .Or (a :: b :: rest) pos) σ H Q := toE (pe_or cE cE) q
theorem w_one {op : BoolOp} (q : wE X a σ H Q) : wE X (.BoolOp op [a] pos) σ H Q := toE (pe_one cE) q
theorem w_if (q : wT X c σ H fun k H1 => if k = true then wE X a σ H1 Q else wE X b σ H1 Q) : wE X (.IfExp c a b pos) σ H Q := toE (pe_ifExp cT cE cE) q
theorem w_tup {x1} (q : wA X es σ H fun xs H1 => xs.length ≤ sizeLine ∧ ∀ p, H1 p = none → Q (.ref p) (upd H1 p (.tup xs))) : wE X (.Tuple es x1 pos) σ H Q := toE (pe_tup cA) q
theorem w_lst (q : wA X es σ H fun xs H1 => xs.length ≤ sizeLine ∧ ∀ p, H1 p = none → Q (.ref p) (upd H1 p (.lst xs))) : wE X (.List es pos) σ H Q := toE (pe_lst cA) q
theorem w_ix {r : R2} (hr : IxR X r) (hs : PlainIx b) (q : wE X a σ H fun x H1 => wE X b σ H1 fun y H2 => r x y H2 Q) : wE X (.Subscript a b pos) σ H Q := toE (pe_ix hr cE cE hs) q
theorem w_nil {Q : List V → Hp → Prop} (q : Q [] H) : wA X [] σ H Q := toA pa_nil q
theorem w_cons {Q : List V → Hp → Prop} (q : wE X e σ H fun x H1 => wA X es σ H1 fun xs H2 => Q (x :: xs) H2) (hs : starEach (e :: es) X.env = (false, eval e X.env) :: starEach es X.env := by with_unfolding_all rfl) : wA X (e :: es) σ H Q := toA (pa_cons cE cA hs) q
/-- what a run of the def at f leaves, seen from X -/
theorem fnG_run {CX : CXT} {f : Addr} {fd : FuncData} {ps : List Str} {sp : Sp} {E : XK} {args : Args} {us : List Value} {vs : List V} {pins : List (Addr × Obj)} {s : Shared} (h : At m N sc k X) (F : FnG m CX j f fd ps sp) (hk : j ≤ k) (hx : Passes CX X E) (I : Inv X pins σ H s)
    (hb : BindsTo s fd args (ps.zip us)) (r : Vals vs us) (q : sp vs H Q E) : codeAny (model X.prog X.w) X.A (.call (.ref f) args) (fun r s' => match r with | .ok (.ret u) => EP X pins σ Q u s' | .ok _ => False | .error e => X.xe e s') s := by
  have e0 := I.env0
  rw [h.pp, h.ww, h.kk, h.mm, h.bb] at e0
  have rc := F.run X.A X.stack s H args us vs Q E h.gd (h.room.mono hk) e0 hb r q
  rw [← h.pp, ← h.ww] at rc
  refine codeAny_mono rc fun r s' hq => ?_
  match r, hq with
  | .error e, hq => exact hx pins σ H s e s' I hq
  | .ok (.ret u), hq => exact I.after hq
/-- a def that may be called by its name; dvs: what stands for the parameters that are left out -/
structure CalX (m : Md) (CX : CXT) (k : Nat) (x : Str) (sp : Sp) (dvs : List V) : Prop where
  ex : ∃ (f : Addr) (fd : FuncData) (ps : List Str) (ds : List Value), FnG m CX k f fd ps sp ∧ m.mg x = some (.ref f) ∧ PySem.W.keepIn m.K (.ref f) = true ∧ Binds m.K fd ps ds ∧ Vals dvs ds
abbrev Cal (m : Md) (k : Nat) (x : Str) (sp : Sp) : Prop := CalX m C8.CX0 k x sp []
theorem w_callX {CX : CXT} {sp : Sp} {dvs : List V} {E : XK} (h : At m N sc k X) (c : CalX m CX j x sp dvs) (hk : j ≤ k) (hg : sc.names.lookup x = some .globalImplicit) (hx : Passes CX X E) (q : wA X (e :: es) σ H fun vs H1 => sp (vs ++ dvs) H1 Q E)
    (hdb : (x == ("__debug__" : Str)) = false := by with_unfolding_all decide) (he : starEach (e :: es) X.env = (false, eval e X.env) :: starEach es X.env := by with_unfolding_all rfl) (hpl : (backTo pos (starEach es X.env)).any (·.1) = false := by with_unfolding_all rfl) : wE X (.Call (.Name x p) (e :: es) [] pos) σ H Q := by
  obtain ⟨f, fd, ps, ds, F, hm, kp, b, d⟩ := c.ex
  unfold wE
  intro pins s I
  refine wpAny_Call_Name_kw (ld_glob (u := .ref f) I (h.gl hg) (by rw [h.mm]; exact hm) ?_ hdb)
  refine PySem.W.callWith_K (h₀ := X.base) I.ok.mod.kin (by rw [h.kk]; exact kp) (thn ((cA (X := X) (es := e :: es)).run pos pins s σ H _ I q) fun us s1 ⟨vs, H1, I1, r, q1⟩ => ⟨I1.kIn, ?_⟩) he hpl
  have r2 := Vals.append r d
  refine wpAny_call (codeAny_mono (fnG_run (us := us ++ ds) (vs := vs ++ dvs) h F hk hx I1 (b s1 us (by rw [← h.kk]; exact I1.kIn) (by rw [← r2.length]; exact F.len _ _ _ _ q1)) r2 q1) fun r s' hq => ?_)
  match r, hq with
  | .error e, hq => exact hq
  | .ok (.ret u), hq => exact hq
theorem w_callX0 {CX : CXT} {sp : Sp} {dvs : List V} {E : XK} (h : At m N sc k X) (c : CalX m CX j x sp dvs) (hk : j ≤ k) (hg : sc.names.lookup x = some .globalImplicit) (hx : Passes CX X E) (q : sp dvs H Q E)
    (hdb : (x == ("__debug__" : Str)) = false := by with_unfolding_all decide) : wE X (.Call (.Name x p) [] [] pos) σ H Q := by
  obtain ⟨f, fd, ps, ds, F, hm, kp, b, d⟩ := c.ex
  unfold wE
  intro pins s I
  refine wpAny_Call_Name_kw (ld_glob (u := .ref f) I (h.gl hg) (by rw [h.mm]; exact hm) ?_ hdb)
  refine PySem.W.callWith_K0 I.kIn (by rw [h.kk]; exact kp) (wpAny_call (codeAny_mono (fnG_run (us := ds) (vs := dvs) h F hk hx I (b s [] (by rw [← h.kk]; exact I.kIn) (by simpa [← d.length] using F.len _ _ _ _ q)) d q) fun r s' hq => ?_))
  match r, hq with
  | .error e, hq => exact hq
  | .ok (.ret u), hq => exact hq
theorem w_call {sp : Sp} (h : At m N sc k X) (c : Cal m j x sp) (hk : j ≤ k) (hg : sc.names.lookup x = some .globalImplicit) (q : wA X (e :: es) σ H fun vs H1 => sp vs H1 Q C8.E0)
    (hdb : (x == ("__debug__" : Str)) = false := by with_unfolding_all decide) (he : starEach (e :: es) X.env = (false, eval e X.env) :: starEach es X.env := by with_unfolding_all rfl) (hpl : (backTo pos (starEach es X.env)).any (·.1) = false := by with_unfolding_all rfl) : wE X (.Call (.Name x p) (e :: es) [] pos) σ H Q := by
  refine w_callX (E := C8.E0) h c hk hg C8.pass0 ?_ hdb he hpl
  simpa using q
/-- a built-in function by its name -/
theorem w_blt {id : String} {r : List V → Hp → VK → Prop} (h : At m N sc k X) (hc : CallR X (.builtin id) r) (hm : m.mg x = none) (hg : sc.names.lookup x = some .globalImplicit) (hv : bootBuiltins x = some (.builtin id)) (q : wA X (e :: es) σ H fun vs H1 => r vs H1 Q)
    (hn : x ≠ "__name__" := by with_unfolding_all decide) (hdb : (x == ("__debug__" : Str)) = false := by with_unfolding_all decide) (he : starEach (e :: es) X.env = (false, eval e X.env) :: starEach es X.env := by with_unfolding_all rfl) (hpl : (backTo pos (starEach es X.env)).any (·.1) = false := by with_unfolding_all rfl) : wE X (.Call (.Name x p) (e :: es) [] pos) σ H Q :=
  toE (pe_callB hc (h.gl hg) (by rw [h.mm]; exact hm) hv cA hn hdb he hpl) q
theorem w_ty {T : String} {r : List V → Hp → VK → Prop} (h : At m N sc k X) (hc : CallR X (.type T) r) (hm : m.mg x = none) (hg : sc.names.lookup x = some .globalImplicit) (hv : bootBuiltins x = some (.type T)) (q : wA X (e :: es) σ H fun vs H1 => r vs H1 Q)
    (hn : x ≠ "__name__" := by with_unfolding_all decide) (hdb : (x == ("__debug__" : Str)) = false := by with_unfolding_all decide) (he : starEach (e :: es) X.env = (false, eval e X.env) :: starEach es X.env := by with_unfolding_all rfl) (hpl : (backTo pos (starEach es X.env)).any (·.1) = false := by with_unfolding_all rfl) : wE X (.Call (.Name x p) (e :: es) [] pos) σ H Q :=
  toE (pe_callTy hc (h.gl hg) (by rw [h.mm]; exact hm) hv cA hn hdb he hpl) q

/-! ### tests -/
theorem t_val (q : wE X e σ H fun x H1 => ∃ c, x = .bl c ∧ QB c H1) (he : ∀ whole, isTrue e X.env whole = (do let v ← whole; standAt e.pos; holding [v] (truthy v)) := by with_unfolding_all (intro _; rfl)) : wT X e σ H QB := toT (pt_val cE he) q
theorem t_cmp {op : CmpOp} {r : R2} (ho : OpR X (compareOp op) r) (hm : behindInMarks op b = false) (q : wE X a σ H fun x H1 => wE X b σ H1 fun y H2 => r x y H2 fun z H' => ∃ k, z = .bl k ∧ QB k H') : wT X (.Compare a [op] [b] pos) σ H QB := toT (pt_cmpR ho cE cE hm) q
theorem t_not (q : wT X a σ H fun c H1 => QB (!c) H1) : wT X (.UnaryOp .Not a pos) σ H QB := toT (pt_not cT) q
theorem t_and {rest : List Expr} (q : wW X (.BoolOp .And (a :: b :: rest) pos) σ H QB) : wT X (.BoolOp .And (a :: b :: rest) pos) σ H QB := toT (cW.pt) q
theorem t_or {rest : List Expr} (q : wW X (.BoolOp .Or (a :: b :: rest) pos) σ H QB) : wT X (.BoolOp .Or (a :: b :: rest) pos) σ H QB := toT (cW.pt) q
theorem k_and {rest : List Expr} (q : wT X a σ H fun c H1 => if c = true then wW X (.BoolOp .And (b :: rest) pos) σ H1 QB else QB false H1) : wW X (.BoolOp .And (a :: b :: rest) pos) σ H QB := toW (pw_and cT cW) q
theorem k_or {rest : List Expr} (q : wT X a σ H fun c H1 => if c = true then QB true H1 else wW X (.BoolOp .Or (b :: rest) pos) σ H1 QB) : wW X (.BoolOp .Or (a :: b :: rest) pos) σ H QB := toW (pw_or cT cW) q
theorem k_and1 (q : wT X a σ H QB) : wW X (.BoolOp .And [a] pos) σ H QB := toW (pw_and1 cT) q
theorem k_or1 (q : wT X a σ H QB) : wW X (.BoolOp .Or [a] pos) σ H QB := toW (pw_or1 cT) q
theorem t_truth (q : wE X a σ H fun x H1 => ∃ k, TruV X.K x H1 k ∧ QB k H1) (he : ∀ whole, isTrue a X.env whole = (do let v ← whole; standAt a.pos; holding [v] (truthy v)) := by with_unfolding_all (intro _; rfl)) : wT X a σ H QB := toT (pt_truth cE he) q

/-! ### statements: what is wanted behind is written out -/
variable {st : Stmt} {sts rest th el body : List Stmt} {nx : L2.St → Hp → Prop} {rt : VK} {bk ct : L2.St → Hp → Prop}
theorem b_nil (q : nx σ H) : wB X [] ⟨nx, rt, bk, ct⟩ σ H := toB pss_nil q
theorem b_cons (q : wS X st ⟨wB X rest ⟨nx, rt, bk, ct⟩, rt, bk, ct⟩ σ H) : wB X (st :: rest) ⟨nx, rt, bk, ct⟩ σ H := toB (pss_cons cS cB) q
theorem b_one (q : wS X st ⟨nx, rt, bk, ct⟩ σ H) : wB X [st] ⟨nx, rt, bk, ct⟩ σ H := toB (pss_one cS) q
theorem s_ret (q : wE X e σ H rt) : wS X (.Return (some e) pos) ⟨nx, rt, bk, ct⟩ σ H := toS (ps_ret cE) q
theorem s_retN (q : rt .non H) : wS X (.Return none pos) ⟨nx, rt, bk, ct⟩ σ H := toS ps_retN q
theorem s_if (q : wT X c σ H fun b H1 => if b = true then wB X th ⟨nx, rt, bk, ct⟩ σ H1 else wB X el ⟨nx, rt, bk, ct⟩ σ H1) : wS X (.If c th el pos) ⟨nx, rt, bk, ct⟩ σ H := toS (ps_if cT cB cB) q
theorem s_expr (q : wE X e σ H fun _ H1 => nx σ H1) (hs : swapsWith e none pos.line X.env = pure false := by with_unfolding_all rfl) : wS X (.Expr e pos) ⟨nx, rt, bk, ct⟩ σ H := toS (ps_expr cE hs) q
theorem s_set (h : At m N sc k X) (i : Nat) (hN : N[i]? = some x) (hl : sc.names.lookup x = some .local) (q : wE X e σ H fun v H1 => nx (σ.set i (some v)) H1) (hs : swapsWith e (some (.Name x p1)) pos.line X.env = pure false := by with_unfolding_all rfl) :
    wS X (.Assign [.Name x p1] e pos) ⟨nx, rt, bk, ct⟩ σ H :=
  toS (ps_set (by rw [h.nn]; exact h.nd) (by rw [h.nn]; exact hN) (by rw [h.ss]; exact .inl hl) cE hs (.inr (by rw [h.ss]; exact hl))) q
theorem s_nl (h : At m N sc k X) (n : NL N sc i x) (q : wE X e σ H fun v H1 => nx (σ.set i (some v)) H1) (hs : swapsWith e (some (.Name x p1)) pos.line X.env = pure false := by with_unfolding_all rfl) : wS X (.Assign [.Name x p1] e pos) ⟨nx, rt, bk, ct⟩ σ H := s_set h i n.ix n.loc q hs
theorem s_nc (h : At m N sc k X) (n : NC N sc i x) (hf : ∀ y, X.fn y = true) (q : wE X e σ H fun v H1 => nx (σ.set i (some v)) H1) (hs : swapsWith e (some (.Name x p1)) pos.line X.env = pure false := by with_unfolding_all rfl) : wS X (.Assign [.Name x p1] e pos) ⟨nx, rt, bk, ct⟩ σ H :=
  toS (ps_set (by rw [h.nn]; exact h.nd) (by rw [h.nn]; exact n.ix) (by rw [h.ss]; exact .inr n.cel) cE hs (.inl (hf x))) q
theorem pg_nl (h : At m N sc k X) (n : NL N sc i x) : PG X (.Name x pos) (gName i) := pg_name (by rw [h.nn]; exact h.nd) (by rw [h.nn]; exact n.ix) (by rw [h.ss]; exact .inl n.loc) (.inr (by rw [h.ss]; exact n.loc))
theorem pg_nc (h : At m N sc k X) (n : NC N sc i x) (hf : ∀ y, X.fn y = true) : PG X (.Name x pos) (gName i) := pg_name (by rw [h.nn]; exact h.nd) (by rw [h.nn]; exact n.ix) (by rw [h.ss]; exact .inr n.cel) (.inl (hf x))
/-- xs[i] = e -/
theorem s_sub {o ix : Expr} {t : TSet} (hs : PSet X t) (q : wE X e σ H fun v H1 => wE X o σ H1 fun x H2 => wE X ix σ H2 fun y H3 => t x y v H3 fun H4 => nx σ H4)
    (ha : ∀ v : Value, assign (.Subscript o ix p1) X.env v = (do
      let ov ← holding [v] (eval o X.env)
      let iv ← holding [v, ov] (eval ix X.env)
      standAt p1
      holding [v, ov, iv] (setItem ov iv v)
      release [v, ov, iv] []) := by with_unfolding_all (intro _; rfl))
    (h1 : swapsWithSole [.Subscript o ix p1] e pos.line X.env = pure false := by with_unfolding_all rfl) (h2 : swappedStores [.Subscript o ix p1] e X.env = pure none := by with_unfolding_all rfl) : wS X (.Assign [.Subscript o ix p1] e pos) ⟨nx, rt, bk, ct⟩ σ H :=
  toS (ps_asg cE (pg_sub cE cE hs ha) h1 h2) q
/-- xs[i] = e, xs a list -/
theorem s_subL {o ix : Expr} (q : wE X e σ H fun v H1 => wE X o σ H1 fun x H2 => wE X ix σ H2 fun y H3 => ∃ (p : Addr) (xs : List V) (z : Int) (j : Nat), x = .ref p ∧ y = .int z ∧ H3 p = some (.lst xs) ∧ ixN xs.length z = some j ∧ nx σ (upd H3 p (.lst (xs.set j v))))
    (ha : ∀ v : Value, assign (.Subscript o ix p1) X.env v = (do
      let ov ← holding [v] (eval o X.env)
      let iv ← holding [v, ov] (eval ix X.env)
      standAt p1
      holding [v, ov, iv] (setItem ov iv v)
      release [v, ov, iv] []) := by with_unfolding_all (intro _; rfl))
    (h1 : swapsWithSole [.Subscript o ix p1] e pos.line X.env = pure false := by with_unfolding_all rfl) (h2 : swappedStores [.Subscript o ix p1] e X.env = pure none := by with_unfolding_all rfl) : wS X (.Assign [.Subscript o ix p1] e pos) ⟨nx, rt, bk, ct⟩ σ H :=
  s_sub set_list q ha h1 h2
/-- for x in range(e) -/
theorem s_forR {tg : Expr} {g : TG} {po : Pos} (h : At m N sc k X) (hg : PG X tg g) (hm : m.mg "range" = none) (hgl : sc.names.lookup ("range" : Str) = some .globalImplicit)
    (q : wE X e σ H fun v H1 => ∃ z : Int, v = .int z ∧ -(2 ^ 62) ≤ z ∧ z < 2 ^ 62 ∧ ∃ Pv : Nat → L2.St → Hp → Prop, Pv 0 σ H1 ∧ (∀ i σ H, i < z.toNat → Pv i σ H → g (.int i) σ H fun σ2 H2 => wB X body ⟨Pv (i + 1), rt, nx, Pv (i + 1)⟩ σ2 H2) ∧ ∀ σ H, Pv z.toNat σ H → nx σ H)
    (hs : starEach [e] X.env = [(false, eval e X.env)] := by with_unfolding_all rfl) (hf : ∀ x, foldedSetIterable (.Call (.Name "range" p1) [e] [] p2) X.env x = pure x := by with_unfolding_all (intro _; rfl)) : wS X (.For tg (.Call (.Name "range" p1) [e] [] p2) body [] po) ⟨nx, rt, bk, ct⟩ σ H := by
  refine toS (ps_for h.pass h.calm (pi_range1 (h.gl hgl) (by rw [h.mm]; exact hm) (pa_cons cE pa_nil hs) hs) hg cB hf) ?_
  refine wE.mono q fun v H1 ⟨z, ez, z1, z2, Pv, p0, turn, fin⟩ => ⟨z, by rw [ez], z1, z2, ?_⟩
  exact for_range (lo := 0) (n := z.toNat) Pv p0 (fun i σ H hi hp => by simpa using turn i σ H hi hp) fin
/-- for x in xs, xs a list that stands still -/
theorem s_forL {tg : Expr} {g : TG} {po : Pos} (h : At m N sc k X) (hg : PG X tg g)
    (q : wE X e σ H fun v H1 => ∃ (a : Addr) (xs : List V), v = .ref a ∧ SqL m.K H1 a xs ∧ ∃ Pv : Nat → L2.St → Hp → Prop, Pv 0 σ H1 ∧ (∀ i σ H, i ≤ xs.length → Pv i σ H → SqL m.K H a xs) ∧ (∀ i x σ H, xs[i]? = some x → Pv i σ H → g x σ H fun σ2 H2 => wB X body ⟨Pv (i + 1), rt, nx, Pv (i + 1)⟩ σ2 H2) ∧ ∀ σ H, Pv xs.length σ H → nx σ H)
    (hf : ∀ x, foldedSetIterable e X.env x = pure x := by with_unfolding_all (intro _; rfl)) : wS X (.For tg e body [] po) ⟨nx, rt, bk, ct⟩ σ H := by
  refine toS (ps_for h.pass h.calm (pi_list cE) hg cB hf) ?_
  refine wE.mono q fun v H1 ⟨a, xs, ea, hs, Pv, p0, hl, turn, fin⟩ => ⟨a, ea, ⟨xs, by rw [h.kk]; exact hs⟩, ?_⟩
  exact for_list (K := X.K) (a := a) (xs := xs) Pv p0 (fun i σ H hi hp => by rw [h.kk]; exact hl i σ H hi hp) turn fin
/-- for x in t, t a tuple -/
theorem s_forT {tg : Expr} {g : TG} {po : Pos} (h : At m N sc k X) (hg : PG X tg g)
    (q : wE X e σ H fun v H1 => ∃ (a : Addr) (xs : List V), v = .ref a ∧ SqT m.K H1 a xs ∧ ∃ Pv : Nat → L2.St → Hp → Prop, Pv 0 σ H1 ∧ (∀ i σ H, i ≤ xs.length → Pv i σ H → SqT m.K H a xs) ∧ (∀ i x σ H, xs[i]? = some x → Pv i σ H → g x σ H fun σ2 H2 => wB X body ⟨Pv (i + 1), rt, nx, Pv (i + 1)⟩ σ2 H2) ∧ ∀ σ H, Pv xs.length σ H → nx σ H)
    (hf : ∀ x, foldedSetIterable e X.env x = pure x := by with_unfolding_all (intro _; rfl)) : wS X (.For tg e body [] po) ⟨nx, rt, bk, ct⟩ σ H := by
  refine toS (ps_for h.pass h.calm (pi_tup cE) hg cB hf) ?_
  refine wE.mono q fun v H1 ⟨a, xs, ea, hs, Pv, p0, hl, turn, fin⟩ => ⟨a, ea, ⟨xs, by rw [h.kk]; exact hs⟩, ?_⟩
  exact for_tup (K := X.K) (a := a) (xs := xs) Pv p0 (fun i σ H hi hp => by rw [h.kk]; exact hl i σ H hi hp) turn fin
end

/-! ### a def by its body -/
/-- what a def that makes lambdas knows of its place besides -/
structure AtM (X : Cx) (x : Str) (cdv : Value) : Prop where
  code : X.env.code = cdv
  qual : X.env.qual = x ++ ".<locals>."
  fn : ∀ y, X.fn y = true
  ex : X.ex = []
section
variable {m : Md} {N ps : List Str} {k : Nat} {x qual : Str} {st : Stmt} {f : Addr} {fd : FuncData} {sp : Sp}
/-- a def that lets no exception out, by its body -/
theorem fnG_of (F : C8.Fun m.K x qual st f fd) (S : FnScope N ps (C8.fnScope st)) (len : ∀ vs H Q E, sp vs H Q E → vs.length = ps.length)
    (hb : ∀ (X : Cx) (vs : List V) (H : Hp) (Q : VK) (E : XK), At m N (C8.fnScope st) k X → AtM X qual fd.code → sp vs H Q E → wB X (C8.fnBody st) { nx := fun _ H' => Q .non H', rt := Q } (start N vs) H) : FnG m C8.CX0 (k + 1) f fd ps sp := by
  obtain ⟨oc, od, dV, kV, doc, pm, an, cdv, ct, osl, rfl, lk, hc⟩ := F.ex
  refine ⟨len, fun A outer s H args us vs Q E hg hr e0 bt r q => ?_⟩
  refine LamX.run_ofS (CX := C8.CX0) (N := N) lk hc S hr e0 bt r (len _ _ _ _ q) fun hr' => ⟨_, PSs.nox cB, ?_⟩
  exact hb (cxOf C8.CX0 m.P m.w m.K m.mg m.base N qual (C8.fnScope st) f cdv A outer s H E).nox vs H Q E ⟨rfl, rfl, rfl, rfl, rfl, rfl, rfl, rfl, hr', PassesOwn.never, S.nd, hg⟩ ⟨rfl, rfl, fun _ => rfl, rfl⟩ q
theorem cal_ofM (F : C8.Def m.K m.mg x st f fd) (b : Binds m.K fd ps []) (S : FnScope N ps (C8.fnScope st)) (len : ∀ vs H Q E, sp vs H Q E → vs.length = ps.length)
    (hb : ∀ (X : Cx) (vs : List V) (H : Hp) (Q : VK) (E : XK), At m N (C8.fnScope st) k X → AtM X x fd.code → sp vs H Q E → wB X (C8.fnBody st) { nx := fun _ H' => Q .non H', rt := Q } (start N vs) H) : Cal m (k + 1) x sp :=
  ⟨f, fd, ps, [], fnG_of F.fn S len hb, F.mgf, F.kp, b, .nil⟩
theorem cal_of (F : C8.Def m.K m.mg x st f fd) (b : Binds m.K fd ps []) (S : FnScope N ps (C8.fnScope st)) (len : ∀ vs H Q E, sp vs H Q E → vs.length = ps.length)
    (hb : ∀ (X : Cx) (vs : List V) (H : Hp) (Q : VK) (E : XK), At m N (C8.fnScope st) k X → sp vs H Q E → wB X (C8.fnBody st) { nx := fun _ H' => Q .non H', rt := Q } (start N vs) H) : Cal m (k + 1) x sp :=
  cal_ofM F b S len fun X vs H Q E h _ q => hb X vs H Q E h q
end
theorem atI_at {α : Type} {xs : List α} {j : Nat} {v : α} (h : xs[j]? = some v) : atI xs (j : Int) = some v := atI_nat h
end Vf
set_option maxRecDepth 100000
set_option maxHeartbeats 4000000
/-! Lam: lambdas with parameters, made in a def's body and handed on. Own work. -/
namespace Vf
open PySem PySem.Spec PyProof.Rows L2 LamX NdefX

/-- a lambda's words -/
structure LF where
  qual : Str
  params : Arguments
  body : Expr
  scope : Scope
  cl : List (Str × Addr)
  c : Addr
abbrev LF.fd (F : LF) (pm ctv : Value) : FuncData := PySem.W.kla_fn "<lambda>" F.qual F.params F.body F.scope F.cl pm (.ref F.c) ctv
abbrev LF.nf (F : LF) : NF := ⟨"<lambda>", F.qual, F.params, [], F.scope, F.cl, F.c⟩
def LamO (f : Addr) (F : LF) : HO := .ext fun h => ∃ (od : Option Addr) (sl : Array (Option Value)) (pm ctv : Value), h.get? f = some (⟨.type "function", od, .func (F.fd pm ctv), sl⟩ : Obj)
theorem lamO_tbl {f : Addr} {F : LF} (ps : Array Value) : LamO f F ≠ .tbl ps := fun z => by unfold LamO at z; cases z
theorem lamO_at {P : Program} {w : World} {H : Hp} {h : Heap} {f : Addr} {F : LF} (hok : HOk P w H h) (e : H f = some (LamO f F)) : ∃ (od : Option Addr) (sl : Array (Option Value)) (pm ctv : Value), h.get? f = some (⟨.type "function", od, .func (F.fd pm ctv), sl⟩ : Obj) := by
  obtain ⟨z, _, _⟩ := hok f _ e
  exact z
theorem lamO_ok {P : Program} {w : World} {H : Hp} {h : Heap} {f : Addr} {F : LF} {od : Option Addr} {sl : Array (Option Value)} {pm ctv : Value} (e : h.get? f = some (⟨.type "function", od, .func (F.fd pm ctv), sl⟩ : Obj)) : ObjOk P w H h f (LamO f F) :=
  ⟨⟨od, sl, pm, ctv, e⟩, ⟨_, e⟩, fun h1 h2 ⟨od, sl, p, t, z⟩ st => ⟨od, sl, p, t, st _ z⟩⟩

section
variable {X : Cx} {pins : List (Addr × Obj)} {σ : L2.St} {H : Hp} {s : Shared}
theorem inv_lam {F : LF} {o : Obj} {t' : Nat} {pm ctv : Value} (I : Inv X pins σ H s) (ho : o = { cls := .type "function", data := .func (F.fd pm ctv) }) :
    Inv X pins σ (upd H s.heap.objs.size (LamO s.heap.objs.size F)) { s with heap := s.heap.push o, toks := t' } := by
  subst ho
  refine I.laid (a := s.heap.objs.size) (fun b u e => Heap.get?_push_of_some _ e) (Nat.le_refl _) ?_
  exact lamO_ok (Heap.get?_push_size _ rfl)
/-- the lambda is made and tracked -/
theorem lam_make3 {T : List (Addr × Str)} {c P : Addr} {params : Arguments} {body : Expr} {scope : Scope} {pos : Pos} {E : Value → Shared → Prop} {Q : Value → Shared → Prop} (I : Inv X pins σ H s) (TB : TabB X.base X.mg c P) (hcode : X.env.code = .ref c)
    (hm : (P, X.env.qual ++ "<lambda>") ∈ T) (hu : ∀ p ∈ T, p.1 = P → p.2 = X.env.qual ++ "<lambda>") (hT : Tabs T H) (hdef : defaultsOf params X.env = ([], [])) (hfree : ∀ y ∈ scope.names, y.2 = .free → ∃ c, X.env.cells.lookup y.1 = some c)
    (h : ∀ (f c' : Addr) (H1 : Hp) (s' : Shared), Inv X pins σ H1 s' → ExtN H H1 → Tabs T H1 → H f = none → H1 f = some (LamO f ⟨X.env.qual ++ "<lambda>", params, body, scope, cloFrom X.env.cells scope.names [], c'⟩) → H1 c' = some (CodeO c' (X.env.qual ++ "<lambda>")) → (∀ b, H1 b = none → H b = none) → Q (.ref f) s') :
    wpAny (model X.prog X.w) X.A (eval (.Lambda params body scope pos) X.env) Q E s := by
  obtain ⟨ps, hP, ht, ha⟩ := hT _ hm
  refine PySem.W.kla_eval hdef ?_
  have bP : s.heap.BuiltinsAt X.mg P := TB.bm.keeps I.bk
  have hP' : s.heap.get? P = some { cls := .none, data := .fields ps } := I.hok P _ hP
  cases hc : codeAmong pos ps.toList with
  | none =>
    refine PySem.W.kla_makeFunction (mg := X.mg) (c := c) (P := P) (ps := ps) (closure_ok hfree) I.ok.glob (I.mod.glob.keeps I.bk) hcode (TB.code.keeps I.bk) hP' ht hc TB.gP bP fun c' ctv h' tk hx hge hlt hrec htb => ?_
    obtain ⟨c2, oc, vs, t, e2, hoc, hd, hv⟩ := hrec
    cases e2
    have nC : H c' = none := I.hok.fresh hge
    have I1 := inv_table (t' := tk) (more := #[rawInt pos.line, rawInt pos.col, .ref c']) (h' := h') I hP (fun b o hb e => hx b o hb e) htb hge ⟨oc, vs, t, hoc, hd, hv⟩
    have hE : ExtN H (upd (upd H P (.tbl (ps ++ #[rawInt pos.line, rawInt pos.col, .ref c']))) c' (CodeO c' (X.env.qual ++ "<lambda>"))) := fun b o e n => by
      rw [upd_ne (ne_of_none e nC), upd_ne (fun z => n ps (Option.some.inj (e.symm.trans (by rw [z]; exact hP))))]
      exact e
    have eL : (ps ++ #[rawInt pos.line, rawInt pos.col, .ref c']).toList = ps.toList ++ [rawInt pos.line, rawInt pos.col, .ref c'] := by simp
    have T1 : Tabs T (upd (upd H P (.tbl (ps ++ #[rawInt pos.line, rawInt pos.col, .ref c']))) c' (CodeO c' (X.env.qual ++ "<lambda>"))) := fun p hp => by
      by_cases hb : p.1 = P
      · rw [hu p hp hb, hb]
        refine ⟨_, by rw [upd_ne (ne_of_none hP nC), upd_same], by rw [eL]; exact PySem.TriplesOk_snoc _ _ _ _ ht, fun p' cv hcv => ?_⟩
        rw [eL] at hcv
        rcases among_app _ ht hcv with z | z
        · obtain ⟨c0, e1, e2⟩ := ha p' cv z
          exact ⟨c0, e1, hE _ _ e2 codeO_ne⟩
        · exact ⟨c', z, upd_same⟩
      · obtain ⟨ps', a1, a2, a3⟩ := hT p hp
        refine ⟨ps', by rw [upd_ne (ne_of_none a1 nC), upd_ne hb]; exact a1, a2, fun p' cv hcv => ?_⟩
        obtain ⟨c0, e1, e2⟩ := a3 p' cv hcv
        exact ⟨c0, e1, hE _ _ e2 codeO_ne⟩
    have nF := I1.hok.fresh (Nat.le_refl _)
    have I2 := inv_lam (F := ⟨X.env.qual ++ "<lambda>", params, body, scope, cloFrom X.env.cells scope.names [], c'⟩) (t' := tk) (pm := (X.mg "__name__").getD .none) (ctv := ctv) I1 rfl
    refine h h'.objs.size c' _ _ I2 (fun b o e n => ?_) (T1.ext fun b o e => ?_) (I.hok.fresh (Nat.le_trans hge (Nat.le_of_lt hlt))) upd_same ?_ (fun b e => upd_none (upd_none (upd_none e)))
    · have e1 := hE b o e n
      exact (upd_ne (ne_of_none e1 nF)).trans e1
    · exact (upd_ne (ne_of_none e nF)).trans e
    · exact (upd_ne (Nat.ne_of_lt hlt)).trans upd_same
  | some cv =>
    obtain ⟨c', e, hco⟩ := ha pos cv hc
    subst e
    refine PySem.W.kla_makeFunctionHit (mg := X.mg) (c := c) (P := P) (ps := ps) (closure_ok hfree) I.ok.glob (I.mod.glob.keeps I.bk) hcode (TB.code.keeps I.bk) hP' ht hc bP fun ctv h' tk hx hsz => ?_
    have I1 : Inv X pins σ H { s with heap := h', toks := tk } := I.kept hx
    have nF : H h'.objs.size = none := I1.hok.fresh (Nat.le_refl _)
    have I2 := inv_lam (F := ⟨X.env.qual ++ "<lambda>", params, body, scope, cloFrom X.env.cells scope.names [], c'⟩) (t' := tk) (pm := (X.mg "__name__").getD .none) (ctv := ctv) I1 rfl
    refine h h'.objs.size c' _ _ I2 (fun b o e n => ?_) (hT.ext fun b o e => ?_) nF upd_same ?_ (fun b e => upd_none e)
    · exact (upd_ne (ne_of_none e nF)).trans e
    · exact (upd_ne (ne_of_none e nF)).trans e
    · exact (upd_ne (ne_of_none hco nF)).trans hco
end

/-! ### what calling a function value promises -/
/-- f, in every heap from H on, keeps the promise sp when it is called -/
structure Callable (m : Md) (k : Nat) (f : Addr) (sp : Sp) (H : Hp) : Prop where
  lam : ∃ F, H f = some (LamO f F)
  run : ∀ (H1 : Hp), ExtN H H1 → ∀ (A : Around) (outer : List Env) (s : Shared) (us : List Value) (vs : List V) (Q : VK), A.guards = some [] → Room k A → Env0 m.P m.w m.K m.mg m.base A outer s H1 → Vals vs us → sp vs H1 Q C8.E0 →
    codeAny (model m.P m.w) A (.call (.ref f) ⟨us, []⟩) (CR C8.CX0 outer m.P m.w H1 s Q C8.E0) s
theorem Callable.ext {m : Md} {k : Nat} {f : Addr} {sp : Sp} {H H' : Hp} (c : Callable m k f sp H) (e : ExtN H H') : Callable m k f sp H' :=
  ⟨by obtain ⟨F, h⟩ := c.lam; exact ⟨F, e _ _ h lamO_tbl⟩, fun H1 e1 => c.run H1 (e.trans e1)⟩
theorem Callable.mono {m : Md} {k j : Nat} {f : Addr} {sp : Sp} {H : Hp} (c : Callable m k f sp H) (h : k ≤ j) : Callable m j f sp H := ⟨c.lam, fun H1 e1 A outer s us vs Q hg hr => c.run H1 e1 A outer s us vs Q hg (hr.mono h)⟩
theorem Callable.imp {m : Md} {k : Nat} {f : Addr} {sp sp' : Sp} {H : Hp} (c : Callable m k f sp H) (h : ∀ H1, ExtN H H1 → ∀ vs Q E, sp' vs H1 Q E → sp vs H1 Q E) : Callable m k f sp' H := ⟨c.lam, fun H1 e1 A outer s us vs Q hg hr e0 r q => c.run H1 e1 A outer s us vs Q hg hr e0 r (h H1 e1 _ _ _ q)⟩

/-- the context of a lambda's body -/
abbrev lcx (m : Md) (N : List Str) (F : LF) (f : Addr) (A : Around) (outer : List Env) (s : Shared) (H : Hp) : Cx := (ncx C8.CX0 m.P m.w m.K m.mg m.base N F.nf f A outer s H C8.E0).nox
/-- a lambda called: its body in its own context; ws: what its captured cells hold -/
theorem lam_run {m : Md} {N ps fr : List Str} {F : LF} {f : Addr} {k : Nat} {A : Around} {outer : List Env} {s : Shared} {H : Hp} {us : List Value} {vs : List V} {ws : List (Option V)} {Q : VK} (S : NScope N ps fr F.scope)
    (hb : ∀ (pm ctv : Value) (us : List Value), us.length = ps.length → bindArgs (F.fd pm ctv) ⟨us, []⟩ = pure (ps.zip us)) (hg : A.guards = some []) (hr : Room (k + 1) A) (e0 : Env0 m.P m.w m.K m.mg m.base A outer s H) (hf : ∃ (od : Option Addr) (sl : Array (Option Value)) (pm ctv : Value), s.heap.get? f = some (⟨.type "function", od, .func (F.fd pm ctv), sl⟩ : Obj))
    (hc : H F.c = some (CodeO F.c F.qual)) (C : CellsAt F.cl fr ws s.heap H) (r : Vals vs us) (hl : vs.length = ps.length)
    (hbody : ∀ (X : Cx), At m N F.scope k X → wE X F.body (startF N vs ws) H Q) : codeAny (model m.P m.w) A (.call (.ref f) ⟨us, []⟩) (CR C8.CX0 outer m.P m.w H s Q C8.E0) s := by
  have lim : s.heap.NoLimit := e0.mod.nolimit.keeps fun b o e => (e0.bs b o e).1
  obtain ⟨od, sl, pm, ctv, ho⟩ := hf
  refine PySem.W.kla_callFunE hr.depth ho rfl S.co S.gen rfl (codeO_at e0.hok hc) ?_
  rw [hb pm ctv us (by rw [← r.length]; exact hl)]
  refine wpAny_pure (wpAny_newFunctionEnv S.nocell (fun ⟨n, _⟩ hy => S.par n (List.of_mem_zip hy).1) (fun h₁ hns hsb => ⟨lim.fresh _ hsb, ?_⟩) S.kind)
  show codeAny _ _ (.expr F.body (envF F.nf f s.heap.objs.size)) _ _
  have kp : ∀ b o, s.heap.get? b = some o → h₁.get? b = some o := fun b o e => hsb.extBut b o (Nat.ne_of_lt (Heap.lt_size e)) (Heap.get?_push_of_some _ e)
  have I : Inv (ncx C8.CX0 m.P m.w m.K m.mg m.base N F.nf f A outer s H C8.E0) [] (startF N vs ws) H { s with heap := h₁, toks := s.toks + (ps.zip us).length } := inv_startN S hr.hd e0 hl r C hns kp
  have hA : At m N F.scope k (lcx m N F f A outer s H) := ⟨rfl, rfl, rfl, rfl, rfl, rfl, rfl, rfl, hr.deeper _, PassesOwn.never, S.nd, hg⟩
  have q := hbody _ hA
  have pe : PE (ncx C8.CX0 m.P m.w m.K m.mg m.base N F.nf f A outer s H C8.E0) F.body (wE (lcx m N F f A outer s H) F.body) := PE.nox cE
  refine PySem.W.kla_codeExpr (wpAny_mono (pe.run [] _ _ H Q I q) (fun v s' hq => ?_) fun e s' hq => hq)
  obtain ⟨w', H', J', rv, q⟩ := hq
  exact ⟨w', H', J'.os, J'.bare, J'.base, J'.hok, rv, q⟩

/-- a name that holds a function value, called -/
theorem w_callv {m : Md} {N : List Str} {sc : Scope} {j k i : Nat} {X : Cx} {x : Str} {sp : Sp} {f : Addr} {σ : L2.St} {H : Hp} {Q : VK} {e : Expr} {es : List Expr} {p pos : Pos} (h : At m N sc j X) (hN : N[i]? = some x) (hv : visB sc x = true) (hs : σ[i]? = some (some (.ref f))) (c : Callable m k f sp H) (hk : k ≤ j)
    (q : wA X (e :: es) σ H fun vs H1 => ExtN H H1 ∧ sp vs H1 Q C8.E0) (hd : (x == ("__debug__" : Str)) = false := by with_unfolding_all decide) (hcd : (x == ("__classdict__" : Str)) = false := by with_unfolding_all decide)
    (he : starEach (e :: es) X.env = (false, eval e X.env) :: starEach es X.env := by with_unfolding_all rfl) (hpl : (backTo pos (starEach es X.env)).any (·.1) = false := by with_unfolding_all rfl) : wE X (.Call (.Name x p) (e :: es) [] pos) σ H Q := by
  unfold wE
  intro pins s I
  refine wpAny_Call_Name_kw (thn ((pe_var (pos := p) (by rw [h.nn]; exact hN) (h.vis hv) hd hcd).run pins s σ H (fun v H1 => v = .ref f ∧ H1 = H) I ⟨.ref f, hs, rfl, rfl⟩) fun u s1 ⟨v, H1, I1, r1, q1⟩ => ?_)
  obtain ⟨rfl, rfl⟩ := q1
  obtain rfl : u = Value.ref f := r1
  obtain ⟨F, hF⟩ := c.lam
  have fnAt : ∀ {H2 : Hp} {s2 : Shared}, Inv X pins σ H2 s2 → ExtN H1 H2 → PySem.W.FnAt f s2.heap := fun {H2 s2} I2 e2 => by
    obtain ⟨od, sl, pm, ctv, ho⟩ := lamO_at I2.hok (e2 _ _ hF lamO_tbl)
    exact ⟨_, od, _, sl, ho⟩
  refine PySem.W.callWith_F (first := []) (fnAt I1 (ExtN.refl _)) (thn ((cA (X := X) (es := e :: es)).run pos pins s1 σ _ _ I1 q) fun us s2 ⟨vs, H2, I2, r, e2, q2⟩ => ⟨fnAt I2 e2, ?_⟩) he hpl
  show wpAny _ _ (call (.ref f) us) _ _ _
  have e0 := I2.env0
  rw [h.pp, h.ww, h.kk, h.mm, h.bb] at e0
  have rc := c.run H2 e2 X.A X.stack s2 us vs Q h.gd (h.room.mono hk) e0 r q2
  rw [← h.pp, ← h.ww] at rc
  refine wpAny_call (codeAny_mono rc fun r s' hq => ?_)
  cases r with
  | error e => exact (show False from hq).elim
  | ok fl =>
    cases fl with
    | ret u => exact I2.after hq
    | next => exact False.elim hq
    | brk => exact False.elim hq
    | cont => exact False.elim hq

/-- a lambda that captures nothing, as a value -/
theorem w_lam0 {m : Md} {N : List Str} {sc : Scope} {j k : Nat} {X : Cx} {T : List (Addr × Str)} {c P : Addr} {qual : Str} {NL ps : List Str} {params : Arguments} {body : Expr} {scope : Scope} {pos : Pos} {sp : Sp} {σ : L2.St} {H : Hp} {Q : VK} (h : At m N sc j X)
    (TB : TabB m.base m.mg c P) (hcode : X.env.code = .ref c) (hqual : X.env.qual ++ "<lambda>" = qual) (hm : (P, qual) ∈ T) (hu : ∀ p ∈ T, p.1 = P → p.2 = qual) (S : NScope NL ps [] scope) (hb : ∀ (c' : Addr) (cl : List (Str × Addr)) (pm ctv : Value) (us : List Value), us.length = ps.length → bindArgs (LF.fd ⟨qual, params, body, scope, cl, c'⟩ pm ctv) ⟨us, []⟩ = pure (ps.zip us))
    (hlen : ∀ vs H Q E, sp vs H Q E → vs.length = ps.length)
    (hbody : ∀ (X : Cx) (vs : List V) (H : Hp) (Q : VK), At m NL scope k X → sp vs H Q C8.E0 → wE X body (startF NL vs []) H Q)
    (hT : Tabs T H) (q : ∀ f H1, ExtN H H1 → Tabs T H1 → (∀ b, H1 b = none → H b = none) → Callable m (k + 1) f sp H1 → Q (.ref f) H1) (hdef : defaultsOf params X.env = ([], []) := by with_unfolding_all rfl) : wE X (.Lambda params body scope pos) σ H Q := by
  unfold wE
  intro pins s I
  subst hqual
  have nofree : ∀ y ∈ scope.names, y.2 = .free → ∃ c, X.env.cells.lookup y.1 = some c := fun y hy e => absurd (S.free y hy e) (by simp)
  refine lam_make3 (T := T) (c := c) (P := P) I (by rw [h.bb, h.mm]; exact TB) hcode hm hu hT hdef nofree fun f c' H1 s' I1 eN T1 f0 f1 c1 nn => ?_
  refine ⟨.ref f, H1, I1, rfl, q f H1 eN T1 nn ⟨⟨_, f1⟩, fun H2 e2 A outer s2 us vs Q2 hg hr e0 r hsp => ?_⟩⟩
  refine lam_run (N := NL) (ps := ps) (fr := []) (ws := []) S (fun pm ctv us hl => hb c' _ pm ctv us hl) hg hr e0 (lamO_at e0.hok (e2 _ _ f1 lamO_tbl)) (e2 _ _ c1 codeO_ne) ?_ r (hlen _ _ _ _ hsp) fun X' hA => hbody X' vs H2 Q2 hA hsp
  have ecl : cloFrom X.env.cells scope.names [] = [] := by
    cases hcl : cloFrom X.env.cells scope.names [] with
    | nil => rfl
    | cons y r =>
      have hm2 : (y.1, y.2) ∈ cloFrom X.env.cells scope.names [] := by rw [hcl]; exact List.mem_cons_self
      rcases cloFrom_mem hm2 with z | ⟨z, _⟩
      · cases z
      · exact absurd (S.free _ z rfl) (by simp)
  refine ⟨rfl, fun y c e => ?_, fun x y c e => ?_, fun i y e => ?_⟩
  · rw [ecl] at e; cases e
  · rw [ecl] at e; cases e
  · simp at e

/-! ### one captured cell, locked while the function is handed on -/
def dl (H : Hp) (c : Addr) : Hp := fun b => if b = c then none else H b
theorem dl_same {H : Hp} {c : Addr} : dl H c c = none := if_pos rfl
theorem dl_ne {H : Hp} {b c : Addr} (h : b ≠ c) : dl H c b = H b := if_neg h
theorem dl_some {H : Hp} {b c : Addr} {o : HO} (h : dl H c b = some o) : b ≠ c ∧ H b = some o := by
  by_cases e : b = c
  · subst e; rw [dl_same] at h; cases h
  · rw [dl_ne e] at h; exact ⟨e, h⟩
abbrev lkO (o : Obj) : HO := .frz o (.own 0)
section
variable {P : Program} {w : World} {H H1 : Hp} {h h' : Heap} {c : Addr} {o : Obj} {fs ex : List Addr}
theorem HOk.lock (x : HOk P w H h) (n : H c = none) (e : h.get? c = some o) : HOk P w (upd H c (lkO o)) h := fun b u q => by
  by_cases hb : b = c
  · subst hb; rw [upd_same] at q; cases q; exact ⟨e, ⟨o, e⟩⟩
  · rw [upd_ne hb] at q
    exact (x b u q).stay (fun _ _ _ r => r) (fun d r => by rw [upd_ne (ne_of_none r n)]; exact r) fun d xs r => by rw [upd_ne (ne_of_none r n)]; exact r
theorem HOk.unlock (x : HOk P w H h) (e : H c = some (lkO o)) : HOk P w (dl H c) h := fun b u q => by
  obtain ⟨hb, q⟩ := dl_some q
  exact (x b u q).stay (fun _ _ _ r => r) (fun d r => by rw [dl_ne (fun z => by subst z; rw [e] at r; cases r)]; exact r) fun d xs r => by rw [dl_ne (fun z => by subst z; rw [e] at r; cases r)]; exact r
/-- behind a run that saw the lock -/
theorem Un.unlock (u : Un fs ex (upd H c (lkO o)) H1 h h') (ok : HOk P w H1 h') (n : H c = none) (e : h.get? c = some o) (hfs : c ∉ fs) (hex : c ∉ ex) : Un fs ex H (dl H1 c) h h' := by
  have hc1 : H1 c = some (lkO o) := u.frzs c o _ upd_same
  have hc' : h'.get? c = some o := (ok c _ hc1).1
  refine ⟨fun b ob q nb hf hx => ?_, fun b ob q nb hf hx => ?_, fun b ob q nb hx => ?_, fun b ob q hx => u.there b ob q hx, fun b xs q => ?_, fun b ob z q => ?_, fun b ps q => ?_⟩
  · by_cases hb : b = c
    · subst hb; rw [e] at q; cases q; exact hc'
    · exact u.keep b ob q (by rw [upd_ne hb]; exact nb) hf hx
  · by_cases hb : b = c
    · subst hb; exact absurd hf hfs
    · exact u.slot b ob q (by rw [upd_ne hb]; exact nb) hf hx
  · by_cases hb : b = c
    · subst hb; exact dl_same
    · rw [dl_ne hb]; exact u.free b ob q (by rw [upd_ne hb]; exact nb) hx
  · have hb : b ≠ c := ne_of_none q n
    rw [dl_ne hb]; exact u.tups b xs (by rw [upd_ne hb]; exact q)
  · have hb : b ≠ c := ne_of_none q n
    rw [dl_ne hb]; exact u.frzs b ob z (by rw [upd_ne hb]; exact q)
  · have hb : b ≠ c := ne_of_none q n
    obtain ⟨more, z⟩ := u.tbls b ps (by rw [upd_ne hb]; exact q)
    exact ⟨more, by rw [dl_ne hb]; exact z⟩
/-- a run from which the lock was taken away, with it again -/
theorem Un.relock (u : Un fs ex (dl H c) H1 h h') (e : H c = some (lkO o)) (ec : h.get? c = some o) (hfs : c ∉ fs) (hex : c ∉ ex) : Un fs ex H (upd H1 c (lkO o)) h h' := by
  refine ⟨fun b ob q nb hf hx => ?_, fun b ob q nb hf hx => ?_, fun b ob q nb hx => ?_, fun b ob q hx => u.there b ob q hx, fun b xs q => ?_, fun b ob z q => ?_, fun b ps q => ?_⟩
  · have hb : b ≠ c := fun z => by subst z; rw [e] at nb; cases nb
    exact u.keep b ob q (by rw [dl_ne hb]; exact nb) hf hx
  · have hb : b ≠ c := fun z => by subst z; rw [e] at nb; cases nb
    exact u.slot b ob q (by rw [dl_ne hb]; exact nb) hf hx
  · have hb : b ≠ c := fun z => by subst z; rw [e] at nb; cases nb
    rw [upd_ne hb]; exact u.free b ob q (by rw [dl_ne hb]; exact nb) hx
  · have hb : b ≠ c := fun z => by subst z; rw [e] at q; cases q
    rw [upd_ne hb]; exact u.tups b xs (by rw [dl_ne hb]; exact q)
  · by_cases hb : b = c
    · subst hb; rw [e] at q; cases q; exact upd_same
    · rw [upd_ne hb]; exact u.frzs b ob z (by rw [dl_ne hb]; exact q)
  · have hb : b ≠ c := fun z => by subst z; rw [e] at q; cases q
    obtain ⟨more, z⟩ := u.tbls b ps (by rw [dl_ne hb]; exact q)
    exact ⟨more, by rw [upd_ne hb]; exact z⟩
theorem HOk.relock (x : HOk P w H1 h') (u : Un fs ex (dl H c) H1 h h') (ec : h.get? c = some o) (hfs : c ∉ fs) (hex : c ∉ ex) : HOk P w (upd H1 c (lkO o)) h' := by
  have hn : H1 c = none := u.free c o ec dl_same hex
  exact HOk.lock x hn (u.keep c o ec dl_same hfs hex)
end
/-- the captured cell of a function value: its address, its object, what it holds -/
structure Cap1 (F : LF) (y : Str) (c : Addr) (o : Obj) (v : V) : Prop where
  look : F.cl.lookup y = some c
  only : ∀ y' c', F.cl.lookup y' = some c' → y' = y
  data : ∃ u, o.data = .cell (some u) ∧ RelV v u
theorem ExtN.frz {H H' : Hp} (e : ExtN H H') {c : Addr} {o : Obj} {u : HO} (h : H c = some (.frz o u)) : H' c = some (.frz o u) := e _ _ h (fun _ z => by cases z)
/-- a lambda that captures one name, handed to a def by its last argument: g(e1, lambda ..: ..) -/
theorem w_lam1 {m : Md} {N : List Str} {sc : Scope} {j k kg iy : Nat} {X : Cx} {T : List (Addr × Str)} {c P : Addr} {x y xg : Str} {cdv : Value} {NL ps : List Str} {params : Arguments} {body e1 : Expr} {scope : Scope} {lpos p pos : Pos} {spw spg : Sp} {v : V} {σ : L2.St} {H : Hp} {Q : VK}
    (h : At m N sc j X) (hm' : AtM X x cdv) (TB : TabB m.base m.mg c P) (hcode : cdv = .ref c) (hm : (P, x ++ ".<locals>." ++ "<lambda>") ∈ T) (hu : ∀ p ∈ T, p.1 = P → p.2 = x ++ ".<locals>." ++ "<lambda>") (S : NScope NL ps [y] scope) (hy : (y, NameKind.free) ∈ scope.names)
    (hyN : N[iy]? = some y) (hyc : sc.names.lookup y = some .cell) (hyv : σ[iy]? = some (some v))
    (hb : ∀ (c' : Addr) (cl : List (Str × Addr)) (pm ctv : Value) (us : List Value), us.length = ps.length → bindArgs (LF.fd ⟨x ++ ".<locals>." ++ "<lambda>", params, body, scope, cl, c'⟩ pm ctv) ⟨us, []⟩ = pure (ps.zip us))
    (hlen : ∀ vs H Q E, spw vs H Q E → vs.length = ps.length) (hbody : ∀ (X : Cx) (vs : List V) (H : Hp) (Q : VK), At m NL scope k X → spw vs H Q C8.E0 → wE X body (startF NL vs [some v]) H Q)
    (g : Cal m kg xg spg) (hkg : kg ≤ j) (hgl : sc.names.lookup xg = some .globalImplicit)
    (q : wE X e1 σ H fun v1 H1 => Tabs T H1 ∧ ∀ (f ca : Addr) (o : Obj) (H2 : Hp), H1 ca = none → ExtN H1 H2 → Tabs T H2 → H2 ca = some (lkO o) →
      Callable m (k + 1) f (fun vs H Q E => H ca = some (lkO o) ∧ spw vs (dl H ca) (fun v H' => Q v (upd H' ca (lkO o))) E) H2 → spg [v1, .ref f] H2 (fun v H3 => Q v (dl H3 ca)) C8.E0)
    (hdef : defaultsOf params X.env = ([], []) := by with_unfolding_all rfl) (hdb : (xg == ("__debug__" : Str)) = false := by with_unfolding_all decide)
    (he : starEach [e1, .Lambda params body scope lpos] X.env = (false, eval e1 X.env) :: starEach [.Lambda params body scope lpos] X.env := by with_unfolding_all rfl) (he2 : starEach [.Lambda params body scope lpos] X.env = [(false, eval (.Lambda params body scope lpos) X.env)] := by with_unfolding_all rfl)
    (hpl : (backTo pos (starEach [.Lambda params body scope lpos] X.env)).any (·.1) = false := by with_unfolding_all rfl) : wE X (.Call (.Name xg p) [e1, .Lambda params body scope lpos] [] pos) σ H Q := by
  subst hcode
  obtain ⟨fg, fdg, psg, dsg, Fg, hmg, kpg, bg, dg⟩ := g.ex
  unfold wE
  intro pins s I
  have bs0 := I.ok
  refine wpAny_Call_Name_kw (ld_glob (u := .ref fg) I (h.gl hgl) (by rw [h.mm]; exact hmg) ?_ hdb)
  refine PySem.W.callWith_K (h₀ := X.base) I.ok.mod.kin (by rw [h.kk]; exact kpg) ?_ he hpl
  rw [he]
  show wpAny _ _ (spliced ((false, eval e1 X.env) :: backTo pos (starEach [.Lambda params body scope lpos] X.env))) _ _ s
  refine Calls.spliced_cons (thn ((cE (X := X) (e := e1)).run pins s σ H _ I q) fun u1 s1 ⟨v1, H1, I1, r1, hT, q1⟩ => ?_)
  rw [he2]
  show wpAny _ _ (spliced ((false, eval (.Lambda params body scope lpos) X.env) :: backTo pos [])) _ _ s1
  have hq : X.env.qual ++ "<lambda>" = x ++ ".<locals>." ++ "<lambda>" := by rw [hm'.qual]
  have hfree : ∀ z ∈ scope.names, z.2 = .free → X.env.scope.names.lookup z.1 = some .cell ∨ X.env.scope.names.lookup z.1 = some .free := fun z hz e => by
    have := S.free z hz e
    simp only [List.mem_singleton] at this
    rw [this, h.ss]; exact .inl hyc
  have hfree' : ∀ z ∈ scope.names, z.2 = .free → ∃ c, X.env.cells.lookup z.1 = some c := fun z hz e => (hfree z hz e).elim (fun k => I1.ok.has _ (.inl k)) fun k => I1.ok.has _ (.inr k)
  refine Calls.spliced_cons (lam_make3 (T := T) (c := c) (P := P) I1 (by rw [h.bb, h.mm]; exact TB) hm'.code (by rw [hq]; exact hm) (by rw [hq]; exact hu) hT hdef hfree' fun f c' H2 s2 I2 eN T2 f0 f1 c1 nn => ?_)
  refine Calls.spliced_nil ⟨I2.kIn, ?_⟩
  rw [hq] at f1 c1
  -- the captured cell
  have cp : Caps X (cloFrom X.env.cells scope.names []) [y] [iy] := Caps.made I2.ok hfree (fun z hz => by simp only [List.mem_singleton] at hz; subst hz; exact hy) (by simp [h.nn, hyN])
  have C := cells_of I2 cp
  obtain ⟨ca, hca, hval⟩ := C.has 0 y rfl
  have eslot : slotAt σ iy = some v := slotAt_of hyv
  obtain ⟨u, ru, o, ho, hod⟩ := hval v (by show ([iy].map (slotAt σ))[0]? = _; simp [eslot])
  have nca : H2 ca = none := (C.all y ca hca).1
  have nca1 : H1 ca = none := nn ca nca
  have hX : X.env.cells.lookup y = some ca := cp.sub y ca hca
  have only : ∀ y' c'', (cloFrom X.env.cells scope.names []).lookup y' = some c'' → y' = y := fun y' c'' e => by
    rcases cloFrom_mem (PySem.mem_of_lookup e) with z | ⟨z, _⟩
    · cases z
    · simpa using S.free (y', .free) z rfl
  have cs0 : X.s_0.heap.objs.size ≤ ca := I2.ok.cab y ca (hm'.fn y) hX
  have ncb : ∀ b ob, X.base.get? b = some ob → b ≠ ca := fun b ob e z => by
    subst z
    exact absurd (Nat.lt_of_lt_of_le (Heap.lt_size e) (Nat.le_trans I2.ok.bsz cs0)) (Nat.lt_irrefl _)
  have nfs : ca ∉ frs X.stack := fun z => by
    rcases List.mem_cons.mp (I2.stkSub _ z) with e | hb'
    · exact I2.cne y ca hX e
    · obtain ⟨_, ob, hob, _⟩ := I2.ok.funs.mem hb'
      exact absurd (Nat.lt_of_lt_of_le (Heap.lt_size hob) cs0) (Nat.lt_irrefl _)
  let H3 := upd H2 ca (lkO o)
  have ok3 : HOk X.prog X.w H3 s2.heap := HOk.lock I2.hok nca ho
  have e0 := I2.env0
  have e03 : Env0 X.prog X.w X.K X.mg X.base X.A X.stack s2 H3 := ⟨e0.frames, e0.mod, fun b ob e => ⟨(e0.bs b ob e).1, by show upd H2 ca (lkO o) b = none; rw [upd_ne (ncb b ob e)]; exact (e0.bs b ob e).2⟩, e0.bsz, e0.funs,
    fun b hb' => by show upd H2 ca (lkO o) b = none; rw [upd_ne (fun z => nfs (by rw [← z]; exact hb'))]; exact e0.frf b hb', ok3, e0.bare⟩
  have x23 : ExtN H2 H3 := fun b ob e _ => by show upd H2 ca (lkO o) b = _; rw [upd_ne (ne_of_none e nca)]; exact e
  have t3 : Tabs T H3 := Tabs.ext T2 fun b ob e => by show upd H2 ca (lkO o) b = _; rw [upd_ne (ne_of_none e nca)]; exact e
  have F3 : H3 f = some (LamO f _) := x23 _ _ f1 lamO_tbl
  have C3 : H3 c' = some (CodeO c' _) := x23 _ _ c1 codeO_ne
  have hcall : Callable m (k + 1) f (fun vs H Q E => H ca = some (lkO o) ∧ spw vs (dl H ca) (fun v H' => Q v (upd H' ca (lkO o))) E) H3 := by
    refine ⟨⟨_, F3⟩, fun H4 e4 A outer s4 us vs Q4 hg hr e04 r hsp => ?_⟩
    obtain ⟨hc4, hsp⟩ := hsp
    have ho4 : s4.heap.get? ca = some o := (e04.hok ca _ hc4).1
    have nf4 : ca ∉ frs outer := fun z => by have := e04.frf ca z; rw [hc4] at this; cases this
    have e05 : Env0 m.P m.w m.K m.mg m.base A outer s4 (dl H4 ca) := ⟨e04.frames, e04.mod, fun b ob e => ⟨(e04.bs b ob e).1, by
        by_cases hb' : b = ca
        · subst hb'; exact dl_same
        · rw [dl_ne hb']; exact (e04.bs b ob e).2⟩, e04.bsz, e04.funs, fun b hb' => by rw [dl_ne (fun z => nf4 (by rw [← z]; exact hb'))]; exact e04.frf b hb', HOk.unlock e04.hok hc4, e04.bare⟩
    have nef : c' ≠ ca := ne_of C3 (show H3 ca = some (lkO o) from upd_same) (by unfold CodeO; intro z; cases z)
    have F4 := e4 _ _ F3 lamO_tbl
    have C4 : dl H4 ca c' = some (CodeO c' (x ++ ".<locals>." ++ "<lambda>")) := by rw [dl_ne nef]; exact e4 _ _ C3 codeO_ne
    have run := lam_run (m := m) (N := NL) (ps := ps) (fr := [y]) (ws := [some v]) (F := ⟨x ++ ".<locals>." ++ "<lambda>", params, body, scope, cloFrom X.env.cells scope.names [], c'⟩) (f := f) (Q := fun v H' => Q4 v (upd H' ca (lkO o))) S (fun pm ctv us hl => hb c' _ pm ctv us hl) hg hr e05 (lamO_at e04.hok F4) C4
      ⟨rfl, fun y' c'' e => ?_, fun a b c0 h1 h2 => by rw [only a c0 h1, only b c0 h2], fun i y' e => ?_⟩ r (hlen _ _ _ _ hsp) fun X' hA => hbody X' vs _ _ hA hsp
    · refine codeAny_mono run fun r s' hq => ?_
      cases r with
      | error e => exact hq
      | ok fl =>
        cases fl with
        | ret u' =>
          obtain ⟨v', H', os, bare, un, hok, rv, qq⟩ := hq
          exact ⟨v', upd H' ca (lkO o), os, bare, Un.relock un hc4 ho4 nf4 (by simp), HOk.relock hok un ho4 nf4 (by simp), rv, qq⟩
        | next => exact hq
        | brk => exact hq
        | cont => exact hq
    · have := only y' c'' e
      subst this
      rw [hca] at e; cases e
      exact ⟨dl_same, _, o, ho4, hod⟩
    · match i, e with
      | 0, e =>
        cases e
        exact ⟨ca, hca, fun v' ev => by cases ev; exact ⟨u, ru, o, ho4, hod⟩⟩
  have hsp := q1 f ca o H3 nca1 (eN.trans x23) t3 upd_same hcall
  have r2 : Vals ([v1, .ref f] ++ []) ([u1, .ref f] ++ dsg) := Vals.append (Paired.cons r1 (Paired.cons rfl .nil) : Vals [v1, .ref f] [u1, .ref f]) dg
  have rc := Fg.run X.A X.stack s2 H3 ⟨[u1, .ref f], []⟩ ([u1, .ref f] ++ dsg) [v1, .ref f] (fun v H3 => Q v (dl H3 ca)) C8.E0 h.gd (h.room.mono hkg) (by rw [← h.pp, ← h.ww, ← h.kk, ← h.mm, ← h.bb]; exact e03)
    (bg s2 [u1, .ref f] (by rw [← h.kk]; exact I2.kIn) (by rw [← r2.length]; have := Fg.len _ _ _ _ hsp; simpa using this)) (by simpa using r2) hsp
  show wpAny _ _ (call (.ref fg) [u1, .ref f]) _ _ _
  rw [← h.pp, ← h.ww] at rc
  refine wpAny_call (codeAny_mono rc fun r s' hq => ?_)
  cases r with
  | error e => exact (show False from hq).elim
  | ok fl =>
    cases fl with
    | ret u' =>
      obtain ⟨v', H', os, bare, un, hok, rv, qq⟩ := hq
      exact I2.after ⟨v', dl H' ca, os, bare, Un.unlock un hok nca ho nfs (by simp), HOk.unlock hok (un.frzs ca o _ upd_same), rv, qq⟩
    | next => exact False.elim hq
    | brk => exact False.elim hq
    | cont => exact False.elim hq
end Vf
set_option maxRecDepth 100000
set_option maxHeartbeats 4000000
/-! Dat: data at any depth in the abstract heap, with the addresses that it lies at. Own work. -/
namespace Vf
open PySem PySem.Spec PyProof.Rows L2 LamX

mutual
/-- v is the data d; all lists of it lie at addresses of A -/
inductive Da (K : PySem.W.Frag) (A : Addr → Prop) (H : Hp) : V → PyData → Prop
  | non : Da K A H .non .none
  | bl (b : Bool) : Da K A H (.bl b) (.bool b)
  | int (i : Int) : Da K A H (.int i) (.int i)
  | str (x : Str) : Da K A H (.str x) (.str x)
  | lst {a : Addr} {xs : List V} {ds : List PyData} : A a → SqL K H a xs → DaAll K A H xs ds → Da K A H (.ref a) (.list ds)
  | tup {a : Addr} {xs : List V} {ds : List PyData} : SqT K H a xs → DaAll K A H xs ds → Da K A H (.ref a) (.tuple ds)
inductive DaAll (K : PySem.W.Frag) (A : Addr → Prop) (H : Hp) : List V → List PyData → Prop
  | nil : DaAll K A H [] []
  | cons {v : V} {vs : List V} {d : PyData} {ds : List PyData} : Da K A H v d → DaAll K A H vs ds → DaAll K A H (v :: vs) (d :: ds)
end
section
variable {K : PySem.W.Frag} {A A' : Addr → Prop} {H H' : Hp}
mutual
theorem Da.dp : ∀ (d : PyData) (v : V), Da K A H v d → Dp K H v d
  | .none, _, h => by cases h; exact .non
  | .bool b, _, h => by cases h; exact .bl b
  | .int i, _, h => by cases h; exact .int i
  | .str x, _, h => by cases h; exact .str x
  | .list ds, _, h => by cases h with | lst _ s r => exact .lst s (DaAll.dp ds _ r)
  | .tuple ds, _, h => by cases h with | tup s r => exact .tup s (DaAll.dp ds _ r)
  | .dict _, _, h => by cases h
theorem DaAll.dp : ∀ (ds : List PyData) (vs : List V), DaAll K A H vs ds → DpAll K H vs ds
  | [], _, h => by cases h; exact .nil
  | d :: ds, _, h => by cases h with | cons a b => exact .cons (Da.dp d _ a) (DaAll.dp ds _ b)
end
mutual
theorem Da.mono (hA : ∀ a, A a → A' a) (hL : ∀ a xs, A a → SqL K H a xs → SqL K H' a xs) (hT : ∀ a xs, SqT K H a xs → SqT K H' a xs) : ∀ (d : PyData) (v : V), Da K A H v d → Da K A' H' v d
  | .none, _, h => by cases h; exact .non
  | .bool b, _, h => by cases h; exact .bl b
  | .int i, _, h => by cases h; exact .int i
  | .str x, _, h => by cases h; exact .str x
  | .list ds, _, h => by cases h with | lst a s r => exact .lst (hA _ a) (hL _ _ a s) (DaAll.mono hA hL hT ds _ r)
  | .tuple ds, _, h => by cases h with | tup s r => exact .tup (hT _ _ s) (DaAll.mono hA hL hT ds _ r)
  | .dict _, _, h => by cases h
theorem DaAll.mono (hA : ∀ a, A a → A' a) (hL : ∀ a xs, A a → SqL K H a xs → SqL K H' a xs) (hT : ∀ a xs, SqT K H a xs → SqT K H' a xs) : ∀ (ds : List PyData) (vs : List V), DaAll K A H vs ds → DaAll K A' H' vs ds
  | [], _, h => by cases h; exact .nil
  | d :: ds, _, h => by cases h with | cons a b => exact .cons (Da.mono hA hL hT d _ a) (DaAll.mono hA hL hT ds _ b)
end
mutual
theorem Dp.noDict : ∀ (d : PyData) (v : V), Dp K H v d → d.hasDict = false
  | .none, _, _ => rfl
  | .bool _, _, _ => rfl
  | .int _, _, _ => rfl
  | .str _, _, _ => rfl
  | .list ds, _, h => by cases h with | lst s r => show PyData.hasDictAll ds = false; exact DpAll.noDict ds _ r
  | .tuple ds, _, h => by cases h with | tup s r => show PyData.hasDictAll ds = false; exact DpAll.noDict ds _ r
  | .dict _, _, h => by cases h
theorem DpAll.noDict : ∀ (ds : List PyData) (vs : List V), DpAll K H vs ds → PyData.hasDictAll ds = false
  | [], _, _ => rfl
  | d :: ds, _, h => by cases h with | cons a b => show (d.hasDict || PyData.hasDictAll ds) = false; rw [Dp.noDict d _ a, DpAll.noDict ds _ b]; rfl
end
/-- everything -/
abbrev Any : Addr → Prop := fun _ => True
mutual
theorem Da.of : ∀ (d : PyData) (v : V), Dp K H v d → Da K Any H v d
  | .none, _, h => by cases h; exact .non
  | .bool b, _, h => by cases h; exact .bl b
  | .int i, _, h => by cases h; exact .int i
  | .str x, _, h => by cases h; exact .str x
  | .list ds, _, h => by cases h with | lst s r => exact .lst trivial s (DaAll.of ds _ r)
  | .tuple ds, _, h => by cases h with | tup s r => exact .tup s (DaAll.of ds _ r)
  | .dict _, _, h => by cases h
theorem DaAll.of : ∀ (ds : List PyData) (vs : List V), DpAll K H vs ds → DaAll K Any H vs ds
  | [], _, h => by cases h; exact .nil
  | d :: ds, _, h => by cases h with | cons a b => exact .cons (Da.of d _ a) (DaAll.of ds _ b)
end
theorem DaAll.length : ∀ {vs : List V} {ds : List PyData}, DaAll K A H vs ds → vs.length = ds.length
  | _, _, .nil => rfl
  | _, _, .cons _ r => congrArg (· + 1) (DaAll.length r)
theorem DaAll.get : ∀ {vs : List V} {ds : List PyData} {i : Nat} {d : PyData}, DaAll K A H vs ds → ds[i]? = some d → ∃ v, vs[i]? = some v ∧ Da K A H v d
  | _, _, i, _, .nil, e => by simp at e
  | _, _, 0, _, .cons a _, e => by simp at e; subst e; exact ⟨_, rfl, a⟩
  | _, _, i + 1, d, .cons _ r, e => by
    obtain ⟨v, h1, h2⟩ := DaAll.get (i := i) r (by simpa using e)
    exact ⟨v, by simpa using h1, h2⟩
theorem DaAll.getV : ∀ {vs : List V} {ds : List PyData} {i : Nat} {v : V}, DaAll K A H vs ds → vs[i]? = some v → ∃ d, ds[i]? = some d ∧ Da K A H v d
  | _, _, i, _, .nil, e => by simp at e
  | _, _, 0, _, .cons a _, e => by simp at e; subst e; exact ⟨_, rfl, a⟩
  | _, _, i + 1, d, .cons _ r, e => by
    obtain ⟨v, h1, h2⟩ := DaAll.getV (i := i) r (by simpa using e)
    exact ⟨v, by simpa using h1, h2⟩
theorem DaAll.append : ∀ {vs ws : List V} {ds es : List PyData}, DaAll K A H vs ds → DaAll K A H ws es → DaAll K A H (vs ++ ws) (ds ++ es)
  | _, _, _, _, .nil, s => s
  | _, _, _, _, .cons a r, s => .cons a (DaAll.append r s)
end

/-! ### how heaps grow -/
theorem SqL.ext {K : PySem.W.Frag} {H H' : Hp} {a : Addr} {xs : List V} (e : ExtN H H') (h : SqL K H a xs) : SqL K H' a xs := by
  rcases h with (h | ⟨o, h⟩) | h
  · exact .inl (.inl (e _ _ h (fun _ z => by cases z)))
  · exact .inl (.inr ⟨o, e _ _ h (fun _ z => by cases z)⟩)
  · exact .inr h
theorem SqT.ext {K : PySem.W.Frag} {H H' : Hp} {a : Addr} {xs : List V} (e : ExtN H H') (h : SqT K H a xs) : SqT K H' a xs := by
  rcases h with (h | ⟨o, h⟩) | h
  · exact .inl (.inl (e _ _ h (fun _ z => by cases z)))
  · exact .inl (.inr ⟨o, e _ _ h (fun _ z => by cases z)⟩)
  · exact .inr h
/-- what was tracked stays, but for the objects of S (and tables of code, which grow); the tables T stay tables; no tuple and nothing frozen changes -/
structure GrowX (T : List (Addr × Str)) (S : Addr → Prop) (H H' : Hp) : Prop where
  ext : ∀ b o, ¬ S b → H b = some o → (∀ ps, o ≠ .tbl ps) → H' b = some o
  tab : Tabs T H → Tabs T H'
  keep : ∀ b, H' b = none → H b = none
  tup : ∀ b xs, H b = some (.tup xs) → H' b = some (.tup xs)
  frz : ∀ b o u, H b = some (.frz o u) → H' b = some (.frz o u)
abbrev Grow (T : List (Addr × Str)) (H H' : Hp) : Prop := GrowX T (fun _ => False) H H'
section
variable {T : List (Addr × Str)} {S S' : Addr → Prop} {H H1 H2 : Hp} {K : PySem.W.Frag} {A : Addr → Prop}
theorem GrowX.refl : GrowX T S H H := ⟨fun _ _ _ h _ => h, id, fun _ h => h, fun _ _ h => h, fun _ _ _ h => h⟩
theorem GrowX.trans (a : GrowX T S H H1) (b : GrowX T S H1 H2) : GrowX T S H H2 := ⟨fun c o s h n => b.ext c o s (a.ext c o s h n) n, fun t => b.tab (a.tab t), fun c h => a.keep c (b.keep c h), fun c xs h => b.tup c xs (a.tup c xs h), fun c o u h => b.frz c o u (a.frz c o u h)⟩
theorem GrowX.weak (a : GrowX T S H H1) (h : ∀ b, S b → S' b) : GrowX T S' H H1 := ⟨fun c o s e n => a.ext c o (fun z => s (h c z)) e n, a.tab, a.keep, a.tup, a.frz⟩
theorem Grow.extN (a : Grow T H H1) : ExtN H H1 := fun b o h n => a.ext b o (fun z => z) h n
theorem Grow.of (a : ExtN H H1) (t : Tabs T H → Tabs T H1) (k : ∀ b, H1 b = none → H b = none) : Grow T H H1 := ⟨fun b o _ h n => a b o h n, t, k, fun b xs h => a b _ h (fun _ z => by cases z), fun b o u h => a b _ h (fun _ z => by cases z)⟩
theorem Grow.to (a : Grow T H H1) : GrowX T S H H1 := a.weak fun _ z => z.elim
theorem Grow.new {p : Addr} {o : HO} (h : H p = none) : Grow T H (upd H p o) := ⟨fun b u _ e _ => by rw [upd_ne (ne_of_none e h)]; exact e, fun t => t.ext fun b u e => by rw [upd_ne (ne_of_none e h)]; exact e, fun b e => NdefX.upd_none e, fun b xs e => by rw [upd_ne (ne_of_none e h)]; exact e, fun b u v e => by rw [upd_ne (ne_of_none e h)]; exact e⟩
theorem GrowX.set {p : Addr} {o u : HO} (hp : S p) (h : H p = some u) (n : ∀ ps, u ≠ .tbl ps) (hc : ∀ q, u ≠ CodeO p q) (ht : ∀ xs, u ≠ .tup xs) (hf : ∀ w v, u ≠ .frz w v) : GrowX T S H (upd H p o) := by
  refine ⟨fun b w s e _ => by rw [upd_ne (fun z => s (by rw [z]; exact hp))]; exact e, fun t q hq => ?_, fun b e => NdefX.upd_none e, fun b xs e => by rw [upd_ne (fun z => ht xs (Option.some.inj (h.symm.trans (by rw [← z]; exact e))))]; exact e, fun b w v e => by rw [upd_ne (fun z => hf w v (Option.some.inj (h.symm.trans (by rw [← z]; exact e))))]; exact e⟩
  obtain ⟨ps, h1, h2, h3⟩ := t q hq
  refine ⟨ps, by rw [upd_ne (fun z => n ps (Option.some.inj (h.symm.trans (by rw [← z]; exact h1))))]; exact h1, h2, fun pos cv hc' => ?_⟩
  obtain ⟨c, e1, e2⟩ := h3 pos cv hc'
  exact ⟨c, e1, by rw [upd_ne (fun z => hc q.2 (Option.some.inj (h.symm.trans (by rw [← z]; exact e2))))]; exact e2⟩
theorem GrowX.seqL {a : Addr} {xs : List V} (g : GrowX T S H H1) (h : SqL K H a xs) (n : ¬ S a) : SqL K H1 a xs := by
  rcases h with (h | ⟨o, h⟩) | h
  · exact .inl (.inl (g.ext _ _ n h (fun _ z => by cases z)))
  · exact .inl (.inr ⟨o, g.ext _ _ n h (fun _ z => by cases z)⟩)
  · exact .inr h
theorem GrowX.seqT {a : Addr} {xs : List V} (g : GrowX T S H H1) (h : SqT K H a xs) : SqT K H1 a xs := by
  rcases h with (h | ⟨o, h⟩) | h
  · exact .inl (.inl (g.tup _ _ h))
  · exact .inl (.inr ⟨o, g.frz _ _ _ h⟩)
  · exact .inr h
theorem GrowX.da {v : V} {d : PyData} (g : GrowX T S H H1) (h : Da K A H v d) (n : ∀ a, A a → ¬ S a) : Da K A H1 v d := Da.mono (fun _ z => z) (fun a xs ha e => g.seqL e (n a ha)) (fun a xs e => g.seqT e) d v h
theorem GrowX.daAll {v : List V} {d : List PyData} (g : GrowX T S H H1) (h : DaAll K A H v d) (n : ∀ a, A a → ¬ S a) : DaAll K A H1 v d := DaAll.mono (fun _ z => z) (fun a xs ha e => g.seqL e (n a ha)) (fun a xs e => g.seqT e) d v h
theorem Grow.da {v : V} {d : PyData} (g : Grow T H H1) (h : Da K A H v d) : Da K A H1 v d := GrowX.da g h fun _ _ z => z
theorem Grow.daAll {v : List V} {d : List PyData} (g : Grow T H H1) (h : DaAll K A H v d) : DaAll K A H1 v d := GrowX.daAll g h fun _ _ z => z
theorem Da.sub {A' : Addr → Prop} {v : V} {d : PyData} (h : Da K A H v d) (s : ∀ a, A a → A' a) : Da K A' H v d := Da.mono s (fun _ _ _ e => e) (fun _ _ e => e) d v h
theorem DaAll.sub {A' : Addr → Prop} {v : List V} {d : List PyData} (h : DaAll K A H v d) (s : ∀ a, A a → A' a) : DaAll K A' H v d := DaAll.mono s (fun _ _ _ e => e) (fun _ _ e => e) d v h
/-- free addresses -/
abbrev New (H : Hp) : Addr → Prop := fun a => H a = none
theorem GrowX.new {a : Addr} (g : GrowX T S H H1) (h : New H1 a) : New H a := g.keep a h
end

/-! ### repr of data -/
theorem call_reprD {X : Cx} (hg : X.A.guards = some []) (hu : X.A.units + 64 < cLine) : CallR X (.builtin "repr") (fun xs H Q => ∃ v d, xs = [v] ∧ Dp X.K H v d ∧ d.showable = true ∧ d.shown.length ≤ sizeLine ∧ d.depth ≤ 60 ∧ Q (.str d.shown) H) := by
  intro pins s σ H xs us Q I r h
  obtain ⟨v, d, rfl, hd, hs, hl, hdp, q⟩ := h
  obtain ⟨u, rfl, ru⟩ := vals1 r
  have fin : ∀ (h' : Heap) (u' tk : Tok), (∀ b o, s.heap.get? b = some o → h'.get? b = some o) → EP X pins σ Q (.str d.shown u') { s with heap := h', toks := tk } := fun h' u' tk kp => ⟨.str d.shown, H, I.kept kp, ⟨_, rfl⟩, q⟩
  cases hd with
  | non => cases ru; exact PySem.P.repr_of_none (fin _ _ _ fun _ _ e => e)
  | bl b => cases ru; exact PySem.P.repr_of_bool (fin _ _ _ fun _ _ e => e)
  | int i => obtain ⟨t, rfl⟩ := ru; exact PySem.P.repr_of_int (by simpa [PyData.showable] using hs) (fin _ _ _ fun _ _ e => e)
  | str x => obtain ⟨t, rfl⟩ := ru; exact PySem.P.repr_of_str (fin _ _ _ fun _ _ e => e) hl
  | lst hsq hda =>
    obtain ⟨as, rd⟩ := Dp.reads I _ _ _ (Dp.lst hsq hda) ru
    cases ru
    exact repr_of_reads' rd hs (PyData.noDict_hsm (Dp.noDict _ _ (Dp.lst hsq hda))) hg (by omega) (fun _ _ e => e) (fun h' u tk kp => fin h' u tk kp) hl
  | tup hsq hda =>
    obtain ⟨as, rd⟩ := Dp.reads I _ _ _ (Dp.tup hsq hda) ru
    cases ru
    exact repr_of_reads' rd hs (PyData.noDict_hsm (Dp.noDict _ _ (Dp.tup hsq hda))) hg (by omega) (fun _ _ e => e) (fun h' u tk kp => fin h' u tk kp) hl
end Vf
set_option maxRecDepth 100000
set_option maxHeartbeats 4000000
/-! Gen: operators, subscripts, calls at values: what is left of an expression when its parts are known. Own work. -/
namespace Vf
open PySem PySem.Spec PyProof.Rows L2 LamX
/-- a binary operator or comparison at two values -/
def gOp (X : Cx) (f : Value → Value → Sem Value) (x y : V) (H : Hp) (Q : VK) : Prop := ∀ (pins : List (Addr × Obj)) (s : Shared) (σ : L2.St) (v u : Value), Inv X pins σ H s → L2.RelV x v → L2.RelV y u → wpAny (model X.prog X.w) X.A (f v u) (EP X pins σ Q) X.xe s
/-- a subscript at two values -/
def gIx (X : Cx) (x y : V) (H : Hp) (Q : VK) : Prop := ∀ (value slice : Expr) (pins : List (Addr × Obj)) (s : Shared) (σ : L2.St) (v u : Value), Inv X pins σ H s → L2.RelV x v → L2.RelV y u →
  subscripted slice false v u = operate [v, u] (getItem v u) → wpAny (model X.prog X.w) X.A (subscriptTail value slice v u) (EP X pins σ Q) X.xe s
/-- a store x[y] = z at three values -/
def gSet (X : Cx) (x y z : V) (H : Hp) (Q : Hp → Prop) : Prop := ∃ t, PSet X t ∧ t x y z H Q
/-- a built-in's call at values -/
def gCall (X : Cx) (f : Value) (xs : List V) (H : Hp) (Q : VK) : Prop := ∃ r, CallR X f r ∧ r xs H Q
/-- truth -/
def gTru (X : Cx) (x : V) (H : Hp) (Q : Bool → Hp → Prop) : Prop := ∃ k, TruV X.K x H k ∧ Q k H
section
variable {m : Md} {N : List Str} {sc : Scope} {k : Nat} {X : Cx} {a b c e o : Expr} {es : List Expr} {σ : L2.St} {H : Hp} {Q : VK} {QB : Bool → Hp → Prop} {D : Ends} {pos p p1 p2 : Pos} {x y : Str} {i j : Nat} {v w : V}
theorem gOp_ok {f : Value → Value → Sem Value} : OpR X f (gOp X f) := fun pins s σ H x y v u Q I rx ry h => h pins s σ v u I rx ry
theorem gOp.of {f : Value → Value → Sem Value} {r : R2} (h : OpR X f r) {x y : V} (q : r x y H Q) : gOp X f x y H Q := fun pins s σ v u I rx ry => h pins s σ H x y v u Q I rx ry q
theorem gIx_ok : IxR X (gIx X) := fun value slice pins s σ H x y v u Q I rx ry h hs => h value slice pins s σ v u I rx ry hs
theorem gIx.of {r : R2} (h : IxR X r) {x y : V} (q : r x y H Q) : gIx X x y H Q := fun value slice pins s σ v u I rx ry hs => h value slice pins s σ H x y v u Q I rx ry q hs
theorem g_bin {op : Operator} (q : wE X a σ H fun x H1 => wE X b σ H1 fun y H2 => gOp X (binaryOp op) x y H2 Q) : wE X (.BinOp a op b pos) σ H Q := w_bin gOp_ok q
theorem g_cmp {op : CmpOp} (q : wE X a σ H fun x H1 => wE X b σ H1 fun y H2 => gOp X (compareOp op) x y H2 Q) (hm : behindInMarks op b = false := by with_unfolding_all first | exact nomark _ | rfl) : wE X (.Compare a [op] [b] pos) σ H Q := w_cmp gOp_ok hm q
theorem gt_cmp {op : CmpOp} (q : wE X a σ H fun x H1 => wE X b σ H1 fun y H2 => gOp X (compareOp op) x y H2 fun z H' => ∃ k, z = .bl k ∧ QB k H') (hm : behindInMarks op b = false := by with_unfolding_all first | exact nomark _ | rfl) : wT X (.Compare a [op] [b] pos) σ H QB := t_cmp gOp_ok hm q
theorem g_ix (q : wE X a σ H fun x H1 => wE X b σ H1 fun y H2 => gIx X x y H2 Q) (hs : PlainIx b := by with_unfolding_all exact fun _ _ => rfl) : wE X (.Subscript a b pos) σ H Q := w_ix gIx_ok hs q
theorem gt_tru (q : wE X a σ H fun x H1 => gTru X x H1 QB) (he : ∀ whole, isTrue a X.env whole = (do let v ← whole; standAt a.pos; holding [v] (truthy v)) := by with_unfolding_all (intro _; rfl)) : wT X a σ H QB := t_truth q he
theorem decI {i j : Int} : decide (V.int i = V.int j) = decide (i = j) := by rw [decide_eq_decide]; exact ⟨fun z => by injection z, fun z => by rw [z]⟩
theorem decS {i j : Str} : decide (V.str i = V.str j) = decide (i = j) := by rw [decide_eq_decide]; exact ⟨fun z => by injection z, fun z => by rw [z]⟩
/-- .. ints -/
theorem g_addI {i j : Int} (q : Q (.int (i + j)) H) : gOp X (binaryOp .Add) (.int i) (.int j) H Q := gOp.of op_add ⟨_, _, rfl, rfl, q⟩
theorem g_subI {i j : Int} (q : Q (.int (i - j)) H) : gOp X (binaryOp .Sub) (.int i) (.int j) H Q := gOp.of op_sub ⟨_, _, rfl, rfl, q⟩
theorem g_mulI {i j : Int} (hc : CMul i j) (q : Q (.int (i * j)) H) : gOp X (binaryOp .Mult) (.int i) (.int j) H Q := gOp.of op_mul ⟨_, _, rfl, rfl, hc, q⟩
theorem g_modI {i j : Int} (hj : 0 < j) (q : Q (.int (i % j)) H) : gOp X (binaryOp .Mod) (.int i) (.int j) H Q := gOp.of op_mod ⟨_, _, rfl, rfl, hj, q⟩
/-- the rest alone is known by its bounds -/
theorem g_modB {i j : Int} (hj : 0 < j) (q : ∀ r, 0 ≤ r → r < j → Q (.int r) H) : gOp X (binaryOp .Mod) (.int i) (.int j) H Q := g_modI hj (q _ (Int.emod_nonneg _ (by omega)) (Int.emod_lt_of_pos _ hj))
theorem g_divI {i j : Int} (hj : 0 < j ∧ j < 1073741824) (q : Q (.int (i / j)) H) : gOp X (binaryOp .FloorDiv) (.int i) (.int j) H Q := gOp.of op_fdiv ⟨_, _, rfl, rfl, hj, q⟩
theorem g_divW {i j : Int} (hj : CDivW i j) (q : Q (.int (i / j)) H) : gOp X (binaryOp .FloorDiv) (.int i) (.int j) H Q := gOp.of op_fdivW ⟨_, _, rfl, rfl, hj, q⟩
theorem g_powI {i j : Int} (hc : CPow i j) (q : Q (.int (i ^ j.toNat)) H) : gOp X (binaryOp .Pow) (.int i) (.int j) H Q := gOp.of op_pow ⟨_, _, rfl, rfl, hc, q⟩
theorem g_ltI {i j : Int} (q : Q (.bl (decide (i < j))) H) : gOp X (compareOp .Lt) (.int i) (.int j) H Q := gOp.of op_lt ⟨_, _, rfl, rfl, q⟩
theorem g_leI {i j : Int} (q : Q (.bl (decide (i ≤ j))) H) : gOp X (compareOp .LtE) (.int i) (.int j) H Q := gOp.of op_le ⟨_, _, rfl, rfl, q⟩
theorem g_gtI {i j : Int} (q : Q (.bl (decide (j < i))) H) : gOp X (compareOp .Gt) (.int i) (.int j) H Q := gOp.of op_gt ⟨_, _, rfl, rfl, q⟩
theorem g_geI {i j : Int} (q : Q (.bl (decide (j ≤ i))) H) : gOp X (compareOp .GtE) (.int i) (.int j) H Q := gOp.of op_ge ⟨_, _, rfl, rfl, q⟩
theorem g_eqI {i j : Int} (q : Q (.bl (decide (i = j))) H) : gOp X (compareOp .Eq) (.int i) (.int j) H Q := gOp.of op_eq ⟨rfl, by rw [decI]; exact q⟩
theorem g_neI {i j : Int} (q : Q (.bl (!decide (i = j))) H) : gOp X (compareOp .NotEq) (.int i) (.int j) H Q := gOp.of op_ne ⟨rfl, by rw [decI]; exact q⟩
theorem g_eqS {i j : Str} (q : Q (.bl (decide (i = j))) H) : gOp X (compareOp .Eq) (.str i) (.str j) H Q := gOp.of op_eq ⟨rfl, by rw [decS]; exact q⟩
theorem g_neS {i j : Str} (q : Q (.bl (!decide (i = j))) H) : gOp X (compareOp .NotEq) (.str i) (.str j) H Q := gOp.of op_ne ⟨rfl, by rw [decS]; exact q⟩
theorem g_leS {i j : Str} (q : Q (.bl (!decide (j.cps.toList < i.cps.toList))) H) (hr : OpR X (compareOp .LtE) (fun x y H Q => ∃ i j, x = .str i ∧ y = .str j ∧ Q (.bl (!decide (j.cps.toList < i.cps.toList))) H)) : gOp X (compareOp .LtE) (.str i) (.str j) H Q := gOp.of hr ⟨_, _, rfl, rfl, q⟩
theorem g_isN (q : Q (.bl (decide (v = .non))) H) : gOp X (compareOp .Is) v .non H Q := gOp.of op_isN ⟨rfl, q⟩
theorem g_notN (q : Q (.bl (!decide (v = .non))) H) : gOp X (compareOp .IsNot) v .non H Q := gOp.of op_notN ⟨rfl, q⟩
/-- .. texts -/
theorem g_addS {i j : Str} (hl : i.length + j.length ≤ sizeLine) (q : Q (.str (i ++ j)) H) : gOp X (binaryOp .Add) (.str i) (.str j) H Q := gOp.of op_add_str ⟨_, _, rfl, rfl, hl, q⟩
/-- .. lists -/
theorem g_cat {l r : Addr} {xs zs : List V} (h1 : H l = some (.lst xs)) (h2 : H r = some (.lst zs)) (hz : xs.length + zs.length ≤ sizeLine) (q : ∀ p, H p = none → Q (.ref p) (upd H p (.lst (xs ++ zs)))) : gOp X (binaryOp .Add) (.ref l) (.ref r) H Q := gOp.of op_cat ⟨_, _, _, _, rfl, rfl, h1, h2, hz, q⟩
theorem g_ixL (h : At m N sc k X) {l : Addr} {xs : List V} {i : Int} {v : V} (hs : SqL m.K H l xs) (e : atI xs i = some v) (q : Q v H) : gIx X (.ref l) (.int i) H Q := gIx.of ix_list ⟨_, _, _, _, rfl, rfl, by rw [h.kk]; exact hs, e, q⟩
theorem g_ixT (h : At m N sc k X) {l : Addr} {xs : List V} {i : Int} {v : V} (hs : SqT m.K H l xs) (e : atI xs i = some v) (q : Q v H) : gIx X (.ref l) (.int i) H Q := gIx.of ix_tup ⟨_, _, _, _, rfl, rfl, by rw [h.kk]; exact hs, e, q⟩
theorem g_ixS {z : Str} {i : Int} {c : Nat} (hz : z.length ≤ sizeLine) (e : atI z.cps.toList i = some c) (q : Q (.str ⟨#[c]⟩) H) : gIx X (.str z) (.int i) H Q := gIx.of ix_str ⟨_, _, _, rfl, rfl, hz, e, q⟩
theorem g_eqD (h : At m N sc k X) {v w : V} {d e : PyData} (hd : Dp m.K H v d) (he : Dp m.K H w e) (sd : SeqAt.shaped d = true) (se : SeqAt.shaped e = true) (q : Q (.bl (PyData.eqv d e)) H) : gOp X (compareOp .Eq) v w H Q := gOp.of (op_eqD h.room.units) ⟨d, e, by rw [h.kk]; exact hd, by rw [h.kk]; exact he, sd, se, q⟩
theorem g_neD (h : At m N sc k X) {v w : V} {d e : PyData} (hd : Dp m.K H v d) (he : Dp m.K H w e) (sd : SeqAt.shaped d = true) (se : SeqAt.shaped e = true) (q : Q (.bl (!PyData.eqv d e)) H) : gOp X (compareOp .NotEq) v w H Q := gOp.of (op_neD h.room.units) ⟨d, e, by rw [h.kk]; exact hd, by rw [h.kk]; exact he, sd, se, q⟩
theorem g_inF (h : At m N sc k X) {v : V} {l : Addr} {xs : List V} (hs : SqL m.K H l xs ∨ SqT m.K H l xs) (f1 : flatV v = true) (f2 : xs.all flatV = true) (q : Q (.bl (inV v xs)) H) : gOp X (compareOp .In) v (.ref l) H Q := gOp.of op_in_seq ⟨_, _, rfl, by rw [h.kk]; exact hs, f1, f2, q⟩
theorem g_notInF (h : At m N sc k X) {v : V} {l : Addr} {xs : List V} (hs : SqL m.K H l xs ∨ SqT m.K H l xs) (f1 : flatV v = true) (f2 : xs.all flatV = true) (q : Q (.bl (!inV v xs)) H) : gOp X (compareOp .NotIn) v (.ref l) H Q := gOp.of op_notIn_seq ⟨_, _, rfl, by rw [h.kk]; exact hs, f1, f2, q⟩
/-- a built-in function by its name -/
theorem g_blt {id : String} (h : At m N sc k X) (hm : m.mg x = none) (hg : sc.names.lookup x = some .globalImplicit) (hv : bootBuiltins x = some (.builtin id)) (q : wA X (e :: es) σ H fun vs H1 => gCall X (.builtin id) vs H1 Q)
    (hn : x ≠ "__name__" := by with_unfolding_all decide) (hdb : (x == ("__debug__" : Str)) = false := by with_unfolding_all decide) (he : starEach (e :: es) X.env = (false, eval e X.env) :: starEach es X.env := by with_unfolding_all rfl) (hpl : (backTo pos (starEach es X.env)).any (·.1) = false := by with_unfolding_all rfl) : wE X (.Call (.Name x p) (e :: es) [] pos) σ H Q :=
  w_blt (r := fun vs H1 Q => gCall X (.builtin id) vs H1 Q) h (fun pins s σ H xs us Q I r ⟨rr, hr, q⟩ => hr pins s σ H xs us Q I r q) hm hg hv q hn hdb he hpl
theorem g_typ {T : String} (h : At m N sc k X) (hm : m.mg x = none) (hg : sc.names.lookup x = some .globalImplicit) (hv : bootBuiltins x = some (.type T)) (q : wA X (e :: es) σ H fun vs H1 => gCall X (.type T) vs H1 Q)
    (hn : x ≠ "__name__" := by with_unfolding_all decide) (hdb : (x == ("__debug__" : Str)) = false := by with_unfolding_all decide) (he : starEach (e :: es) X.env = (false, eval e X.env) :: starEach es X.env := by with_unfolding_all rfl) (hpl : (backTo pos (starEach es X.env)).any (·.1) = false := by with_unfolding_all rfl) : wE X (.Call (.Name x p) (e :: es) [] pos) σ H Q :=
  w_ty (r := fun vs H1 Q => gCall X (.type T) vs H1 Q) h (fun pins s σ H xs us Q I r ⟨rr, hr, q⟩ => hr pins s σ H xs us Q I r q) hm hg hv q hn hdb he hpl
theorem g_sum (h : At m N sc k X) {l : Addr} {ns : List Int} (hs : SqL m.K H l (ns.map V.int)) (q : Q (.int ns.sum) H) : gCall X (.builtin "sum") [.ref l] H Q := ⟨_, cr_sum h.calm, _, _, rfl, by rw [h.kk]; exact hs, q⟩
theorem g_max2 (h : At m N sc k X) {i j : Int} (q : Q (.int (if j > i then j else i)) H) : gCall X (.builtin "max") [.int i, .int j] H Q := ⟨_, call_max2 h.calm, _, _, rfl, q⟩
theorem g_min2 (h : At m N sc k X) {i j : Int} (q : Q (.int (if j < i then j else i)) H) : gCall X (.builtin "min") [.int i, .int j] H Q := ⟨_, call_min2 h.calm, _, _, rfl, q⟩
theorem g_lenL (h : At m N sc k X) {l : Addr} {xs : List V} (hs : SqL m.K H l xs) (q : Q (.int xs.length) H) : gCall X (.builtin "len") [.ref l] H Q := ⟨_, call_len, _, xs.length, rfl, .inl ⟨_, by rw [h.kk]; exact hs, rfl⟩, q⟩
theorem g_lenT (h : At m N sc k X) {l : Addr} {xs : List V} (hs : SqT m.K H l xs) (q : Q (.int xs.length) H) : gCall X (.builtin "len") [.ref l] H Q := ⟨_, call_len, _, xs.length, rfl, .inr ⟨_, by rw [h.kk]; exact hs, rfl⟩, q⟩
theorem g_lenS {z : Str} (hz : z.length ≤ sizeLine) (q : Q (.int z.length) H) : gCall X (.builtin "len") [.str z] H Q := ⟨_, call_len, _, z.length, rfl, ⟨hz, rfl⟩, q⟩
theorem g_listOf (h : At m N sc k X) {l : Addr} {ys : List V} (hs : SqL m.K H l ys ∨ SqT m.K H l ys) (q : ∀ p, H p = none → Q (.ref p) (upd H p (.lst ys))) : gCall X (.type "list") [.ref l] H Q := ⟨_, call_list_of, _, _, rfl, by rw [h.kk]; exact hs, q⟩
theorem g_all (h : At m N sc k X) {l : Addr} {bs : List Bool} (hs : SqL m.K H l (bs.map V.bl)) (q : Q (.bl (bs.all id)) H) : gCall X (.builtin "all") [.ref l] H Q := ⟨_, cr_all h.calm, _, _, rfl, by rw [h.kk]; exact hs, q⟩
theorem g_any (h : At m N sc k X) {l : Addr} {bs : List Bool} (hs : SqL m.K H l (bs.map V.bl)) (q : Q (.bl (bs.any id)) H) : gCall X (.builtin "any") [.ref l] H Q := ⟨_, cr_any h.calm, _, _, rfl, by rw [h.kk]; exact hs, q⟩
theorem g_repr (h : At m N sc k X) {v : V} {d : PyData} (hd : Dp m.K H v d) (h1 : d.showable = true) (h2 : d.shown.length ≤ sizeLine) (h3 : d.depth ≤ 60) (q : Q (.str d.shown) H) : gCall X (.builtin "repr") [v] H Q := ⟨_, call_reprD h.gd h.room.units, _, _, rfl, by rw [h.kk]; exact hd, h1, h2, h3, q⟩
/-- n.bit_length() -/
theorem g_bits (q : wE X o σ H fun x H1 => ∃ i, x = .int i ∧ Q (.int (Builtin.Int.intBits i : Nat)) H1) (hbase : attributeBase o "bit_length" X.env (eval o X.env) = eval o X.env := by with_unfolding_all rfl) {apos : Pos} (hline : (apos.endLine == pos.line) = true := by with_unfolding_all rfl) : wE X (.Call (.Attribute o "bit_length" apos) [] [] pos) σ H Q := toE (pe_bits cE hbase hline) q
/-- xs.append(e) -/
theorem g_append (q : wE X o σ H fun x H1 => tyV X.K "list" x H1 ∧ wA X [e] σ H1 fun ys H2 => ∃ l xs y, x = .ref l ∧ ys = [y] ∧ H2 l = some (.lst xs) ∧ xs.length < sizeLine ∧ Q .non (upd H2 l (.lst (xs ++ [y])))) {apos : Pos}
    (hbase : attributeBase o "append" X.env (eval o X.env) = eval o X.env := by with_unfolding_all rfl)
    (hfew : ((backTo pos (starEach [e] X.env)).all (fun x => !x.1) && (backToKw pos (keywordEach [] X.env)).all (fun x => x.1.isSome) && decide ([e].length + ([] : List Keyword).length + (if ([] : List Keyword).isEmpty then 0 else 1) < 30)) = true := by with_unfolding_all rfl)
    (hline : (apos.endLine == pos.line) = true := by with_unfolding_all rfl) (hs : starEach [e] X.env = (false, eval e X.env) :: starEach [] X.env := by with_unfolding_all rfl) (hplain : (backTo pos (starEach [] X.env)).any (·.1) = false := by with_unfolding_all rfl) : wE X (.Call (.Attribute o "append" apos) [e] [] pos) σ H Q :=
  toE (pe_bm PySem.F.plainAttrs_list PySem.F.slot_list_append PySem.F.type_list_append mt_append cE cA hbase hfew hline hs hplain) q
/-- e[lo:hi] of a list -/
theorem tyL {l : Addr} {xs : List V} (h : H l = some (.lst xs)) : tyV X.K "list" (.ref l) H := .inl ⟨rfl, _, SqL.of h⟩
end
theorem bt_sum : bootBuiltins "sum" = some (.builtin "sum") := by decide +kernel
theorem bt_max : bootBuiltins "max" = some (.builtin "max") := by decide +kernel
theorem bt_min : bootBuiltins "min" = some (.builtin "min") := by decide +kernel
theorem bt_len : bootBuiltins "len" = some (.builtin "len") := by decide +kernel
theorem bt_all : bootBuiltins "all" = some (.builtin "all") := by decide +kernel
theorem bt_any : bootBuiltins "any" = some (.builtin "any") := by decide +kernel
theorem bt_repr : bootBuiltins "repr" = some (.builtin "repr") := by decide +kernel
theorem bt_sorted : bootBuiltins "sorted" = some (.builtin "sorted") := by decide +kernel
theorem bt_isinstance : bootBuiltins "isinstance" = some (.builtin "isinstance") := by decide +kernel
theorem bt_abs : bootBuiltins "abs" = some (.builtin "abs") := by decide +kernel
theorem bt_list : bootBuiltins "list" = some (.type "list") := by decide +kernel
theorem bt_int : bootBuiltins "int" = some (.type "int") := by decide +kernel
theorem bt_str : bootBuiltins "str" = some (.type "str") := by decide +kernel
theorem bt_set : bootBuiltins "set" = some (.type "set") := by decide +kernel
theorem bt_dict : bootBuiltins "dict" = some (.type "dict") := by decide +kernel
theorem bt_tuple : bootBuiltins "tuple" = some (.type "tuple") := by decide +kernel
theorem bt_bool : bootBuiltins "bool" = some (.type "bool") := by decide +kernel
end Vf
set_option maxRecDepth 100000
set_option maxHeartbeats 4000000
/-! Lc: list comprehensions, slices, powers. Own work. -/
namespace Vf
open PySem PySem.Spec PyProof.Rows L2 LamX
section
variable {m : Md} {N : List Str} {sc scope : Scope} {k : Nat} {X : Cx} {a b c e o elt iter : Expr} {es : List Expr} {σ : L2.St} {H : Hp} {Q : VK} {D : Ends} {pos p p1 p2 p3 : Pos} {x y : Str} {i j : Nat} {v w : V}
theorem blk_at (h : At m N sc k X) (s : Shared) (H : Hp) (C : Addr) (cl : List (Str × Addr)) (fp : List Addr) : At m N (relS scope sc) k (X.blk s H scope (compEnvC scope cl C X.env) fp) :=
  ⟨h.pp, h.ww, h.kk, h.mm, h.bb, h.nn, by show relS scope X.env.scope = _; rw [h.ss], h.calm, h.room, PassesOwn.never, h.nd, h.gd⟩
theorem wipe1 {u : Option V} : wipe (σ.set i u) [i] = wipe σ [i] := by simp [wipe, List.set_set]
/-- the new list's element, run wherever the block may stand -/
abbrev inBlk (m : Md) (N : List Str) (sc : Scope) (k : Nat) (e : Expr) : TE := fun σ H Q => ∀ X', At m N sc k X' → wE X' e σ H Q
abbrev inBlkT (m : Md) (N : List Str) (sc : Scope) (k : Nat) (e : Expr) : TT := fun σ H Q => ∀ X', At m N sc k X' → wT X' e σ H Q
theorem blk_pe (h : At m N sc k X) (s : Shared) (H : Hp) (C : Addr) (cl : List (Str × Addr)) (fp : List Addr) : PE (X.blk s H scope (compEnvC scope cl C X.env) fp) e (inBlk m N (relS scope sc) k e) := ⟨fun pins s' σ' H' Q I q => cE.run pins s' σ' H' Q I (q _ (blk_at h s H C cl fp))⟩
theorem blk_pt (h : At m N sc k X) (s : Shared) (H : Hp) (C : Addr) (cl : List (Str × Addr)) (fp : List Addr) : PT (X.blk s H scope (compEnvC scope cl C X.env) fp) e (inBlkT m N (relS scope sc) k e) := ⟨fun pins s' σ' H' Q I q => cT.run pins s' σ' H' Q I (q _ (blk_at h s H C cl fp))⟩
theorem set_wipe {z : V} : (wipe σ [i]).set i (some z) = σ.set i (some z) := by simp [wipe, List.set_set]
/-- what one turn of a block asks: the element is appended to the list at D, then the invariant -/
abbrev App (D : Addr) (P : Hp → Prop) : VK := fun y H4 => ∃ acc, H4 D = some (.lst acc) ∧ acc.length < sizeLine ∧ P (upd H4 D (.lst (acc ++ [y])))
/-- [elt for x in iter], iter a list that the block leaves as it is -/
theorem w_lcL (h : At m N sc k X) (ok : blkC N sc scope [(x, i)] = true) (n : NL N (relS scope sc) i x)
    (q : wE X iter σ H fun v H1 => ∃ (a : Addr) (xs : List V), v = .ref a ∧ SqL m.K H1 a xs ∧ ∀ D, H1 D = none → ∃ Pv : Nat → Hp → Prop, Pv 0 (upd H1 D (.lst [])) ∧ (∀ j H, j ≤ xs.length → Pv j H → SqL m.K H a xs) ∧
      (∀ j x H, xs[j]? = some x → Pv j H → ∀ X', At m N (relS scope sc) k X' → wE X' elt (σ.set i (some x)) H (App D (Pv (j + 1)))) ∧ ∀ H, Pv xs.length H → Q (.ref D) H)
    (hs : ∀ x, foldedSetIterable iter X.env x = pure x := by with_unfolding_all (intro _; rfl)) : wE X (.ListComp elt [⟨.Name x p1, iter, [], 0⟩] scope pos) σ H Q := by
  refine toE (pe_lc (own := [(x, i)]) (g := gName i) (tt := tYes) (te := inBlk m N (relS scope sc) k elt) h.calm (by rw [h.nn]; exact h.nd) (pi_list cE) (by rw [h.nn, h.ss]; exact blkOk_by ok) (fun s H C cl fp => pg_nl (blk_at h s H C cl fp) n) (fun _ _ _ _ _ => pts_nil) (fun s H C cl fp => blk_pe h s H C cl fp) hs) ?_
  refine wE.mono q fun v H1 ⟨a, xs, ea, hl, go⟩ => ⟨a, ea, ⟨xs, by rw [h.kk]; exact hl⟩, fun D hD => ?_⟩
  obtain ⟨Pv, p0, st, turn, fin⟩ := go D hD
  refine lc_list (K := X.K) (a := a) (xs := xs) (g := gName i) (tt := tYes) (te := inBlk m N (relS scope sc) k elt) (vs := [i]) (σ := σ) Pv p0 (fun j H hj hp => by rw [h.kk]; exact st j H hj hp) (fun j z H hz hp => ?_) fin
  refine ⟨by rw [wipe1]; simp [wipe, List.set_set], ?_⟩
  unfold tYes
  refine iteT fun X' hX' => ?_
  rw [set_wipe]
  exact turn j z H hz hp X' hX'
/-- [elt for x in iter if c] -/
theorem w_lcLi (h : At m N sc k X) (ok : blkC N sc scope [(x, i)] = true) (n : NL N (relS scope sc) i x)
    (q : wE X iter σ H fun v H1 => ∃ (a : Addr) (xs : List V), v = .ref a ∧ SqL m.K H1 a xs ∧ ∀ D, H1 D = none → ∃ Pv : Nat → Hp → Prop, Pv 0 (upd H1 D (.lst [])) ∧ (∀ j H, j ≤ xs.length → Pv j H → SqL m.K H a xs) ∧
      (∀ j x H, xs[j]? = some x → Pv j H → ∀ X', At m N (relS scope sc) k X' → wT X' c (σ.set i (some x)) H fun b H3 => if b = true then (∀ X', At m N (relS scope sc) k X' → wE X' elt (σ.set i (some x)) H3 (App D (Pv (j + 1)))) else Pv (j + 1) H3) ∧
      ∀ H, Pv xs.length H → Q (.ref D) H)
    (hs : ∀ x, foldedSetIterable iter X.env x = pure x := by with_unfolding_all (intro _; rfl)) : wE X (.ListComp elt [⟨.Name x p1, iter, [c], 0⟩] scope pos) σ H Q := by
  refine toE (pe_lc (own := [(x, i)]) (g := gName i) (tt := inBlkT m N (relS scope sc) k c) (te := inBlk m N (relS scope sc) k elt) h.calm (by rw [h.nn]; exact h.nd) (pi_list cE) (by rw [h.nn, h.ss]; exact blkOk_by ok) (fun s H C cl fp => pg_nl (blk_at h s H C cl fp) n) (fun s H C cl fp => pts_one (blk_pt h s H C cl fp)) (fun s H C cl fp => blk_pe h s H C cl fp) hs) ?_
  refine wE.mono q fun v H1 ⟨a, xs, ea, hl, go⟩ => ⟨a, ea, ⟨xs, by rw [h.kk]; exact hl⟩, fun D hD => ?_⟩
  obtain ⟨Pv, p0, st, turn, fin⟩ := go D hD
  refine lc_list (K := X.K) (a := a) (xs := xs) (g := gName i) (tt := inBlkT m N (relS scope sc) k c) (te := inBlk m N (relS scope sc) k elt) (vs := [i]) (σ := σ) Pv p0 (fun j H hj hp => by rw [h.kk]; exact st j H hj hp) (fun j z H hz hp => ?_) fin
  refine ⟨by rw [wipe1]; simp [wipe, List.set_set], fun X' hX' => ?_⟩
  have t := turn j z H hz hp X' hX'
  rw [set_wipe]
  exact t
/-- [elt for x in range(e)] -/
theorem w_lcR (h : At m N sc k X) (hm : m.mg "range" = none) (hgl : sc.names.lookup ("range" : Str) = some .globalImplicit) (ok : blkC N sc scope [(x, i)] = true) (n : NL N (relS scope sc) i x)
    (q : wE X e σ H fun v H1 => ∃ z : Int, v = .int z ∧ -(2 ^ 62) ≤ z ∧ z < 2 ^ 62 ∧ ∀ D, H1 D = none → ∃ Pv : Nat → Hp → Prop, Pv 0 (upd H1 D (.lst [])) ∧
      (∀ j H, j < z.toNat → Pv j H → ∀ X', At m N (relS scope sc) k X' → wE X' elt (σ.set i (some (.int j))) H (App D (Pv (j + 1)))) ∧ ∀ H, Pv z.toNat H → Q (.ref D) H)
    (hst : starEach [e] X.env = [(false, eval e X.env)] := by with_unfolding_all rfl) (hs : ∀ x, foldedSetIterable (.Call (.Name "range" p2) [e] [] p3) X.env x = pure x := by with_unfolding_all (intro _; rfl)) : wE X (.ListComp elt [⟨.Name x p1, .Call (.Name "range" p2) [e] [] p3, [], 0⟩] scope pos) σ H Q := by
  refine toE (pe_lc (own := [(x, i)]) (g := gName i) (tt := tYes) (te := inBlk m N (relS scope sc) k elt) h.calm (by rw [h.nn]; exact h.nd) (pi_range1 (h.gl hgl) (by rw [h.mm]; exact hm) (pa_cons cE pa_nil hst) hst) (by rw [h.nn, h.ss]; exact blkOk_by ok) (fun s H C cl fp => pg_nl (blk_at h s H C cl fp) n) (fun _ _ _ _ _ => pts_nil) (fun s H C cl fp => blk_pe h s H C cl fp) hs) ?_
  refine wE.mono q fun v H1 ⟨z, ez, z1, z2, go⟩ => ⟨z, by rw [ez], z1, z2, fun D hD => ?_⟩
  obtain ⟨Pv, p0, turn, fin⟩ := go D hD
  refine lc_range (lo := 0) (n := z.toNat) (g := gName i) (tt := tYes) (te := inBlk m N (relS scope sc) k elt) (vs := [i]) (σ := σ) Pv p0 (fun j H hj hp => ?_) fin
  refine ⟨by rw [wipe1]; simp [wipe, List.set_set], ?_⟩
  unfold tYes
  refine iteT fun X' hX' => ?_
  rw [set_wipe, Int.zero_add]
  exact turn j H hj hp X' hX'
/-- [elt for x in range(e) if c] -/
theorem w_lcRi (h : At m N sc k X) (hm : m.mg "range" = none) (hgl : sc.names.lookup ("range" : Str) = some .globalImplicit) (ok : blkC N sc scope [(x, i)] = true) (n : NL N (relS scope sc) i x)
    (q : wE X e σ H fun v H1 => ∃ z : Int, v = .int z ∧ -(2 ^ 62) ≤ z ∧ z < 2 ^ 62 ∧ ∀ D, H1 D = none → ∃ Pv : Nat → Hp → Prop, Pv 0 (upd H1 D (.lst [])) ∧
      (∀ j H, j < z.toNat → Pv j H → ∀ X', At m N (relS scope sc) k X' → wT X' c (σ.set i (some (.int j))) H fun b H3 => if b = true then (∀ X', At m N (relS scope sc) k X' → wE X' elt (σ.set i (some (.int j))) H3 (App D (Pv (j + 1)))) else Pv (j + 1) H3) ∧ ∀ H, Pv z.toNat H → Q (.ref D) H)
    (hst : starEach [e] X.env = [(false, eval e X.env)] := by with_unfolding_all rfl) (hs : ∀ x, foldedSetIterable (.Call (.Name "range" p2) [e] [] p3) X.env x = pure x := by with_unfolding_all (intro _; rfl)) : wE X (.ListComp elt [⟨.Name x p1, .Call (.Name "range" p2) [e] [] p3, [c], 0⟩] scope pos) σ H Q := by
  refine toE (pe_lc (own := [(x, i)]) (g := gName i) (tt := inBlkT m N (relS scope sc) k c) (te := inBlk m N (relS scope sc) k elt) h.calm (by rw [h.nn]; exact h.nd) (pi_range1 (h.gl hgl) (by rw [h.mm]; exact hm) (pa_cons cE pa_nil hst) hst) (by rw [h.nn, h.ss]; exact blkOk_by ok) (fun s H C cl fp => pg_nl (blk_at h s H C cl fp) n) (fun s H C cl fp => pts_one (blk_pt h s H C cl fp)) (fun s H C cl fp => blk_pe h s H C cl fp) hs) ?_
  refine wE.mono q fun v H1 ⟨z, ez, z1, z2, go⟩ => ⟨z, by rw [ez], z1, z2, fun D hD => ?_⟩
  obtain ⟨Pv, p0, turn, fin⟩ := go D hD
  refine lc_range (lo := 0) (n := z.toNat) (g := gName i) (tt := inBlkT m N (relS scope sc) k c) (te := inBlk m N (relS scope sc) k elt) (vs := [i]) (σ := σ) Pv p0 (fun j H hj hp => ?_) fin
  refine ⟨by rw [wipe1]; simp [wipe, List.set_set], fun X' hX' => ?_⟩
  have t := turn j H hj hp X' hX'
  rw [set_wipe, Int.zero_add]
  exact t
/-! ### slices of lists; powers of any size -/
theorem w_slice {lo hi : Expr} (h : At m N sc k X) (q : wE X e σ H fun x H1 => wE X lo σ H1 fun l H2 => ∃ i : Int, l = .int i ∧ wE X hi σ H2 fun u H3 => ∃ j : Int, u = .int j ∧ ∃ (a : Addr) (xs : List V), x = .ref a ∧ SqL m.K H3 a xs ∧ ∀ p, H3 p = none → Q (.ref p) (upd H3 p (.lst (cutV xs (some i) (some j))))) :
    wE X (.Subscript e (.Slice (some lo) (some hi) none p2) pos) σ H Q := by
  refine toE (pe_slice sl_list cE (po_some cE) (po_some cE)) ?_
  refine wE.mono q fun x H1 q1 => wE.mono q1 fun l H2 ⟨i, ei, q2⟩ => ⟨i, ei, wE.mono q2 fun u H3 ⟨j, ej, a, xs, ea, hs, q3⟩ => ⟨j, ej, a, xs, ea, by rw [h.kk]; exact hs, q3⟩⟩
theorem w_sliceTo {hi : Expr} (h : At m N sc k X) (q : wE X e σ H fun x H1 => wE X hi σ H1 fun u H3 => ∃ j : Int, u = .int j ∧ ∃ (a : Addr) (xs : List V), x = .ref a ∧ SqL m.K H3 a xs ∧ ∀ p, H3 p = none → Q (.ref p) (upd H3 p (.lst (cutV xs none (some j))))) :
    wE X (.Subscript e (.Slice none (some hi) none p2) pos) σ H Q := by
  refine toE (pe_slice sl_list cE po_none (po_some cE)) ?_
  refine wE.mono q fun x H1 q1 => ?_
  show wE X hi σ H1 _
  exact wE.mono q1 fun u H3 ⟨j, ej, a, xs, ea, hs, q3⟩ => ⟨j, ej, a, xs, ea, by rw [h.kk]; exact hs, q3⟩
theorem w_sliceFrom {lo : Expr} (h : At m N sc k X) (q : wE X e σ H fun x H1 => wE X lo σ H1 fun u H3 => ∃ j : Int, u = .int j ∧ ∃ (a : Addr) (xs : List V), x = .ref a ∧ SqL m.K H3 a xs ∧ ∀ p, H3 p = none → Q (.ref p) (upd H3 p (.lst (cutV xs (some j) none)))) :
    wE X (.Subscript e (.Slice (some lo) none none p2) pos) σ H Q := by
  refine toE (pe_slice sl_list cE (po_some cE) po_none) ?_
  exact wE.mono q fun x H1 q1 => wE.mono q1 fun u H3 ⟨j, ej, a, xs, ea, hs, q3⟩ => ⟨j, ej, a, xs, ea, by rw [h.kk]; exact hs, q3⟩
theorem cutV_map {α : Type} (f : α → V) (xs : List α) (lo hi : Option Int) : ∃ ys : List α, cutV (xs.map f) lo hi = ys.map f ∧ ys.length ≤ xs.length := by
  unfold cutV
  rw [List.length_map]
  exact ⟨(xs.drop (HT.sIx xs.length 0 lo)).take (HT.sIx xs.length xs.length hi - HT.sIx xs.length 0 lo), by rw [List.map_take, List.map_drop], by rw [List.length_take, List.length_drop]; omega⟩
theorem g_powW {i j : Int} (h0 : 0 ≤ j) (hb : (Builtin.Int.intBits i : Int) * j ≤ 2 ^ 27) (q : Q (.int (i ^ j.toNat)) H) : gOp X (binaryOp .Pow) (.int i) (.int j) H Q := fun pins s σ v u I rx ry => by
  obtain ⟨t, rfl⟩ := rx
  obtain ⟨t', rfl⟩ := ry
  exact PyProof.Rows.pow_int h0 hb ⟨.int _, H, I.tok _, ⟨_, rfl⟩, q⟩
end
end Vf
set_option maxRecDepth 100000
set_option maxHeartbeats 4000000
/-! Lcs: comprehensions that are stored at once. Own work. -/
namespace Vf
open PySem PySem.Spec PyProof.Rows L2 LamX
section
variable {m : Md} {N : List Str} {sc scope : Scope} {k l : Nat} {X : Cx} {a b c e o elt iter : Expr} {es : List Expr} {σ : L2.St} {H : Hp} {nx : L2.St → Hp → Prop} {rt : VK} {bk ct : L2.St → Hp → Prop} {pos p p1 p2 p3 py spos : Pos} {x y : Str} {i j : Nat} {v w : V}
/-- y = [..], y a name of this place alone -/
theorem s_lcL (h : At m N sc k X) (nl : NL N sc l y) (ok : blkC N sc scope [(x, i)] = true) (n : NL N (relS scope sc) i x)
    (q : wE X iter σ H fun v H1 => ∃ (a : Addr) (xs : List V), v = .ref a ∧ SqL m.K H1 a xs ∧ ∀ D, H1 D = none → ∃ Pv : Nat → Hp → Prop, Pv 0 (upd H1 D (.lst [])) ∧ (∀ j H, j ≤ xs.length → Pv j H → SqL m.K H a xs) ∧
      (∀ j x H, xs[j]? = some x → Pv j H → ∀ X', At m N (relS scope sc) k X' → wE X' elt (σ.set i (some x)) H (App D (Pv (j + 1)))) ∧ ∀ H, Pv xs.length H → nx (σ.set l (some (.ref D))) H)
    (hs : ∀ x, foldedSetIterable iter X.env x = pure x := by with_unfolding_all (intro _; rfl)) (hk : sc.kind = .function := by with_unfolding_all rfl) (hl : (py.line == pos.line) = true := by with_unfolding_all rfl) (ha : (scope.names.any fun (n, k) => n == y && (k == .local || k == .cell)) = false := by with_unfolding_all (decide +kernel)) : wS X (.Assign [.Name y py] (.ListComp elt [⟨.Name x p1, iter, [], 0⟩] scope pos) spos) ⟨nx, rt, bk, ct⟩ σ H := by
  refine toS (ps_setLc (i := l) (y := y) (py := py) (own := [(x, i)]) (g := gName i) (tt := tYes) (te := inBlk m N (relS scope sc) k elt) h.calm (by rw [h.nn]; exact h.nd) (by rw [h.nn]; exact nl.ix) (by rw [h.ss]; exact nl.loc) (sw_true (by rw [h.ss]; exact hk) (by rw [h.ss]; exact nl.loc) hl ha) (pi_list cE) (by rw [h.nn, h.ss]; exact blkOk_by ok) (fun s H C cl fp => pg_nl (blk_at h s H C cl fp) n) (fun _ _ _ _ _ => pts_nil) (fun s H C cl fp => blk_pe h s H C cl fp) hs) ?_
  refine wE.mono q fun v H1 ⟨a, xs, ea, hl, go⟩ => ⟨a, ea, ⟨xs, by rw [h.kk]; exact hl⟩, fun D hD => ?_⟩
  obtain ⟨Pv, p0, st, turn, fin⟩ := go D hD
  refine lc_list (K := X.K) (a := a) (xs := xs) (g := gName i) (tt := tYes) (te := inBlk m N (relS scope sc) k elt) (vs := [i]) (σ := σ) Pv p0 (fun j H hj hp => by rw [h.kk]; exact st j H hj hp) (fun j z H hz hp => ?_) fin
  refine ⟨by rw [wipe1]; simp [wipe, List.set_set], ?_⟩
  unfold tYes
  refine iteT fun X' hX' => ?_
  rw [set_wipe]
  exact turn j z H hz hp X' hX'
/-- y = [..], y a name of this place alone -/
theorem s_lcLi (h : At m N sc k X) (nl : NL N sc l y) (ok : blkC N sc scope [(x, i)] = true) (n : NL N (relS scope sc) i x)
    (q : wE X iter σ H fun v H1 => ∃ (a : Addr) (xs : List V), v = .ref a ∧ SqL m.K H1 a xs ∧ ∀ D, H1 D = none → ∃ Pv : Nat → Hp → Prop, Pv 0 (upd H1 D (.lst [])) ∧ (∀ j H, j ≤ xs.length → Pv j H → SqL m.K H a xs) ∧
      (∀ j x H, xs[j]? = some x → Pv j H → ∀ X', At m N (relS scope sc) k X' → wT X' c (σ.set i (some x)) H fun b H3 => if b = true then (∀ X', At m N (relS scope sc) k X' → wE X' elt (σ.set i (some x)) H3 (App D (Pv (j + 1)))) else Pv (j + 1) H3) ∧
      ∀ H, Pv xs.length H → nx (σ.set l (some (.ref D))) H)
    (hs : ∀ x, foldedSetIterable iter X.env x = pure x := by with_unfolding_all (intro _; rfl)) (hk : sc.kind = .function := by with_unfolding_all rfl) (hl : (py.line == pos.line) = true := by with_unfolding_all rfl) (ha : (scope.names.any fun (n, k) => n == y && (k == .local || k == .cell)) = false := by with_unfolding_all (decide +kernel)) : wS X (.Assign [.Name y py] (.ListComp elt [⟨.Name x p1, iter, [c], 0⟩] scope pos) spos) ⟨nx, rt, bk, ct⟩ σ H := by
  refine toS (ps_setLc (i := l) (y := y) (py := py) (own := [(x, i)]) (g := gName i) (tt := inBlkT m N (relS scope sc) k c) (te := inBlk m N (relS scope sc) k elt) h.calm (by rw [h.nn]; exact h.nd) (by rw [h.nn]; exact nl.ix) (by rw [h.ss]; exact nl.loc) (sw_true (by rw [h.ss]; exact hk) (by rw [h.ss]; exact nl.loc) hl ha) (pi_list cE) (by rw [h.nn, h.ss]; exact blkOk_by ok) (fun s H C cl fp => pg_nl (blk_at h s H C cl fp) n) (fun s H C cl fp => pts_one (blk_pt h s H C cl fp)) (fun s H C cl fp => blk_pe h s H C cl fp) hs) ?_
  refine wE.mono q fun v H1 ⟨a, xs, ea, hl, go⟩ => ⟨a, ea, ⟨xs, by rw [h.kk]; exact hl⟩, fun D hD => ?_⟩
  obtain ⟨Pv, p0, st, turn, fin⟩ := go D hD
  refine lc_list (K := X.K) (a := a) (xs := xs) (g := gName i) (tt := inBlkT m N (relS scope sc) k c) (te := inBlk m N (relS scope sc) k elt) (vs := [i]) (σ := σ) Pv p0 (fun j H hj hp => by rw [h.kk]; exact st j H hj hp) (fun j z H hz hp => ?_) fin
  refine ⟨by rw [wipe1]; simp [wipe, List.set_set], fun X' hX' => ?_⟩
  have t := turn j z H hz hp X' hX'
  rw [set_wipe]
  exact t
/-- y = [..], y a name of this place alone -/
theorem s_lcR (h : At m N sc k X) (hm : m.mg "range" = none) (hgl : sc.names.lookup ("range" : Str) = some .globalImplicit) (nl : NL N sc l y) (ok : blkC N sc scope [(x, i)] = true) (n : NL N (relS scope sc) i x)
    (q : wE X e σ H fun v H1 => ∃ z : Int, v = .int z ∧ -(2 ^ 62) ≤ z ∧ z < 2 ^ 62 ∧ ∀ D, H1 D = none → ∃ Pv : Nat → Hp → Prop, Pv 0 (upd H1 D (.lst [])) ∧
      (∀ j H, j < z.toNat → Pv j H → ∀ X', At m N (relS scope sc) k X' → wE X' elt (σ.set i (some (.int j))) H (App D (Pv (j + 1)))) ∧ ∀ H, Pv z.toNat H → nx (σ.set l (some (.ref D))) H)
    (hst : starEach [e] X.env = [(false, eval e X.env)] := by with_unfolding_all rfl) (hs : ∀ x, foldedSetIterable (.Call (.Name "range" p2) [e] [] p3) X.env x = pure x := by with_unfolding_all (intro _; rfl)) (hk : sc.kind = .function := by with_unfolding_all rfl) (hl : (py.line == pos.line) = true := by with_unfolding_all rfl) (ha : (scope.names.any fun (n, k) => n == y && (k == .local || k == .cell)) = false := by with_unfolding_all (decide +kernel)) : wS X (.Assign [.Name y py] (.ListComp elt [⟨.Name x p1, .Call (.Name "range" p2) [e] [] p3, [], 0⟩] scope pos) spos) ⟨nx, rt, bk, ct⟩ σ H := by
  refine toS (ps_setLc (i := l) (y := y) (py := py) (own := [(x, i)]) (g := gName i) (tt := tYes) (te := inBlk m N (relS scope sc) k elt) h.calm (by rw [h.nn]; exact h.nd) (by rw [h.nn]; exact nl.ix) (by rw [h.ss]; exact nl.loc) (sw_true (by rw [h.ss]; exact hk) (by rw [h.ss]; exact nl.loc) hl ha) (pi_range1 (h.gl hgl) (by rw [h.mm]; exact hm) (pa_cons cE pa_nil hst) hst) (by rw [h.nn, h.ss]; exact blkOk_by ok) (fun s H C cl fp => pg_nl (blk_at h s H C cl fp) n) (fun _ _ _ _ _ => pts_nil) (fun s H C cl fp => blk_pe h s H C cl fp) hs) ?_
  refine wE.mono q fun v H1 ⟨z, ez, z1, z2, go⟩ => ⟨z, by rw [ez], z1, z2, fun D hD => ?_⟩
  obtain ⟨Pv, p0, turn, fin⟩ := go D hD
  refine lc_range (lo := 0) (n := z.toNat) (g := gName i) (tt := tYes) (te := inBlk m N (relS scope sc) k elt) (vs := [i]) (σ := σ) Pv p0 (fun j H hj hp => ?_) fin
  refine ⟨by rw [wipe1]; simp [wipe, List.set_set], ?_⟩
  unfold tYes
  refine iteT fun X' hX' => ?_
  rw [set_wipe, Int.zero_add]
  exact turn j H hj hp X' hX'
/-- y = [..], y a name of this place alone -/
theorem s_lcRi (h : At m N sc k X) (hm : m.mg "range" = none) (hgl : sc.names.lookup ("range" : Str) = some .globalImplicit) (nl : NL N sc l y) (ok : blkC N sc scope [(x, i)] = true) (n : NL N (relS scope sc) i x)
    (q : wE X e σ H fun v H1 => ∃ z : Int, v = .int z ∧ -(2 ^ 62) ≤ z ∧ z < 2 ^ 62 ∧ ∀ D, H1 D = none → ∃ Pv : Nat → Hp → Prop, Pv 0 (upd H1 D (.lst [])) ∧
      (∀ j H, j < z.toNat → Pv j H → ∀ X', At m N (relS scope sc) k X' → wT X' c (σ.set i (some (.int j))) H fun b H3 => if b = true then (∀ X', At m N (relS scope sc) k X' → wE X' elt (σ.set i (some (.int j))) H3 (App D (Pv (j + 1)))) else Pv (j + 1) H3) ∧ ∀ H, Pv z.toNat H → nx (σ.set l (some (.ref D))) H)
    (hst : starEach [e] X.env = [(false, eval e X.env)] := by with_unfolding_all rfl) (hs : ∀ x, foldedSetIterable (.Call (.Name "range" p2) [e] [] p3) X.env x = pure x := by with_unfolding_all (intro _; rfl)) (hk : sc.kind = .function := by with_unfolding_all rfl) (hl : (py.line == pos.line) = true := by with_unfolding_all rfl) (ha : (scope.names.any fun (n, k) => n == y && (k == .local || k == .cell)) = false := by with_unfolding_all (decide +kernel)) : wS X (.Assign [.Name y py] (.ListComp elt [⟨.Name x p1, .Call (.Name "range" p2) [e] [] p3, [c], 0⟩] scope pos) spos) ⟨nx, rt, bk, ct⟩ σ H := by
  refine toS (ps_setLc (i := l) (y := y) (py := py) (own := [(x, i)]) (g := gName i) (tt := inBlkT m N (relS scope sc) k c) (te := inBlk m N (relS scope sc) k elt) h.calm (by rw [h.nn]; exact h.nd) (by rw [h.nn]; exact nl.ix) (by rw [h.ss]; exact nl.loc) (sw_true (by rw [h.ss]; exact hk) (by rw [h.ss]; exact nl.loc) hl ha) (pi_range1 (h.gl hgl) (by rw [h.mm]; exact hm) (pa_cons cE pa_nil hst) hst) (by rw [h.nn, h.ss]; exact blkOk_by ok) (fun s H C cl fp => pg_nl (blk_at h s H C cl fp) n) (fun s H C cl fp => pts_one (blk_pt h s H C cl fp)) (fun s H C cl fp => blk_pe h s H C cl fp) hs) ?_
  refine wE.mono q fun v H1 ⟨z, ez, z1, z2, go⟩ => ⟨z, by rw [ez], z1, z2, fun D hD => ?_⟩
  obtain ⟨Pv, p0, turn, fin⟩ := go D hD
  refine lc_range (lo := 0) (n := z.toNat) (g := gName i) (tt := inBlkT m N (relS scope sc) k c) (te := inBlk m N (relS scope sc) k elt) (vs := [i]) (σ := σ) Pv p0 (fun j H hj hp => ?_) fin
  refine ⟨by rw [wipe1]; simp [wipe, List.set_set], fun X' hX' => ?_⟩
  have t := turn j H hj hp X' hX'
  rw [set_wipe, Int.zero_add]
  exact t
end
end Vf
set_option maxRecDepth 100000
set_option maxHeartbeats 4000000
/-! St: stores into several names, insert. Own work. -/
namespace Vf
open PySem PySem.Spec PyProof.Rows L2 LamX
/-- what changes in objects that were not there is growth -/
theorem GrowX.into {T : List (Addr × Str)} {S S' : Addr → Prop} {H H1 H2 : Hp} (a : GrowX T S H H1) (b : GrowX T S' H1 H2) (h : ∀ c, S' c → New H c ∨ S c) : GrowX T S H H2 :=
  ⟨fun c o s e n => b.ext c o (fun z => (h c z).elim (fun z => by rw [z] at e; cases e) s) (a.ext c o s e n) n, fun t => b.tab (a.tab t), fun c z => a.keep c (b.keep c z), fun c xs z => b.tup c xs (a.tup c xs z), fun c o u z => b.frz c o u (a.frz c o u z)⟩
theorem Grow.intoNew {T : List (Addr × Str)} {S' : Addr → Prop} {H H1 H2 : Hp} (a : Grow T H H1) (b : GrowX T S' H1 H2) (h : ∀ c, S' c → New H c) : Grow T H H2 := a.into b fun c z => .inl (h c z)
/-- a list's new elements -/
theorem GrowX.lst {T : List (Addr × Str)} {H : Hp} {p : Addr} {xs ys : List V} (h : H p = some (.lst xs)) : GrowX T (· = p) H (upd H p (.lst ys)) := GrowX.set rfl h (fun _ z => by cases z) (fun _ z => by unfold CodeO at z; cases z) (fun _ z => by cases z) (fun _ _ z => by cases z)
theorem New.ne {H : Hp} {a p : Addr} {o : HO} (n : New H p) (h : H a = some o) : p ≠ a := fun z => by rw [← z, n] at h; cases h
section
variable {m : Md} {N : List Str} {sc : Scope} {k : Nat} {X : Cx} {a b c e o : Expr} {es : List Expr} {σ : L2.St} {H : Hp} {Q : VK} {nx : L2.St → Hp → Prop} {rt : VK} {bk ct : L2.St → Hp → Prop} {pos p1 p2 p3 p4 : Pos} {x y z : Str} {i j l : Nat} {k1 k2 : Nat}
theorem nl_of (h : At m N sc k X) (i : Nat) (x : Str) (a : N[i]? = some x := by rfl) (b : sc.names.lookup x = some .local := by rfl) : NL N sc i x := ⟨a, b⟩
theorem nc_of (h : At m N sc k X) (i : Nat) (x : Str) (a : N[i]? = some x := by rfl) (b : sc.names.lookup x = some .cell := by rfl) : NC N sc i x := ⟨a, b⟩
theorem env_sc {env : Env} (h : env.scope = sc) : { env with scope := sc } = env := by cases env; cases h; rfl
/-- x, y = a, b, both names of this place alone -/
theorem s_par (h : At m N sc k X) (n1 : NL N sc i x) (n2 : NL N sc j y) (q : wA X [a, b] σ H fun vs H1 => ∃ v w, vs = [v, w] ∧ nx ((σ.set i (some v)).set j (some w)) H1) (hij : i ≠ j := by decide)
    (hw : ∀ env : Env, swappedStores [.Tuple [.Name x p1, .Name y p2] k1 p3] (.Tuple [a, b] k2 p4) { env with scope := sc } = pure (some [x, y]) := by with_unfolding_all (intro _; rfl))
    (hs : swapsWithSole [.Tuple [.Name x p1, .Name y p2] k1 p3] (.Tuple [a, b] k2 p4) pos.line X.env = pure false := by with_unfolding_all rfl) : wS X (.Assign [.Tuple [.Name x p1, .Name y p2] k1 p3] (.Tuple [a, b] k2 p4) pos) ⟨nx, rt, bk, ct⟩ σ H :=
  toS (ps_par h.calm (by rw [h.nn]; exact h.nd) (by rw [h.nn]; exact n1.ix) (by rw [h.nn]; exact n2.ix) hij (by rw [h.ss]; exact n1.loc) (by rw [h.ss]; exact n2.loc) cA (by have := hw X.env; rw [env_sc h.ss] at this; exact this) hs) q
/-- x, y = e where the pair is made, then taken apart -/
theorem s_two {t1 t2 : Expr} (h : At m N sc k X) (hg1 : PG X t1 (gName i)) (hg2 : PG X t2 (gName j)) (q : wE X e σ H fun v H1 => ∃ (p : Addr) (v1 v2 : V), v = .ref p ∧ SqT m.K H1 p [v1, v2] ∧ nx ((σ.set i (some v1)).set j (some v2)) H1)
    (hw : ∀ env : Env, swappedStores [.Tuple [t1, t2] k1 p3] e { env with scope := sc } = pure none := by with_unfolding_all (intro _; rfl))
    (hs : swapsWithSole [.Tuple [t1, t2] k1 p3] e pos.line X.env = pure false := by with_unfolding_all rfl)
    (hz : (assignEach [t1, t2] X.env).map (·.2) = assign t1 X.env :: (assignEach [t2] X.env).map (·.2) := by with_unfolding_all rfl) (hz2 : (assignEach [t2] X.env).map (·.2) = assign t2 X.env :: (assignEach [] X.env).map (·.2) := by with_unfolding_all rfl)
    (hn : (assignEach [t1, t2] X.env).length = 2 := by with_unfolding_all rfl) (hst : (assignEach [t1, t2] X.env).findIdx? (·.1) = none := by with_unfolding_all rfl)
    (ho : (assignEach [.Tuple [t1, t2] k1 p3] X.env).map (·.2) = [assign (.Tuple [t1, t2] k1 p3) X.env] := by with_unfolding_all rfl) : wS X (.Assign [.Tuple [t1, t2] k1 p3] e pos) ⟨nx, rt, bk, ct⟩ σ H := by
  refine toS (ps_asg cE (pg_tup h.calm (pgs_cons hg1 (pgs_cons hg2 pgs_nil hz2) hz) hn hst) hs (by have := hw X.env; rw [env_sc h.ss] at this; exact this) ho) ?_
  exact wE.mono q fun v H1 ⟨p, v1, v2, ev, hp, q1⟩ => ⟨p, [v1, v2], ev, by rw [h.kk]; exact hp, rfl, v1, [v2], rfl, v2, [], rfl, rfl, q1⟩
theorem g_truB {b : Bool} {QB : Bool → Hp → Prop} (q : QB b H) : gTru X (.bl b) H QB := ⟨b, rfl, q⟩
theorem w_neg (q : wE X e σ H fun v H1 => ∃ i : Int, v = .int i ∧ Q (.int (-i)) H1) : wE X (.UnaryOp .USub e pos) σ H Q := toE (pe_un un_neg cE) q
/-- xs.insert(a, b) -/
theorem g_insert (q : wE X o σ H fun x H1 => tyV X.K "list" x H1 ∧ wA X [a, b] σ H1 fun ys H2 => ∃ (l : Addr) (xs : List V) (i : Int) (y : V), x = .ref l ∧ ys = [.int i, y] ∧ H2 l = some (.lst xs) ∧ xs.length < sizeLine ∧ 0 ≤ i ∧ i < 2 ^ 63 ∧ Q .non (upd H2 l (.lst (xs.take i.toNat ++ [y] ++ xs.drop i.toNat)))) {apos : Pos}
    (hbase : attributeBase o "insert" X.env (eval o X.env) = eval o X.env := by with_unfolding_all rfl)
    (hfew : ((backTo pos (starEach [a, b] X.env)).all (fun x => !x.1) && (backToKw pos (keywordEach [] X.env)).all (fun x => x.1.isSome) && decide ([a, b].length + ([] : List Keyword).length + (if ([] : List Keyword).isEmpty then 0 else 1) < 30)) = true := by with_unfolding_all rfl)
    (hline : (apos.endLine == pos.line) = true := by with_unfolding_all rfl) (hs : starEach [a, b] X.env = (false, eval a X.env) :: starEach [b] X.env := by with_unfolding_all rfl) (hplain : (backTo pos (starEach [b] X.env)).any (·.1) = false := by with_unfolding_all rfl) : wE X (.Call (.Attribute o "insert" apos) [a, b] [] pos) σ H Q :=
  toE (pe_bm PySem.F.plainAttrs_list PySem.F.slot_list_insert PySem.F.type_list_insert mt_insert cE cA hbase hfew hline hs hplain) q
end
end Vf
set_option maxRecDepth 100000
set_option maxHeartbeats 4000000
/-! Tm: terms of the program as data. Own work. -/
namespace Vf
open PySem PySem.Spec PyProof.Rows L2 LamX
/-- 1 to 8 signs a to z -/
def IsName (z : Str) : Prop := 1 ≤ z.length ∧ z.length ≤ 8 ∧ ∀ c ∈ z.cps.toList, 97 ≤ c ∧ c ≤ 122
inductive Tm
  | part (now : Bool) (z : Str) (w : Int)
  | all (first : Bool) (ts : List Tm)
  | rank (r : Int) (ts : List Tm)
namespace Tm
mutual
/-- the tuple that a term is -/
def py : Tm → PyData
  | .part n z w => .tuple [.str (if n then "now" else "of"), .str z, .int w]
  | .all f ts => .tuple [.str (if f then "first" else "last"), .list (pys ts)]
  | .rank r ts => .tuple [.str "rank", .int r, .list (pys ts)]
def pys : List Tm → List PyData
  | [] => []
  | t :: ts => py t :: pys ts
end
mutual
/-- names of the two lists, waits up to W, ranks in their bounds, no list empty -/
def ok (W : Int) (zs ns : List Str) : Tm → Prop
  | .part n z w => (if n then z ∈ ns else z ∈ zs) ∧ -W ≤ w ∧ w ≤ W
  | .all _ ts => ts ≠ [] ∧ oks W zs ns ts
  | .rank r ts => ts ≠ [] ∧ 1 ≤ r ∧ r ≤ ts.length ∧ oks W zs ns ts
def oks (W : Int) (zs ns : List Str) : List Tm → Prop
  | [] => True
  | t :: ts => ok W zs ns t ∧ oks W zs ns ts
end
mutual
def dep : Tm → Nat
  | .part _ _ _ => 0
  | .all _ ts => deps ts + 1
  | .rank _ ts => deps ts + 1
def deps : List Tm → Nat
  | [] => 0
  | t :: ts => max (dep t) (deps ts)
end
mutual
/-- parts -/
def cnt : Tm → Nat
  | .part _ _ _ => 1
  | .all _ ts => cnts ts
  | .rank _ ts => cnts ts
def cnts : List Tm → Nat
  | [] => 0
  | t :: ts => cnt t + cnts ts
end
mutual
/-- parts and lists -/
def siz : Tm → Nat
  | .part _ _ _ => 1
  | .all _ ts => sizs ts + 1
  | .rank _ ts => sizs ts + 1
def sizs : List Tm → Nat
  | [] => 0
  | t :: ts => siz t + sizs ts
end
mutual
/-- a term: no list empty or beyond bounds, ranks in their bounds -/
def wf : Tm → Prop
  | .part _ _ _ => True
  | .all _ ts => ts ≠ [] ∧ ts.length < 1000 ∧ wfs ts
  | .rank r ts => ts ≠ [] ∧ ts.length < 1000 ∧ 1 ≤ r ∧ r ≤ ts.length ∧ wfs ts
def wfs : List Tm → Prop
  | [] => True
  | t :: ts => wf t ∧ wfs ts
end
mutual
/-- the parts changed -/
def reb (g : Tm → Tm) : Tm → Tm
  | .part n z w => g (.part n z w)
  | .all f ts => .all f (rebs g ts)
  | .rank r ts => .rank r (rebs g ts)
def rebs (g : Tm → Tm) : List Tm → List Tm
  | [] => []
  | t :: ts => reb g t :: rebs g ts
end
mutual
theorem reb_id : ∀ t : Tm, reb (fun x => x) t = t
  | .part _ _ _ => rfl
  | .all f ts => by rw [reb, rebs_id ts]
  | .rank r ts => by rw [reb, rebs_id ts]
theorem rebs_id : ∀ ts : List Tm, rebs (fun x => x) ts = ts
  | [] => rfl
  | t :: ts => by rw [rebs, reb_id t, rebs_id ts]
end
theorem rebs_map (g : Tm → Tm) : ∀ ts : List Tm, rebs g ts = ts.map (reb g)
  | [] => rfl
  | t :: ts => by rw [rebs, rebs_map g ts]; rfl
theorem wfs_iff : ∀ {ts : List Tm}, wfs ts ↔ ∀ t ∈ ts, wf t
  | [] => by simp [wfs]
  | t :: ts => by rw [wfs, wfs_iff]; simp
theorem dep_mem : ∀ {ts : List Tm} {t : Tm}, t ∈ ts → dep t ≤ deps ts
  | [], _, h => by simp at h
  | a :: ts, t, h => by
    rw [deps]
    rcases List.mem_cons.1 h with e | e
    · rw [e]; omega
    · have := dep_mem e; omega
theorem pys_map : ∀ ts : List Tm, pys ts = ts.map py
  | [] => rfl
  | t :: ts => by rw [pys, pys_map ts]; rfl
theorem oks_iff {W : Int} {zs ns : List Str} : ∀ {ts : List Tm}, oks W zs ns ts ↔ ∀ t ∈ ts, ok W zs ns t
  | [] => by simp [oks]
  | t :: ts => by rw [oks, oks_iff]; simp
theorem pys_length (ts : List Tm) : (pys ts).length = ts.length := by rw [pys_map, List.length_map]
theorem cnts_sum : ∀ ts : List Tm, cnts ts = (ts.map cnt).sum
  | [] => rfl
  | t :: ts => by rw [cnts, cnts_sum ts]; rfl
theorem sizs_append : ∀ a b : List Tm, sizs (a ++ b) = sizs a + sizs b
  | [], b => by simp [sizs]
  | t :: a, b => by rw [List.cons_append, sizs, sizs, sizs_append a b]; omega
theorem cnts_append : ∀ a b : List Tm, cnts (a ++ b) = cnts a + cnts b
  | [], b => by simp [cnts]
  | t :: a, b => by rw [List.cons_append, cnts, cnts, cnts_append a b]; omega
theorem pys_append (a b : List Tm) : pys (a ++ b) = pys a ++ pys b := by rw [pys_map, pys_map, pys_map, List.map_append]
theorem oks_append {W : Int} {zs ns : List Str} {a b : List Tm} (h1 : oks W zs ns a) (h2 : oks W zs ns b) : oks W zs ns (a ++ b) := by
  rw [oks_iff] at *
  intro t ht
  rcases List.mem_append.1 ht with h | h
  · exact h1 t h
  · exact h2 t h
section
variable {W : Int} {zs ns : List Str} (hz : ∀ z ∈ zs, IsName z) (hn : ∀ z ∈ ns, IsName z)
include hz hn
theorem part_name {n : Bool} {z : Str} (h : if n = true then z ∈ ns else z ∈ zs) : IsName z := by
  cases n
  · exact hz z (by simpa using h)
  · exact hn z (by simpa using h)
mutual
theorem canLay : ∀ t : Tm, ok W zs ns t → (py t).canLay0 = true
  | .part n z w, h => by
    have e := (part_name hz hn h.1).2.2
    have e1 : PyData.strOk z = true := by
      unfold PyData.strOk
      rw [Array.all_eq_true']
      intro c hc
      have := e c (by simpa using hc)
      simp; omega
    have e2 : PyData.strOk (if n = true then "now" else "of") = true := by cases n <;> decide +kernel
    simp [py, PyData.canLay0, PyData.canLayAll0, e1, e2]
  | .all f ts, h => by
    have e2 : PyData.strOk (if f = true then "first" else "last") = true := by cases f <;> decide +kernel
    simp [py, PyData.canLay0, PyData.canLayAll0, e2, canLays ts h.2]
  | .rank r ts, h => by
    have e2 : PyData.strOk "rank" = true := by decide +kernel
    simp [py, PyData.canLay0, PyData.canLayAll0, e2, canLays ts h.2.2.2]
theorem canLays : ∀ ts : List Tm, oks W zs ns ts → PyData.canLayAll0 (pys ts) = true
  | [], _ => rfl
  | t :: ts, h => by
    rw [pys, PyData.canLayAll0, canLay t h.1, canLays ts h.2]; rfl
end
end
mutual
theorem depth_le : ∀ t : Tm, (py t).depth ≤ 2 * dep t + 1
  | .part n z w => by simp [py, PyData.depth, PyData.depthAll, dep]
  | .all f ts => by have := depths_le ts; simp [py, PyData.depth, PyData.depthAll, dep]; omega
  | .rank r ts => by have := depths_le ts; simp [py, PyData.depth, PyData.depthAll, dep]; omega
theorem depths_le : ∀ ts : List Tm, PyData.depthAll (pys ts) ≤ 2 * deps ts + 1
  | [] => by simp [pys, PyData.depthAll]
  | t :: ts => by have := depth_le t; have := depths_le ts; simp [pys, PyData.depthAll, deps]; omega
end
mutual
theorem dep_le : ∀ t : Tm, dep t ≤ siz t
  | .part n z w => by simp [dep]
  | .all f ts => by have := deps_le ts; simp [dep, siz]; omega
  | .rank r ts => by have := deps_le ts; simp [dep, siz]; omega
theorem deps_le : ∀ ts : List Tm, deps ts ≤ sizs ts
  | [] => by simp [deps]
  | t :: ts => by have := dep_le t; have := deps_le ts; simp [deps, sizs]; omega
end
mutual
theorem siz_pos : ∀ t : Tm, 1 ≤ siz t
  | .part n z w => by simp [siz]
  | .all f ts => by simp [siz]
  | .rank r ts => by simp [siz]
theorem len_le : ∀ ts : List Tm, ts.length ≤ sizs ts
  | [] => by simp
  | t :: ts => by have := siz_pos t; have := len_le ts; simp [sizs]; omega
end
mutual
theorem ok_wf {W : Int} {zs ns : List Str} : ∀ t : Tm, ok W zs ns t → siz t < 1000 → wf t
  | .part _ _ _, _, _ => trivial
  | .all f ts, h, l => by
    have := len_le ts
    simp only [siz] at l
    exact ⟨h.1, by omega, oks_wf ts h.2 (by omega)⟩
  | .rank r ts, h, l => by
    have := len_le ts
    simp only [siz] at l
    exact ⟨h.1, by omega, h.2.1, h.2.2.1, oks_wf ts h.2.2.2 (by omega)⟩
theorem oks_wf {W : Int} {zs ns : List Str} : ∀ ts : List Tm, oks W zs ns ts → sizs ts < 1000 → wfs ts
  | [], _, _ => trivial
  | t :: ts, h, l => by
    simp only [sizs] at l
    exact ⟨ok_wf t h.1 (by omega), oks_wf ts h.2 (by omega)⟩
end
mutual
theorem eqv_py : ∀ a b : Tm, PyData.eqv (py a) (py b) = true ↔ a = b
  | .part n z w, .part n' z' w' => by
    have : (if n = true then ("now" : Str) else "of") = (if n' = true then ("now" : Str) else "of") ↔ n = n' := by cases n <;> cases n' <;> decide +kernel
    simp [py, PyData.eqv, PyData.eqvAll, this]
  | .part n z w, .all f ts => by simp [py, PyData.eqv, PyData.eqvAll]
  | .part n z w, .rank r ts => by simp [py, PyData.eqv, PyData.eqvAll]
  | .all f ts, .part n z w => by simp [py, PyData.eqv, PyData.eqvAll]
  | .all f ts, .all f' ts' => by
    have : (if f = true then ("first" : Str) else "last") = (if f' = true then ("first" : Str) else "last") ↔ f = f' := by cases f <;> cases f' <;> decide +kernel
    simp [py, PyData.eqv, PyData.eqvAll, this, eqv_pys ts ts']
  | .all f ts, .rank r ts' => by simp [py, PyData.eqv, PyData.eqvAll]
  | .rank r ts, .part n z w => by simp [py, PyData.eqv, PyData.eqvAll]
  | .rank r ts, .all f ts' => by simp [py, PyData.eqv, PyData.eqvAll]
  | .rank r ts, .rank r' ts' => by simp [py, PyData.eqv, PyData.eqvAll, eqv_pys ts ts']
theorem eqv_pys : ∀ a b : List Tm, PyData.eqvAll (pys a) (pys b) = true ↔ a = b
  | [], [] => by simp [pys, PyData.eqvAll]
  | [], _ :: _ => by simp [pys, PyData.eqvAll]
  | _ :: _, [] => by simp [pys, PyData.eqvAll]
  | a :: as, b :: bs => by simp [pys, PyData.eqvAll, eqv_py a b, eqv_pys as bs]
end
theorem wt_int {i : Int} (h : i.natAbs < 2 ^ 47) : PyData.weight (.int i) ≤ 47 := by
  unfold PyData.weight
  split
  · omega
  · have : i.natAbs ≠ 0 := by rename_i g; intro w; exact g (by simpa using Int.natAbs_eq_zero.1 w)
    have := (Nat.log2_lt this).2 h
    omega
section
variable {W : Int} {zs ns : List Str} (hz : ∀ z ∈ zs, IsName z) (hn : ∀ z ∈ ns, IsName z) (hW : W < 10 ^ 12)
include hz hn hW
mutual
theorem weight_le : ∀ t : Tm, ok W zs ns t → sizs [t] ≤ 1000 → (py t).weight + 1 ≤ 100 * siz t
  | .part n z w, h, _ => by
    have e : z.cps.size ≤ 8 := (part_name hz hn h.1).2.1
    have e2 : (if n = true then ("now" : Str) else "of").cps.size ≤ 8 := by cases n <;> decide +kernel
    have e3 := wt_int (i := w) (by have := h.2; omega)
    simp only [py, PyData.weight, PyData.weightAll, siz] at e3 ⊢
    omega
  | .all f ts, h, l => by
    have e2 : (if f = true then ("first" : Str) else "last").cps.size ≤ 8 := by cases f <;> decide +kernel
    have := weights_le ts h.2 (by simp only [sizs, siz] at l; omega)
    simp only [py, PyData.weight, PyData.weightAll, siz] at this ⊢
    omega
  | .rank r ts, h, l => by
    have e2 : ("rank" : Str).cps.size ≤ 8 := by decide +kernel
    have := weights_le ts h.2.2.2 (by simp only [sizs, siz] at l; omega)
    have e4 : ts.length ≤ sizs ts := len_le ts
    have e3 := wt_int (i := r) (by have := h.2; simp only [sizs, siz] at l; omega)
    simp only [py, PyData.weight, PyData.weightAll, siz] at this e3 ⊢
    omega
theorem weights_le : ∀ ts : List Tm, oks W zs ns ts → sizs ts ≤ 1000 → PyData.weightAll (pys ts) ≤ 100 * sizs ts
  | [], _, _ => by simp [pys, PyData.weightAll]
  | t :: ts, h, l => by
    have l' : siz t + sizs ts ≤ 1000 := l
    have h1 := weight_le t h.1 (by simp only [sizs]; omega)
    have h2 := weights_le ts h.2 (by omega)
    have h3 := siz_pos t
    simp only [pys, PyData.weightAll, sizs]
    omega
end
mutual
theorem short : ∀ t : Tm, ok W zs ns t → siz t ≤ 1000 → (py t).intsShort 13 = true
  | .part n z w, h, _ => by
    have e3 := PyData.shown_int_le (i := w) (by have := h.2; omega)
    simp [py, PyData.intsShort, PyData.intsShortAll, e3]
  | .all f ts, h, l => by
    have := shorts ts h.2 (by simp only [siz] at l; omega)
    simp [py, PyData.intsShort, PyData.intsShortAll, this]
  | .rank r ts, h, l => by
    have := shorts ts h.2.2.2 (by simp only [siz] at l; omega)
    have e4 : ts.length ≤ sizs ts := len_le ts
    have e3 := PyData.shown_int_le (i := r) (by have := h.2; simp only [siz] at l; omega)
    simp [py, PyData.intsShort, PyData.intsShortAll, this, e3]
theorem shorts : ∀ ts : List Tm, oks W zs ns ts → sizs ts ≤ 1000 → PyData.intsShortAll 13 (pys ts) = true
  | [], _, _ => rfl
  | t :: ts, h, l => by
    have l' : siz t + sizs ts ≤ 1000 := l
    rw [pys, PyData.intsShortAll, short t h.1 (by omega), shorts ts h.2 (by omega)]; rfl
end
mutual
theorem shows : ∀ t : Tm, ok W zs ns t → siz t ≤ 1000 → (py t).showable = true
  | .part n z w, h, _ => by
    have e3 : w.natAbs.log2 < 1920 := by
      rcases Nat.eq_zero_or_pos w.natAbs with e | e
      · rw [e]; decide
      · exact (Nat.log2_lt (by omega)).2 (by have := h.2; omega)
    simp [py, PyData.showable, PyData.showableAll, e3]
  | .all f ts, h, l => by
    have := showss ts h.2 (by simp only [siz] at l; omega)
    simp [py, PyData.showable, PyData.showableAll, this]
  | .rank r ts, h, l => by
    have := showss ts h.2.2.2 (by simp only [siz] at l; omega)
    have e4 : ts.length ≤ sizs ts := len_le ts
    have e3 : r.natAbs.log2 < 1920 := (Nat.log2_lt (by have := h.2; omega)).2 (by have := h.2; simp only [siz] at l; omega)
    simp [py, PyData.showable, PyData.showableAll, this, e3]
theorem showss : ∀ ts : List Tm, oks W zs ns ts → sizs ts ≤ 1000 → PyData.showableAll (pys ts) = true
  | [], _, _ => rfl
  | t :: ts, h, l => by
    have l' : siz t + sizs ts ≤ 1000 := l
    rw [pys, PyData.showableAll, shows t h.1 (by omega), showss ts h.2 (by omega)]; rfl
end
/-- a term's text is of a size that repr makes -/
theorem shown_fits (t : Tm) (h : ok W zs ns t) (l : siz t ≤ 29) : (py t).showable = true ∧ (py t).shown.length ≤ sizeLine ∧ (py t).depth ≤ 60 := by
  have h1 := weight_le hz hn hW t h (by simp only [sizs]; omega)
  have h2 := depth_le t
  have h3 := dep_le t
  refine ⟨shows hz hn hW t h (by omega), ?_, by omega⟩
  have := shown_le13 (d := py t) ?_ (short hz hn hW t h (by omega))
  · rw [sizeLine_eq]; omega
  · unfold PyData.layable0
    rw [canLay hz hn t h]
    simp only [Bool.true_and, Bool.and_eq_true, decide_eq_true_eq]
    exact ⟨by omega, by omega⟩
end
end Tm
end Vf
set_option maxRecDepth 100000
set_option maxHeartbeats 4000000
/-! Own: instances of the text's own classes: fields, methods, making, ==, isinstance. Own work. -/
namespace Vf
open PySem PySem.Spec PyProof.Rows L2 LamX
section
variable {m : Md} {N : List Str} {sc : Scope} {j k : Nat} {X : Cx} {a b c e o : Expr} {es : List Expr} {σ : L2.St} {H : Hp} {Q : VK} {nx : L2.St → Hp → Prop} {rt : VK} {bk ct : L2.St → Hp → Prop} {pos p p1 p2 apos : Pos} {x mn f : Str} {C : Addr} {sp : Sp} {dvs : List V} {CX : CXT} {E : XK}
/-! ### fields -/
theorem w_fld (h : At m N sc k X) (c : Cls m.K C) (n : NoAttr m.K C f) (q : wE X e σ H fun x H1 => ∃ a dx fs v, x = .ref a ∧ H1 a = some (.ins C dx fs) ∧ fs.lookup f = some v ∧ Q v H1)
    (hb : attributeBase e f X.env (eval e X.env) = eval e X.env := by with_unfolding_all rfl) : wE X (.Attribute e f pos) σ H Q := by
  refine toE (pe_fld cE hb) (wE.mono q fun x H1 ⟨a, dx, fs, v, ex, ea, l, q1⟩ => ?_)
  exact ⟨a, C, dx, fs, v, ex, ea, by rw [h.kk]; exact c, by rw [h.kk]; exact n, l, q1⟩
theorem s_fld (h : At m N sc k X) (c : Cls m.K C) (n : NoAttr m.K C f) (q : wE X e σ H fun y H1 => wE X o σ H1 fun x H2 => ∃ a dx fs, x = .ref a ∧ H2 a = some (.ins C dx fs) ∧ fs.length < 1000 ∧ nx σ (upd H2 a (.ins C dx (putF f y fs))))
    (hs : swapsWith e (some (.Attribute o f p1)) pos.line X.env = pure false := by with_unfolding_all rfl) : wS X (.Assign [.Attribute o f p1] e pos) ⟨nx, rt, bk, ct⟩ σ H := by
  refine toS (ps_fld cE cE hs) (wE.mono q fun y H1 q1 => wE.mono q1 fun x H2 ⟨a, dx, fs, ex, ea, l, q2⟩ => ?_)
  exact ⟨a, C, dx, fs, ex, ea, by rw [h.kk]; exact c, by rw [h.kk]; exact n, l, q2⟩
/-! ### methods -/
/-- a method of the class at C that keeps sp -/
structure MetX (m : Md) (CX : CXT) (k : Nat) (C : Addr) (mn : Str) (sp : Sp) (dvs : List V) : Prop where
  ex : ∃ (f : Addr) (fd : FuncData) (ps : List Str) (ds : List Value), FnG m CX k f fd ps sp ∧ Cls m.K C ∧ Meth m.K C mn f ∧ Binds m.K fd ps ds ∧ Vals dvs ds
/-- the callee's run, as a call -/
theorem run_call {pins : List (Addr × Obj)} {s : Shared} {g : Addr} {fd : FuncData} {ps : List Str} {ds us : List Value} {vs : List V} (h : At m N sc k X) (F : FnG m CX j g fd ps sp) (hk : j ≤ k) (hx : Passes CX X E) (I : Inv X pins σ H s) (b : Binds m.K fd ps ds) (d : Vals dvs ds) (r : Vals vs us) (q : sp (vs ++ dvs) H Q E) :
    wpAny (model X.prog X.w) X.A (call (.ref g) us) (EP X pins σ Q) X.xe s := by
  have r2 := Vals.append r d
  refine wpAny_call (codeAny_mono (fnG_run (us := us ++ ds) (vs := vs ++ dvs) h F hk hx I (b s us (by rw [← h.kk]; exact I.kIn) (by rw [← r2.length]; exact F.len _ _ _ _ q)) r2 q) fun r s' hq => ?_)
  match r, hq with
  | .error e, hq => exact hq
  | .ok (.ret u), hq => exact hq
theorem w_metX {pl : Sem Bool} (h : At m N sc k X) (c : MetX m CX j C mn sp dvs) (hk : j ≤ k) (hx : Passes CX X E)
    (q : wE X o σ H fun x H1 => ∃ a dx fs, x = .ref a ∧ H1 a = some (.ins C dx fs) ∧ fs.lookup mn = none ∧ wA X (e :: es) σ H1 fun vs H2 => sp (x :: (vs ++ dvs)) H2 Q E)
    (hst : starEach (e :: es) X.env = (false, eval e X.env) :: starEach es X.env := by with_unfolding_all rfl) (hpl : (backTo pos (starEach es X.env)).any (·.1) = false := by with_unfolding_all rfl)
    (ht : eval (.Call (.Attribute o mn apos) (e :: es) [] pos) X.env = (do
      let ov ← eval o X.env
      standAt apos.atName
      let (f, first) ← holding [ov] (getMethod ov mn pl)
      callWith pos f first (backTo pos (starEach (e :: es) X.env)) (backToKw pos (keywordEach [] X.env))) := by with_unfolding_all rfl) : wE X (.Call (.Attribute o mn apos) (e :: es) [] pos) σ H Q := by
  obtain ⟨g, fd, ps, ds, F, cl, me, b, d⟩ := c.ex
  unfold wE
  intro pins s I
  refine PySem.W.methodCall_KW (pl := pl) (thn ((cE (X := X) (e := o)).run pins s σ H _ I q) fun u s1 ⟨x, H1, I1, rx, i, dx, fs, ex, ea, l, q1⟩ => ?_) ht
  subst ex
  obtain rfl : u = Value.ref i := rx
  refine getmeth_ok I1 ea (by rw [h.kk]; exact cl) (by rw [h.kk]; exact me) l ?_
  refine PySem.W.callWith_K (first := [.ref i]) (h₀ := X.base) I.ok.mod.kin (by rw [h.kk]; exact me.kp) (thn ((cA (X := X) (es := e :: es)).run pos pins s1 σ H1 _ I1 q1) fun us s2 ⟨vs, H2, I2, r, q2⟩ => ⟨I2.kIn, ?_⟩) hst hpl
  exact run_call (us := .ref i :: us) (vs := .ref i :: vs) h F hk hx I2 b d (.cons rfl r) q2
theorem w_met0 {pl : Sem Bool} (h : At m N sc k X) (c : MetX m CX j C mn sp dvs) (hk : j ≤ k) (hx : Passes CX X E)
    (q : wE X o σ H fun x H1 => ∃ a dx fs, x = .ref a ∧ H1 a = some (.ins C dx fs) ∧ fs.lookup mn = none ∧ sp (x :: dvs) H1 Q E)
    (ht : eval (.Call (.Attribute o mn apos) [] [] pos) X.env = (do
      let ov ← eval o X.env
      standAt apos.atName
      let (f, first) ← holding [ov] (getMethod ov mn pl)
      callWith pos f first (backTo pos (starEach [] X.env)) (backToKw pos (keywordEach [] X.env))) := by with_unfolding_all rfl) : wE X (.Call (.Attribute o mn apos) [] [] pos) σ H Q := by
  obtain ⟨g, fd, ps, ds, F, cl, me, b, d⟩ := c.ex
  unfold wE
  intro pins s I
  refine PySem.W.methodCall_KW (pl := pl) (thn ((cE (X := X) (e := o)).run pins s σ H _ I q) fun u s1 ⟨x, H1, I1, rx, i, dx, fs, ex, ea, l, q1⟩ => ?_) ht
  subst ex
  obtain rfl : u = Value.ref i := rx
  refine getmeth_ok I1 ea (by rw [h.kk]; exact cl) (by rw [h.kk]; exact me) l ?_
  exact PySem.W.callWith_K0 (first := [.ref i]) I1.kIn (by rw [h.kk]; exact me.kp) (run_call (us := [.ref i]) (vs := [.ref i]) h F hk hx I1 b d (.cons rfl .nil) q1)
/-! ### making -/
/-- the class x, at C, whose __init__ keeps sp -/
structure MakX (m : Md) (CX : CXT) (k : Nat) (x : Str) (C : Addr) (sp : Sp) (dvs : List V) : Prop where
  ex : ∃ (f : Addr) (fd : FuncData) (ps : List Str) (ds : List Value), FnG m CX k f fd ps sp ∧ Mk m.K C f ∧ m.mg x = some (.ref C) ∧ Binds m.K fd ps ds ∧ Vals dvs ds
theorem w_makX (h : At m N sc k X) (c : MakX m CX j x C sp dvs) (hk : j + 1 ≤ k) (hg : sc.names.lookup x = some .globalImplicit) (hx : L2.PassesAt CX X σ E)
    (q : wA X (e :: es) σ H fun vs H1 => ∀ i dx, H1 i = none → H1 dx = none → dx ≠ i → sp (.ref i :: (vs ++ dvs)) (upd (upd H1 dx (.own i)) i (.ins C dx [])) (fun v H2 => v = .non ∧ Q (.ref i) H2) E)
    (hdb : (x == ("__debug__" : Str)) = false := by with_unfolding_all decide) (he : starEach (e :: es) X.env = (false, eval e X.env) :: starEach es X.env := by with_unfolding_all rfl) (hpl : (backTo pos (starEach es X.env)).any (·.1) = false := by with_unfolding_all rfl) : wE X (.Call (.Name x p) (e :: es) [] pos) σ H Q := by
  obtain ⟨g, fd, ps, ds, F, M, hm, b, d⟩ := c.ex
  unfold wE
  intro pins s I
  refine wpAny_Call_Name_kw (ld_glob (u := .ref C) I (h.gl hg) (by rw [h.mm]; exact hm) ?_ hdb)
  refine PySem.W.callWith_K (h₀ := X.base) I.ok.mod.kin (by rw [h.kk]; exact M.kp) (thn ((cA (X := X) (es := e :: es)).run pos pins s σ H _ I q) fun us s1 ⟨vs, H1, I1, r, q1⟩ => ⟨I1.kIn, ?_⟩) he hpl
  have hq := q1 (s1.heap.objs.size + 1) s1.heap.objs.size (I1.hok.fresh (Nat.le_succ _)) (I1.hok.fresh (Nat.le_refl _)) (Nat.ne_of_lt (Nat.lt_succ_self _))
  have I2 := Inv.made (C := C) I1
  have r2 : Vals (V.ref (s1.heap.objs.size + 1) :: (vs ++ dvs)) (Value.ref (s1.heap.objs.size + 1) :: (us ++ ds)) := .cons rfl (Vals.append r d)
  have e0 := I2.env0.make C us []
  rw [h.pp, h.ww, h.kk, h.mm, h.bb] at e0
  have rc := F.run _ X.stack _ _ ⟨Value.ref (s1.heap.objs.size + 1) :: us, []⟩ (Value.ref (s1.heap.objs.size + 1) :: (us ++ ds)) _ _ E (by exact h.gd) ((h.room.mono hk).make C us []) e0
    (b _ (Value.ref (s1.heap.objs.size + 1) :: us) (by rw [← h.kk]; exact I2.kIn) (by have z := r2.length; rw [F.len _ _ _ _ hq] at z; exact z.symm)) r2 hq
  rw [← h.pp, ← h.ww] at rc
  refine wpAny_call (make_map (f := g) I1.kIn (by rw [h.kk]; exact M.makes) (by rw [h.kk]; exact M.init) (by rw [h.kk]; exact beq_iff_eq.mp M.fn) (codeAny_mono rc fun r s' hq' => ?_))
  match r, hq' with
  | .error e, hq' => exact hx pins _ _ e s' I2 hq'
  | .ok (.ret u), hq' =>
    obtain ⟨v, H', I3, rv, ev, q3⟩ := I2.after hq'
    subst ev
    exact ⟨rv, ⟨V.ref (s1.heap.objs.size + 1), H', I3, rfl, q3⟩⟩
/-! ### isinstance -/
theorem g_isi (h : At m N sc k X) {x c : V} {t u : Value} {r : Bool} (hc : ClsV c u) (ht : TyX m.K H x t) (hr : PySem.W.kitOne m.K t u = some r) (q : Q (.bl r) H) : gCall X (.builtin "isinstance") [x, c] H Q :=
  ⟨_, call_isi, x, c, t, u, r, rfl, hc, by rw [h.kk]; exact ht, by rw [h.kk]; exact hr, q⟩
/-- == by an own __eq__ -/
theorem g_eqIns (h : At m N sc k X) (c : MetX m CX j C "__eq__" sp []) (hk : j ≤ k) (hx : Passes CX X E) {i dx : Addr} {fs : List (Str × V)} {y : V} {t : Value} (hi : H i = some (.ins C dx fs)) (ty : TyX m.K H y t) (nf : PySem.W.notFirst m.K C t = true)
    (q : sp [.ref i, y] H (fun z H' => ∃ r, z = .bl r ∧ Q (.bl r) H') E) : gOp X (compareOp .Eq) (.ref i) y H Q := by
  obtain ⟨g, fd, ps, ds, F, cl, me, b, d⟩ := c.ex
  intro pins s σ v u I rx ry
  cases rx
  have ty' : TyX X.K H y t := by rw [h.kk]; exact ty
  obtain ⟨P, Z, p, _⟩ := kit_of I ry ty'
  obtain ⟨mA, J, _⟩ := ins_get I.hok hi
  obtain ⟨od, J, _⟩ := J.look
  obtain ⟨mm, hF⟩ := I.fr
  show wpAny (model X.prog X.w) X.A (richCompare .Eq (.ref i) u) (EP X pins σ Q) X.xe s
  have hu := h.hu
  refine PySem.W.cmp_K (op := .Eq) (tb := t) (by omega) hF I.ok.mod.kin J (Z.ty _ _ I.kIn p) (by rw [h.kk]; exact nf) (by rw [h.kk]; exact me.at_) (by rw [h.kk]; exact me.fn) ?_
  refine wpAny_mono (run_call (Q := fun z H' => ∃ r, z = .bl r ∧ Q (.bl r) H') (us := [.ref i, u]) (vs := [.ref i, y]) h F hk hx I b d (.cons rfl (.cons ry .nil)) (by cases d; simpa using q)) (fun w s' hq => ?_) fun _ _ x => x
  obtain ⟨z, H', I', rz, r, ez, q'⟩ := hq
  subst ez
  cases rz
  exact ⟨.bl r, _, I', rfl, q'⟩
/-! != where the class has an own __eq__ and no __ne__ -/
section
variable {M : Model} {prog : Program} {w : World} {A : Around} {EE : Value → Shared → Prop} {s : Shared} {K : PySem.W.Frag} {i g : Addr} {oi : Obj} {od : Option Obj} {u tb : Value}
theorem bound_ne {args : List Value} {R : Option Value → Shared → Prop} (KI : K.In s.heap) (J : PySem.W.InstAt s.heap i oi C od) (hs : PySem.W.findIn K (.ref C) "__ne__" = some (some (.builtin "object.__ne__")))
    (q : wpAny M A (call (.builtin "object.__ne__") (.ref i :: args)) (fun v => R (some v)) EE s) : wpAny M A (callSpecialIfBound? (.ref i) "__ne__" args) R EE s := by
  have last : wpAny M A (do let v ← call (.builtin "object.__ne__") ([.ref i] ++ args); pure (some v)) R EE s := wpAny_bind (wpAny_mono q (fun v s' z => wpAny_pure z) fun _ _ z => z)
  simp only [callSpecialIfBound?, bindSpecialIfBound?]
  refine wpAny_holding (wpAny_bind (wpAny_bind (wpAny_bind (J.type.here ((PySem.W.looks_findIn KI hs).here (wpAny_bind (wpAny_askSetting (wpAny_ite ?_))))))))
  split
  · exact wpAny_bind (wpAny_of_eq (F.cmp_object.ne.bind _) (wpAny_pure (by exact last)))
  · exact wpAny_tryCatch (wpAny_bind (wpAny_of_eq (F.cmp_object.ne.bind _) (wpAny_pure (by exact last))))
theorem body_ne (KI : K.In s.heap) (J : PySem.W.InstAt s.heap i oi C od) (he : PySem.W.findIn K (.ref C) "__eq__" = some (some (.ref g))) (hf : PySem.W.isFn K (.ref g) = true) (hu : A.units < cLine) {R : Fin → Shared → Prop}
    (q : wpAny M A (call (.ref g) [.ref i, u]) (fun v s' => ∃ b, v = .bool b ∧ R (.done (.ret (.bool (!b)))) s') EE s) : wpAny M A (Builtin.«object.__ne__» ⟨[.ref i, u], []⟩) R EE s := by
  unfold Builtin.«object.__ne__»
  repeat (first
    | with_reducible refine wpAny_cRoomFor hu ?_
    | (refine wpAny_bind (m := callSpecialIfBound? (.ref i) (Str.ofString "__eq__") [u]) (PySem.W.ifBound_K KI J he hf (wpAny_mono q (fun r s' z => by
          obtain ⟨b, rfl, hq⟩ := z
          repeat (first | exact hq | exact wpAny_pure hq | exact wpAny_truthy_bool hq | (refine wpAny_bind (m := truthy (.bool _)) (wpAny_truthy_bool ?_)) | wp_step)) fun _ _ z => z)))
    | wp_step)
end
/-- the callee's run one built-in deeper -/
theorem run_call1 {pins : List (Addr × Obj)} {s : Shared} {g : Addr} {fd : FuncData} {ps : List Str} {us : List Value} {vs : List V} (h : At m N sc k X) (F : FnG m CX j g fd ps sp) (hk : j + 1 ≤ k) (hx : Passes CX X E) (I : Inv X pins σ H s) (b : Binds m.K fd ps []) (r : Vals vs us) (q : sp vs H Q E) :
    wpAny (model X.prog X.w) X.A.in1 (call (.ref g) us) (EP X pins σ Q) X.xe s := by
  have e0 := I.env0.in1
  rw [h.pp, h.ww, h.kk, h.mm, h.bb] at e0
  have hl : us.length = ps.length := by rw [← r.length]; exact F.len _ _ _ _ q
  have rc := F.run X.A.in1 X.stack s H ⟨us, []⟩ us vs Q E (by exact h.gd) ((h.room.mono hk).in1) e0 (by have := b s us (by rw [← h.kk]; exact I.kIn) (by simpa using hl); simpa using this) r q
  rw [← h.pp, ← h.ww] at rc
  refine wpAny_call (codeAny_mono rc fun r s' hq => ?_)
  match r, hq with
  | .error e, hq => exact hx pins σ H s e s' I hq
  | .ok (.ret u), hq => exact I.after hq
/-- != where the class has an own __eq__ and no __ne__ -/
theorem g_neIns (h : At m N sc k X) (c : MetX m CX j C "__eq__" sp []) (hn : PySem.W.findIn m.K (.ref C) "__ne__" = some (some (.builtin "object.__ne__"))) (hm : PySem.W.mroIn m.K C (.type "object") = some true) (hk : j + 1 ≤ k) (hx : Passes CX X E) {i dx : Addr} {fs : List (Str × V)} {y : V} {t : Value} (hi : H i = some (.ins C dx fs)) (ty : TyX m.K H y t) (nf : PySem.W.notFirst m.K C t = true)
    (q : sp [.ref i, y] H (fun z H' => ∃ r, z = .bl r ∧ Q (.bl (!r)) H') E) : gOp X (compareOp .NotEq) (.ref i) y H Q := by
  obtain ⟨g, fd, ps, ds, F, cl, me, b, d⟩ := c.ex
  intro pins s σ v u I rx ry
  cases rx
  cases d
  have ty' : TyX X.K H y t := by rw [h.kk]; exact ty
  obtain ⟨P, Z, p, _⟩ := kit_of I ry ty'
  obtain ⟨mA, J, _⟩ := ins_get I.hok hi
  obtain ⟨od, J, _⟩ := J.look
  have hu := h.hu
  have KI := I.kIn
  have hb := Z.ty (model X.prog X.w) _ I.kIn p
  have run := run_call1 (Q := fun z H' => ∃ r, z = .bl r ∧ Q (.bl (!r)) H') (us := [.ref i, u]) (vs := [.ref i, y]) h F hk hx I b (.cons rfl (.cons ry .nil)) (by simpa using q)
  have one : wpAny (model X.prog X.w) X.A (tryCompare (.ref i) (cmpInfo .NotEq).2.1 u) (fun r s' => ∃ v, r = some v ∧ EP X pins σ Q v s') X.xe s := by
    unfold tryCompare
    refine wpAny_bind (bound_ne KI J (by rw [h.kk]; exact hn) (wpAny_call (codeAny_call_builtin PySem.F.cmp_object.ne.plain PySem.F.cmpEntry_ne (PySem.W.check_slot PySem.F.cmpKind_ne PySem.F.cmpSplit_ne (J.type.andThen (PySem.W.looks_mroIn KI (by rw [h.kk]; exact hm))) (PySem.F.cmpArgs_ne _ _)
      (body_ne (A := X.A.in1) KI J (by rw [h.kk]; exact me.at_) (by rw [h.kk]; exact me.fn) (by show X.A.units + 1 < cLine; omega) (wpAny_mono run (fun v s' hv => ?_) fun _ _ z => z))))))
    obtain ⟨z, H', I', rz, r, ez, q'⟩ := hv
    subst ez
    cases rz
    exact ⟨r, rfl, wpAny_pure ⟨_, rfl, .bl (!r), H', I', rfl, q'⟩⟩
  show wpAny (model X.prog X.w) X.A (richCompare .NotEq (.ref i) u) (EP X pins σ Q) X.xe s
  unfold richCompare
  simp only [oneThing_ref]
  refine wpAny_holding (wpAny_bind (wpAny_cRoomFor (by omega) ?_))
  refine wpAny_bind (J.type.here (wpAny_bind (hb.here ?_)))
  have nf' : PySem.W.notFirst X.K C t = true := by rw [h.kk]; exact nf
  split
  · rename_i w
    have e : PySem.W.subIn X.K t (.ref C) = some false := by
      rcases Bool.or_eq_true_iff.mp nf' with e | e
      · rw [beq_iff_eq.mp e] at w; simp at w
      · exact beq_iff_eq.mp e
    refine wpAny_bind ((PySem.W.looks_subIn KI e).here ?_)
    simp only [Bool.false_eq_true, if_false]
    refine wpAny_bind (wpAny_mono one (fun r s' z => ?_) fun _ _ z => z)
    obtain ⟨v, rfl, hq⟩ := z
    exact wpAny_pure hq
  · refine wpAny_bind (wpAny_pure ?_)
    simp only [Bool.false_eq_true, if_false]
    refine wpAny_bind (wpAny_mono one (fun r s' z => ?_) fun _ _ z => z)
    obtain ⟨v, rfl, hq⟩ := z
    exact wpAny_pure hq
end
end Vf
set_option maxRecDepth 100000
set_option maxHeartbeats 4000000
/-! Exn: defs that raise own errors with a field, and what catches them. Own work. -/
namespace Vf
open PySem PySem.Spec PyProof.Rows L2 LamX
/-- how the frame of a def stands -/
structure Frm (X : Cx) : Prop where
  stk : X.stack = X.env :: X.outer
  frm : X.env.frame = some X.env.locals
section
variable {m : Md} {N ps : List Str} {k : Nat} {x qual : Str} {st : Stmt} {f : Addr} {fd : FuncData} {sp : Sp}
/-- a def that may raise, by its body -/
theorem fnG_ofX (F : C8.Fun m.K x qual st f fd) (S : FnScope N ps (C8.fnScope st)) (len : ∀ vs H Q E, sp vs H Q E → vs.length = ps.length)
    (hb : ∀ (X : Cx) (vs : List V) (H : Hp) (Q : VK) (E : XK), At m N (C8.fnScope st) k X → AtM X qual fd.code → Frm X → L2.Takes X (fun cls d _ H => E cls d H) → sp vs H Q E → wB X (C8.fnBody st) { nx := fun _ H' => Q .non H', rt := Q } (start N vs) H) : FnG m (L2.CX m.P m.w) (k + 1) f fd ps sp := by
  obtain ⟨oc, od, dV, kV, doc, pm, an, cdv, ct, osl, rfl, lk, hc⟩ := F.ex
  refine ⟨len, fun A outer s H args us vs Q E hg hr e0 bt r q => ?_⟩
  refine LamX.run_ofS (CX := L2.CX m.P m.w) (N := N) lk hc S hr e0 bt r (len _ _ _ _ q) fun hr' => ⟨_, cB, ?_⟩
  exact hb (cxOf (L2.CX m.P m.w) m.P m.w m.K m.mg m.base N qual (C8.fnScope st) f cdv A outer s H E) vs H Q E ⟨rfl, rfl, rfl, rfl, rfl, rfl, rfl, rfl, hr', L2.passes_of rfl, S.nd, hg⟩ ⟨rfl, rfl, fun _ => rfl, rfl⟩ ⟨rfl, rfl⟩ (L2.takes_of rfl rfl rfl rfl) q
theorem calX_of (F : C8.Def m.K m.mg x st f fd) (b : Binds m.K fd ps []) (S : FnScope N ps (C8.fnScope st)) (len : ∀ vs H Q E, sp vs H Q E → vs.length = ps.length)
    (hb : ∀ (X : Cx) (vs : List V) (H : Hp) (Q : VK) (E : XK), At m N (C8.fnScope st) k X → AtM X x fd.code → Frm X → L2.Takes X (fun cls d _ H => E cls d H) → sp vs H Q E → wB X (C8.fnBody st) { nx := fun _ H' => Q .non H', rt := Q } (start N vs) H) : CalX m (L2.CX m.P m.w) (k + 1) x sp [] :=
  ⟨f, fd, ps, [], fnG_ofX F.fn S len hb, F.mgf, F.kp, b, .nil⟩
end
/-- an own error class x at C whose __init__ stores its one argument in the field fn -/
structure ErrC (m : Md) (x : Str) (C : Addr) (fn : Str) : Prop where
  oex : OexC m.K C
  xf : XfC m.K C
  no : PySem.W.findIn m.K (.ref C) fn = some none
  gC : m.mg x = some (.ref C)
  self : PySem.W.exmOne m.K (.ref C) (.ref C) = some true
  init : ∃ (fI : Addr) (fd : FuncData) (ps : List Str), PySem.W.findIn m.K (.ref C) "__init__" = some (some (.ref fI)) ∧ PySem.W.typeIn m.K (.ref fI) = some (.type "function") ∧ Binds m.K fd ps [] ∧
    FnOk m.P m.w m.K m.mg m.base C8.CX0 1 fI fd ps (fun vs H Q _ => ∃ (a : Addr) (v : V), vs = [.ref a, v] ∧ H a = some (exo a C none) ∧ ∀ dx, H dx = none → dx ≠ a → Q .non (upd (upd H dx (exd dx [(fn, v)])) a (exo a C (some dx))))
section
variable {m : Md} {N : List Str} {sc : Scope} {i k : Nat} {X : Cx} {a b c e o : Expr} {es : List Expr} {σ : L2.St} {H : Hp} {Q : VK} {D : Ends} {W Wout : WX} {pos p p1 p2 pos2 np pos' : Pos} {x nm fn : Str} {C : Addr}
/-- raise x(e) -/
theorem s_raise (h : At m N sc k X) (tk : L2.Takes X W) (c : ErrC m x C fn) (hk : 2 ≤ k) (hg : sc.names.lookup x = some .globalImplicit)
    (q : wE X e σ H fun v H1 => ∀ d, H1 d = none → W (.ref C) (some d) σ (upd H1 d (.xd [(fn, v)])))
    (hdb : (x == ("__debug__" : Str)) = false := by with_unfolding_all decide) (he : starEach [e] X.env = (false, eval e X.env) :: starEach [] X.env := by with_unfolding_all rfl) (hpl : (backTo pos (starEach [] X.env)).any (·.1) = false := by with_unfolding_all rfl) : wS X (.Raise (some (.Call (.Name x p) [e] [] pos)) none pos2) D σ H := by
  obtain ⟨fI, fd, ps, iC, tI, b, F⟩ := c.init
  have F' := F
  rw [← h.pp, ← h.ww, ← h.kk, ← h.mm, ← h.bb] at F'
  refine toS (L2.ps_raise h.calm tk (pmk_oex (dvs := []) (ds := []) (by rw [h.kk]; exact c.oex) (by rw [h.kk]; exact iC) (by rw [h.kk]; exact tI) F' (h.room.mono hk) (by rw [h.kk]; exact b) .nil C8.pass0 (h.gl hg) (by rw [h.mm]; exact c.gC) (pa_cons (cE (e := e)) pa_nil he) hdb he hpl)) ?_
  show tCons (wE X e) tNil σ H _
  refine wE.mono q fun v H1 q1 => ?_
  refine ⟨(show 1 ≤ 1000 by decide), fun a ha => ⟨a, v, rfl, upd_same, fun dx hdx hne => ⟨rfl, dx, [(fn, v)], upd_same, by rw [upd_ne hne, upd_same], by rw [upd_ne hne] at hdx; exact hdx, ?_⟩⟩⟩
  have hdx1 : H1 dx = none := by rw [upd_ne hne] at hdx; exact hdx
  have e1 : upd (del (upd (upd (upd H1 a (exo a C none)) dx (exd dx [(fn, v)])) a (exo a C (some dx))) a) dx (.xd [(fn, v)]) = upd H1 dx (.xd [(fn, v)]) := by
    funext z
    by_cases z1 : z = dx
    · rw [z1, upd_same, upd_same]
    · rw [upd_ne z1, upd_ne z1]
      by_cases z2 : z = a
      · rw [z2, del_same, ha]
      · rw [del_ne z2, upd_ne z2, upd_ne z1, upd_ne z2]
  rw [e1]
  exact q1 dx hdx1
theorem At.tr (h : At m N sc k X) {pn : List (Addr × Obj)} {xe : Value → Shared → Prop} (hp : PassesOwn (model X.prog X.w) X.A X.env xe) : At m N sc k (X.tr pn xe) := ⟨h.pp, h.ww, h.kk, h.mm, h.bb, h.nn, h.ss, h.calm, h.room, hp, h.nd, h.gd⟩
theorem Frm.tr (h : Frm X) {pn : List (Addr × Obj)} {xe : Value → Shared → Prop} : Frm (X.tr pn xe) := ⟨h.stk, h.frm⟩
/-- the place of an except suite: a the exception, cls its class, d its dict -/
structure Sui (m : Md) (N : List Str) (sc : Scope) (a : Addr) (cls : Value) (d : Option Addr) (X : Cx) : Prop where
  ex : ∃ (X0 : Cx) (oe : Obj) (pn : List (Addr × Obj)), X = X0.suite a ((a, oe) :: pn) ∧ Zc cls d oe ∧ (∃ vs, oe.data = .fields vs)
  kk : X.K = m.K
  nn : X.N = N
  ss : X.env.scope = sc
  nd : N.Nodup
/-- try: .. except x as nm: .. -/
theorem s_tryAs {body suite : List Stmt} {b0 : Stmt} (h : At m N sc k X) (fr : Frm X) (n : NL N sc i nm) (hx : sc.names.lookup x = some .globalImplicit) (hC : m.mg x = some (.ref C)) (tk : L2.Takes X Wout)
    (q : ∀ X', At m N sc k X' → Frm X' → L2.Takes X' (fun cls d σ H => ∃ r, PySem.W.exmOne m.K cls (.ref C) = some r ∧
        (r = true → ∀ a, H a = none → ∀ X2, Sui m N sc a cls d X2 → wB X2 (b0 :: suite) { nx := fun σ' H' => D.nx (σ'.set i none) H', rt := D.rt, bk := fun σ' H' => D.bk (σ'.set i none) H', ct := fun σ' H' => D.ct (σ'.set i none) H' } (σ.set i (some (.ref a))) H) ∧ (r = false → Wout cls d σ H)) → wB X' body D σ H)
    (hdb : (x == ("__debug__" : Str)) = false := by with_unfolding_all decide) : wS X (.Try body [.ExceptHandler (some (.Name x np)) (some nm) (b0 :: suite) pos'] [] [] pos) D σ H := by
  refine toS (L2.ps_try_as (c := .ref C) (i := i) (Wout := Wout) (tb := fun W D σ H => ∀ X', At m N sc k X' → Frm X' → L2.Takes X' W → wB X' body D σ H) (ts := fun a cls d D σ H => ∀ X2, Sui m N sc a cls d X2 → wB X2 (b0 :: suite) D σ H)
    fr.stk fr.frm (by rw [h.nn]; exact h.nd) (by rw [h.nn]; exact n.ix) (by show X.env.scope.names.lookup nm = _; rw [h.ss]; exact n.loc) ⟨h.gl hx, hdb, .inl (by rw [h.mm]; exact hC)⟩ tk
    (fun W pn xe tk' ps => ⟨fun pins s σ H D I z => (cB (X := X.tr pn xe) (sts := body)).run pins s σ H D I (z _ (h.tr ps) fr.tr tk')⟩) (fun a oe cls d pn hz hf => ⟨fun pins s σ H D I z => (cB (X := X.suite a ((a, oe) :: pn)) (sts := b0 :: suite)).run pins s σ H D I (z _ ⟨⟨X, oe, pn, rfl, hz, hf⟩, h.kk, h.nn, h.ss, h.nd⟩)⟩)) ?_
  intro X' hX' fr' tk'
  refine q X' hX' fr' (L2.Takes.imp tk' fun cls d σ H z => ?_)
  unfold wAs
  rw [h.kk]
  exact z
/-! in a suite -/
theorem w_nlS {cls : Value} {d : Option Addr} {z : Addr} {v : V} (h : Sui m N sc z cls d X) (n : NL N sc i nm) (hs : σ[i]? = some (some v)) (q : Q v H) (hd : (nm == ("__debug__" : Str)) = false := by with_unfolding_all decide) (hcd : (nm == ("__classdict__" : Str)) = false := by with_unfolding_all decide) : wE X (.Name nm pos) σ H Q :=
  toE (pe_var (by rw [h.nn]; exact n.ix) (by rw [h.ss]; exact .inl n.loc) hd hcd) ⟨v, hs, q⟩
theorem s_nlS {cls : Value} {d : Option Addr} {z : Addr} (h : Sui m N sc z cls d X) (n : NL N sc i nm) (q : wE X e σ H fun v H1 => D.nx (σ.set i (some v)) H1) (hs : swapsWith e (some (.Name nm p1)) pos.line X.env = pure false := by with_unfolding_all rfl) : wS X (.Assign [.Name nm p1] e pos) D σ H :=
  toS (ps_set (by rw [h.nn]; exact h.nd) (by rw [h.nn]; exact n.ix) (by rw [h.ss]; exact .inl n.loc) cE hs (.inr (by rw [h.ss]; exact n.loc))) q
/-- e.fn of the caught error -/
theorem w_errS {cls : Value} {d : Option Addr} {z : Addr} (h : Sui m N sc z cls d X) (c : ErrC m x C fn) (hcls : cls = .ref C) (q : wE X e σ H fun y H1 => y = .ref z ∧ ∃ (dd : Addr) (v : V), d = some dd ∧ H1 dd = some (.xd [(fn, v)]) ∧ Q v H1)
    (hb : attributeBase e fn X.env (eval e X.env) = eval e X.env := by with_unfolding_all rfl) : wE X (.Attribute e fn pos) σ H Q := by
  obtain ⟨X0, oe, pn, rfl, hz, hf⟩ := h.ex
  have kk : X0.K = m.K := h.kk
  refine toE (pe_xf (C := C) (by rw [kk]; exact c.xf) (by rw [kk]; exact c.no) hz hf cE hb) ?_
  refine wE.mono q fun y H1 ⟨ey, dd, v, ed, hd, q1⟩ => ?_
  exact ⟨ey, hcls, dd, [(fn, v)], v, ed, hd, by simp [List.lookup], q1⟩
end
end Vf
set_option maxRecDepth 100000
set_option maxHeartbeats 4000000
/-! Fin: the end of a row, where nothing is being shown. Own work. -/
namespace Vf
open PySem PySem.Spec PyProof.Rows L2 LamX
/-- the script's own object -/
def scrO (vs : List Value) : Obj := { cls := .type "list", data := .seq vs.toArray }
/-- an empty table of a code object -/
def tabO : Obj := { cls := .none, data := .fields #[] }
/-- what is tracked where the law is called: the tables of ts, and the script, if it stands in no written part -/
def hp0 (K : PySem.W.Frag) (ts : List Addr) (a : Addr) (vs : List Value) (ns : List Int) : Hp := fun b => if b ∈ ts then some (.tbl #[]) else if b = a ∧ K.lookup a = none then some (.frz (scrO vs) (.lst (ns.map V.int))) else none
section
variable {K : PySem.W.Frag} {ts : List Addr} {a b : Addr} {vs : List Value} {ns : List Int} {h : Heap}
theorem hp0_tab (z : b ∈ ts) : hp0 K ts a vs ns b = some (.tbl #[]) := if_pos z
theorem hp0_some {u : HO} (z : hp0 K ts a vs ns b = some u) : b ∈ ts ∧ u = .tbl #[] ∨ b ∉ ts ∧ b = a ∧ K.lookup a = none ∧ u = .frz (scrO vs) (.lst (ns.map V.int)) := by
  unfold hp0 at z
  split at z
  · rename_i c; exact .inl ⟨c, (Option.some.inj z).symm⟩
  · rename_i c
    split at z
    · rename_i e; exact .inr ⟨c, e.1, e.2, (Option.some.inj z).symm⟩
    · cases z
/-- a heap with the script at a and the tables ts -/
structure Scr (h : Heap) (ts : List Addr) (a : Addr) (vs : List Value) : Prop where
  scr : h.get? a = some (scrO vs)
  tab : ∀ b ∈ ts, h.get? b = some tabO
theorem Scr.at_ (S : Scr h ts a vs) {u : HO} (z : hp0 K ts a vs ns b = some u) : h.get? b = some tabO ∨ h.get? b = some (scrO vs) ∧ K.lookup b = none := by
  rcases hp0_some z with ⟨m, _⟩ | ⟨_, e, k, _⟩
  · exact .inl (S.tab b m)
  · subst e; exact .inr ⟨S.scr, k⟩
/-- what is neither a sequence nor an object of fields without any is not tracked -/
theorem Scr.free (S : Scr h ts a vs) {o : Obj} (e : h.get? b = some o) (n1 : ∀ xs k, o.data ≠ .seq xs k) (n2 : o.data ≠ .fields #[]) : hp0 K ts a vs ns b = none := by
  cases z : hp0 K ts a vs ns b with
  | none => rfl
  | some u =>
    rcases S.at_ z with g | ⟨g, _⟩
    · rw [g] at e; cases e; exact absurd rfl n2
    · rw [g] at e; cases e; exact absurd rfl (n1 _ _)
theorem Scr.ok {P : Program} {w : World} (S : Scr h ts a vs) (hi : IntsAre vs ns) (hl : ns.length ≤ sizeLine) : HOk P w (hp0 K ts a vs ns) h := fun b u z => by
  rcases hp0_some z with ⟨m, rfl⟩ | ⟨_, rfl, _, rfl⟩
  · exact S.tab b m
  · exact ⟨S.scr, by rw [List.length_map]; exact hl, vs, _, vals_ints hi, S.scr⟩
theorem Scr.seq (S : Scr h ts a vs) (hi : IntsAre vs ns) (hl : ns.length ≤ sizeLine) (KX : K.In h) : SqL K (hp0 K ts a vs ns) a (ns.map V.int) := by
  have na : a ∉ ts := fun z => by
    have := S.tab a z
    rw [S.scr] at this
    have q := congrArg Obj.data (Option.some.inj this)
    cases q
  cases k : K.lookup a with
  | none => exact .inl (.inr ⟨_, by unfold hp0; rw [if_neg na, if_pos ⟨rfl, k⟩]⟩)
  | some o =>
    have e := KX a o k
    rw [S.scr] at e
    cases e
    exact .inr ⟨_, vs.toArray, _, k, rfl, rfl, rfl, by rw [List.size_toArray, hi.length]; exact hl, by simpa using vals_ints hi⟩
end
section
variable {m : Md} {mb : Str → Option Value} {CX : CXT} {k : Nat} {fa a : Addr} {cs : List (Addr × Addr)} {fd : FuncData} {x : Str} {sp : Sp} {vs : List Value} {ns : List Int}
/-- the written part and the globals as the law's call finds them -/
structure Gnd (K : PySem.W.Frag) (mg mb : Str → Option Value) (cs : List (Addr × Addr)) (h : Heap) : Prop where
  kin : K.In h
  glb : h.Ns mainGlobals mg
  blt : h.Ns builtinsNs mb
  bot : ∀ y : Str, y ≠ "__name__" → mb y = bootBuiltins y
  lim : h.NoLimit
  off : ∀ p ∈ cs, K.lookup p.2 = none
  cod : ∀ p ∈ cs, PySem.W.CodeHd h p.1 p.2
  mod : ∃ (bm : Addr) (ob : Obj), mg "__builtins__" = some (.ref bm) ∧ bm ≠ builtinsNs ∧ h.get? bm = some ob ∧ ob.cls = .type "module" ∧ ob.dict = some builtinsNs ∧ ob.data = .plain
/-- the tables' addresses -/
abbrev tbs (cs : List (Addr × Addr)) : List Addr := cs.map (·.2)
theorem mem_tbs {p : Addr × Addr} (h : p ∈ cs) : p.2 ∈ tbs cs := List.mem_map.2 ⟨p, h, rfl⟩
/-- the base: the heap without what is tracked -/
abbrev bas (K : PySem.W.Frag) (cs : List (Addr × Addr)) (a : Addr) (vs : List Value) (ns : List Int) (h : Heap) : Heap := hidT h (hp0 K (tbs cs) a vs ns)
theorem Gnd.nsB {K : PySem.W.Frag} {h : Heap} (S : Scr h (tbs cs) a vs) {b : Addr} {f : Str → Option Value} (z : h.Ns b f) : (bas K cs a vs ns h).Ns b f := by
  obtain ⟨o, es, ep, e, d, r⟩ := z
  exact ⟨o, es, ep, hidT_get e (S.free e (fun xs j w => by rw [d] at w; cases w) fun w => by rw [d] at w; cases w), d, r⟩
theorem Gnd.kinB {K : PySem.W.Frag} {mg : Str → Option Value} {h : Heap} (G : Gnd K mg mb cs h) (S : Scr h (tbs cs) a vs) : K.In (bas K cs a vs ns h) := fun b o e => by
  refine hidT_get (G.kin b o e) ?_
  cases z : hp0 K (tbs cs) a vs ns b with
  | none => rfl
  | some u =>
    rcases hp0_some z with ⟨w, _⟩ | ⟨_, w, n, _⟩
    · obtain ⟨p, hp, w⟩ := List.mem_map.1 w
      have n := G.off p hp
      rw [w, e] at n; cases n
    · rw [w, n] at e; cases e
theorem Gnd.tabB {K : PySem.W.Frag} {mg : Str → Option Value} {h : Heap} (G : Gnd K mg mb cs h) (S : Scr h (tbs cs) a vs) : ∀ p ∈ cs, TabB (bas K cs a vs ns h) mg p.1 p.2 := fun p hp => by
  have hT := S.tab _ (mem_tbs hp)
  have nG : ∀ b, mainGlobals = b → h.get? b ≠ some tabO := fun b z w => by
    obtain ⟨o, es, ep, e, hd, _⟩ := G.glb
    rw [z, w] at e
    cases e
    cases hd
  refine ⟨?_, ?_, fun z => nG _ z hT⟩
  · obtain ⟨o, us, fl, tf, fg, tg, inF, tx, tt, at1, kind, dat, el, more⟩ := G.cod p hp
    refine ⟨o, us, fl, tf, fg, tg, inF, tx, tt, hidT_get at1 (S.free at1 (fun xs j w => by rw [dat] at w; cases w) fun w => ?_), kind, dat, el, more⟩
    rw [dat] at w
    cases w
    simp at el
  · obtain ⟨bm, ob, b1, b2, b3, b4, b5, b6⟩ := G.mod
    refine ⟨bm, ob, b1, b2, fun q => ?_, fun q => ?_, hidT_get b3 (S.free b3 (fun xs j w => by rw [b6] at w; cases w) fun w => by rw [b6] at w; cases w), b4, b5, b6⟩
    · obtain ⟨o, es, ep, e, hd, _⟩ := G.glb
      rw [← q, b3] at e
      cases e
      rw [b6] at hd; cases hd
    · rw [q, hT] at b3
      cases b3
      cases b6
/-- the call of the law -/
theorem law_run {h : Heap} {s : Shared} (es : s.heap = h) (G : Gnd m.K m.mg mb cs h) (S : Scr h (tbs cs) a vs) (hg : s.gens = #[]) (hi : IntsAre vs ns) (hl : ns.length ≤ sizeLine) (hr : Room k callerA)
    (F : (bas m.K cs a vs ns h).Ns mainGlobals m.mg → m.K.In (bas m.K cs a vs ns h) → (∀ p ∈ cs, TabB (bas m.K cs a vs ns h) m.mg p.1 p.2) → FnG { m with base := bas m.K cs a vs ns h } CX k fa fd [x] sp) (hb : ∀ (s : Shared) (u : Value), BindsTo s fd ⟨[u], []⟩ [(x, u)])
    (q : ∀ H : Hp, (∀ p ∈ cs, H p.2 = some (.tbl #[])) → SqL m.K H a (ns.map V.int) → sp [.ref a] H (fun v _ => v = .bl true) fun _ _ _ => False) (hCX : ∀ H e s', CX [] H s (fun _ _ _ => False) e s' → False) :
    codeAny (model m.P m.w) callerA (.call (.ref fa) ⟨[.ref a], []⟩) (fun r s' => r = .ok (.ret (.bool true)) ∧ OldK s.heap s'.heap ∧ s'.os = s.os ∧ AllBare s'.gens) s := by
  subst es
  have M : L2.Mod m.K m.mg (bas m.K cs a vs ns s.heap) := ⟨G.kinB S, Gnd.nsB S G.glb, ⟨mb, Gnd.nsB S G.blt, G.bot⟩, by obtain ⟨c, h1, h2⟩ := G.lim; exact ⟨c, Gnd.nsB S h1, h2⟩⟩
  have ok := S.ok (P := m.P) (w := m.w) (K := m.K) hi hl
  have e0 : Env0 m.P m.w m.K m.mg (bas m.K cs a vs ns s.heap) callerA [] s (hp0 m.K (tbs cs) a vs ns) :=
    ⟨rfl, M, fun b o e => of_hidT e, Nat.le_of_eq (hidT_size _ _), trivial, fun b hb => absurd (show b ∈ ([] : List Addr) from hb) (by simp), ok, .of_eq hg⟩
  have run := (F (Gnd.nsB S G.glb) (G.kinB S) (G.tabB S)).run callerA [] s (hp0 m.K (tbs cs) a vs ns) ⟨[.ref a], []⟩ [.ref a] [.ref a] _ _ rfl hr e0 (hb s (.ref a)) (.cons rfl .nil) (q _ (fun p hp => hp0_tab (mem_tbs hp)) (S.seq hi hl G.kin))
  refine codeAny_mono run fun r s' z => ?_
  match r, z with
  | .error e, z => exact (hCX _ e s' z).elim
  | .ok (.ret u), z =>
    obtain ⟨v, H', os, bare, un, ok', rv, ev⟩ := z
    subst ev
    obtain rfl : u = Value.bool true := rv
    have grown : ∀ p ∈ cs, ∃ more : Array Value, s'.heap.get? p.2 = some { cls := .none, data := .fields more } := fun p hp => by
      obtain ⟨more, w⟩ := un.tbls p.2 #[] (hp0_tab (mem_tbs hp))
      exact ⟨_, ok' p.2 _ w⟩
    have stays : ∀ b o, b ∉ tbs cs → s.heap.get? b = some o → s'.heap.get? b = some o := fun b o nb e => by
      cases w : hp0 m.K (tbs cs) a vs ns b with
      | none => exact un.keep b o e w (fun y => absurd (show b ∈ ([] : List Addr) from y) (by simp)) (by simp)
      | some u =>
        rcases hp0_some w with ⟨y, _⟩ | ⟨_, rfl, _, rfl⟩
        · exact absurd y nb
        · have y := un.frzs b _ _ w
          obtain ⟨y2, _⟩ := ok' b _ y
          rw [S.scr] at e
          cases e
          exact y2
    refine ⟨rfl, ⟨fun b o e => ?_, fun b o e => ?_⟩, os, bare⟩
    · by_cases y : b ∈ tbs cs
      · obtain ⟨p, hp, rfl⟩ := List.mem_map.1 y
        obtain ⟨more, hm⟩ := grown p hp
        have t := S.tab _ y
        rw [t] at e
        cases e
        exact .inr (.inl ⟨((G.cod p hp).tab t).isCodeTable, rfl, #[], more, rfl, by rw [Array.empty_append]; exact hm⟩)
      · exact .inl (stays b o y e)
    · by_cases y : b ∈ tbs cs
      · obtain ⟨p, hp, rfl⟩ := List.mem_map.1 y
        obtain ⟨more, hm⟩ := grown p hp
        exact ⟨_, hm⟩
      · exact ⟨o, stays b o y e⟩
end
/-- what is to be shown of the law at the head's heap h -/
structure LawG (P : Program) (w : World) (K : PySem.W.Frag) (CX : CXT) (k n : Nat) (x : Str) (mg : Str → Option Value) (fa : Addr) (h : Heap) (fd : FuncData) (cs : List (Addr × Addr)) (T : List (Addr × Str)) (sp : Sp) : Prop where
  tab : ∀ p ∈ cs, h.get? p.2 = some tabO
  off : ∀ p ∈ cs, K.lookup p.2 = none
  cod : ∀ p ∈ cs, PySem.W.CodeHd h p.1 p.2
  bnd : ∀ (s : Shared) (u : Value), BindsTo s fd ⟨[u], []⟩ [(x, u)]
  pre : ∀ (H : Hp) (a : Addr) (ns : List Int), ns.length ≤ n → (∀ z ∈ ns, Builtin.Int.intBits z ≤ 1048576) → (∀ p ∈ cs, H p.2 = some (.tbl #[])) → SqL K H a (ns.map V.int) → sp [.ref a] H (fun v _ => v = .bl true) fun _ _ _ => False
  run : ∀ base : Heap, base.Ns mainGlobals mg → K.In base → (∀ p ∈ cs, TabB base mg p.1 p.2) → FnG ⟨P, w, K, mg, base, T⟩ CX k fa fd [x] sp
theorem walkG {l : PySem.W.OpenLaw} {n k : Nat} {q : Program} {loose : List Str} {XP : (Str → Option Value) → Heap → Prop} {YP : World → Heap → Prop} {d : DefRec} {K : Params → PySem.W.Frag} {CX : World → CXT} {x : Str}
    (hn : l.most = some n) (hn2 : n ≤ sizeLine) (hdf : d.params.defaults = []) (hr : Room k callerA) (hY : ∀ (w : World) (h : Heap), YP w h → (K w.params).In h)
    (F : ∀ (w : World) (mg : Str → Option Value) (fa : Addr) (h : Heap), YP w h → (K w.params).In h → h.Ns mainGlobals mg → mg d.name = some (.ref fa) → ∃ fd cs T sp, LawG l.prog w (K w.params) (CX w) k n x mg fa h fd cs T sp)
    (hCX : ∀ (w : World) (H : Hp) (s : Shared) (e : Value) (s' : Shared), CX w [] H s (fun _ _ _ => False) e s' → False) :
    PySem.W.WalkO q loose XP YP l.row.toRowW d [] (fun f vs => PySem.call f vs) := by
  refine Att.attach_callB hn hdf fun w s0 s1 mg mb fa o pm cd doc a vs ns G Y _ _ _ hmg hobj hints hlen hbits hg => ?_
  have KX := hY w _ Y
  obtain ⟨fd, cs, T, sp, L⟩ := F w mg fa _ Y KX G.T.g hmg
  exact law_run (m := ⟨l.prog, w, K w.params, mg, s1.heap, T⟩) (h := s1.heap) rfl ⟨KX, G.T.g, G.T.b, G.T.builtins, G.T.nolimit, L.off, L.cod, G.T.bmain⟩ ⟨hobj, fun b hb => by
    obtain ⟨p, hp, e⟩ := List.mem_map.1 hb
    rw [← e]; exact L.tab p hp⟩ hg hints (Nat.le_trans hlen hn2) hr (fun h1 h2 h3 => L.run _ h1 h2 h3) L.bnd (fun H h1 h2 => L.pre H a ns hlen hbits h1 h2) fun H e s' z => hCX w H s1 e s' z
end Vf
set_option maxRecDepth 100000
set_option maxHeartbeats 4000000
/-! Ob: any object that is handed: data with dicts in it, of which only is known that they are dicts. Own work. -/
namespace Vf
open PySem PySem.Spec PyProof.Rows L2 LamX
mutual
inductive Ob (K : PySem.W.Frag) (A : Addr → Prop) (H : Hp) : V → PyData → Prop
  | non : Ob K A H .non .none
  | bl (b : Bool) : Ob K A H (.bl b) (.bool b)
  | int (i : Int) : Ob K A H (.int i) (.int i)
  | str (x : Str) : x.length ≤ sizeLine → Ob K A H (.str x) (.str x)
  | lst {a : Addr} {xs : List V} {ds : List PyData} : A a → SqL K H a xs → ObAll K A H xs ds → xs.length < 1000000 → Ob K A H (.ref a) (.list ds)
  | tup {a : Addr} {xs : List V} {ds : List PyData} : SqT K H a xs → ObAll K A H xs ds → Ob K A H (.ref a) (.tuple ds)
  | dct {a : Addr} {kvs : List (Key × V)} : A a → H a = some (.dK kvs) → Ob K A H (.ref a) (.dict [])
inductive ObAll (K : PySem.W.Frag) (A : Addr → Prop) (H : Hp) : List V → List PyData → Prop
  | nil : ObAll K A H [] []
  | cons {v : V} {vs : List V} {d : PyData} {ds : List PyData} : Ob K A H v d → ObAll K A H vs ds → ObAll K A H (v :: vs) (d :: ds)
end
section
variable {K : PySem.W.Frag} {A A' : Addr → Prop} {H H' : Hp}
theorem ObAll.length : ∀ {vs : List V} {ds : List PyData}, ObAll K A H vs ds → vs.length = ds.length
  | _, _, .nil => rfl
  | _, _, .cons _ r => congrArg (· + 1) (ObAll.length r)
theorem ObAll.getV : ∀ {vs : List V} {ds : List PyData} {i : Nat} {v : V}, ObAll K A H vs ds → vs[i]? = some v → ∃ d, ds[i]? = some d ∧ Ob K A H v d
  | _, _, i, _, .nil, e => by simp at e
  | _, _, 0, _, .cons a _, e => by simp at e; subst e; exact ⟨_, rfl, a⟩
  | _, _, i + 1, d, .cons _ r, e => by
    obtain ⟨v, h1, h2⟩ := ObAll.getV (i := i) r (by simpa using e)
    exact ⟨v, by simpa using h1, h2⟩
mutual
theorem Ob.mono (hA : ∀ a, A a → A' a) (hL : ∀ a xs, A a → SqL K H a xs → SqL K H' a xs) (hT : ∀ a xs, SqT K H a xs → SqT K H' a xs) (hD : ∀ a (kvs : List (Key × V)), A a → H a = some (.dK kvs) → H' a = some (.dK kvs)) : ∀ (d : PyData) (v : V), Ob K A H v d → Ob K A' H' v d
  | .none, _, h => by cases h; exact .non
  | .bool b, _, h => by cases h; exact .bl b
  | .int i, _, h => by cases h; exact .int i
  | .str x, _, h => by cases h with | str _ l => exact .str x l
  | .list ds, _, h => by cases h with | lst a s r l => exact .lst (hA _ a) (hL _ _ a s) (ObAll.mono hA hL hT hD ds _ r) l
  | .tuple ds, _, h => by cases h with | tup s r => exact .tup (hT _ _ s) (ObAll.mono hA hL hT hD ds _ r)
  | .dict _, _, h => by cases h with | dct a e => exact .dct (hA _ a) (hD _ _ a e)
theorem ObAll.mono (hA : ∀ a, A a → A' a) (hL : ∀ a xs, A a → SqL K H a xs → SqL K H' a xs) (hT : ∀ a xs, SqT K H a xs → SqT K H' a xs) (hD : ∀ a (kvs : List (Key × V)), A a → H a = some (.dK kvs) → H' a = some (.dK kvs)) : ∀ (ds : List PyData) (vs : List V), ObAll K A H vs ds → ObAll K A' H' vs ds
  | [], _, h => by cases h; exact .nil
  | d :: ds, _, h => by cases h with | cons a b => exact .cons (Ob.mono hA hL hT hD d _ a) (ObAll.mono hA hL hT hD ds _ b)
end
mutual
/-- texts of a size that len asks -/
def txOk : PyData → Prop
  | .str x => x.length ≤ sizeLine
  | .list ds => ds.length < 1000000 ∧ txOks ds
  | .tuple ds => txOks ds
  | .none | .bool _ | .int _ | .dict _ => True
def txOks : List PyData → Prop
  | [] => True
  | d :: ds => txOk d ∧ txOks ds
end
mutual
theorem Da.ob : ∀ (d : PyData) (v : V), Da K A H v d → txOk d → Ob K A H v d
  | .none, _, h, _ => by cases h; exact .non
  | .bool b, _, h, _ => by cases h; exact .bl b
  | .int i, _, h, _ => by cases h; exact .int i
  | .str x, _, h, t => by cases h; exact .str x t
  | .list ds, _, h, t => by cases h with | lst a s r => exact .lst a s (DaAll.ob ds _ r t.2) (by rw [r.length]; exact t.1)
  | .tuple ds, _, h, t => by cases h with | tup s r => exact .tup s (DaAll.ob ds _ r t)
  | .dict _, _, h, _ => by cases h
theorem DaAll.ob : ∀ (ds : List PyData) (vs : List V), DaAll K A H vs ds → txOks ds → ObAll K A H vs ds
  | [], _, h, _ => by cases h; exact .nil
  | d :: ds, _, h, t => by cases h with | cons a b => exact .cons (Da.ob d _ a t.1) (DaAll.ob ds _ b t.2)
end
/-- the type of data -/
def tyD : PyData → String
  | .none => "NoneType"
  | .bool _ => "bool"
  | .int _ => "int"
  | .str _ => "str"
  | .list _ => "list"
  | .tuple _ => "tuple"
  | .dict _ => "dict"
theorem tyx_lst {a : Addr} {xs : List V} (h : SqL K H a xs) : TyX K H (.ref a) (.type "list") := by
  rcases h with (h | ⟨o, h⟩) | ⟨o, its, n, e, c, _⟩
  · exact .base (.lst h)
  · exact .base (.frz h)
  · exact .kList e c
theorem tyx_tup {a : Addr} {xs : List V} (h : SqT K H a xs) : TyX K H (.ref a) (.type "tuple") := by
  rcases h with (h | ⟨o, h⟩) | ⟨o, its, n, e, c, _⟩
  · exact .base (.tup h)
  · exact .fTuple h
  · exact .kTuple e c
theorem Ob.ty {v : V} {d : PyData} (h : Ob K A H v d) : TyX K H v (.type (tyD d)) := by
  cases h with
  | non => exact .base .non
  | bl b => exact .base (.bl b)
  | int i => exact .base (.int i)
  | str x _ => exact .base (.str x)
  | lst _ s _ _ => exact tyx_lst s
  | tup s _ => exact tyx_tup s
  | dct _ e => exact .base (.dK e)
end
/-! ### what is a term -/
/-- the text z -/
def isS (z : Str) : PyData → Bool
  | .str y => y == z
  | _ => false
def isWh : PyData → Bool
  | .int _ => true
  | _ => false
def nmB (z : Str) : Bool := decide (1 ≤ z.length) && decide (z.length ≤ 8) && z.cps.toList.all fun c => decide (97 ≤ c) && decide (c ≤ 122)
theorem nmB_iff {z : Str} : nmB z = true ↔ IsName z := by
  unfold nmB IsName
  rw [Bool.and_eq_true, Bool.and_eq_true, decide_eq_true_eq, decide_eq_true_eq, List.all_eq_true, and_assoc]
  simp only [Bool.and_eq_true, decide_eq_true_eq]
def isNm : PyData → Bool
  | .str z => nmB z
  | _ => false
def rkOk : PyData → PyData → Bool
  | .int r, .list ds => decide (1 ≤ r) && decide (r ≤ ds.length)
  | _, _ => false
mutual
def isTm : PyData → Bool
  | .tuple ds => isTm3 ds
  | _ => false
def isTm3 : List PyData → Bool
  | [d, x] => (isS "first" d || isS "last" d) && isTl x
  | [d, x, y] => ((isS "of" d || isS "now" d) && isNm x && isWh y) || (isS "rank" d && isTl y && rkOk x y)
  | _ => false
def isTl : PyData → Bool
  | .list ds => !ds.isEmpty && isTms ds
  | _ => false
def isTms : List PyData → Bool
  | [] => true
  | d :: ds => isTm d && isTms ds
end
/-! isinstance of any object -/
def isIn (T : String) (d : PyData) : Bool := decide (tyD d = T) || (T == "int" && decide (tyD d = "bool"))
theorem kit_all (T : String) (hT : T ∈ ["int", "bool", "str", "tuple", "list", "dict"]) : ∀ d : PyData, kitB (tyD d) T = some (isIn T d) := by
  have all : ∀ t ∈ ["NoneType", "bool", "int", "str", "list", "tuple", "dict"], ∀ T ∈ ["int", "bool", "str", "tuple", "list", "dict"], kitB t T = some (decide (t = T) || (T == "int" && decide (t = "bool"))) := by decide +kernel
  intro d
  exact all (tyD d) (by cases d <;> simp [tyD]) T hT
theorem isWh_eq (d : PyData) : isWh d = (isIn "int" d && !isIn "bool" d) := by cases d <;> simp [isWh, isIn, tyD]
end Vf
set_option maxRecDepth 100000
set_option maxHeartbeats 4000000
/-! Ex: names of types, constants of modules, chains, comprehensions over texts. Own work. -/
namespace Vf
open PySem PySem.Spec PyProof.Rows L2 LamX
section
variable {m : Md} {N : List Str} {sc scope : Scope} {i j k : Nat} {X : Cx} {a b c e o elt iter : Expr} {es : List Expr} {σ : L2.St} {H : Hp} {Q : VK} {QB : Bool → Hp → Prop} {pos p p1 p2 : Pos} {x y : Str}
/-- a built-in type as a value -/
theorem w_tyn {T : String} (h : At m N sc k X) (hm : m.mg x = none) (hg : sc.names.lookup x = some .globalImplicit) (hv : bootBuiltins x = some (.type T)) (q : Q (.ty T) H) (hn : x ≠ "__name__" := by with_unfolding_all decide) (hd : (x == ("__debug__" : Str)) = false := by with_unfolding_all decide) : wE X (.Name x pos) σ H Q :=
  toE (pe_bltn (v := .ty T) (h.gl hg) (by rw [h.mm]; exact hm) hv rfl hn hd) q
/-- a name of the module -/
theorem w_glb {v : V} {u : Value} (h : At m N sc k X) (hm : m.mg x = some u) (r : L2.RelV v u) (hg : sc.names.lookup x = some .globalImplicit) (q : Q v H) (hd : (x == ("__debug__" : Str)) = false := by with_unfolding_all decide) : wE X (.Name x pos) σ H Q :=
  toE (pe_glob (h.gl hg) (by rw [h.mm]; exact hm) r hd) q
theorem w_chain {op op' : CmpOp} (q : wE X a σ H fun x H1 => wE X b σ H1 fun y H2 => gOp X (compareOp op) x y H2 fun z H3 => ∃ k, z = .bl k ∧ (if k = true then wE X c σ H3 fun w H4 => gOp X (compareOp op') y w H4 Q else Q (.bl false) H3))
    (hm : lastMarks [op, op'] [b, c] = false := by with_unfolding_all rfl) : wE X (.Compare a [op, op'] [b, c] pos) σ H Q := toE (pe_chain gOp_ok gOp_ok cE cE cE hm) q
theorem t_chain {op op' : CmpOp} (q : wE X a σ H fun x H1 => wE X b σ H1 fun y H2 => gOp X (compareOp op) x y H2 fun z H3 => ∃ k, z = .bl k ∧ (if k = true then wE X c σ H3 fun w H4 => gOp X (compareOp op') y w H4 fun r H5 => ∃ k', r = .bl k' ∧ QB k' H5 else QB false H3))
    (hm : lastMarks [op, op'] [b, c] = false := by with_unfolding_all rfl) : wT X (.Compare a [op, op'] [b, c] pos) σ H QB := by
  refine toT (pt_chain gOp_ok gOp_ok cE cE cE hm) ?_
  refine wE.mono q fun x H1 q1 => wE.mono q1 fun y H2 q2 => ?_
  refine fun pins s σ v u I rx ry => wpAny_mono (q2 pins s σ v u I rx ry) (fun w s' z => ?_) fun _ _ z => z
  obtain ⟨z', H', I', rz, k, ez, q3⟩ := z
  refine ⟨z', H', I', rz, k, ez, ?_⟩
  cases k with
  | true => exact q3
  | false => exact ⟨false, rfl, q3⟩
theorem g_leT {i j : Str} (q : Q (.bl (!decide (j.cps.toList < i.cps.toList))) H) : gOp X (compareOp .LtE) (.str i) (.str j) H Q := gOp.of op_le_str ⟨_, _, rfl, rfl, q⟩
/-- [elt for x in z], z a text -/
theorem w_lcS (h : At m N sc k X) (ok : blkC N sc scope [(x, i)] = true) (n : NL N (relS scope sc) i x)
    (q : wE X iter σ H fun v H1 => ∃ z : Str, v = .str z ∧ ∀ D, H1 D = none → ∃ Pv : Nat → Hp → Prop, Pv 0 (upd H1 D (.lst [])) ∧
      (∀ j c H, z.cps[j]? = some c → Pv j H → ∀ X', At m N (relS scope sc) k X' → wE X' elt (σ.set i (some (.str ⟨#[c]⟩))) H (App D (Pv (j + 1)))) ∧ ∀ H, Pv z.cps.size H → Q (.ref D) H)
    (hs : ∀ x, foldedSetIterable iter X.env x = pure x := by with_unfolding_all (intro _; rfl)) : wE X (.ListComp elt [⟨.Name x p1, iter, [], 0⟩] scope pos) σ H Q := by
  refine toE (pe_lc (own := [(x, i)]) (g := gName i) (tt := tYes) (te := inBlk m N (relS scope sc) k elt) h.calm (by rw [h.nn]; exact h.nd) (pi_str cE) (by rw [h.nn, h.ss]; exact blkOk_by ok) (fun s H C cl fp => pg_nl (blk_at h s H C cl fp) n) (fun _ _ _ _ _ => pts_nil) (fun s H C cl fp => blk_pe h s H C cl fp) hs) ?_
  refine wE.mono q fun v H1 ⟨z, ev, go⟩ => ⟨z, ev, fun D hD => ?_⟩
  obtain ⟨Pv, p0, turn, fin⟩ := go D hD
  refine lc_it walk_str (g := gName i) (tt := tYes) (te := inBlk m N (relS scope sc) k elt) (vs := [i]) (σ := σ) Pv p0 (fun _ _ _ _ => trivial) (fun j y H H' hj hp hy => ?_) fin
  obtain ⟨rfl, c, hc, rfl⟩ := hy
  refine ⟨by rw [wipe1]; simp [wipe, List.set_set], ?_⟩
  unfold tYes
  refine iteT fun X' hX' => ?_
  rw [set_wipe]
  exact turn j c _ hc hp X' hX'
end
end Vf
set_option maxRecDepth 100000
set_option maxHeartbeats 4000000
/-! InOb: is an object one of two texts; is it a text. Own work. -/
namespace Vf
open PySem PySem.Spec PyProof.Rows L2 LamX
theorem str_dec (z : Str) (tk : Tok) (l : Addr) (c : Value) (es : Array DictEntry) (ep : Nat) (dd : Option Addr) (sl : Array (Option Value)) :
    Meets (Builtin.«str.__eq__» ⟨[.str z tk, .ref l], []⟩) (fun _ R s => s.heap.get? l = some { cls := c, dict := dd, data := .dict es ep, slots := sl } ∧ R (.ok (.ret .notImplemented)) s) :=
  .of_wp fun prog w A R s q => by
    obtain ⟨hp, g, d, t, os⟩ := s
    obtain ⟨at1, q⟩ := q
    wp_walk using wpAny_loadPart' at1, wpAny_load at1
    exact ⟨_, rfl, q⟩
theorem dict_dec (l : Addr) (es : Array DictEntry) (ep : Nat) (dd : Option Addr) (sl : Array (Option Value)) (z : Str) (tk : Tok) :
    Meets (Builtin.«dict.__eq__» ⟨[.ref l, .str z tk], []⟩) (fun _ R s => s.heap.get? l = some { cls := .type "dict", dict := dd, data := .dict es ep, slots := sl } ∧ R (.ok (.ret .notImplemented)) s) :=
  .of_wp fun prog w A R s q => by
    obtain ⟨hp, g, d, t, os⟩ := s
    obtain ⟨at1, q⟩ := q
    have f1 := F.sub_str_dict
    wp_walk using wpAny_loadPart' at1, wpAny_load at1
    exact ⟨_, rfl, q⟩
section
variable {A : Around} {s : Shared} {l : Addr} {es : Array DictEntry} {ep : Nat} {dd : Option Addr} {sl : Array (Option Value)}
theorem rc_str_dict (z : Str) (tk : Tok) (ho : s.heap.get? l = some { cls := .type "dict", dict := dd, data := .dict es ep, slots := sl }) (hu : A.units < cLine) : SeqAt.RcAt A s (.str z tk) (.ref l) false := fun prog w E Q q =>
  SeqAt.rc_eq_decline_or (k := false) (typeIs_str s z tk) ⟨_, ho, rfl⟩ (by decide) F.sub_dict_str F.slot_str_eq F.slot_dict_eq_refl
    (fun _ hq => call_meets F.slot_str_eq (typeIs_str s z tk) F.entry_str_eq (F.args_str_eq_2 _ _) (str_dec z tk l (.type "dict") es ep dd sl) ⟨ho, hq⟩)
    (fun _ hq => call_meets F.slot_dict_eq_refl ⟨_, ho, rfl⟩ F.entry_dict_eq (F.args_dict_eq_2 _ _) (dict_dec l es ep dd sl z tk) ⟨ho, hq⟩)
    (fun _ hq => wpAny_of_eq (rfl : isSame (.str z tk) (.ref l) = pure false) hq) (.inr hu) q
theorem rc_dict_str (z : Str) (tk : Tok) (ho : s.heap.get? l = some { cls := .type "dict", dict := dd, data := .dict es ep, slots := sl }) (hu : A.units < cLine) : SeqAt.RcAt A s (.ref l) (.str z tk) false := fun prog w E Q q =>
  SeqAt.rc_eq_decline_or (k := false) ⟨_, ho, rfl⟩ (typeIs_str s z tk) (by decide) F.sub_str_dict F.slot_dict_eq F.slot_str_eq_refl
    (fun _ hq => call_meets F.slot_dict_eq ⟨_, ho, rfl⟩ F.entry_dict_eq (F.args_dict_eq_2 _ _) (dict_dec l es ep dd sl z tk) ⟨ho, hq⟩)
    (fun _ hq => call_meets F.slot_str_eq_refl (typeIs_str s z tk) F.entry_str_eq (F.args_str_eq_2 _ _) (str_dec z tk l (.type "dict") es ep dd sl) ⟨ho, hq⟩)
    (fun _ hq => wpAny_of_eq (rfl : isSame (.ref l) (.str z tk) = pure false) hq) (.inr hu) q
theorem eqAt_str_dict (z : Str) (tk : Tok) (ho : s.heap.get? l = some { cls := .type "dict", dict := dd, data := .dict es ep, slots := sl }) (hu : A.units < cLine) : SeqAt.EqAt A s (.str z tk) (.ref l) false := fun prog w E Q q => by
  unfold eqBool
  refine wpAny_holding ?_
  refine wpAny_ite_split (fun e => absurd (eq_of_beq e) nofun) (fun _ => ?_)
  exact wpAny_bind (rc_str_dict z tk ho hu prog w E _ (wpAny_truthy_bool q))
end
section
variable {X : Cx} {pins : List (Addr × Obj)} {σ : L2.St} {H : Hp} {s : Shared} {A : Addr → Prop} {v : V} {d : PyData} {u : Value}
theorem dct_at {a : Addr} {kvs : List (Key × V)} (I : Inv X pins σ H s) (e : H a = some (.dK kvs)) : ∃ dd es ep sl, s.heap.get? a = some ({ cls := .type "dict", dict := dd, data := .dict es ep, slots := sl } : Obj) := by
  obtain ⟨_, _, vs, _, ob, es, ep, h1, h2, h3, _⟩ := (show ObjOk X.prog X.w H s.heap a (.dK kvs) from I.hok a _ e)
  obtain ⟨c, dd, dat, sl⟩ := ob
  have hc : c = .type "dict" := h2.1
  have hd : dat = .dict es ep := h3
  subst hc hd
  exact ⟨dd, es, ep, sl, h1⟩
theorem ob_rc (I : Inv X pins σ H s) (o : Ob X.K A H v d) (r : L2.RelV v u) (hu : X.A.units < cLine) (z : Str) (tk : Tok) : SeqAt.RcAt X.A s u (.str z tk) (isS z d) := by
  cases o with
  | non => cases r; exact SeqAt.RcAt.none_str z tk
  | bl b => cases r; exact SeqAt.RcAt.bool_str b z tk
  | int i => obtain ⟨t, rfl⟩ := r; exact SeqAt.RcAt.int_str i t z tk
  | str y _ => obtain ⟨t, rfl⟩ := r; exact SeqAt.RcAt.str_str y t z tk
  | lst _ hs _ _ => cases r; obtain ⟨its, _, pl, _⟩ := I.list hs; exact SeqAt.RcAt.list_str z tk pl.isList hu
  | tup hs _ => cases r; obtain ⟨its, _, pl, _⟩ := I.tuple hs; exact SeqAt.RcAt.tuple_str z tk pl hu
  | dct _ e =>
    cases r
    obtain ⟨dd, es, ep, sl, h1⟩ := dct_at I e
    exact rc_dict_str z tk h1 hu
theorem ob_eq {A0 : Around} (I : Inv X pins σ H s) (o : Ob X.K A H v d) (r : L2.RelV v u) (hu : A0.units < cLine) (z : Str) (tk : Tok) : SeqAt.EqAt A0 s (.str z tk) u (isS z d) := by
  cases o with
  | non => cases r; exact SeqAt.EqAt.str_none z tk
  | bl b => cases r; exact SeqAt.EqAt.str_bool z tk b
  | int i => obtain ⟨t, rfl⟩ := r; exact SeqAt.EqAt.str_int z tk i t
  | str y _ =>
    obtain ⟨t, rfl⟩ := r
    have e : isS z (.str y) = (z == y) := by
      show (y == z) = (z == y)
      rw [Bool.eq_iff_iff, beq_iff_eq, beq_iff_eq]; exact eq_comm
    rw [e]
    exact SeqAt.EqAt.str_str z tk y t
  | lst _ hs _ _ => cases r; obtain ⟨its, _, pl, _⟩ := I.list hs; exact SeqAt.EqAt.str_list z tk pl.isList hu
  | tup hs _ => cases r; obtain ⟨its, _, pl, _⟩ := I.tuple hs; exact SeqAt.EqAt.str_tuple z tk pl hu
  | dct _ e =>
    cases r
    obtain ⟨dd, es, ep, sl, h1⟩ := dct_at I e
    exact eqAt_str_dict z tk h1 hu
end
section
variable {m : Md} {N : List Str} {sc : Scope} {k : Nat} {X : Cx} {H : Hp} {Q : VK} {A : Addr → Prop} {v : V} {d : PyData}
/-- x == z, z a text -/
theorem g_eqOb (h : At m N sc k X) {z : Str} (o : Ob m.K A H v d) (q : Q (.bl (isS z d)) H) : gOp X (compareOp .Eq) v (.str z) H Q := fun pins s σ u w I r rz => by
  obtain ⟨tk, rfl⟩ := rz
  have hu := h.hu
  exact ob_rc I (by rw [h.kk]; exact o) r (by omega) z tk X.prog X.w X.xe _ ⟨.bl (isS z d), H, I, rfl, q⟩
/-- x in (z1, z2), two texts -/
theorem g_inOb (h : At m N sc k X) {a : Addr} {z1 z2 : Str} (o : Ob m.K A H v d) (ht : H a = some (.tup [.str z1, .str z2])) (q : Q (.bl (isS z1 d || isS z2 d)) H) : gOp X (compareOp .In) v (.ref a) H Q := fun pins s σ u w I r rz => by
  cases rz
  have hu := h.hu
  obtain ⟨its, rv, pl, hz⟩ := I.tuple (SqT.of ht)
  cases rv with | cons r1 rv => cases rv with | cons r2 rv =>
  cases rv
  obtain ⟨t1, rfl⟩ := r1
  obtain ⟨t2, rfl⟩ := r2
  have o' : Ob X.K A H v d := by rw [h.kk]; exact o
  refine SeqAt.in_tupleAt (fun y => match y with | .str z _ => isS z d | _ => false) pl (fun y hy => ?_) ⟨.bl (isS z1 d || isS z2 d), H, I, by simp [L2.RelV], q⟩
  have hy2 : y = .str z1 t1 ∨ y = .str z2 t2 := by simpa using hy
  rcases hy2 with e | e
  · subst e; exact ob_eq I o' r (by show X.A.units + 1 < cLine; omega) z1 t1
  · subst e; exact ob_eq I o' r (by show X.A.units + 1 < cLine; omega) z2 t2
end
end Vf
set_option maxRecDepth 100000
set_option maxHeartbeats 4000000
/-! Tp: slices and sums of tuples. Own work. -/
namespace Vf
open PySem PySem.Spec PyProof.Rows L2 LamX
section
variable {m : Md} {N : List Str} {sc : Scope} {k : Nat} {X : Cx} {a b c e o : Expr} {σ : L2.St} {H : Hp} {Q : VK} {pos p2 : Pos}
/-- e[:hi] of a tuple, not the whole of it -/
theorem w_sliceToT {hi : Expr} (h : At m N sc k X) (q : wE X e σ H fun x H1 => wE X hi σ H1 fun u H3 => ∃ j : Int, u = .int j ∧ ∃ (a : Addr) (xs : List V), x = .ref a ∧ SqT m.K H3 a xs ∧ HT.sIx xs.length xs.length (some j) ≠ xs.length ∧ ∀ p, H3 p = none → Q (.ref p) (upd H3 p (.tup (cutV xs none (some j))))) :
    wE X (.Subscript e (.Slice none (some hi) none p2) pos) σ H Q := by
  refine toE (pe_slice sl_tup cE po_none (po_some cE)) ?_
  refine wE.mono q fun x H1 q1 => ?_
  show wE X hi σ H1 _
  exact wE.mono q1 fun u H3 ⟨j, ej, a, xs, ea, hs, hn, q3⟩ => ⟨j, ej, a, xs, ea, by rw [h.kk]; exact hs, fun z => hn z.2, q3⟩
theorem g_catT (h : At m N sc k X) {l r : Addr} {xs ys : List V} (h1 : SqT m.K H l xs) (h2 : SqT m.K H r ys) (n1 : xs ≠ []) (n2 : ys ≠ []) (hz : xs.length + ys.length ≤ sizeLine) (q : ∀ p, H p = none → Q (.ref p) (upd H p (.tup (xs ++ ys)))) : gOp X (binaryOp .Add) (.ref l) (.ref r) H Q :=
  gOp.of op_catT ⟨l, r, xs, ys, rfl, rfl, by rw [h.kk]; exact h1, by rw [h.kk]; exact h2, n1, hz, fun e => absurd e n2, fun _ => q⟩
end
theorem six_val (hd : List V) (x : V) : HT.sIx (hd ++ [x]).length (hd ++ [x]).length (some (-1)) = hd.length := by
  have e : (hd ++ [x]).length = hd.length + 1 := by simp
  rw [e]
  unfold HT.sIx
  dsimp only
  rw [if_pos (by decide)]
  omega
theorem cut_last (hd : List V) (x : V) : cutV (hd ++ [x]) none (some (-1)) = hd := by
  unfold cutV
  rw [HT.sIx_none, List.drop_zero, Nat.sub_zero, six_val, List.take_left']
  rfl
theorem six_last (hd : List V) (x : V) : HT.sIx (hd ++ [x]).length (hd ++ [x]).length (some (-1)) ≠ (hd ++ [x]).length := by
  rw [six_val]
  simp
theorem at_last (hd : List V) (x : V) : atI (hd ++ [x]) (-1) = some x := by
  unfold atI ixN
  rw [if_neg (by decide), List.length_append, List.length_singleton, if_pos (by omega)]
  show (hd ++ [x])[((-1 : Int) + ((hd.length + 1 : Nat) : Int)).toNat]? = some x
  rw [show ((-1 : Int) + ((hd.length + 1 : Nat) : Int)).toNat = hd.length from by omega]
  simp
end Vf
set_option maxRecDepth 100000
set_option maxHeartbeats 4000000
/-! Dn: data with the places of its lists, told one by one. Own work. -/
namespace Vf
open PySem PySem.Spec PyProof.Rows L2 LamX
mutual
/-- v is the data d; L: where its lists lie, from the left -/
inductive Dn (K : PySem.W.Frag) (H : Hp) : V → PyData → List Addr → Prop
  | non : Dn K H .non .none []
  | bl (b : Bool) : Dn K H (.bl b) (.bool b) []
  | int (i : Int) : Dn K H (.int i) (.int i) []
  | str (x : Str) : Dn K H (.str x) (.str x) []
  | lst {a : Addr} {xs : List V} {ds : List PyData} {L : List Addr} : H a = some (.lst xs) → DnAll K H xs ds L → Dn K H (.ref a) (.list ds) (a :: L)
  | tup {a : Addr} {xs : List V} {ds : List PyData} {L : List Addr} : SqT K H a xs → DnAll K H xs ds L → Dn K H (.ref a) (.tuple ds) L
inductive DnAll (K : PySem.W.Frag) (H : Hp) : List V → List PyData → List Addr → Prop
  | nil : DnAll K H [] [] []
  | cons {v : V} {vs : List V} {d : PyData} {ds : List PyData} {L M : List Addr} : Dn K H v d L → DnAll K H vs ds M → DnAll K H (v :: vs) (d :: ds) (L ++ M)
end
section
variable {K : PySem.W.Frag} {H H' : Hp} {A : Addr → Prop}
mutual
theorem Dn.da : ∀ {v : V} {d : PyData} {L : List Addr}, Dn K H v d L → (∀ a ∈ L, A a) → Da K A H v d
  | _, _, _, .non, _ => .non
  | _, _, _, .bl b, _ => .bl b
  | _, _, _, .int i, _ => .int i
  | _, _, _, .str x, _ => .str x
  | _, _, _, .lst h r, z => .lst (z _ (by simp)) (SqL.of h) (DnAll.da r fun a ha => z a (by simp [ha]))
  | _, _, _, .tup h r, z => .tup h (DnAll.da r z)
theorem DnAll.da : ∀ {v : List V} {d : List PyData} {L : List Addr}, DnAll K H v d L → (∀ a ∈ L, A a) → DaAll K A H v d
  | _, _, _, .nil, _ => .nil
  | _, _, _, .cons a r, z => .cons (Dn.da a fun b hb => z b (by simp [hb])) (DnAll.da r fun b hb => z b (by simp [hb]))
end
mutual
theorem Dn.mono (hL : ∀ a xs, H a = some (.lst xs) → A a → H' a = some (.lst xs)) (hT : ∀ a xs, SqT K H a xs → SqT K H' a xs) : ∀ {v : V} {d : PyData} {L : List Addr}, Dn K H v d L → (∀ a ∈ L, A a) → Dn K H' v d L
  | _, _, _, .non, _ => .non
  | _, _, _, .bl b, _ => .bl b
  | _, _, _, .int i, _ => .int i
  | _, _, _, .str x, _ => .str x
  | _, _, _, .lst h r, z => .lst (hL _ _ h (z _ (by simp))) (DnAll.mono hL hT r fun a ha => z a (by simp [ha]))
  | _, _, _, .tup h r, z => .tup (hT _ _ h) (DnAll.mono hL hT r z)
theorem DnAll.mono (hL : ∀ a xs, H a = some (.lst xs) → A a → H' a = some (.lst xs)) (hT : ∀ a xs, SqT K H a xs → SqT K H' a xs) : ∀ {v : List V} {d : List PyData} {L : List Addr}, DnAll K H v d L → (∀ a ∈ L, A a) → DnAll K H' v d L
  | _, _, _, .nil, _ => .nil
  | _, _, _, .cons a r, z => .cons (Dn.mono hL hT a fun b hb => z b (by simp [hb])) (DnAll.mono hL hT r fun b hb => z b (by simp [hb]))
end
mutual
theorem Dn.some : ∀ {v : V} {d : PyData} {L : List Addr}, Dn K H v d L → ∀ a ∈ L, ∃ xs, H a = some (.lst xs)
  | _, _, _, .non, _, h => by simp at h
  | _, _, _, .bl _, _, h => by simp at h
  | _, _, _, .int _, _, h => by simp at h
  | _, _, _, .str _, _, h => by simp at h
  | _, _, _, .lst h r, a, ha => by
    rcases List.mem_cons.1 ha with e | e
    · exact ⟨_, e ▸ h⟩
    · exact DnAll.some r a e
  | _, _, _, .tup _ r, a, ha => DnAll.some r a ha
theorem DnAll.some : ∀ {v : List V} {d : List PyData} {L : List Addr}, DnAll K H v d L → ∀ a ∈ L, ∃ xs, H a = some (.lst xs)
  | _, _, _, .nil, _, h => by simp at h
  | _, _, _, .cons a r, b, hb => by
    rcases List.mem_append.1 hb with e | e
    · exact Dn.some a b e
    · exact DnAll.some r b e
end
theorem DnAll.length : ∀ {vs : List V} {ds : List PyData} {L : List Addr}, DnAll K H vs ds L → vs.length = ds.length
  | _, _, _, .nil => rfl
  | _, _, _, .cons _ r => congrArg (· + 1) (DnAll.length r)
theorem DnAll.append : ∀ {vs ws : List V} {ds es : List PyData} {L M : List Addr}, DnAll K H vs ds L → DnAll K H ws es M → DnAll K H (vs ++ ws) (ds ++ es) (L ++ M)
  | _, _, _, _, _, _, .nil, s => s
  | _, _, _, _, _, _, .cons a r, s => by rw [List.append_assoc]; exact .cons a (DnAll.append r s)
theorem GrowX.dn {T : List (Addr × Str)} {S : Addr → Prop} {v : V} {d : PyData} {L : List Addr} (g : GrowX T S H H') (h : Dn K H v d L) (n : ∀ a ∈ L, ¬ S a) : Dn K H' v d L :=
  Dn.mono (A := fun a => ¬ S a) (fun a xs e z => g.ext _ _ z e (fun _ w => by cases w)) (fun a xs e => g.seqT e) h n
theorem GrowX.dnAll {T : List (Addr × Str)} {S : Addr → Prop} {v : List V} {d : List PyData} {L : List Addr} (g : GrowX T S H H') (h : DnAll K H v d L) (n : ∀ a ∈ L, ¬ S a) : DnAll K H' v d L :=
  DnAll.mono (A := fun a => ¬ S a) (fun a xs e z => g.ext _ _ z e (fun _ w => by cases w)) (fun a xs e => g.seqT e) h n
/-- fresh data: all its lists are new and apart -/
def Fr (K : PySem.W.Frag) (H H' : Hp) (v : V) (d : PyData) : Prop := ∃ L, Dn K H' v d L ∧ L.Nodup ∧ ∀ a ∈ L, New H a
theorem Fr.da {v : V} {d : PyData} (h : Fr K H H' v d) : Da K (New H) H' v d := by
  obtain ⟨L, h, _, n⟩ := h
  exact h.da n
theorem Fr.pre {T : List (Addr × Str)} {H0 : Hp} {v : V} {d : PyData} (g : Grow T H0 H) (h : Fr K H H' v d) : Fr K H0 H' v d := by
  obtain ⟨L, h, nd, n⟩ := h
  exact ⟨L, h, nd, fun a ha => g.keep _ (n a ha)⟩
theorem Fr.post {T : List (Addr × Str)} {H2 : Hp} {v : V} {d : PyData} (h : Fr K H H' v d) (g : Grow T H' H2) : Fr K H H2 v d := by
  obtain ⟨L, h, nd, n⟩ := h
  exact ⟨L, GrowX.dn g h fun _ _ z => z, nd, n⟩
end
end Vf
set_option maxRecDepth 100000
set_option maxHeartbeats 4000000
/-! Lit: displays of constants, tuples, lists and known names, at once. Own work. -/
namespace Vf
open PySem PySem.Spec PyProof.Rows L2 LamX
mutual
/-- the data that a display is; env: what names hold -/
def lit (env : List (Str × PyData)) : Expr → Option PyData
  | .Constant (.int i) _ _ => some (.int i)
  | .Constant (.bool b) _ _ => some (.bool b)
  | .Constant (.str z) _ _ => if z.length ≤ 1000 then some (.str z) else none
  | .Constant .none _ _ => some .none
  | .Tuple es _ _ => (lits env es).bind fun ds => if ds.length ≤ 1000 then some (.tuple ds) else none
  | .UnaryOp .USub (.Constant (.int i) _ _) _ => some (.int (-i))
  | .List es _ => (lits env es).bind fun ds => if ds.length ≤ 1000 then some (.list ds) else none
  | .Dict [] [] _ => some (.dict [])
  | .Dict [some (.Constant (.str _) _ _)] [e] _ => (lit env e).map fun _ => .dict []
  | .Name x _ => env.lookup x
  | _ => none
def lits (env : List (Str × PyData)) : List Expr → Option (List PyData)
  | [] => some []
  | e :: es => (lit env e).bind fun d => (lits env es).map fun ds => d :: ds
end
section
variable {m : Md} {X : Cx} {σ : L2.St} {env : List (Str × PyData)} {H0 : Hp}
/-- the names of env hold their data, wherever the heap has grown -/
def EnvOk (m : Md) (X : Cx) (σ : L2.St) (env : List (Str × PyData)) (A : Addr → Prop) (H0 : Hp) : Prop := ∀ x d pos, env.lookup x = some d → ∃ v, Ob m.K A H0 v d ∧ ∀ H Q, Q v H → wE X (.Name x pos) σ H Q
theorem starPlain {e : Expr} {es : List Expr} {d : PyData} (h : lit env e = some d) : starEach (e :: es) X.env = (false, eval e X.env) :: starEach es X.env := by
  cases e <;> first | rfl | (simp [lit] at h)
theorem lit_neg {op : UnaryOp} {e : Expr} {pos : Pos} {d : PyData} (h : lit env (.UnaryOp op e pos) = some d) : ∃ i k ps, op = .USub ∧ e = .Constant (.int i) k ps ∧ d = .int (-i) := by
  unfold lit at h
  split at h <;> first | (cases h; done) | skip
  all_goals first
    | (rename_i hh; cases hh; cases h; exact ⟨_, _, _, rfl, rfl, rfl⟩)
    | (simp at *)
theorem lit_d0 {ks : List (Option Expr)} {pos : Pos} {d : PyData} (h : lit env (.Dict ks [] pos) = some d) : ks = [] ∧ d = .dict [] := by
  unfold lit at h
  split at h <;> first | (cases h; done) | skip
  all_goals first
    | (rename_i hh; cases hh; cases h; exact ⟨rfl, rfl⟩)
    | (simp at *)
theorem lit_d1 {ks : List (Option Expr)} {e : Expr} {pos : Pos} {d : PyData} (h : lit env (.Dict ks [e] pos) = some d) : (∃ z k ps, ks = [some (.Constant (.str z) k ps)]) ∧ (∃ d', lit env e = some d') ∧ d = .dict [] := by
  unfold lit at h
  split at h <;> first | (cases h; done) | skip
  all_goals first
    | (rename_i hh; cases hh; obtain ⟨d', h1, h2⟩ := Option.map_eq_some_iff.1 h; cases h2; exact ⟨⟨_, _, _, rfl⟩, ⟨d', h1⟩, rfl⟩)
    | (simp at *)
theorem lit_d2 {ks : List (Option Expr)} {e e2 : Expr} {es : List Expr} {pos : Pos} {d : PyData} (h : lit env (.Dict ks (e :: e2 :: es) pos) = some d) : False := by
  unfold lit at h
  split at h <;> first | (cases h; done) | skip
  all_goals first
    | (rename_i hh; cases hh; done)
    | (simp at *)
theorem grow_ob {T : List (Addr × Str)} {K : PySem.W.Frag} {A : Addr → Prop} {H H1 : Hp} {v : V} {d : PyData} (g : Grow T H H1) (h : Ob K A H v d) : Ob K A H1 v d :=
  Ob.mono (fun _ z => z) (fun a xs _ e => GrowX.seqL g e fun z => z) (fun a xs e => GrowX.seqT g e) (fun a kvs _ e => g.extN _ _ e (fun _ z => by cases z)) d v h
theorem grow_obs {T : List (Addr × Str)} {K : PySem.W.Frag} {A : Addr → Prop} {H H1 : Hp} {v : List V} {d : List PyData} (g : Grow T H H1) (h : ObAll K A H v d) : ObAll K A H1 v d :=
  ObAll.mono (fun _ z => z) (fun a xs _ e => GrowX.seqL g e fun z => z) (fun a xs e => GrowX.seqT g e) (fun a kvs _ e => g.extN _ _ e (fun _ z => by cases z)) d v h
theorem obs_sub {K : PySem.W.Frag} {A A' : Addr → Prop} {H : Hp} {v : List V} {d : List PyData} (h : ObAll K A H v d) (s : ∀ a, A a → A' a) : ObAll K A' H v d := ObAll.mono s (fun _ _ _ e => e) (fun _ _ e => e) (fun _ _ _ e => e) d v h
theorem ob_sub {K : PySem.W.Frag} {A A' : Addr → Prop} {H : Hp} {v : V} {d : PyData} (h : Ob K A H v d) (s : ∀ a, A a → A' a) : Ob K A' H v d := Ob.mono s (fun _ _ _ e => e) (fun _ _ e => e) (fun _ _ _ e => e) d v h
/-- new in H, and there in H' -/
abbrev Nw (H H' : Hp) : Addr → Prop := fun a => New H a ∧ H' a ≠ none
theorem nw_up {T : List (Addr × Str)} {A : Addr → Prop} {H H1 H2 : Hp} (g : Grow T H1 H2) : ∀ a, A a ∨ Nw H H1 a → A a ∨ Nw H H2 a := fun a z => z.imp id fun w => ⟨w.1, fun e => w.2 (g.keep _ e)⟩
mutual
theorem w_lit {A : Addr → Prop} (hE : EnvOk m X σ env A H0) : ∀ (e : Expr) (d : PyData) (H : Hp) (Q : VK), lit env e = some d → Grow m.T H0 H → (∀ v H', Grow m.T H H' → Ob m.K (fun a => A a ∨ Nw H H' a) H' v d → Q v H') → wE X e σ H Q
  | .Constant (.int i) _ _, d, H, Q, h, g0, q => by
    rw [lit] at h; cases h
    exact w_int (q _ _ GrowX.refl (.int i))
  | .Constant (.bool i) _ _, d, H, Q, h, g0, q => by
    rw [lit] at h; cases h
    exact w_bl (q _ _ GrowX.refl (.bl i))
  | .Constant .none _ _, d, H, Q, h, g0, q => by
    rw [lit] at h; cases h
    exact w_non (q _ _ GrowX.refl .non)
  | .Constant (.str z) _ _, d, H, Q, h, g0, q => by
    rw [lit] at h
    split at h
    · cases h
      refine w_str (q _ _ GrowX.refl (.str z ?_))
      rw [sizeLine_eq]; omega
    · cases h
  | .Name x _, d, H, Q, h, g0, q => by
    rw [lit] at h
    obtain ⟨v, o, r⟩ := hE x d _ h
    refine r H Q (q v H GrowX.refl ?_)
    exact Ob.mono (fun _ z => .inl z) (fun a xs _ e => GrowX.seqL g0 e fun z => z) (fun a xs e => GrowX.seqT g0 e) (fun a kvs _ e => g0.extN _ _ e (fun _ z => by cases z)) d v o
  | .Tuple es _ _, d, H, Q, h, g0, q => by
    rw [lit] at h
    obtain ⟨ds, h1, h2⟩ := Option.bind_eq_some_iff.1 h
    split at h2
    · rename_i hl
      cases h2
      refine w_tup (w_lits hE es ds H _ h1 g0 fun vs H' g o => ⟨by rw [o.length, sizeLine_eq]; omega, fun p hp => ?_⟩)
      have gn := Grow.new (T := m.T) (o := .tup vs) hp
      exact q _ _ (g.trans gn) (.tup (SqT.of upd_same) (obs_sub (grow_obs gn o) (nw_up gn)))
    · cases h2
  | .List es _, d, H, Q, h, g0, q => by
    rw [lit] at h
    obtain ⟨ds, h1, h2⟩ := Option.bind_eq_some_iff.1 h
    split at h2
    · rename_i hl
      cases h2
      refine w_lst (w_lits hE es ds H _ h1 g0 fun vs H' g o => ⟨by rw [o.length, sizeLine_eq]; omega, fun p hp => ?_⟩)
      have gn := Grow.new (T := m.T) (o := .lst vs) hp
      exact q _ _ (g.trans gn) (.lst (.inr ⟨g.keep _ hp, by rw [upd_same]; exact fun z => by cases z⟩) (SqL.of upd_same) (obs_sub (grow_obs gn o) (nw_up gn)) (by rw [o.length]; omega))
    · cases h2
  | .UnaryOp op e _, d, H, Q, h, g0, q => by
    obtain ⟨i, k, ps, rfl, rfl, rfl⟩ := lit_neg h
    exact w_neg (w_int ⟨i, rfl, q _ _ GrowX.refl (.int (-i))⟩)
  | .Constant (.float _) _ _, d, H, Q, h, g0, q => by simp [lit] at h
  | .Constant (.complex _ _) _ _, d, H, Q, h, g0, q => by simp [lit] at h
  | .Constant (.bytes _) _ _, d, H, Q, h, g0, q => by simp [lit] at h
  | .Constant .ellipsis _ _, d, H, Q, h, g0, q => by simp [lit] at h
  | .BoolOp .., d, H, Q, h, g0, q => by simp [lit] at h
  | .NamedExpr .., d, H, Q, h, g0, q => by simp [lit] at h
  | .BinOp .., d, H, Q, h, g0, q => by simp [lit] at h
  | .Lambda .., d, H, Q, h, g0, q => by simp [lit] at h
  | .IfExp .., d, H, Q, h, g0, q => by simp [lit] at h
  | .Dict ks [] _, d, H, Q, h, g0, q => by
    obtain ⟨rfl, rfl⟩ := lit_d0 h
    refine toE pe_dnewK fun p hp => ?_
    exact q _ _ (Grow.new hp) (.dct (.inr ⟨hp, by rw [upd_same]; exact fun z => by cases z⟩) upd_same)
  | .Dict ks [e] _, d, H, Q, h, g0, q => by
    obtain ⟨⟨z, k, ps, rfl⟩, ⟨d', h1⟩, rfl⟩ := lit_d1 h
    refine toE (pe_disp (pps_cons (cE (e := .Constant (.str z) k ps)) (cE (e := e)) pps_nil) rfl rfl (by simp) (show 1 ≤ 15 by decide)) fun p hp => ?_
    have g1 := Grow.new (T := m.T) (o := .dK []) hp
    refine w_str ?_
    refine w_lit hE e d' _ _ h1 (g0.trans g1) fun v H1 g2 _ => ?_
    have h2 : H1 p = some (.dK []) := g2.extN _ _ upd_same (fun _ w => by cases w)
    refine ⟨h2, [(.inr z, v)], rfl, by simp, ?_⟩
    have gX : GrowX m.T (· = p) H1 (upd H1 p (.dK (mergeK [] [(.inr z, v)]))) := GrowX.set rfl h2 (fun _ z => by cases z) (fun _ z => by unfold CodeO at z; cases z) (fun _ z => by cases z) (fun _ _ z => by cases z)
    exact q _ _ (Grow.intoNew (g1.trans g2) gX fun c w => by rw [w]; exact hp) (.dct (.inr ⟨hp, by rw [upd_same]; exact fun z => by cases z⟩) upd_same)
  | .Dict ks (e :: e2 :: es) _, d, H, Q, h, g0, q => (lit_d2 h).elim
  | .Set .., d, H, Q, h, g0, q => by simp [lit] at h
  | .ListComp .., d, H, Q, h, g0, q => by simp [lit] at h
  | .SetComp .., d, H, Q, h, g0, q => by simp [lit] at h
  | .DictComp .., d, H, Q, h, g0, q => by simp [lit] at h
  | .GeneratorExp .., d, H, Q, h, g0, q => by simp [lit] at h
  | .Await .., d, H, Q, h, g0, q => by simp [lit] at h
  | .Yield .., d, H, Q, h, g0, q => by simp [lit] at h
  | .YieldFrom .., d, H, Q, h, g0, q => by simp [lit] at h
  | .Compare .., d, H, Q, h, g0, q => by simp [lit] at h
  | .Call .., d, H, Q, h, g0, q => by simp [lit] at h
  | .FormattedValue .., d, H, Q, h, g0, q => by simp [lit] at h
  | .JoinedStr .., d, H, Q, h, g0, q => by simp [lit] at h
  | .Attribute .., d, H, Q, h, g0, q => by simp [lit] at h
  | .Subscript .., d, H, Q, h, g0, q => by simp [lit] at h
  | .Starred .., d, H, Q, h, g0, q => by simp [lit] at h
  | .Slice .., d, H, Q, h, g0, q => by simp [lit] at h
theorem w_lits {A : Addr → Prop} (hE : EnvOk m X σ env A H0) : ∀ (es : List Expr) (ds : List PyData) (H : Hp) (Q : List V → Hp → Prop), lits env es = some ds → Grow m.T H0 H → (∀ vs H', Grow m.T H H' → ObAll m.K (fun a => A a ∨ Nw H H' a) H' vs ds → Q vs H') → wA X es σ H Q
  | [], ds, H, Q, h, g0, q => by
    rw [lits] at h; cases h
    exact w_nil (q [] H GrowX.refl .nil)
  | e :: es, ds, H, Q, h, g0, q => by
    rw [lits] at h
    obtain ⟨d, h1, h2⟩ := Option.bind_eq_some_iff.1 h
    obtain ⟨ds', h3, rfl⟩ := Option.map_eq_some_iff.1 h2
    refine w_cons (w_lit hE e d H _ h1 g0 fun v H1 g1 o => ?_) (starPlain h1)
    refine w_lits hE es ds' H1 _ h3 (g0.trans g1) fun vs H2 g2 os => ?_
    refine q (v :: vs) H2 (g1.trans g2) (.cons (ob_sub (grow_ob g2 o) (nw_up g2)) (obs_sub os fun a z => ?_))
    rcases z with z | z
    · exact .inl z
    · exact .inr ⟨g1.keep _ z.1, z.2⟩
end
end
end Vf
set_option maxRecDepth 100000
set_option maxHeartbeats 4000000
/-! Zs: while, zip, reversed slices, range of two, properties. Own work. -/
namespace Vf
open PySem PySem.Spec PyProof.Rows L2 LamX
section
variable {m : Md} {N : List Str} {sc scope : Scope} {i j k : Nat} {X : Cx} {a b c e e2 o elt : Expr} {es : List Expr} {σ : L2.St} {H : Hp} {Q : VK} {pos p p1 p2 p3 tpos : Pos} {x y : Str} {body : List Stmt} {nx : L2.St → Hp → Prop} {rt : VK} {bk ct : L2.St → Hp → Prop}
/-- while c: body, by a measure; what is wanted of a turn is written out -/
theorem s_while (h : At m N sc k X) (q : ∃ (Pv : L2.St → Hp → Prop) (μ : L2.St → Hp → Nat), Pv σ H ∧ ∀ σ H, Pv σ H → wT X c σ H fun b H1 => if b = true then wB X body ⟨fun σ' H' => Pv σ' H' ∧ μ σ' H' < μ σ H, rt, nx, fun σ' H' => Pv σ' H' ∧ μ σ' H' < μ σ H⟩ σ H1 else nx σ H1) : wS X (.While c body [] pos) ⟨nx, rt, bk, ct⟩ σ H := by
  refine toS (ps_while h.pass cT cB) ?_
  obtain ⟨Pv, μ, h0, hs⟩ := q
  refine ⟨fun n σ H => n = μ σ H ∧ Pv σ H, ⟨_, rfl, h0⟩, ?_⟩
  rintro n σ H ⟨rfl, p⟩
  have t := hs σ H p
  unfold wT at t ⊢
  refine fun pins s I => wpAny_mono (t pins s I) (fun v s' z => ?_) fun _ _ z => z
  obtain ⟨H1, I1, q1⟩ := z
  refine ⟨H1, I1, ?_⟩
  cases v with
  | true => exact ⟨fun σ' H' => Pv σ' H' ∧ μ σ' H' < μ σ H, fun σ' H' ⟨p', l⟩ => ⟨_, l, rfl, p'⟩, q1⟩
  | false => exact q1
/-- for t in zip(e, e2), of two lists of one length that stand still -/
theorem s_forZ {elts : List Expr} {kk : Nat} {g : TG} {po : Pos} (h : At m N sc k X) (hg : PG X (.Tuple elts kk tpos) g) (hm : m.mg "zip" = none) (hgl : sc.names.lookup ("zip" : Str) = some .globalImplicit)
    (q : wA X [e, e2] σ H fun vs H1 => ∃ (a b : Addr) (xs ys : List V), vs = [.ref a, .ref b] ∧ SqL m.K H1 a xs ∧ SqL m.K H1 b ys ∧ xs.length = ys.length ∧ ∃ Pv : Nat → L2.St → Hp → Prop, Pv 0 σ H1 ∧ (∀ i σ H, Pv i σ H → SqL m.K H a xs ∧ SqL m.K H b ys) ∧
      (∀ (i : Nat) (x y : V) (T : Addr) (σ : L2.St) (H : Hp), xs[i]? = some x → ys[i]? = some y → Pv i σ H → H T = none → g (.ref T) σ (upd H T (.tup [x, y])) fun σ2 H2 => wB X body ⟨Pv (i + 1), rt, nx, Pv (i + 1)⟩ σ2 H2) ∧ ∀ σ H, Pv xs.length σ H → nx σ H)
    (hs : starEach [e, e2] X.env = (false, eval e X.env) :: starEach [e2] X.env := by with_unfolding_all rfl) (hpl : (backTo p2 (starEach [e2] X.env)).any (·.1) = false := by with_unfolding_all rfl)
    (hf : ∀ x, foldedSetIterable (.Call (.Name "zip" p1) [e, e2] [] p2) X.env x = pure x := by with_unfolding_all (intro _; rfl)) : wS X (.For (.Tuple elts kk tpos) (.Call (.Name "zip" p1) [e, e2] [] p2) body [] po) ⟨nx, rt, bk, ct⟩ σ H := by
  refine toS (ps_for h.pass h.calm (pi_zip (h.gl hgl) (by rw [h.mm]; exact hm) (cA (es := [e, e2])) hs hpl) hg cB hf) ?_
  unfold wA at q ⊢
  refine fun pos pins s I => wpAny_mono (q pos pins s I) (fun v s' z => ?_) fun _ _ z => z
  obtain ⟨vs, H1, I1, r1, a, b, xs, ys, ev, ha, hb, hl, Pv, p0, hq, turn, fin⟩ := z
  exact ⟨vs, H1, I1, r1, a, b, xs, ys, ev, by rw [h.kk]; exact ha, by rw [h.kk]; exact hb, RZ.for_zipL (K := X.K) hl Pv p0 (fun i σ H z => by rw [h.kk]; exact hq i σ H z) turn fin⟩
/-- e[::-1] of a list -/
theorem w_rev {k1 : Nat} (h : At m N sc k X) (q : wE X e σ H fun x H1 => ∃ (a : Addr) (xs : List V), x = .ref a ∧ SqL m.K H1 a xs ∧ ∀ p, H1 p = none → Q (.ref p) (upd H1 p (.lst xs.reverse))) :
    wE X (.Subscript e (.Slice none none (some (.UnaryOp .USub (.Constant (.int 1) k1 p1) p2)) p3) pos) σ H Q := by
  refine toE (pe_revL cE) ?_
  exact wE.mono q fun x H1 ⟨a, xs, ea, hs, q1⟩ => ⟨a, xs, ea, by rw [h.kk]; exact hs, q1⟩
/-- [elt for x in range(a, b)] -/
theorem w_lcR2 (h : At m N sc k X) (hm : m.mg "range" = none) (hgl : sc.names.lookup ("range" : Str) = some .globalImplicit) (ok : blkC N sc scope [(x, i)] = true) (n : NL N (relS scope sc) i x)
    (q : wA X [a, b] σ H fun vs H1 => ∃ z w : Int, vs = [.int z, .int w] ∧ (-(2 ^ 62) ≤ z ∧ z < 2 ^ 62 ∧ -(2 ^ 62) ≤ w ∧ w < 2 ^ 62) ∧ ∀ D, H1 D = none → ∃ Pv : Nat → Hp → Prop, Pv 0 (upd H1 D (.lst [])) ∧
      (∀ j H, j < (w - z).toNat → Pv j H → ∀ X', At m N (relS scope sc) k X' → wE X' elt (σ.set i (some (.int (z + j)))) H (App D (Pv (j + 1)))) ∧ ∀ H, Pv (w - z).toNat H → Q (.ref D) H)
    (hst : starEach [a, b] X.env = [(false, eval a X.env), (false, eval b X.env)] := by with_unfolding_all rfl) (hst2 : starEach [b] X.env = [(false, eval b X.env)] := by with_unfolding_all rfl) (hs : ∀ x, foldedSetIterable (.Call (.Name "range" p2) [a, b] [] p3) X.env x = pure x := by with_unfolding_all (intro _; rfl)) : wE X (.ListComp elt [⟨.Name x p1, .Call (.Name "range" p2) [a, b] [] p3, [], 0⟩] scope pos) σ H Q := by
  refine toE (pe_lc (own := [(x, i)]) (g := gName i) (tt := tYes) (te := inBlk m N (relS scope sc) k elt) h.calm (by rw [h.nn]; exact h.nd) (pi_range2 (h.gl hgl) (by rw [h.mm]; exact hm) (cA (es := [a, b])) hst hst2) (by rw [h.nn, h.ss]; exact blkOk_by ok) (fun s H C cl fp => pg_nl (blk_at h s H C cl fp) n) (fun _ _ _ _ _ => pts_nil) (fun s H C cl fp => blk_pe h s H C cl fp) hs) ?_
  unfold wA at q ⊢
  refine fun pos pins s I => wpAny_mono (q pos pins s I) (fun v s' z => ?_) fun _ _ z => z
  obtain ⟨vs, H1, I1, r1, z, w, ev, hb, go⟩ := z
  refine ⟨vs, H1, I1, r1, z, w, ev, hb, fun D hD => ?_⟩
  obtain ⟨Pv, p0, turn, fin⟩ := go D hD
  refine lc_range (lo := z) (n := (w - z).toNat) (g := gName i) (tt := tYes) (te := inBlk m N (relS scope sc) k elt) (vs := [i]) (σ := σ) Pv p0 (fun j H hj hp => ?_) fin
  refine ⟨by rw [wipe1]; simp [wipe, List.set_set], ?_⟩
  unfold tYes
  refine iteT fun X' hX' => ?_
  rw [set_wipe]
  exact turn j H hj hp X' hX'
/-- e.f, a property whose getter keeps sp -/
theorem w_prop {f : Str} {C q g : Addr} {fd : FuncData} {ps : List Str} {sp : Sp} (h : At m N sc k X) (c : Cls m.K C) (hp : PropOf m.K C f q g) (F : FnG m C8.CX0 j g fd ps sp) (hb : L2.Binds m.K fd ps []) (hk : j + 1 ≤ k)
    (z : wE X e σ H fun x H1 => ∃ a dx fs, x = .ref a ∧ H1 a = some (.ins C dx fs) ∧ sp [.ref a] H1 Q C8.E0)
    (hab : attributeBase e f X.env (eval e X.env) = eval e X.env := by with_unfolding_all rfl) : wE X (.Attribute e f pos) σ H Q := by
  unfold wE
  intro pins s I
  refine attr_of hab (thn ((cE (X := X) (e := e)).run pins s σ H _ I z) fun u s1 ⟨x, H1, I1, rx, a, dx, fs, ex, ea, q1⟩ => ?_)
  subst ex
  obtain rfl : u = Value.ref a := rx
  obtain ⟨mA, O, _, _, _, _⟩ := ins_get I1.hok ea
  obtain ⟨od, J, _⟩ := O.look
  obtain ⟨rest, hrec⟩ := hp.rec_
  have I2 := I1.tok (s1.toks + 1)
  have c' : Cls X.K C := by rw [h.kk]; exact c
  have hc : (PySem.W.clsIn X.K C).isSome = true := by
    obtain ⟨cd, hc, _⟩ := PySem.W.any_some c'.hd
    rw [hc]; rfl
  refine PySem.W.get_bind I1.kIn J (PySem.W.plainGet_of (c'.get f)).1 (PySem.W.findObj_data hc (by rw [h.kk]; exact hp.at_) (by rw [h.kk]; exact hp.get) (by rw [h.kk]; exact hp.tak)) (PySem.W.plainGet_of (c'.get f)).2 (wpAny_call (PySem.W.prop_get (s := { s1 with toks := s1.toks + 1 }) I1.kIn (by rw [h.kk]; exact hrec) ?_))
  have e0 := I2.env0.in1
  rw [h.pp, h.ww, h.kk, h.mm, h.bb] at e0
  have hl : [Value.ref a].length = ps.length := by
    rw [← F.len _ _ _ _ q1]; rfl
  have rc := F.run X.A.in1 X.stack { s1 with toks := s1.toks + 1 } H1 ⟨[.ref a], []⟩ [.ref a] [.ref a] Q C8.E0 (by exact h.gd) ((h.room.mono hk).in1) e0 (by have := hb { s1 with toks := s1.toks + 1 } [.ref a] (by rw [← h.kk]; exact I2.kIn) (by simpa using hl); simpa using this) (.cons rfl .nil) q1
  rw [← h.pp, ← h.ww] at rc
  refine codeAny_mono rc fun r s' hq => ?_
  match r, hq with
  | .error er, hq => exact hq.elim
  | .ok (.ret u), hq =>
    obtain ⟨v, H', I3, rv, q3⟩ := I2.after hq
    show wpAny _ _ (handedOut u) _ _ _
    rw [PySem.W.handedOut_of (handed_of rv)]
    exact wpAny_pure ⟨v, H', I3, rv, q3⟩
end
end Vf
namespace Vf
open PySem PySem.Spec PyProof.Rows L2 LamX
local macro_rules | `(tactic| walk_at "v") => `(tactic| first
  | ((with_reducible show wE _ _ _ _ _); first
      | with_reducible refine w_int ?_
      | with_reducible refine w_str ?_
      | with_reducible refine w_bl ?_
      | with_reducible refine w_non ?_
      | ((with_reducible refine' w_nl ?h ?n ?s ?q); (case h => with_reducible assumption); (case n => with_reducible assumption); (case s => rfl))
      | ((with_reducible refine' w_nc ?h ?n ?s ?q); (case h => with_reducible assumption); (case n => with_reducible assumption); (case s => rfl))
      | ((with_reducible refine' w_nf ?h ?n ?s ?q); (case h => with_reducible assumption); (case n => with_reducible assumption); (case s => rfl))
      | with_reducible refine g_bin ?_
      | with_reducible refine g_ix ?_
      | with_reducible refine w_lst ?_
      | with_reducible refine w_tup ?_
      | with_reducible refine g_cmp ?_
      | with_reducible refine w_if ?_
      | with_reducible refine w_not ?_
      | with_reducible refine w_and ?_
      | with_reducible refine w_or ?_
      | with_reducible refine w_one ?_
      | with_reducible refine w_neg ?_)
  | ((with_reducible show wA _ _ _ _ _); first
      | with_reducible refine w_nil ?_
      | with_reducible refine w_cons ?_)
  | ((with_reducible show gOp _ _ _ _ _ _); first
      | with_reducible refine g_addI ?_
      | with_reducible refine g_subI ?_
      | with_reducible refine g_gtI ?_
      | with_reducible refine g_ltI ?_
      | with_reducible refine g_leI ?_
      | with_reducible refine g_geI ?_
      | with_reducible refine g_eqI ?_
      | with_reducible refine g_neI ?_
      | with_reducible refine g_isN ?_
      | with_reducible refine g_notN ?_
      | with_reducible refine g_eqS ?_
      | with_reducible refine g_neS ?_)
  | ((with_reducible show wS _ _ _ _ _); first
      | with_reducible refine s_ret ?_
      | with_reducible refine s_if ?_
      | with_reducible refine s_expr ?_
      | ((with_reducible refine' s_nl ?h ?n ?q); (case h => with_reducible assumption); (case n => with_reducible assumption))
      | with_reducible refine s_subL ?_
      | with_reducible refine s_retN ?_)
  | ((with_reducible show wB _ _ _ _ _); first
      | with_reducible refine b_nil ?_
      | with_reducible refine b_one ?_
      | with_reducible refine b_cons ?_)
  | ((with_reducible show wT _ _ _ _ _); first
      | with_reducible refine gt_cmp ?_
      | with_reducible refine t_not ?_
      | with_reducible refine t_and ?_
      | with_reducible refine t_or ?_
      | with_reducible refine gt_tru ?_)
  | ((with_reducible show gTru _ _ _ _); first
      | with_reducible refine g_truB ?_)
  | ((with_reducible show wW _ _ _ _ _); first
      | with_reducible refine k_and ?_
      | with_reducible refine k_or ?_
      | with_reducible refine k_and1 ?_
      | with_reducible refine k_or1 ?_)
  | with_reducible refine ⟨_, rfl, ?_⟩)
local macro_rules | `(tactic| walk_at "e") => `(tactic| first
  | ((with_reducible show wE _ _ _ _ _); first
      | with_reducible refine w_int ?_
      | with_reducible refine w_str ?_
      | with_reducible refine w_bl ?_
      | with_reducible refine w_non ?_
      | ((with_reducible refine' w_nl ?h ?n ?s ?q); (case h => with_reducible assumption); (case n => with_reducible assumption); (case s => rfl))
      | ((with_reducible refine' w_nc ?h ?n ?s ?q); (case h => with_reducible assumption); (case n => with_reducible assumption); (case s => rfl))
      | ((with_reducible refine' w_nf ?h ?n ?s ?q); (case h => with_reducible assumption); (case n => with_reducible assumption); (case s => rfl))
      | with_reducible refine g_bin ?_
      | with_reducible refine g_ix ?_
      | with_reducible refine w_lst ?_
      | with_reducible refine w_tup ?_
      | with_reducible refine g_cmp ?_
      | with_reducible refine w_if ?_
      | with_reducible refine w_not ?_
      | with_reducible refine w_and ?_
      | with_reducible refine w_or ?_
      | with_reducible refine w_one ?_
      | with_reducible refine w_neg ?_)
  | ((with_reducible show wA _ _ _ _ _); first
      | with_reducible refine w_nil ?_
      | with_reducible refine w_cons ?_)
  | ((with_reducible show gOp _ _ _ _ _ _); first
      | with_reducible refine g_addI ?_
      | with_reducible refine g_subI ?_
      | with_reducible refine g_gtI ?_
      | with_reducible refine g_ltI ?_
      | with_reducible refine g_leI ?_
      | with_reducible refine g_geI ?_
      | with_reducible refine g_eqI ?_
      | with_reducible refine g_neI ?_
      | with_reducible refine g_isN ?_
      | with_reducible refine g_notN ?_
      | with_reducible refine g_eqS ?_
      | with_reducible refine g_neS ?_)
  | ((with_reducible show wT _ _ _ _ _); first
      | with_reducible refine gt_cmp ?_
      | with_reducible refine t_not ?_
      | with_reducible refine t_and ?_
      | with_reducible refine t_or ?_
      | with_reducible refine gt_tru ?_)
  | ((with_reducible show gTru _ _ _ _); first
      | with_reducible refine g_truB ?_)
  | ((with_reducible show wW _ _ _ _ _); first
      | with_reducible refine k_and ?_
      | with_reducible refine k_or ?_
      | with_reducible refine k_and1 ?_
      | with_reducible refine k_or1 ?_)
  | with_reducible refine ⟨_, rfl, ?_⟩)
local macro_rules | `(tactic| walk_at "E") => `(tactic| repeat (walk_at "e"))
local macro_rules | `(tactic| walk_at "V") => `(tactic| repeat (walk_at "v"))
local macro_rules | `(tactic| walk_at "B") => `(tactic| first | refine b_cons ?_ | refine b_one ?_)
local macro_rules | `(tactic| walk_at "S") => `(tactic| (simp only [List.length_cons, List.length_nil, List.length_append, List.length_map, sizeLine_eq] <;> omega))
def top (i : Nat) : Stmt := PySem.Challenge.pw_leafwaits_k43_stairs_made.main.body.getD i (.Pass ⟨0, 0, 0, 0⟩)
abbrev st_InvalidWhole_init : Stmt := inClass (top 2) 0
abbrev nl_InvalidWhole_init : List Str := ["self", "value"]
abbrev ps_InvalidWhole_init : List Str := ["self", "value"]
theorem sc_InvalidWhole_init : FnScope nl_InvalidWhole_init ps_InvalidWhole_init (C8.fnScope st_InvalidWhole_init) := ⟨rfl, rfl, rfl, by decide +kernel, rfl, by decide +kernel, by decide +kernel⟩
-- 0:self 1:value
theorem nv_InvalidWhole_init : NL nl_InvalidWhole_init (C8.fnScope st_InvalidWhole_init) 0 "self" ∧ NL nl_InvalidWhole_init (C8.fnScope st_InvalidWhole_init) 1 "value" := ⟨⟨rfl, rfl⟩, ⟨rfl, rfl⟩⟩
abbrev st_InvalidCount_init : Stmt := inClass (top 3) 0
abbrev nl_InvalidCount_init : List Str := ["self", "value"]
abbrev ps_InvalidCount_init : List Str := ["self", "value"]
theorem sc_InvalidCount_init : FnScope nl_InvalidCount_init ps_InvalidCount_init (C8.fnScope st_InvalidCount_init) := ⟨rfl, rfl, rfl, by decide +kernel, rfl, by decide +kernel, by decide +kernel⟩
-- 0:self 1:value
theorem nv_InvalidCount_init : NL nl_InvalidCount_init (C8.fnScope st_InvalidCount_init) 0 "self" ∧ NL nl_InvalidCount_init (C8.fnScope st_InvalidCount_init) 1 "value" := ⟨⟨rfl, rfl⟩, ⟨rfl, rfl⟩⟩
abbrev st_InvalidCorners_init : Stmt := inClass (top 4) 0
abbrev nl_InvalidCorners_init : List Str := ["self", "value"]
abbrev ps_InvalidCorners_init : List Str := ["self", "value"]
theorem sc_InvalidCorners_init : FnScope nl_InvalidCorners_init ps_InvalidCorners_init (C8.fnScope st_InvalidCorners_init) := ⟨rfl, rfl, rfl, by decide +kernel, rfl, by decide +kernel, by decide +kernel⟩
-- 0:self 1:value
theorem nv_InvalidCorners_init : NL nl_InvalidCorners_init (C8.fnScope st_InvalidCorners_init) 0 "self" ∧ NL nl_InvalidCorners_init (C8.fnScope st_InvalidCorners_init) 1 "value" := ⟨⟨rfl, rfl⟩, ⟨rfl, rfl⟩⟩
abbrev st_is_whole : Stmt := top 6
abbrev nl_is_whole : List Str := ["value"]
abbrev ps_is_whole : List Str := ["value"]
theorem sc_is_whole : FnScope nl_is_whole ps_is_whole (C8.fnScope st_is_whole) := ⟨rfl, rfl, rfl, by decide +kernel, rfl, by decide +kernel, by decide +kernel⟩
-- 0:value
theorem nv_is_whole : NL nl_is_whole (C8.fnScope st_is_whole) 0 "value" := ⟨rfl, rfl⟩
abbrev st_is_count : Stmt := top 7
abbrev nl_is_count : List Str := ["value"]
abbrev ps_is_count : List Str := ["value"]
theorem sc_is_count : FnScope nl_is_count ps_is_count (C8.fnScope st_is_count) := ⟨rfl, rfl, rfl, by decide +kernel, rfl, by decide +kernel, by decide +kernel⟩
-- 0:value
theorem nv_is_count : NL nl_is_count (C8.fnScope st_is_count) 0 "value" := ⟨rfl, rfl⟩
abbrev st_need_whole : Stmt := top 8
abbrev nl_need_whole : List Str := ["value"]
abbrev ps_need_whole : List Str := ["value"]
theorem sc_need_whole : FnScope nl_need_whole ps_need_whole (C8.fnScope st_need_whole) := ⟨rfl, rfl, rfl, by decide +kernel, rfl, by decide +kernel, by decide +kernel⟩
-- 0:value
theorem nv_need_whole : NL nl_need_whole (C8.fnScope st_need_whole) 0 "value" := ⟨rfl, rfl⟩
abbrev st_need_count_from : Stmt := top 9
abbrev nl_need_count_from : List Str := ["least", "value"]
abbrev ps_need_count_from : List Str := ["least", "value"]
theorem sc_need_count_from : FnScope nl_need_count_from ps_need_count_from (C8.fnScope st_need_count_from) := ⟨rfl, rfl, rfl, by decide +kernel, rfl, by decide +kernel, by decide +kernel⟩
-- 0:least 1:value
theorem nv_need_count_from : NL nl_need_count_from (C8.fnScope st_need_count_from) 0 "least" ∧ NL nl_need_count_from (C8.fnScope st_need_count_from) 1 "value" := ⟨⟨rfl, rfl⟩, ⟨rfl, rfl⟩⟩
abbrev st_Stair_init : Stmt := inClass (top 11) 0
abbrev nl_Stair_init : List Str := ["self", "begin", "corners"]
abbrev ps_Stair_init : List Str := ["self", "begin", "corners"]
theorem sc_Stair_init : FnScope nl_Stair_init ps_Stair_init (C8.fnScope st_Stair_init) := ⟨rfl, rfl, rfl, by decide +kernel, rfl, by decide +kernel, by decide +kernel⟩
-- 0:self 1:begin 2:corners
theorem nv_Stair_init : NL nl_Stair_init (C8.fnScope st_Stair_init) 0 "self" ∧ NL nl_Stair_init (C8.fnScope st_Stair_init) 1 "begin" ∧ NL nl_Stair_init (C8.fnScope st_Stair_init) 2 "corners" := ⟨⟨rfl, rfl⟩, ⟨rfl, rfl⟩, ⟨rfl, rfl⟩⟩
abbrev st_Stair_begin : Stmt := inClass (top 11) 1
abbrev nl_Stair_begin : List Str := ["self"]
abbrev ps_Stair_begin : List Str := ["self"]
theorem sc_Stair_begin : FnScope nl_Stair_begin ps_Stair_begin (C8.fnScope st_Stair_begin) := ⟨rfl, rfl, rfl, by decide +kernel, rfl, by decide +kernel, by decide +kernel⟩
-- 0:self
theorem nv_Stair_begin : NL nl_Stair_begin (C8.fnScope st_Stair_begin) 0 "self" := ⟨rfl, rfl⟩
abbrev st_Stair_corners : Stmt := inClass (top 11) 2
abbrev nl_Stair_corners : List Str := ["self"]
abbrev ps_Stair_corners : List Str := ["self"]
theorem sc_Stair_corners : FnScope nl_Stair_corners ps_Stair_corners (C8.fnScope st_Stair_corners) := ⟨rfl, rfl, rfl, by decide +kernel, rfl, by decide +kernel, by decide +kernel⟩
-- 0:self
theorem nv_Stair_corners : NL nl_Stair_corners (C8.fnScope st_Stair_corners) 0 "self" := ⟨rfl, rfl⟩
abbrev st_Stair_value : Stmt := inClass (top 11) 3
abbrev nl_Stair_value : List Str := ["self", "count"]
abbrev ps_Stair_value : List Str := ["self", "count"]
theorem sc_Stair_value : FnScope nl_Stair_value ps_Stair_value (C8.fnScope st_Stair_value) := ⟨rfl, rfl, rfl, by decide +kernel, rfl, by decide +kernel, by decide +kernel⟩
-- 0:self 1:count
theorem nv_Stair_value : NL nl_Stair_value (C8.fnScope st_Stair_value) 0 "self" ∧ NL nl_Stair_value (C8.fnScope st_Stair_value) 1 "count" := ⟨⟨rfl, rfl⟩, ⟨rfl, rfl⟩⟩
abbrev st_Stair_end : Stmt := inClass (top 11) 4
abbrev nl_Stair_end : List Str := ["self", "told", "rise"]
abbrev ps_Stair_end : List Str := ["self"]
theorem sc_Stair_end : FnScope nl_Stair_end ps_Stair_end (C8.fnScope st_Stair_end) := ⟨rfl, rfl, rfl, by decide +kernel, rfl, by decide +kernel, by decide +kernel⟩
-- 0:self 1:told 2:rise
theorem nv_Stair_end : NL nl_Stair_end (C8.fnScope st_Stair_end) 0 "self" ∧ NL nl_Stair_end (C8.fnScope st_Stair_end) 1 "told" ∧ NL nl_Stair_end (C8.fnScope st_Stair_end) 2 "rise" := ⟨⟨rfl, rfl⟩, ⟨rfl, rfl⟩, ⟨rfl, rfl⟩⟩
abbrev st_Stair_undone : Stmt := inClass (top 11) 5
abbrev nl_Stair_undone : List Str := ["self", "number", "corner", "told", "rise"]
abbrev ps_Stair_undone : List Str := ["self", "number"]
theorem sc_Stair_undone : FnScope nl_Stair_undone ps_Stair_undone (C8.fnScope st_Stair_undone) := ⟨rfl, rfl, rfl, by decide +kernel, rfl, by decide +kernel, by decide +kernel⟩
-- 0:self 1:number 2:corner 3:told 4:rise
theorem nv_Stair_undone : NL nl_Stair_undone (C8.fnScope st_Stair_undone) 0 "self" ∧ NL nl_Stair_undone (C8.fnScope st_Stair_undone) 1 "number" ∧ NL nl_Stair_undone (C8.fnScope st_Stair_undone) 2 "corner" ∧ NL nl_Stair_undone (C8.fnScope st_Stair_undone) 3 "told" ∧ NL nl_Stair_undone (C8.fnScope st_Stair_undone) 4 "rise" := ⟨⟨rfl, rfl⟩, ⟨rfl, rfl⟩, ⟨rfl, rfl⟩, ⟨rfl, rfl⟩, ⟨rfl, rfl⟩⟩
abbrev st_Stair_shifted : Stmt := inClass (top 11) 6
abbrev nl_Stair_shifted : List Str := ["self", "by"]
abbrev ps_Stair_shifted : List Str := ["self", "by"]
theorem sc_Stair_shifted : FnScope nl_Stair_shifted ps_Stair_shifted (C8.fnScope st_Stair_shifted) := ⟨rfl, rfl, rfl, by decide +kernel, rfl, by decide +kernel, by decide +kernel⟩
-- 0:self 1:by
theorem nv_Stair_shifted : NL nl_Stair_shifted (C8.fnScope st_Stair_shifted) 0 "self" ∧ NL nl_Stair_shifted (C8.fnScope st_Stair_shifted) 1 "by" := ⟨⟨rfl, rfl⟩, ⟨rfl, rfl⟩⟩
abbrev st_Stair_eq : Stmt := inClass (top 11) 7
abbrev nl_Stair_eq : List Str := ["self", "other"]
abbrev ps_Stair_eq : List Str := ["self", "other"]
theorem sc_Stair_eq : FnScope nl_Stair_eq ps_Stair_eq (C8.fnScope st_Stair_eq) := ⟨rfl, rfl, rfl, by decide +kernel, rfl, by decide +kernel, by decide +kernel⟩
-- 0:self 1:other
theorem nv_Stair_eq : NL nl_Stair_eq (C8.fnScope st_Stair_eq) 0 "self" ∧ NL nl_Stair_eq (C8.fnScope st_Stair_eq) 1 "other" := ⟨⟨rfl, rfl⟩, ⟨rfl, rfl⟩⟩
abbrev st_x_are_corners : Stmt := top 12
abbrev nl_x_are_corners : List Str := ["value", "corner", "at"]
abbrev ps_x_are_corners : List Str := ["value"]
theorem sc_x_are_corners : FnScope nl_x_are_corners ps_x_are_corners (C8.fnScope st_x_are_corners) := ⟨rfl, rfl, rfl, by decide +kernel, rfl, by decide +kernel, by decide +kernel⟩
-- 0:value*
theorem nv_x_are_corners : NC nl_x_are_corners (C8.fnScope st_x_are_corners) 0 "value" := ⟨rfl, rfl⟩
abbrev st_x_course : Stmt := top 13
abbrev nl_x_course : List Str := ["stair", "counts", "corners", "course", "passed", "base", "count"]
abbrev ps_x_course : List Str := ["stair", "counts"]
theorem sc_x_course : FnScope nl_x_course ps_x_course (C8.fnScope st_x_course) := ⟨rfl, rfl, rfl, by decide +kernel, rfl, by decide +kernel, by decide +kernel⟩
-- 0:stair 1:counts 2:corners 3:course 4:passed 5:base 6:count
theorem nv_x_course : NL nl_x_course (C8.fnScope st_x_course) 0 "stair" ∧ NL nl_x_course (C8.fnScope st_x_course) 1 "counts" ∧ NL nl_x_course (C8.fnScope st_x_course) 2 "corners" ∧ NL nl_x_course (C8.fnScope st_x_course) 3 "course" ∧ NL nl_x_course (C8.fnScope st_x_course) 4 "passed" ∧ NL nl_x_course (C8.fnScope st_x_course) 5 "base" ∧ NL nl_x_course (C8.fnScope st_x_course) 6 "count" := ⟨⟨rfl, rfl⟩, ⟨rfl, rfl⟩, ⟨rfl, rfl⟩, ⟨rfl, rfl⟩, ⟨rfl, rfl⟩, ⟨rfl, rfl⟩, ⟨rfl, rfl⟩⟩
abbrev st_purse : Stmt := top 15
abbrev nl_purse : List Str := ["_law_script", "_law_at", "_law_seed"]
abbrev ps_purse : List Str := ["_law_script", "_law_at"]
theorem sc_purse : FnScope nl_purse ps_purse (C8.fnScope st_purse) := ⟨rfl, rfl, rfl, by decide +kernel, rfl, by decide +kernel, by decide +kernel⟩
-- 0:_law_script 1:_law_at 2:_law_seed
theorem nv_purse : NL nl_purse (C8.fnScope st_purse) 0 "_law_script" ∧ NL nl_purse (C8.fnScope st_purse) 1 "_law_at" ∧ NL nl_purse (C8.fnScope st_purse) 2 "_law_seed" := ⟨⟨rfl, rfl⟩, ⟨rfl, rfl⟩, ⟨rfl, rfl⟩⟩
abbrev st_mixed : Stmt := top 16
abbrev nl_mixed : List Str := ["_law_seed", "_law_turn", "_law_at", "_law_mixed_here"]
abbrev ps_mixed : List Str := ["_law_seed", "_law_turn", "_law_at"]
theorem sc_mixed : FnScope nl_mixed ps_mixed (C8.fnScope st_mixed) := ⟨rfl, rfl, rfl, by decide +kernel, rfl, by decide +kernel, by decide +kernel⟩
-- 0:_law_seed 1:_law_turn 2:_law_at 3:_law_mixed_here
theorem nv_mixed : NL nl_mixed (C8.fnScope st_mixed) 0 "_law_seed" ∧ NL nl_mixed (C8.fnScope st_mixed) 1 "_law_turn" ∧ NL nl_mixed (C8.fnScope st_mixed) 2 "_law_at" ∧ NL nl_mixed (C8.fnScope st_mixed) 3 "_law_mixed_here" := ⟨⟨rfl, rfl⟩, ⟨rfl, rfl⟩, ⟨rfl, rfl⟩, ⟨rfl, rfl⟩⟩
abbrev st_draw : Stmt := top 17
abbrev nl_draw : List Str := ["_law_purse_here", "_law_many", "_law_drawn", "_law_found", "_law_piece"]
abbrev ps_draw : List Str := ["_law_purse_here", "_law_many"]
theorem sc_draw : FnScope nl_draw ps_draw (C8.fnScope st_draw) := ⟨rfl, rfl, rfl, by decide +kernel, rfl, by decide +kernel, by decide +kernel⟩
-- 0:_law_purse_here 1:_law_many 2:_law_drawn 3:_law_found 4:_law_piece
theorem nv_draw : NL nl_draw (C8.fnScope st_draw) 0 "_law_purse_here" ∧ NL nl_draw (C8.fnScope st_draw) 1 "_law_many" ∧ NL nl_draw (C8.fnScope st_draw) 2 "_law_drawn" ∧ NL nl_draw (C8.fnScope st_draw) 3 "_law_found" ∧ NL nl_draw (C8.fnScope st_draw) 4 "_law_piece" := ⟨⟨rfl, rfl⟩, ⟨rfl, rfl⟩, ⟨rfl, rfl⟩, ⟨rfl, rfl⟩, ⟨rfl, rfl⟩⟩
abbrev st_purses : Stmt := top 18
abbrev nl_purses : List Str := ["_law_script", "_law_few", "_law_at"]
abbrev ps_purses : List Str := ["_law_script", "_law_few"]
theorem sc_purses : FnScope nl_purses ps_purses (C8.fnScope st_purses) := ⟨rfl, rfl, rfl, by decide +kernel, rfl, by decide +kernel, by decide +kernel⟩
-- 1:_law_few 0:_law_script*
theorem nv_purses : NL nl_purses (C8.fnScope st_purses) 1 "_law_few" ∧ NC nl_purses (C8.fnScope st_purses) 0 "_law_script" := ⟨⟨rfl, rfl⟩, ⟨rfl, rfl⟩⟩
abbrev st_one_of : Stmt := top 19
abbrev nl_one_of : List Str := ["_law_purse_here", "_law_some"]
abbrev ps_one_of : List Str := ["_law_purse_here", "_law_some"]
theorem sc_one_of : FnScope nl_one_of ps_one_of (C8.fnScope st_one_of) := ⟨rfl, rfl, rfl, by decide +kernel, rfl, by decide +kernel, by decide +kernel⟩
-- 0:_law_purse_here 1:_law_some
theorem nv_one_of : NL nl_one_of (C8.fnScope st_one_of) 0 "_law_purse_here" ∧ NL nl_one_of (C8.fnScope st_one_of) 1 "_law_some" := ⟨⟨rfl, rfl⟩, ⟨rfl, rfl⟩⟩
abbrev st_corners : Stmt := top 20
abbrev nl_corners : List Str := ["_law_purse_here", "_law_most", "_law_found", "_law_now", "_law_turn"]
abbrev ps_corners : List Str := ["_law_purse_here", "_law_most"]
theorem sc_corners : FnScope nl_corners ps_corners (C8.fnScope st_corners) := ⟨rfl, rfl, rfl, by decide +kernel, rfl, by decide +kernel, by decide +kernel⟩
-- 0:_law_purse_here 1:_law_most 2:_law_found 3:_law_now 4:_law_turn
theorem nv_corners : NL nl_corners (C8.fnScope st_corners) 0 "_law_purse_here" ∧ NL nl_corners (C8.fnScope st_corners) 1 "_law_most" ∧ NL nl_corners (C8.fnScope st_corners) 2 "_law_found" ∧ NL nl_corners (C8.fnScope st_corners) 3 "_law_now" ∧ NL nl_corners (C8.fnScope st_corners) 4 "_law_turn" := ⟨⟨rfl, rfl⟩, ⟨rfl, rfl⟩, ⟨rfl, rfl⟩, ⟨rfl, rfl⟩, ⟨rfl, rfl⟩⟩
abbrev st_stair : Stmt := top 21
abbrev nl_stair : List Str := ["_law_purse_here", "_law_most"]
abbrev ps_stair : List Str := ["_law_purse_here", "_law_most"]
theorem sc_stair : FnScope nl_stair ps_stair (C8.fnScope st_stair) := ⟨rfl, rfl, rfl, by decide +kernel, rfl, by decide +kernel, by decide +kernel⟩
-- 0:_law_purse_here 1:_law_most
theorem nv_stair : NL nl_stair (C8.fnScope st_stair) 0 "_law_purse_here" ∧ NL nl_stair (C8.fnScope st_stair) 1 "_law_most" := ⟨⟨rfl, rfl⟩, ⟨rfl, rfl⟩⟩
abbrev st_steps : Stmt := top 22
abbrev nl_steps : List Str := ["_law_begin", "_law_corners_here", "_law_many", "_law_found", "_law_count", "_law_corner"]
abbrev ps_steps : List Str := ["_law_begin", "_law_corners_here", "_law_many"]
theorem sc_steps : FnScope nl_steps ps_steps (C8.fnScope st_steps) := ⟨rfl, rfl, rfl, by decide +kernel, rfl, by decide +kernel, by decide +kernel⟩
-- 0:_law_begin 1:_law_corners_here 2:_law_many 3:_law_found 4:_law_count*
theorem nv_steps : NL nl_steps (C8.fnScope st_steps) 0 "_law_begin" ∧ NL nl_steps (C8.fnScope st_steps) 1 "_law_corners_here" ∧ NL nl_steps (C8.fnScope st_steps) 2 "_law_many" ∧ NL nl_steps (C8.fnScope st_steps) 3 "_law_found" ∧ NC nl_steps (C8.fnScope st_steps) 4 "_law_count" := ⟨⟨rfl, rfl⟩, ⟨rfl, rfl⟩, ⟨rfl, rfl⟩, ⟨rfl, rfl⟩, ⟨rfl, rfl⟩⟩
abbrev st_undone : Stmt := top 23
abbrev nl_undone : List Str := ["_law_steps_here", "_law_number", "_law_rises", "_law_some", "_law_count"]
abbrev ps_undone : List Str := ["_law_steps_here", "_law_number", "_law_rises"]
theorem sc_undone : FnScope nl_undone ps_undone (C8.fnScope st_undone) := ⟨rfl, rfl, rfl, by decide +kernel, rfl, by decide +kernel, by decide +kernel⟩
-- 2:_law_rises 3:_law_some 0:_law_steps_here* 1:_law_number*
theorem nv_undone : NL nl_undone (C8.fnScope st_undone) 2 "_law_rises" ∧ NL nl_undone (C8.fnScope st_undone) 3 "_law_some" ∧ NC nl_undone (C8.fnScope st_undone) 0 "_law_steps_here" ∧ NC nl_undone (C8.fnScope st_undone) 1 "_law_number" := ⟨⟨rfl, rfl⟩, ⟨rfl, rfl⟩, ⟨rfl, rfl⟩, ⟨rfl, rfl⟩⟩
abbrev st_right : Stmt := top 24
abbrev nl_right : List Str := ["_law_purse_here", "_law_begin", "_law_corners_here", "_law_kept", "_law_steps_here", "_law_rises", "_law_number", "_law_by", "_law_other", "_law_far", "_law_stair_here", "_law_count"]
abbrev ps_right : List Str := ["_law_purse_here", "_law_begin", "_law_corners_here"]
theorem sc_right : FnScope nl_right ps_right (C8.fnScope st_right) := ⟨rfl, rfl, rfl, by decide +kernel, rfl, by decide +kernel, by decide +kernel⟩
-- 0:_law_purse_here 1:_law_begin 2:_law_corners_here 3:_law_kept 4:_law_steps_here 5:_law_rises 6:_law_number 7:_law_by 8:_law_other 9:_law_far 10:_law_stair_here*
theorem nv_right : NL nl_right (C8.fnScope st_right) 0 "_law_purse_here" ∧ NL nl_right (C8.fnScope st_right) 1 "_law_begin" ∧ NL nl_right (C8.fnScope st_right) 2 "_law_corners_here" ∧ NL nl_right (C8.fnScope st_right) 3 "_law_kept" ∧ NL nl_right (C8.fnScope st_right) 4 "_law_steps_here" ∧ NL nl_right (C8.fnScope st_right) 5 "_law_rises" ∧ NL nl_right (C8.fnScope st_right) 6 "_law_number" ∧ NL nl_right (C8.fnScope st_right) 7 "_law_by" ∧ NL nl_right (C8.fnScope st_right) 8 "_law_other" ∧ NL nl_right (C8.fnScope st_right) 9 "_law_far" ∧ NC nl_right (C8.fnScope st_right) 10 "_law_stair_here" := ⟨⟨rfl, rfl⟩, ⟨rfl, rfl⟩, ⟨rfl, rfl⟩, ⟨rfl, rfl⟩, ⟨rfl, rfl⟩, ⟨rfl, rfl⟩, ⟨rfl, rfl⟩, ⟨rfl, rfl⟩, ⟨rfl, rfl⟩, ⟨rfl, rfl⟩, ⟨rfl, rfl⟩⟩
abbrev st_near_right : Stmt := top 25
abbrev nl_near_right : List Str := ["_law_begin", "_law_corners_here", "_law_some", "_law_stair_here", "_law_one"]
abbrev ps_near_right : List Str := ["_law_begin", "_law_corners_here"]
theorem sc_near_right : FnScope nl_near_right ps_near_right (C8.fnScope st_near_right) := ⟨rfl, rfl, rfl, by decide +kernel, rfl, by decide +kernel, by decide +kernel⟩
-- 0:_law_begin 1:_law_corners_here 2:_law_some 3:_law_stair_here*
theorem nv_near_right : NL nl_near_right (C8.fnScope st_near_right) 0 "_law_begin" ∧ NL nl_near_right (C8.fnScope st_near_right) 1 "_law_corners_here" ∧ NL nl_near_right (C8.fnScope st_near_right) 2 "_law_some" ∧ NC nl_near_right (C8.fnScope st_near_right) 3 "_law_stair_here" := ⟨⟨rfl, rfl⟩, ⟨rfl, rfl⟩, ⟨rfl, rfl⟩, ⟨rfl, rfl⟩⟩
abbrev st_great_right : Stmt := top 26
abbrev nl_great_right : List Str := ["_law_purse_here", "_law_one", "_law_two", "_law_some", "_law_due", "_law_stair_here", "_law_count", "_law_number"]
abbrev ps_great_right : List Str := ["_law_purse_here"]
theorem sc_great_right : FnScope nl_great_right ps_great_right (C8.fnScope st_great_right) := ⟨rfl, rfl, rfl, by decide +kernel, rfl, by decide +kernel, by decide +kernel⟩
-- 0:_law_purse_here 1:_law_one 2:_law_two 3:_law_some 4:_law_due 5:_law_stair_here*
theorem nv_great_right : NL nl_great_right (C8.fnScope st_great_right) 0 "_law_purse_here" ∧ NL nl_great_right (C8.fnScope st_great_right) 1 "_law_one" ∧ NL nl_great_right (C8.fnScope st_great_right) 2 "_law_two" ∧ NL nl_great_right (C8.fnScope st_great_right) 3 "_law_some" ∧ NL nl_great_right (C8.fnScope st_great_right) 4 "_law_due" ∧ NC nl_great_right (C8.fnScope st_great_right) 5 "_law_stair_here" := ⟨⟨rfl, rfl⟩, ⟨rfl, rfl⟩, ⟨rfl, rfl⟩, ⟨rfl, rfl⟩, ⟨rfl, rfl⟩, ⟨rfl, rfl⟩⟩
abbrev st_law : Stmt := top 27
abbrev nl_law : List Str := ["_law_script", "_law_purse_here", "_law_begin", "_law_corners_here", "_law_other"]
abbrev ps_law : List Str := ["_law_script"]
theorem sc_law : FnScope nl_law ps_law (C8.fnScope st_law) := ⟨rfl, rfl, rfl, by decide +kernel, rfl, by decide +kernel, by decide +kernel⟩
-- 0:_law_script 1:_law_purse_here 2:_law_begin 3:_law_corners_here 4:_law_other
theorem nv_law : NL nl_law (C8.fnScope st_law) 0 "_law_script" ∧ NL nl_law (C8.fnScope st_law) 1 "_law_purse_here" ∧ NL nl_law (C8.fnScope st_law) 2 "_law_begin" ∧ NL nl_law (C8.fnScope st_law) 3 "_law_corners_here" ∧ NL nl_law (C8.fnScope st_law) 4 "_law_other" := ⟨⟨rfl, rfl⟩, ⟨rfl, rfl⟩, ⟨rfl, rfl⟩, ⟨rfl, rfl⟩, ⟨rfl, rfl⟩⟩
/-! ### the law's purse -/
/-- a purse at p that has been drawn from at most n times -/
def Purse (H : Hp) (p : Addr) (n : Nat) : Prop := ∃ a b c d : Int, H p = some (.lst [.int a, .int b, .int c, .int d]) ∧ 0 ≤ a ∧ a.natAbs < 2 ^ 1600 ∧ (0 ≤ b ∧ b < 2147483629) ∧ (0 ≤ c ∧ c ≤ n) ∧ (0 ≤ d ∧ d < 1000)
def sp_mixed : Sp := fun vs H Q _ => ∃ s t a : Int, vs = [.int s, .int t, .int a] ∧ (0 ≤ s ∧ s < 2147483629) ∧ (0 ≤ t ∧ t < 2 ^ 40) ∧ (0 ≤ a ∧ a < 1000) ∧ ∀ r : Int, 0 ≤ r → r < 2147483587 → Q (.int r) H
theorem c_mixed {m : Md} {f : Addr} {fd : FuncData} (F : C8.Def m.K m.mg "_law_mixed" st_mixed f fd) (b : L2.Binds m.K fd ps_mixed []) : Cal m 1 "_law_mixed" sp_mixed := by
  refine cal_of F b sc_mixed (fun vs H Q E h => by obtain ⟨_, _, _, rfl, _⟩ := h; rfl) fun X vs H Q E hA h => ?_
  obtain ⟨s, t, a, rfl, hs, ht, ha, k⟩ := h
  obtain ⟨n0, n1, n2, n3⟩ := nv_mixed
  walk_at "B"
  walk_at "V"
  refine g_mulI (.inl (by omega)) ?_
  walk_at "V"
  refine g_mulI (.inl (by omega)) ?_
  walk_at "V"
  refine g_mulI (.inl (by omega)) ?_
  walk_at "V"
  refine g_mulI (.inl (by omega)) ?_
  walk_at "V"
  refine g_modB (by omega) fun r1 h1 h1' => ?_
  walk_at "V"
  refine g_mulI (.inl (by omega)) ?_
  walk_at "V"
  refine g_modB (by omega) fun r2 h2 h2' => ?_
  walk_at "V"
  refine g_mulI (.inl (by omega)) ?_
  walk_at "V"
  refine g_modB (by omega) fun r3 h3 h3' => ?_
  exact k r3 h3 h3'
/-- the purse at p alone has changed: it was drawn from at most j times -/
structure Drew (m : Md) (p : Addr) (n j : Nat) (H H' : Hp) : Prop where
  grow : GrowX m.T (· = p) H H'
  purse : Purse H' p (n + j)
theorem Purse.mono {H : Hp} {p : Addr} {n j : Nat} (h : Purse H p n) (l : n ≤ j) : Purse H p j := by
  obtain ⟨a, b, c, d, h1, h2, h3, h4, h5, h6⟩ := h
  exact ⟨a, b, c, d, h1, h2, h3, h4, ⟨h5.1, by omega⟩, h6⟩
theorem Drew.trans {m : Md} {p : Addr} {n i j : Nat} {H H1 H2 : Hp} (a : Drew m p n i H H1) (b : Drew m p (n + i) j H1 H2) : Drew m p n (i + j) H H2 := ⟨a.grow.trans b.grow, by rw [← Nat.add_assoc]; exact b.purse⟩
theorem Drew.mono {m : Md} {p : Addr} {n i j : Nat} {H H1 : Hp} (a : Drew m p n i H H1) (l : i ≤ j) : Drew m p n j H H1 := ⟨a.grow, a.purse.mono (by omega)⟩
theorem Purse.new {m : Md} {H H' : Hp} {p : Addr} {n : Nat} (h : Purse H p n) (g : Grow m.T H H') : Purse H' p n := by
  obtain ⟨a, b, c, d, h1, r⟩ := h
  exact ⟨a, b, c, d, g.ext _ _ (fun z => z) h1 (fun _ z => by cases z), r⟩
theorem Purse.drew {m : Md} {H H' : Hp} {p : Addr} {n : Nat} (h : Purse H p n) (g : Grow m.T H H') : Drew m p n 0 H H' := ⟨g.to, h.new g⟩
def sp_draw (m : Md) : Sp := fun vs H Q _ => ∃ (p : Addr) (n : Nat) (z : Int), vs = [.ref p, .int z] ∧ Purse H p n ∧ n ≤ 2 ^ 39 ∧ 0 < z ∧ z < 2 ^ 200 ∧
  ∀ (r : Int) (H' : Hp), 0 ≤ r → r < z → Drew m p n 8 H H' → Q (.int r) H'
theorem Purse.at_ {H : Hp} {p : Addr} {n : Nat} (h : Purse H p n) : ∃ xs, H p = some (.lst xs) := ⟨_, h.choose_spec.choose_spec.choose_spec.choose_spec.1⟩
theorem Purse.x {m : Md} {S : Addr → Prop} {H H' : Hp} {p : Addr} {n : Nat} (h : Purse H p n) (g : GrowX m.T S H H') (hs : ¬ S p) : Purse H' p n := by
  obtain ⟨a, b, c, d, h1, r⟩ := h
  exact ⟨a, b, c, d, g.ext _ _ hs h1 (fun _ z => by cases z), r⟩
theorem Drew.pre {m : Md} {H H1 H2 : Hp} {p : Addr} {n j : Nat} (g : Grow m.T H H1) (d : Drew m p n j H1 H2) : Drew m p n j H H2 := ⟨g.to.trans d.grow, d.purse⟩
theorem Drew.post {m : Md} {H H1 H2 : Hp} {p : Addr} {n j : Nat} (d : Drew m p n j H H1) (g : Grow m.T H1 H2) : Drew m p n j H H2 := ⟨d.grow.trans g.to, d.purse.new g⟩
theorem c_draw {m : Md} {f : Addr} {fd : FuncData} (F : C8.Def m.K m.mg "_law_draw" st_draw f fd) (b : L2.Binds m.K fd ps_draw []) (hr : m.mg "range" = none) (M : Cal m 1 "_law_mixed" sp_mixed) : Cal m 2 "_law_draw" (sp_draw m) := by
  refine cal_of F b sc_draw (fun vs H Q E h => by obtain ⟨_, _, _, rfl, _⟩ := h; rfl) fun X vs H Q E hA h => ?_
  obtain ⟨p, n, mm, rfl, ⟨a, bb, c, d, hp, ha, ha2, hb, hc, hd⟩, hn, hm, hm2, k⟩ := h
  obtain ⟨n0, n1, n2, n3, n4⟩ := nv_draw
  walk_at "B"
  walk_at "V"
  refine g_ixL hA (SqL.of hp) (atI_at (j := 0) rfl) ?_
  walk_at "V"
  refine ite2 (fun h0 => ?_) fun h0 => ?_
  · simp only [decide_eq_true_eq] at h0
    walk_at "V"
    refine g_ixL hA (SqL.of hp) (atI_at (j := 0) rfl) ?_
    walk_at "V"
    refine g_modB hm fun r h1 h2 => ?_
    walk_at "V"
    refine g_ixL hA (SqL.of hp) (atI_at (j := 0) rfl) ?_
    walk_at "V"
    refine g_divW (wide_div (b := 200) hm (by omega) (by omega) (by omega)) ?_
    walk_at "V"
    refine ⟨p, _, _, 0, rfl, rfl, hp, rfl, ?_⟩
    walk_at "V"
    refine k r _ h1 h2 ⟨GrowX.set rfl hp (fun _ z => by cases z) (fun _ z => by unfold CodeO at z; cases z) (fun _ z => by cases z) (fun _ _ z => by cases z), a / mm, bb, c, d, by rw [upd_same]; rfl, Int.ediv_nonneg ha (by omega), ?_, hb, by omega, hd⟩
    have q1 : 0 ≤ a / mm := Int.ediv_nonneg ha (by omega)
    have q2 : a / mm ≤ a := Int.ediv_le_self _ ha
    omega
  · walk_at "V"
    have hbits : Builtin.Int.intBits mm ≤ 200 := PyProof.Rows.intBits_le (by omega)
    refine s_forR hA (pg_nl hA n4) hr rfl ?_
    walk_at "V"
    refine g_bits ?_
    walk_at "V"
    refine g_divI (by omega) ?_
    walk_at "V"
    have e : (0 : Int) ≤ (Builtin.Int.intBits mm : Int) / 28 ∧ (Builtin.Int.intBits mm : Int) / 28 ≤ 7 := by omega
    refine ⟨by omega, by omega, fun i σ H' => ∃ c' g : Int, σ = [some (.ref p), some (.int mm), none, some (.int g), σ.getD 4 none] ∧ H' = upd H p (.lst [.int a, .int bb, .int c', .int d]) ∧ 0 ≤ g ∧ 0 ≤ c' ∧ c' ≤ n + i, ?_, ?_, ?_⟩
    · refine ⟨c, 0, rfl, ?_, by omega, by omega, by omega⟩
      funext q
      by_cases z : q = p
      · rw [z, upd_same, hp]
      · rw [upd_ne z]
    · rintro i σ H' hi ⟨c', g, es, rfl, g0, c0, c1⟩
      rw [es]
      walk_at "B"
      walk_at "V"
      refine g_ixL hA (SqL.of upd_same) (atI_at (j := 2) rfl) ?_
      walk_at "V"
      refine ⟨p, _, _, 2, rfl, rfl, upd_same, rfl, ?_⟩
      rw [upd_upd]
      walk_at "V"
      refine g_mulI (.inr (by omega)) ?_
      walk_at "V"
      refine w_call hA M (by omega) rfl ?_
      walk_at "V"
      refine g_ixL hA (SqL.of upd_same) (atI_at (j := 1) rfl) ?_
      walk_at "V"
      refine g_ixL hA (SqL.of upd_same) (atI_at (j := 2) rfl) ?_
      walk_at "V"
      refine g_ixL hA (SqL.of upd_same) (atI_at (j := 3) rfl) ?_
      walk_at "V"
      refine ⟨bb, c' + 1, d, rfl, hb, by omega, by omega, fun r r0 r1 => ?_⟩
      walk_at "V"
      exact ⟨c' + 1, g * 2147483587 + r, rfl, rfl, by omega, by omega, by omega⟩
    · rintro σ H' ⟨c', g, es, rfl, g0, c0, c1⟩
      rw [es]
      walk_at "B"
      walk_at "V"
      refine g_modB hm fun r r0 r1 => ?_
      refine k r _ r0 r1 ⟨GrowX.set rfl hp (fun _ z => by cases z) (fun _ z => by unfold CodeO at z; cases z) (fun _ z => by cases z) (fun _ _ z => by cases z), a, bb, c', d, upd_same, ha, ha2, hb, by omega, hd⟩
def sp_purse (m : Md) : Sp := fun vs H Q _ => ∃ (a : Addr) (ns : List Int) (i : Int), vs = [.ref a, .int i] ∧ SqL m.K H a (ns.map V.int) ∧ 0 ≤ i ∧ i < 1000 ∧ ∀ p H', Grow m.T H H' → New H p → Purse H' p 0 → Q (.ref p) H'
theorem big_mod (z : Int) : 0 ≤ z % ((10 : Int) ^ (60 : Int).toNat) ^ (8 : Int).toNat ∧ (z % ((10 : Int) ^ (60 : Int).toNat) ^ (8 : Int).toNat).natAbs < 2 ^ 1600 := by
  have hp : (0 : Int) < ((10 : Int) ^ (60 : Int).toNat) ^ (8 : Int).toNat := by decide +kernel
  have h1 := Int.emod_nonneg z (show ((10 : Int) ^ (60 : Int).toNat) ^ (8 : Int).toNat ≠ 0 by omega)
  have h2 := Int.emod_lt_of_pos z hp
  have h3 : ((10 : Int) ^ (60 : Int).toNat) ^ (8 : Int).toNat < 2 ^ 1600 := by decide +kernel
  refine ⟨h1, ?_⟩
  have h4 : z % ((10 : Int) ^ (60 : Int).toNat) ^ (8 : Int).toNat < 2 ^ 1600 := Int.lt_trans h2 h3
  omega
theorem c_purse {m : Md} {f : Addr} {fd : FuncData} (F : C8.Def m.K m.mg "_law_purse" st_purse f fd) (b : L2.Binds m.K fd ps_purse []) (hsum : m.mg "sum" = none) (hmax : m.mg "max" = none) : Cal m 1 "_law_purse" (sp_purse m) := by
  refine cal_of F b sc_purse (fun vs H Q E h => by obtain ⟨_, _, _, rfl, _⟩ := h; rfl) fun X vs H Q E hA h => ?_
  obtain ⟨a, ns, i, rfl, hs, hi, hi2, k⟩ := h
  obtain ⟨n0, n1, n2⟩ := nv_purse
  walk_at "B"
  walk_at "V"
  refine g_blt hA hsum rfl bt_sum ?_
  walk_at "V"
  refine w_slice hA ?_
  walk_at "V"
  refine ⟨a, _, rfl, hs, fun p hp => ?_⟩
  walk_at "V"
  obtain ⟨ys, ey, _⟩ := cutV_map V.int ns (some i) (some (i + 1))
  refine g_sum (ns := ys) hA (SqL.of (by rw [← ey]; exact upd_same)) ?_
  generalize ys.sum = z
  walk_at "V"
  refine g_blt hA hmax rfl bt_max ?_
  walk_at "V"
  refine g_powI ⟨by omega, by omega, by omega⟩ ?_
  walk_at "V"
  refine g_max2 hA ?_
  walk_at "V"
  refine g_powI ⟨by omega, by omega, by omega⟩ ?_
  walk_at "V"
  refine g_powW (by omega) (by have := PyProof.Rows.intBits_le (show ((10 : Int) ^ (60 : Int).toNat).natAbs < 2 ^ 200 by decide +kernel); omega) ?_
  walk_at "V"
  refine g_modI (by decide +kernel) ?_
  walk_at "V"
  refine g_modB (by omega) fun r h1 h2 => ?_
  walk_at "V"
  refine ⟨by show 4 ≤ sizeLine; decide, fun d hd => ?_⟩
  obtain ⟨g1, g2⟩ := big_mod (if 0 > z - 10 ^ (18 : Int).toNat then 0 else z - 10 ^ (18 : Int).toNat)
  refine k d _ ((Grow.new hp).trans (Grow.new hd)) (NdefX.upd_none hd) ⟨_, r, 0, i, upd_same, g1, g2, ⟨h1, h2⟩, by omega, ⟨hi, hi2⟩⟩
def sp_one_of (m : Md) : Sp := fun vs H Q _ => ∃ (p : Addr) (n : Nat) (a : Addr) (xs : List V), vs = [.ref p, .ref a] ∧ Purse H p n ∧ n ≤ 2 ^ 39 ∧ SqL m.K H a xs ∧ a ≠ p ∧ 0 < xs.length ∧ xs.length < 1000000 ∧
  ∀ (j : Nat) (v : V) (H' : Hp), xs[j]? = some v → Drew m p n 8 H H' → Q v H'
theorem c_one_of {m : Md} {f : Addr} {fd : FuncData} (F : C8.Def m.K m.mg "_law_one_of" st_one_of f fd) (b : L2.Binds m.K fd ps_one_of []) (hlen : m.mg "len" = none) (D : Cal m 2 "_law_draw" (sp_draw m)) : Cal m 3 "_law_one_of" (sp_one_of m) := by
  refine cal_of F b sc_one_of (fun vs H Q E h => by obtain ⟨_, _, _, _, rfl, _⟩ := h; rfl) fun X vs H Q E hA h => ?_
  obtain ⟨p, n, a, xs, rfl, hp, hn, hs, hne, hl, hl2, k⟩ := h
  obtain ⟨n0, n1⟩ := nv_one_of
  walk_at "B"
  walk_at "V"
  refine w_call hA D (by omega) rfl ?_
  walk_at "V"
  refine g_blt hA hlen rfl bt_len ?_
  walk_at "V"
  refine g_lenL hA hs ?_
  walk_at "V"
  refine ⟨p, n, _, rfl, hp, hn, by omega, by omega, fun r H' r0 r1 dr => ?_⟩
  walk_at "V"
  have hr : (r.toNat : Int) = r := by omega
  rw [← hr]
  refine g_ixL hA (dr.grow.seqL hs hne) (atI_at (List.getElem?_eq_getElem (show r.toNat < xs.length by omega))) ?_
  exact k r.toNat _ H' (List.getElem?_eq_getElem (by omega)) dr
/-- the purses of a list: apart, all new, each fresh -/
structure Purses (m : Md) (H H' : Hp) (r : Addr) (ps : List Addr) : Prop where
  grow : Grow m.T H H'
  isn : New H r
  seq : SqL m.K H' r (ps.map V.ref)
  nd : (r :: ps).Nodup
  new : ∀ p ∈ ps, New H p
  purse : ∀ p ∈ ps, Purse H' p 0
def sp_purses (m : Md) : Sp := fun vs H Q _ => ∃ (a : Addr) (ns : List Int) (few : Int), vs = [.ref a, .int few] ∧ SqL m.K H a (ns.map V.int) ∧ ns.length < 1000 ∧ 0 ≤ few ∧ few < 1000 ∧
  ∀ r ps H', Purses m H H' r ps → (ps.length : Int) = max 1 (min few ns.length) → Q (.ref r) H'
theorem c_purses {m : Md} {f : Addr} {fd : FuncData} (F : C8.Def m.K m.mg "_law_purses" st_purses f fd) (b : L2.Binds m.K fd ps_purses []) (hr : m.mg "range" = none) (hmax : m.mg "max" = none) (hmin : m.mg "min" = none) (hlen : m.mg "len" = none) (D1 : Cal m 1 "_law_purse" (sp_purse m)) : Cal m 2 "_law_purses" (sp_purses m) := by
  refine cal_of F b sc_purses (fun vs H Q E h => by obtain ⟨_, _, _, rfl, _⟩ := h; rfl) fun X vs H Q E hA h => ?_
  obtain ⟨a, ns, few, rfl, hs, hn, hf, hf2, k⟩ := h
  obtain ⟨n1, n0⟩ := nv_purses
  walk_at "B"
  walk_at "V"
  refine w_lcR hA hr rfl (by decide +kernel) (i := 2) ⟨rfl, rfl⟩ ?_
  refine g_blt hA hmax rfl bt_max ?_
  walk_at "V"
  refine g_blt hA hmin rfl bt_min ?_
  walk_at "V"
  refine g_blt hA hlen rfl bt_len ?_
  walk_at "V"
  refine g_lenL hA hs ?_
  walk_at "V"
  refine g_min2 hA ?_
  walk_at "V"
  refine g_max2 hA ?_
  rw [List.length_map]
  have e : (if (if (ns.length : Int) < few then (ns.length : Int) else few) > 1 then (if (ns.length : Int) < few then (ns.length : Int) else few) else 1) = max 1 (min few ns.length) := by omega
  rw [e]
  walk_at "V"
  refine ⟨by omega, by omega, fun D hD => ⟨fun i H' => ∃ ps : List Addr, ps.length = i ∧ Purses m H H' D ps ∧ H' D = some (.lst (ps.map V.ref)), ?_, ?_, ?_⟩⟩
  · exact ⟨[], rfl, ⟨Grow.new hD, hD, SqL.of upd_same, by simp, by simp, by simp⟩, upd_same⟩
  · rintro j H' hj ⟨ps, el, P, hl⟩ X' hX'
    have c0 := nc_of hX' 0 "_law_script"
    have c2 := nl_of hX' 2 "_law_at"
    refine w_call hX' D1 (by omega) rfl ?_
    walk_at "V"
    refine ⟨a, ns, j, rfl, P.grow.seqL hs (fun z => z), by omega, by omega, fun p H2 g np pp => ?_⟩
    have hD2 := g.extN D _ hl (fun _ z => by cases z)
    have hne : D ≠ p := (New.ne np hl).symm
    refine ⟨_, hD2, by rw [List.length_map, sizeLine_eq]; omega, ps ++ [p], by simp [el], ?_, by rw [upd_same]; simp⟩
    have gX := GrowX.lst (T := m.T) (ys := ps.map V.ref ++ [V.ref p]) hD2
    have gr := P.grow.intoNew (g.to.trans gX) (fun c z => by rw [z]; exact P.isn)
    refine ⟨gr, P.isn, by rw [List.map_append]; exact SqL.of upd_same, ?_, ?_, ?_⟩
    · have := P.nd
      have hp : p ∉ ps := fun z => by
        obtain ⟨_, e⟩ := (P.purse p z).at_
        rw [np] at e; cases e
      rw [List.nodup_cons] at this ⊢
      refine ⟨fun z => ?_, List.nodup_append.2 ⟨this.2, by simp, fun x hx y hy => ?_⟩⟩
      · rcases List.mem_append.1 z with z | z
        · exact this.1 z
        · exact hne (List.mem_singleton.1 z)
      · rw [List.mem_singleton.1 hy]; exact fun z => hp (z ▸ hx)
    · intro x hx
      rcases List.mem_append.1 hx with z | z
      · exact P.new x z
      · rw [List.mem_singleton.1 z]; exact P.grow.keep _ np
    · intro x hx
      rcases List.mem_append.1 hx with z | z
      · have nx : x ≠ D := fun w => (List.nodup_cons.1 P.nd).1 (w ▸ z)
        exact ((P.purse x z).new g).x gX nx
      · rw [List.mem_singleton.1 z]; exact pp.x gX hne.symm
  · rintro H' ⟨ps, el, P, hl⟩
    exact k D ps H' P (by omega)
/-! ### stairs, in numbers -/
/-- corners -/
structure Cor (cs : List Int) : Prop where
  asc : cs.Pairwise (· < ·)
  nn : ∀ c ∈ cs, 0 ≤ c
/-- the number of leading corners that are passed at n -/
def pas : List Int → Int → Nat
  | [], _ => 0
  | c :: cs, n => if c ≤ n then pas cs n + 1 else 0
/-- the base behind k corners -/
def bk (b : Int) (cs : List Int) : Nat → Int
  | 0 => b
  | k + 1 => if k % 2 = 0 then bk b cs k - cs.getD k 0 else bk b cs k + cs.getD k 0
def valK (b : Int) (cs : List Int) (k : Nat) (n : Int) : Int := if k % 2 = 1 then bk b cs k + n else bk b cs k
/-- what a stair tells -/
def val (b : Int) (cs : List Int) (n : Int) : Int := valK b cs (pas cs n) n
theorem pas_le : ∀ (cs : List Int) (n : Int), pas cs n ≤ cs.length
  | [], _ => Nat.le_refl 0
  | c :: cs, n => by
    unfold pas
    have := pas_le cs n
    split <;> simp <;> omega
theorem pas_lt : ∀ (cs : List Int) (n : Int) (i : Nat), i < pas cs n → cs.getD i 0 ≤ n
  | [], _, i, h => by simp [pas] at h
  | c :: cs, n, i, h => by
    unfold pas at h
    split at h
    · cases i with
      | zero => simpa using ‹c ≤ n›
      | succ i => simpa using pas_lt cs n i (by omega)
    · omega
theorem pas_ge : ∀ (cs : List Int) (n : Int), pas cs n < cs.length → n < cs.getD (pas cs n) 0
  | [], _, h => by simp [pas] at h
  | c :: cs, n, h => by
    unfold pas at h ⊢
    split
    · rw [if_pos ‹_›] at h
      simpa using pas_ge cs n (by simpa using h)
    · have : ¬ c ≤ n := ‹_›
      simp; omega
theorem pas_uniq : ∀ (cs : List Int) (n : Int) (k : Nat), k ≤ cs.length → (∀ i, i < k → cs.getD i 0 ≤ n) → (k < cs.length → n < cs.getD k 0) → pas cs n = k
  | [], _, k, h, _, _ => by simp at h; simp [pas, h]
  | c :: cs, n, 0, _, _, h => by
    have := h (by simp)
    unfold pas
    rw [if_neg (by simpa using this)]
  | c :: cs, n, k + 1, h1, h2, h3 => by
    unfold pas
    have c0 := h2 0 (by omega)
    rw [if_pos (by simpa using c0), pas_uniq cs n k (by simpa using h1) (fun i hi => by simpa using h2 (i + 1) (by omega)) (fun hk => by simpa using h3 (by simpa using hk))]
section
variable {cs : List Int} (h : Cor cs)
include h
theorem Cor.lt {i j : Nat} (hij : i < j) (hj : j < cs.length) : cs.getD i 0 < cs.getD j 0 := by
  have := List.pairwise_iff_getElem.1 h.asc i j (by omega) hj hij
  simpa [List.getD_eq_getElem?_getD, List.getElem?_eq_getElem hj, List.getElem?_eq_getElem (show i < cs.length by omega)] using this
theorem Cor.nn_at {i : Nat} (hi : i < cs.length) : 0 ≤ cs.getD i 0 := by
  have := h.nn cs[i] (List.getElem_mem hi)
  simpa [List.getD_eq_getElem?_getD, List.getElem?_eq_getElem hi] using this
/-- passed at a corner, and right behind it -/
theorem Cor.pas_at {i : Nat} (hi : i < cs.length) : pas cs (cs.getD i 0) = i + 1 :=
  pas_uniq cs _ (i + 1) (by omega) (fun j hj => by
    rcases Nat.lt_or_ge j i with z | z
    · exact Int.le_of_lt (h.lt z hi)
    · have : j = i := by omega
      rw [this]; exact Int.le_refl _) fun hk => h.lt (by omega) hk
theorem Cor.pas_mono {n m : Int} (hnm : n ≤ m) : pas cs n ≤ pas cs m := by
  rcases Nat.lt_or_ge (pas cs m) (pas cs n) with z | z
  · have h1 := pas_lt cs n (pas cs m) z
    have h2 := pas_ge cs m (by have := pas_le cs n; omega)
    omega
  · exact z
theorem Cor.pas_neg {n : Int} (hn : n < 0) : pas cs n = 0 :=
  pas_uniq cs n 0 (by omega) (fun i hi => by omega) fun hk => by have := h.nn_at hk; omega
theorem Cor.pas_step (n : Int) : pas cs (n + 1) = pas cs n ∨ (pas cs (n + 1) = pas cs n + 1 ∧ pas cs n < cs.length ∧ cs.getD (pas cs n) 0 = n + 1) := by
  have hl := pas_le cs n
  by_cases z : pas cs n < cs.length ∧ cs.getD (pas cs n) 0 = n + 1
  · right
    refine ⟨?_, z.1, z.2⟩
    refine pas_uniq cs _ _ (by omega) (fun i hi => ?_) fun hk => ?_
    · rcases Nat.lt_or_ge i (pas cs n) with w | w
      · have := pas_lt cs n i w; omega
      · have : i = pas cs n := by omega
        rw [this]; omega
    · have := h.lt (show pas cs n < pas cs n + 1 by omega) hk
      omega
  · left
    refine pas_uniq cs _ _ hl (fun i hi => by have := pas_lt cs n i hi; omega) fun hk => ?_
    have h1 := pas_ge cs n hk
    have h2 : cs.getD (pas cs n) 0 ≠ n + 1 := fun w => z ⟨hk, w⟩
    omega
theorem Cor.val_step (b n : Int) : val b cs (n + 1) = val b cs n + (pas cs n % 2 : Nat) := by
  unfold val
  rcases h.pas_step n with e | ⟨e, hl, hc⟩
  · rw [e]
    unfold valK
    split <;> omega
  · rw [e]
    generalize pas cs n = k at hc
    unfold valK
    have e1 : bk b cs (k + 1) = if k % 2 = 0 then bk b cs k - cs.getD k 0 else bk b cs k + cs.getD k 0 := rfl
    rcases Nat.mod_two_eq_zero_or_one k with z | z
    · rw [if_pos (by omega), if_neg (by omega), e1, if_pos z, hc]; omega
    · rw [if_neg (by omega), if_pos (by omega), e1, if_neg (by omega), hc]; omega
theorem Cor.val_zero (b : Int) : val b cs 0 = b := by
  have := h.val_step b (-1)
  rw [h.pas_neg (show (-1 : Int) < 0 by omega)] at this
  rw [show (-1 : Int) + 1 = 0 from rfl] at this
  rw [this]
  unfold val
  rw [h.pas_neg (show (-1 : Int) < 0 by omega)]
  show valK b cs 0 (-1) + 0 = b
  unfold valK bk
  rw [if_neg (by omega)]; omega
/-- along a stretch without corners -/
theorem Cor.val_flat {b n : Int} (m : Nat) (hp : pas cs (n + m) = pas cs n) : val b cs (n + m) = val b cs n + (pas cs n % 2 : Nat) * m := by
  unfold val
  rw [hp]
  unfold valK
  rcases Nat.mod_two_eq_zero_or_one (pas cs n) with z | z <;> simp [z] <;> omega
theorem Cor.val_mono {b n m : Int} (hnm : n ≤ m) : val b cs n ≤ val b cs m := by
  obtain ⟨k, rfl⟩ : ∃ k : Nat, m = n + k := ⟨(m - n).toNat, by omega⟩
  clear hnm
  induction k with
  | zero => simp
  | succ k ih =>
    have := h.val_step b (n + k)
    rw [show n + ((k + 1 : Nat) : Int) = n + k + 1 from by omega, this]
    omega
theorem Cor.filter_pas (n : Int) : (cs.filter fun c => decide (c ≤ n)).length = pas cs n := by
  have h' := h
  clear h
  induction cs with
  | nil => rfl
  | cons c cs ih =>
    have ih := ih ⟨(List.pairwise_cons.1 h'.asc).2, fun x hx => h'.nn x (by simp [hx])⟩
    unfold pas
    by_cases z : c ≤ n
    · rw [List.filter_cons_of_pos (by simpa using z), if_pos z, List.length_cons, ih]
    · rw [if_neg z, List.filter_cons_of_neg (by simpa using z)]
      have : cs.filter (fun c => decide (c ≤ n)) = [] := by
        rw [List.filter_eq_nil_iff]
        intro x hx
        have := (List.pairwise_cons.1 h'.asc).1 x hx
        simp; omega
      rw [this]; rfl
end
/-- the greatest of the first k corners at which at most num is told -/
def undK (b : Int) (cs : List Int) (num : Int) : Nat → Option Nat
  | 0 => none
  | k + 1 => if val b cs (cs.getD k 0) ≤ num then some k else undK b cs num k
def und (b : Int) (cs : List Int) (num : Int) : Option Int :=
  if num < b then some (-1) else match undK b cs num cs.length with
    | none => none
    | some i => if i % 2 = 0 then some (cs.getD i 0 + num - val b cs (cs.getD i 0)) else none
theorem undK_none {b : Int} {cs : List Int} {num : Int} : ∀ {k : Nat}, undK b cs num k = none → ∀ i, i < k → num < val b cs (cs.getD i 0)
  | 0, _, i, hi => by omega
  | k + 1, h, i, hi => by
    unfold undK at h
    split at h
    · cases h
    · rename_i z
      rcases Nat.lt_or_ge i k with w | w
      · exact undK_none h i w
      · have : i = k := by omega
        rw [this]; omega
theorem undK_some {b : Int} {cs : List Int} {num : Int} : ∀ {k i : Nat}, undK b cs num k = some i → i < k ∧ val b cs (cs.getD i 0) ≤ num ∧ ∀ j, i < j → j < k → num < val b cs (cs.getD j 0)
  | 0, i, h => by cases h
  | k + 1, i, h => by
    unfold undK at h
    split at h
    · rename_i z
      cases h
      exact ⟨by omega, z, fun j h1 h2 => by omega⟩
    · rename_i z
      obtain ⟨h1, h2, h3⟩ := undK_some h
      refine ⟨by omega, h2, fun j j1 j2 => ?_⟩
      rcases Nat.lt_or_ge j k with w | w
      · exact h3 j j1 w
      · have : j = k := by omega
        rw [this]; omega
section
variable {cs : List Int} (h : Cor cs)
include h
/-- from a corner up to the next one -/
theorem Cor.val_seg {b : Int} {i : Nat} (hi : i < cs.length) (m : Nat) (hm : i + 1 < cs.length → cs.getD i 0 + m ≤ cs.getD (i + 1) 0) : val b cs (cs.getD i 0 + m) = val b cs (cs.getD i 0) + ((i + 1) % 2 : Nat) * m := by
  induction m with
  | zero => simp
  | succ m ih =>
    have ih := ih (fun w => by have := hm w; omega)
    have hp : pas cs (cs.getD i 0 + m) = i + 1 := by
      refine pas_uniq cs _ _ (by omega) (fun j hj => ?_) fun hk => by have := hm hk; omega
      rcases Nat.lt_or_ge j i with z | z
      · have := h.lt z hi; omega
      · have : j = i := by omega
        rw [this]; omega
    have st := h.val_step b (cs.getD i 0 + m)
    rw [hp] at st
    rw [show cs.getD i 0 + ((m + 1 : Nat) : Int) = cs.getD i 0 + m + 1 from by omega, st, ih]
    rcases Nat.mod_two_eq_zero_or_one (i + 1) with z | z <;> simp [z] <;> omega
theorem Cor.val_first {b : Int} (hl : 0 < cs.length) : val b cs (cs.getD 0 0) = b := by
  unfold val
  rw [h.pas_at hl]
  unfold valK
  rw [if_pos (by omega)]
  show (if 0 % 2 = 0 then b - cs.getD 0 0 else b + cs.getD 0 0) + cs.getD 0 0 = b
  rw [if_pos (by omega)]; omega
/-- far out -/
theorem Cor.pas_all {n : Int} (hn : ∀ c ∈ cs, c ≤ n) : pas cs n = cs.length :=
  pas_uniq cs n _ (Nat.le_refl _) (fun i hi => by
    have := hn cs[i] (List.getElem_mem hi)
    simpa [List.getD_eq_getElem?_getD, List.getElem?_eq_getElem hi] using this) fun w => by omega
theorem Cor.val_far {b n : Int} (hn : ∀ c ∈ cs, c ≤ n) (m : Nat) : val b cs (n + m) = val b cs n + (cs.length % 2 : Nat) * m := by
  have e := h.pas_all hn
  have := h.val_flat (b := b) (n := n) m (by rw [e]; exact h.pas_all fun c hc => by have := hn c hc; omega)
  rw [e] at this
  exact this
/-- what undone tells, by what is told from 0 to 40 -/
theorem Cor.und_eq {b num : Int} (h40 : ∀ c ∈ cs, c ≤ 40) {q : Nat} (hq : q ≤ 41) (hv : ∀ n : Nat, n < 41 → (val b cs n ≤ num ↔ n < q)) :
    und b cs num = if q = 0 then some (-1) else if q < 41 then some ((q : Int) - 1) else if cs.length % 2 = 1 then some (40 + num - val b cs 40) else none := by
  have v0 := hv 0 (by omega)
  have e0 := h.val_zero b
  rw [show ((0 : Nat) : Int) = 0 from rfl, e0] at v0
  unfold und
  by_cases hb : num < b
  · have hq0 : q = 0 := by
      rcases Nat.eq_zero_or_pos q with z | z
      · exact z
      · have := v0.2 z; omega
    rw [if_pos hb, if_pos hq0]
  · have hq1 : 0 < q := v0.1 (by omega)
    rw [if_neg hb, if_neg (by omega)]
    have all : ∀ (v : Int), val b cs 40 = v → v ≤ num → q = 41 := fun v e l => by
      have := (hv 40 (by omega)).1 (by rw [show ((40 : Nat) : Int) = 40 from rfl, e]; exact l)
      omega
    cases hu : undK b cs num cs.length with
    | none =>
      have hl : cs.length = 0 := by
        rcases Nat.eq_zero_or_pos cs.length with z | z
        · exact z
        · have h1 := undK_none hu 0 z
          rw [h.val_first z] at h1; omega
      have hn : cs = [] := List.length_eq_zero_iff.1 hl
      have hq41 : q = 41 := all b (by rw [hn]; rfl) (by omega)
      rw [if_neg (by omega), if_neg (by omega)]
    | some i =>
      obtain ⟨hi, vi, later⟩ := undK_some hu
      have hc0 := h.nn_at hi
      have hci : cs.getD i 0 ≤ 40 := by
        have := h40 cs[i] (List.getElem_mem hi)
        simpa [List.getD_eq_getElem?_getD, List.getElem?_eq_getElem hi] using this
      have seg0 := fun m hm => h.val_seg (b := b) hi m hm
      obtain ⟨c, hc⟩ : ∃ c, cs.getD i 0 = c := ⟨_, rfl⟩
      obtain ⟨v, hvv⟩ : ∃ v, val b cs c = v := ⟨_, rfl⟩
      have seg : ∀ m : Nat, (i + 1 < cs.length → c + m ≤ cs.getD (i + 1) 0) → val b cs (c + m) = v + ((i + 1) % 2 : Nat) * m := by
        intro m hm
        have := seg0 m (by rw [hc]; exact hm)
        rw [hc, hvv] at this
        exact this
      clear seg0
      rw [hc] at hc0 hci vi
      rw [hvv] at vi
      dsimp only
      rw [hc, hvv]
      by_cases ev : i % 2 = 0
      · rw [if_pos ev]
        have od : (i + 1) % 2 = 1 := by omega
        rw [od] at seg
        -- the count t
        obtain ⟨k, hk⟩ : ∃ k : Nat, num - v = k := ⟨(num - v).toNat, by omega⟩
        by_cases hl : i + 1 < cs.length
        · have hc' : cs.getD (i + 1) 0 ≤ 40 := by
            have := h40 cs[i + 1] (List.getElem_mem hl)
            simpa [List.getD_eq_getElem?_getD, List.getElem?_eq_getElem hl] using this
          have up := later (i + 1) (by omega) hl
          have lt' : c < cs.getD (i + 1) 0 := by rw [← hc]; exact h.lt (by omega) hl
          generalize cs.getD (i + 1) 0 = c' at *
          have e' := seg (c' - c).toNat (fun _ => by omega)
          rw [show c + ((c' - c).toNat : Int) = c' from by omega] at e'
          have kl : (k : Int) < c' - c := by omega
          have e1 := seg k (fun _ => by omega)
          have e2 := seg (k + 1) (fun _ => by omega)
          obtain ⟨t, ht⟩ : ∃ t : Nat, c + k = t := ⟨(c + k).toNat, by omega⟩
          have a1 := (hv t (by omega)).1 (by rw [← ht, e1]; omega)
          have a2 : ¬ t + 1 < q := fun w => by
            have := (hv (t + 1) (by omega)).2 w
            rw [show ((t + 1 : Nat) : Int) = c + ((k + 1 : Nat) : Int) from by omega, e2] at this
            omega
          rw [if_pos (by omega)]
          congr 1; omega
        · have lo : cs.length % 2 = 1 := by omega
          obtain ⟨t, ht⟩ : ∃ t : Nat, c + k = t := ⟨(c + k).toNat, by omega⟩
          have e1 := seg k (fun w => absurd w hl)
          have e2 := seg (k + 1) (fun w => absurd w hl)
          by_cases ht40 : t < 40
          · have a1 := (hv t (by omega)).1 (by rw [← ht, e1]; omega)
            have a2 : ¬ t + 1 < q := fun w => by
              have := (hv (t + 1) (by omega)).2 w
              rw [show ((t + 1 : Nat) : Int) = c + ((k + 1 : Nat) : Int) from by omega, e2] at this
              omega
            rw [if_pos (by omega)]
            congr 1; omega
          · have e40 := seg (40 - c).toNat (fun w => absurd w hl)
            rw [show c + ((40 - c).toNat : Int) = 40 from by omega] at e40
            have hq41 := all _ e40 (by omega)
            rw [if_neg (by omega), if_pos lo, e40]
            congr 1; omega
      · rw [if_neg ev]
        have od : (i + 1) % 2 = 0 := by omega
        rw [od] at seg
        have hl : ¬ i + 1 < cs.length := fun hl => by
          have up := later (i + 1) (by omega) hl
          have lt' : c < cs.getD (i + 1) 0 := by rw [← hc]; exact h.lt (by omega) hl
          have e' := seg (cs.getD (i + 1) 0 - c).toNat (fun _ => by omega)
          rw [show c + ((cs.getD (i + 1) 0 - c).toNat : Int) = cs.getD (i + 1) 0 from by omega] at e'
          omega
        have e40 := seg (40 - c).toNat (fun w => absurd w hl)
        rw [show c + ((40 - c).toNat : Int) = 40 from by omega] at e40
        have hq41 := all _ e40 (by simp; exact vi)
        rw [if_neg (by omega), if_neg (by omega)]
end
def sp_is_whole (m : Md) : Sp := fun vs H Q _ => ∃ (v : V) (d : PyData) (A : Addr → Prop), vs = [v] ∧ Ob m.K A H v d ∧ Q (.bl (isWh d)) H
theorem c_is_whole {m : Md} {f : Addr} {fd : FuncData} (F : C8.Def m.K m.mg "is_whole" st_is_whole f fd) (b : L2.Binds m.K fd ps_is_whole []) (hi : m.mg "isinstance" = none) (h1 : m.mg "int" = none) (h2 : m.mg "bool" = none) : Cal m 1 "is_whole" (sp_is_whole m) := by
  refine cal_of F b sc_is_whole (fun vs H Q E h => by obtain ⟨_, _, _, rfl, _⟩ := h; rfl) fun X vs H Q E hA h => ?_
  obtain ⟨v, d, A, rfl, o, k⟩ := h
  have n0 := nv_is_whole
  walk_at "B"
  walk_at "V"
  refine g_blt hA hi rfl bt_isinstance ?_
  walk_at "V"
  refine w_tyn hA h1 rfl bt_int ?_
  walk_at "V"
  refine g_isi hA (.ty "int") o.ty (kit_ty (kit_all "int" (by decide) d)) ?_
  walk_at "V"
  rw [isWh_eq] at k
  refine ite2 (fun h0 => ?_) fun h0 => ?_
  · walk_at "V"
    refine g_blt hA hi rfl bt_isinstance ?_
    walk_at "V"
    refine w_tyn hA h2 rfl bt_bool ?_
    walk_at "V"
    refine g_isi hA (.ty "bool") o.ty (kit_ty (kit_all "bool" (by decide) d)) ?_
    walk_at "V"
    rw [h0] at k
    simpa using k
  · have e : isIn "int" d = false := by simpa using h0
    rw [e] at k
    exact k
def sp_is_count : Sp := fun vs H Q _ => ∃ i : Int, vs = [.int i] ∧ Q (.bl (decide (0 ≤ i))) H
theorem c_is_count {m : Md} {f : Addr} {fd : FuncData} (F : C8.Def m.K m.mg "is_count" st_is_count f fd) (b : L2.Binds m.K fd ps_is_count []) (W : Cal m 1 "is_whole" (sp_is_whole m)) : Cal m 2 "is_count" sp_is_count := by
  refine cal_of F b sc_is_count (fun vs H Q E h => by obtain ⟨_, rfl, _⟩ := h; rfl) fun X vs H Q E hA h => ?_
  obtain ⟨i, rfl, k⟩ := h
  have n0 := nv_is_count
  walk_at "B"
  walk_at "V"
  refine w_call hA W (by omega) rfl ?_
  walk_at "V"
  refine ⟨.int i, .int i, Any, rfl, .int i, ?_⟩
  walk_at "V"
  refine iteT ?_
  walk_at "V"
  exact k
def sp_need_whole : Sp := fun vs H Q _ => ∃ i : Int, vs = [.int i] ∧ Q .non H
theorem c_need_whole {m : Md} {f : Addr} {fd : FuncData} (F : C8.Def m.K m.mg "need_whole" st_need_whole f fd) (b : L2.Binds m.K fd ps_need_whole []) (W : Cal m 1 "is_whole" (sp_is_whole m)) : Cal m 2 "need_whole" sp_need_whole := by
  refine cal_of F b sc_need_whole (fun vs H Q E h => by obtain ⟨_, rfl, _⟩ := h; rfl) fun X vs H Q E hA h => ?_
  obtain ⟨i, rfl, k⟩ := h
  have n0 := nv_need_whole
  walk_at "B"
  walk_at "V"
  refine w_call hA W (by omega) rfl ?_
  walk_at "V"
  refine ⟨.int i, .int i, Any, rfl, .int i, ?_⟩
  walk_at "V"
  exact iteF (b_nil (b_nil k))
def sp_need_count : Sp := fun vs H Q _ => ∃ l i : Int, vs = [.int l, .int i] ∧ 0 ≤ i ∧ l ≤ i ∧ Q .non H
theorem c_need_count {m : Md} {f : Addr} {fd : FuncData} (F : C8.Def m.K m.mg "need_count_from" st_need_count_from f fd) (b : L2.Binds m.K fd ps_need_count_from []) (W : Cal m 2 "is_count" sp_is_count) : Cal m 3 "need_count_from" sp_need_count := by
  refine cal_of F b sc_need_count_from (fun vs H Q E h => by obtain ⟨_, _, rfl, _⟩ := h; rfl) fun X vs H Q E hA h => ?_
  obtain ⟨l, i, rfl, h0, hl, k⟩ := h
  obtain ⟨n0, n1⟩ := nv_need_count_from
  walk_at "B"
  walk_at "V"
  refine w_call hA W (by omega) rfl ?_
  walk_at "V"
  refine ⟨i, rfl, ?_⟩
  rw [decide_eq_true h0]
  walk_at "V"
  refine iteF ?_
  walk_at "V"
  rw [decide_eq_false (by omega)]
  exact iteF (b_nil (b_nil k))
/-- a stair at i: its begin, its corners in a list of its own, at an address of A -/
def StairAt (C : Addr) (A : Addr → Prop) (H : Hp) (i : Addr) (b : Int) (cs : List Int) : Prop := ∃ dx lc, H i = some (.ins C dx [("_begin", .int b), ("_corners", .ref lc)]) ∧ H lc = some (.lst (cs.map V.int)) ∧ A lc
/-- what is known of the class of stairs -/
structure StC (m : Md) (C : Addr) : Prop where
  cl : Cls m.K C
  nb : NoAttr m.K C "_begin"
  nc : NoAttr m.K C "_corners"
  gS : m.mg "Stair" = some (.ref C)
theorem StairAt.sub {C : Addr} {A A' : Addr → Prop} {H : Hp} {i : Addr} {b : Int} {cs : List Int} (s : StairAt C A H i b cs) (h : ∀ a, A a → A' a) : StairAt C A' H i b cs := by
  obtain ⟨dx, lc, h1, h2, h3⟩ := s
  exact ⟨dx, lc, h1, h2, h _ h3⟩
theorem StairAt.grow {T : List (Addr × Str)} {S : Addr → Prop} {C : Addr} {A : Addr → Prop} {H H' : Hp} {i : Addr} {b : Int} {cs : List Int} (s : StairAt C A H i b cs) (g : GrowX T S H H') (n : ∀ a, A a → ¬ S a) (ni : ¬ S i) : StairAt C A H' i b cs := by
  obtain ⟨dx, lc, h1, h2, h3⟩ := s
  exact ⟨dx, lc, g.ext _ _ ni h1 (fun _ z => by cases z), g.ext _ _ (n _ h3) h2 (fun _ z => by cases z), h3⟩
def sp_begin (C : Addr) : Sp := fun vs H Q _ => ∃ (i : Addr) (b : Int) (cs : List Int), vs = [.ref i] ∧ StairAt C Any H i b cs ∧ Q (.int b) H
def sp_corn (m : Md) (C : Addr) : Sp := fun vs H Q _ => ∃ (i : Addr) (b : Int) (cs : List Int), vs = [.ref i] ∧ StairAt C Any H i b cs ∧ ∀ (r : Addr) (H' : Hp), Grow m.T H H' → New H r → H' r = some (.lst (cs.map V.int)) → Q (.ref r) H'
theorem m_begin {m : Md} {C f : Addr} {fd : FuncData} (R : StC m C) (F : C8.Fun m.K "begin" "Stair.begin" st_Stair_begin f fd) : FnG m C8.CX0 1 f fd ps_Stair_begin (sp_begin C) := by
  refine fnG_of F sc_Stair_begin (fun vs H Q E h => by obtain ⟨_, _, _, rfl, _⟩ := h; rfl) fun X vs H Q E hA hM h => ?_
  obtain ⟨i, b, cs, rfl, ⟨dx, lc, h1, h2, _⟩, k⟩ := h
  have n0 := nv_Stair_begin
  walk_at "B"
  walk_at "V"
  refine w_fld hA R.cl R.nb ?_
  walk_at "V"
  exact ⟨i, dx, _, _, rfl, h1, rfl, k⟩
theorem m_corn {m : Md} {C f : Addr} {fd : FuncData} (R : StC m C) (hl : m.mg "list" = none) (F : C8.Fun m.K "corners" "Stair.corners" st_Stair_corners f fd) : FnG m C8.CX0 1 f fd ps_Stair_corners (sp_corn m C) := by
  refine fnG_of F sc_Stair_corners (fun vs H Q E h => by obtain ⟨_, _, _, rfl, _⟩ := h; rfl) fun X vs H Q E hA hM h => ?_
  obtain ⟨i, b, cs, rfl, ⟨dx, lc, h1, h2, _⟩, k⟩ := h
  have n0 := nv_Stair_corners
  walk_at "B"
  walk_at "V"
  refine g_typ hA hl rfl bt_list ?_
  walk_at "V"
  refine w_fld hA R.cl R.nc ?_
  walk_at "V"
  refine ⟨i, dx, _, _, rfl, h1, rfl, ?_⟩
  walk_at "V"
  refine g_listOf hA (.inl (SqL.of h2)) fun p hp => ?_
  exact k p _ (Grow.new hp) hp upd_same
/-- the corners are told to be right -/
def sp_are (m : Md) : Sp := fun vs H Q _ => ∃ (a : Addr) (cs : List Int), vs = [.ref a] ∧ SqL m.K H a (cs.map V.int) ∧ Cor cs ∧ cs.length < 1000 ∧ ∀ H', Grow m.T H H' → Q (.bl true) H'
theorem getD_get {cs : List Int} {j : Nat} (hj : j < cs.length) : cs[j]? = some (cs.getD j 0) := by
  simp [List.getD_eq_getElem?_getD, List.getElem?_eq_getElem hj]
theorem c_are {m : Md} {f : Addr} {fd : FuncData} (F : C8.Def m.K m.mg "_are_corners" st_x_are_corners f fd) (b : L2.Binds m.K fd ps_x_are_corners []) (hi : m.mg "isinstance" = none) (hl : m.mg "list" = none) (ha : m.mg "all" = none) (hr : m.mg "range" = none) (hn : m.mg "len" = none) (W : Cal m 2 "is_count" sp_is_count) : Cal m 3 "_are_corners" (sp_are m) := by
  refine cal_ofM F b sc_x_are_corners (fun vs H Q E h => by obtain ⟨_, _, rfl, _⟩ := h; rfl) fun X vs H Q E hA hM h => ?_
  obtain ⟨a, cs, rfl, hs, hc, hlen, k⟩ := h
  have n0 := nv_x_are_corners
  walk_at "B"
  walk_at "V"
  refine g_blt hA hi rfl bt_isinstance ?_
  walk_at "V"
  refine w_tyn hA hl rfl bt_list ?_
  walk_at "V"
  refine g_isi hA (.ty "list") (tyx_lst hs) (kit_ty (kit_all "list" (by decide) (.list []))) ?_
  walk_at "V"
  refine iteF ?_
  walk_at "V"
  refine g_blt hA ha rfl bt_all ?_
  refine w_cons (w_lcL hA (by decide +kernel) (i := 1) ⟨rfl, rfl⟩ ?_)
  walk_at "V"
  refine ⟨a, _, rfl, hs, fun D hD => ?_⟩
  refine ⟨fun j H' => Grow m.T H H' ∧ H' D = some (.lst ((List.replicate j true).map V.bl)), ⟨Grow.new hD, upd_same⟩, ?_, ?_, ?_⟩
  · rintro j H' _ ⟨g, _⟩
    exact GrowX.seqL g hs fun z => z
  · rintro j x H' hx ⟨g, hd⟩ X' hX'
    have c1 := nl_of hX' 1 "corner"
    rw [List.getElem?_map] at hx
    obtain ⟨c, hcj, rfl⟩ := Option.map_eq_some_iff.1 hx
    have hj : j < cs.length := (List.getElem?_eq_some_iff.1 hcj).1
    refine w_call hX' W (by omega) rfl ?_
    walk_at "V"
    refine ⟨c, rfl, ?_⟩
    rw [decide_eq_true (hc.nn c (List.mem_of_getElem? hcj))]
    refine ⟨_, hd, by rw [List.length_map, List.length_replicate, sizeLine_eq]; omega, Grow.intoNew g (GrowX.lst hd) fun c w => by rw [w]; exact hD, ?_⟩
    rw [upd_same, List.replicate_succ', List.map_append]; rfl
  · rintro H1 ⟨g1, hd⟩
    walk_at "V"
    refine g_all hA (SqL.of hd) ?_
    have e : ∀ n, (List.replicate n true).all id = true := fun n => by simp
    rw [e]
    walk_at "V"
    refine iteF (b_nil ?_)
    walk_at "B"
    walk_at "V"
    refine g_blt hA ha rfl bt_all ?_
    refine w_cons (w_lcR2 hA hr rfl (by decide +kernel) (i := 2) ⟨rfl, rfl⟩ ?_)
    walk_at "V"
    refine g_blt hA hn rfl bt_len ?_
    walk_at "V"
    have hs1 := GrowX.seqL g1 hs fun z => z
    refine g_lenL hA hs1 ?_
    rw [List.length_map]
    walk_at "V"
    refine ⟨1, cs.length, rfl, by omega, fun D2 hD2 => ?_⟩
    refine ⟨fun j H' => Grow m.T H1 H' ∧ H' D2 = some (.lst ((List.replicate j true).map V.bl)), ⟨Grow.new hD2, upd_same⟩, ?_, ?_⟩
    · rintro j H' hj ⟨g, hd⟩ X' hX'
      have c0 := nc_of hX' 0 "value"
      have c2 := nl_of hX' 2 "at"
      have hj1 : j + 1 < cs.length := by omega
      have hsj := GrowX.seqL g hs1 fun z => z
      walk_at "V"
      rw [show (1 + (j : Int) - 1) = (j : Nat) from by omega]
      refine g_ixL hX' hsj (atI_at (by rw [List.getElem?_map, getD_get (show j < cs.length by omega)]; rfl)) ?_
      walk_at "V"
      rw [show (1 + (j : Int)) = ((j + 1 : Nat) : Int) from by omega]
      refine g_ixL hX' hsj (atI_at (by rw [List.getElem?_map, getD_get hj1]; rfl)) ?_
      walk_at "V"
      rw [decide_eq_true (hc.lt (show j < j + 1 by omega) hj1)]
      refine ⟨_, hd, by rw [List.length_map, List.length_replicate, sizeLine_eq]; omega, Grow.intoNew g (GrowX.lst hd) fun c w => by rw [w]; exact hD2, ?_⟩
      rw [upd_same, List.replicate_succ', List.map_append]; rfl
    · rintro H2 ⟨g2, hd2⟩
      walk_at "V"
      refine g_all hA (SqL.of hd2) ?_
      rw [e]
      exact k H2 (g1.trans g2)
def told2 (b : Int) (cs : List Int) (n : Int) : PyData := .tuple [.int (val b cs n), .int ((pas cs n % 2 : Nat) : Int)]
def sp_course (m : Md) (C : Addr) : Sp := fun vs H Q _ => ∃ (i l : Addr) (b : Int) (cs ns : List Int), vs = [.ref i, .ref l] ∧ StairAt C Any H i b cs ∧ Cor cs ∧ cs.length < 1000 ∧ SqL m.K H l (ns.map V.int) ∧ ns.Pairwise (· ≤ ·) ∧ ns.length < 1000 ∧
  ∀ (r : Addr) (xs : List V) (H' : Hp), Grow m.T H H' → New H r → H' r = some (.lst xs) → DaAll m.K Any H' xs (ns.map (told2 b cs)) → Q (.ref r) H'
theorem c_course {m : Md} {C f g1 g2 p1 p2 : Addr} {fd fd1 fd2 : FuncData} (F : C8.Def m.K m.mg "_course" st_x_course f fd) (b : L2.Binds m.K fd ps_x_course []) (R : StC m C) (hn : m.mg "len" = none) (P1 : PropOf m.K C "begin" p1 g1) (F1 : FnG m C8.CX0 1 g1 fd1 ps_Stair_begin (sp_begin C)) (b1 : L2.Binds m.K fd1 ps_Stair_begin [])
    (P2 : PropOf m.K C "corners" p2 g2) (F2 : FnG m C8.CX0 1 g2 fd2 ps_Stair_corners (sp_corn m C)) (b2 : L2.Binds m.K fd2 ps_Stair_corners []) : Cal m 3 "_course" (sp_course m C) := by
  refine cal_of F b sc_x_course (fun vs H Q E h => by obtain ⟨_, _, _, _, _, rfl, _⟩ := h; rfl) fun X vs H Q E hA h => ?_
  obtain ⟨i, l, bb, cs, ns, rfl, st, hc, hcl, hs, hns, hnl, k⟩ := h
  obtain ⟨n0, n1, n2, n3, n4, n5, n6⟩ := nv_x_course
  walk_at "B"
  walk_at "V"
  refine w_prop hA R.cl P2 F2 b2 (by omega) ?_
  walk_at "V"
  have st' := st
  obtain ⟨dx, lc, h1, h2, _⟩ := st'
  refine ⟨i, dx, _, rfl, h1, i, bb, cs, rfl, st, fun c2 H1 gr1 nc2 hc2 => ?_⟩
  walk_at "B"
  walk_at "V"
  refine ⟨by walk_at "S", fun r hr => ?_⟩
  have gr := Grow.new (T := m.T) (o := .lst []) hr
  walk_at "V"
  refine w_prop hA R.cl P1 F1 b1 (by omega) ?_
  walk_at "V"
  have g2' := gr1.trans gr
  have st2 := st.grow (T := m.T) g2' (fun _ _ z => z) (fun z => z)
  have st2' := st2
  obtain ⟨dx2, lc2, h12, h22, _⟩ := st2'
  refine ⟨i, dx2, _, rfl, h12, i, bb, cs, rfl, st2, ?_⟩
  have hrl : New H r := gr1.keep _ hr
  have hc2r : c2 ≠ r := fun w => by rw [← w, hc2] at hr; cases hr
  walk_at "B"
  refine s_forL hA (pg_nl hA n6) ?_
  walk_at "V"
  refine ⟨l, _, rfl, GrowX.seqL g2' hs fun z => z, fun j σ H' => ∃ (kk : Nat) (xs : List V), σ = [some (.ref i), some (.ref l), some (.ref c2), some (.ref r), some (.int kk), some (.int (bk bb cs kk)), σ.getD 6 none] ∧ kk ≤ cs.length ∧ (∀ q, q < kk → ∀ n ∈ ns.drop j, cs.getD q 0 ≤ n) ∧
    H' r = some (.lst xs) ∧ DaAll m.K (fun _ => False) H' xs ((ns.take j).map (told2 bb cs)) ∧ xs.length = j ∧ Grow m.T H H' ∧ H' c2 = some (.lst (cs.map V.int)), ?_, ?_, ?_, ?_⟩
  · exact ⟨0, [], rfl, by omega, fun q hq => by omega, upd_same, .nil, rfl, g2', by rw [upd_ne hc2r]; exact hc2⟩
  · rintro j σ H' _ ⟨_, _, _, _, _, _, _, _, g, _⟩
    exact GrowX.seqL g hs fun z => z
  · rintro j x σ H' hx ⟨kk, xs, es, hk, hpast, hxs, dxs, hxl, g, hcc⟩
    rw [List.getElem?_map] at hx
    obtain ⟨n, hnj, rfl⟩ := Option.map_eq_some_iff.1 hx
    have hj : j < ns.length := (List.getElem?_eq_some_iff.1 hnj).1
    have edrop : ns.drop j = n :: ns.drop (j + 1) := by
      rw [List.drop_eq_getElem_cons hj, (List.getElem?_eq_some_iff.1 hnj).2]
    have hkp : kk ≤ pas cs n := by
      rcases Nat.lt_or_ge (pas cs n) kk with z | z
      · have := pas_ge cs n (by omega)
        have := hpast (pas cs n) z n (by rw [edrop]; simp)
        omega
      · exact z
    rw [es]
    walk_at "B"
    refine s_while hA ⟨fun σ' H'' => ∃ k' : Nat, k' ≤ pas cs n ∧ σ' = [some (.ref i), some (.ref l), some (.ref c2), some (.ref r), some (.int k'), some (.int (bk bb cs k')), some (.int n)] ∧ H'' = H', fun σ' _ => cs.length - (match σ'.getD 4 none with | some (.int p) => p.toNat | _ => 0), ⟨kk, hkp, rfl, rfl⟩, ?_⟩
    rintro σ' H'' ⟨k', hk', rfl, rfl⟩
    have hpl := pas_le cs n
    walk_at "V"
    refine g_blt hA hn rfl bt_len ?_
    walk_at "V"
    refine g_lenL hA (SqL.of hcc) ?_
    rw [List.length_map]
    walk_at "V"
    refine ite2 (fun h0 => ?_) fun h0 => ?_
    · walk_at "V"
      have hlt : k' < cs.length := by simp only [decide_eq_true_eq] at h0; omega
      refine g_ixL hA (SqL.of hcc) (atI_at (by rw [List.getElem?_map, getD_get hlt]; rfl)) ?_
      walk_at "V"
      refine ite2 (fun h1 => ?_) fun h1 => ?_
      · have hle : cs.getD k' 0 ≤ n := by simpa using h1
        have hk2 : k' < pas cs n := by
          rcases Nat.lt_or_ge k' (pas cs n) with z | z
          · exact z
          · have e : k' = pas cs n := by omega
            have := pas_ge cs n (by omega)
            rw [← e] at this; omega
        walk_at "V"
        refine g_modI (by omega) ?_
        walk_at "V"
        have stp : ∀ v, v = bk bb cs (k' + 1) → (∃ k2 : Nat, k2 ≤ pas cs n ∧ [some (V.ref i), some (.ref l), some (.ref c2), some (.ref r), some (.int ((k' : Int) + 1)), some (.int v), some (.int n)] = [some (.ref i), some (.ref l), some (.ref c2), some (.ref r), some (.int k2), some (.int (bk bb cs k2)), some (.int n)] ∧ H'' = H'') ∧ cs.length - ((k' : Int) + 1).toNat < cs.length - (k' : Int).toNat := by
          intro v ev
          refine ⟨⟨k' + 1, by omega, by rw [ev]; rfl, rfl⟩, by omega⟩
        refine ite2 (fun h2 => ?_) fun h2 => ?_
        · walk_at "V"
          refine g_ixL hA (SqL.of hcc) (atI_at (by rw [List.getElem?_map, getD_get hlt]; rfl)) ?_
          walk_at "V"
          refine stp _ ?_
          simp only [decide_eq_true_eq] at h2
          show _ = if k' % 2 = 0 then _ else _
          rw [if_pos (by omega)]
        · walk_at "V"
          refine g_ixL hA (SqL.of hcc) (atI_at (by rw [List.getElem?_map, getD_get hlt]; rfl)) ?_
          walk_at "V"
          refine stp _ ?_
          have h2 : ¬ ((k' : Int) % 2 = 0) := by simpa using h2
          show _ = if k' % 2 = 0 then _ else _
          rw [if_neg (by omega)]
      · have hkp' : k' = pas cs n := by
          have : ¬ cs.getD k' 0 ≤ n := by simpa using h1
          rcases Nat.lt_or_ge k' (pas cs n) with z | z
          · have := pas_lt cs n k' z; omega
          · omega
        subst hkp'
        walk_at "B"
        walk_at "V"
        refine g_append ?_
        walk_at "V"
        refine ⟨tyL hxs, ?_⟩
        walk_at "V"
        refine g_modI (by omega) ?_
        walk_at "V"
        have e2 : ((pas cs n : Int) % 2) = ((pas cs n % 2 : Nat) : Int) := by omega
        rw [e2]
        have hval : ∀ (v w : Int) (q : Addr), H'' q = none → val bb cs n = v → ((pas cs n % 2 : Nat) : Int) = w → ∃ (l' : Addr) (xs' : List V) (y : V), V.ref r = .ref l' ∧ [V.ref q] = [y] ∧ upd H'' q (.tup [.int v, .int w]) l' = some (.lst xs') ∧ xs'.length < sizeLine ∧ (∃ (kk : Nat) (xs : List V), [some (V.ref i), some (.ref l), some (.ref c2), some (.ref r), some (.int (pas cs n : Nat)), some (.int (bk bb cs (pas cs n))), some (.int n)] = [some (.ref i), some (.ref l), some (.ref c2), some (.ref r), some (.int kk), some (.int (bk bb cs kk)), List.getD [some (V.ref i), some (.ref l), some (.ref c2), some (.ref r), some (.int (pas cs n : Nat)), some (.int (bk bb cs (pas cs n))), some (.int n)] 6 none] ∧ kk ≤ cs.length ∧ (∀ q, q < kk → ∀ n ∈ ns.drop (j + 1), cs.getD q 0 ≤ n) ∧
            upd (upd H'' q (.tup [.int v, .int w])) l' (.lst (xs' ++ [y])) r = some (.lst xs) ∧ DaAll m.K (fun _ => False) (upd (upd H'' q (.tup [.int v, .int w])) l' (.lst (xs' ++ [y]))) xs ((ns.take (j + 1)).map (told2 bb cs)) ∧ xs.length = j + 1 ∧ Grow m.T H (upd (upd H'' q (.tup [.int v, .int w])) l' (.lst (xs' ++ [y]))) ∧ upd (upd H'' q (.tup [.int v, .int w])) l' (.lst (xs' ++ [y])) c2 = some (.lst (cs.map V.int))) := by
          intro v w q hq ev ew
          have gq := Grow.new (T := m.T) (o := .tup [.int v, .int w]) hq
          have hx1 := Grow.extN gq _ _ hxs (fun _ z => by cases z)
          have hc1 := Grow.extN gq _ _ hcc (fun _ z => by cases z)
          have gX := GrowX.lst (T := m.T) (ys := xs ++ [V.ref q]) hx1
          refine ⟨r, xs, .ref q, rfl, rfl, hx1, by rw [hxl, sizeLine_eq]; omega, pas cs n, xs ++ [.ref q], rfl, hpl, fun q' hq' n' hn' => ?_, upd_same, ?_, by simp [hxl], Grow.intoNew (g.trans gq) gX fun c z => by rw [z]; exact hrl, by rw [upd_ne hc2r]; exact hc1⟩
          · have h1 := pas_lt cs n q' hq'
            have h2 := (List.pairwise_cons.1 (by rw [← edrop]; exact hns.sublist (List.drop_sublist _ _) : (n :: ns.drop (j + 1)).Pairwise (· ≤ ·))).1 n' hn'
            omega
          · have et : (ns.take (j + 1)).map (told2 bb cs) = (ns.take j).map (told2 bb cs) ++ [told2 bb cs n] := by
              rw [List.take_add_one, hnj]; simp
            rw [et]
            have one : Da m.K (fun _ => False) (upd H'' q (.tup [.int v, .int w])) (.ref q) (told2 bb cs n) := by
              unfold told2
              rw [ev, ew]
              exact .tup (SqT.of upd_same) (.cons (.int _) (.cons (.int _) .nil))
            exact (gX.daAll (Grow.daAll gq dxs) fun _ z => z.elim).append (.cons (gX.da one fun _ z => z.elim) .nil)
        refine ite2 (fun h2 => ?_) fun h2 => ?_
        · have h2 : ((pas cs n % 2 : Nat) : Int) = 1 := by simpa using h2
          walk_at "V"
          refine ⟨by walk_at "S", fun q hq => ?_⟩
          obtain ⟨l', xs', y, e1, e2, e3, e4, rest⟩ := hval (bk bb cs (pas cs n) + n) 1 q hq (by unfold val valK; rw [if_pos (by omega)]) h2
          refine w_nil ⟨l', xs', y, e1, e2, e3, e4, ?_⟩
          exact b_nil rest
        · have h2 : ¬ ((pas cs n % 2 : Nat) : Int) = 1 := by simpa using h2
          walk_at "V"
          refine ⟨by walk_at "S", fun q hq => ?_⟩
          obtain ⟨l', xs', y, e1, e2, e3, e4, rest⟩ := hval (bk bb cs (pas cs n)) 0 q hq (by unfold val valK; rw [if_neg (by omega)]) (by omega)
          refine w_nil ⟨l', xs', y, e1, e2, e3, e4, ?_⟩
          exact b_nil rest
    · have hkp' : k' = pas cs n := by
        have h0 : ¬ ((k' : Int) < cs.length) := by simpa using h0
        omega
      subst hkp'
      walk_at "B"
      walk_at "V"
      refine g_append ?_
      walk_at "V"
      refine ⟨tyL hxs, ?_⟩
      walk_at "V"
      refine g_modI (by omega) ?_
      walk_at "V"
      have e2 : ((pas cs n : Int) % 2) = ((pas cs n % 2 : Nat) : Int) := by omega
      rw [e2]
      have hval : ∀ (v w : Int) (q : Addr), H'' q = none → val bb cs n = v → ((pas cs n % 2 : Nat) : Int) = w → ∃ (l' : Addr) (xs' : List V) (y : V), V.ref r = .ref l' ∧ [V.ref q] = [y] ∧ upd H'' q (.tup [.int v, .int w]) l' = some (.lst xs') ∧ xs'.length < sizeLine ∧ (∃ (kk : Nat) (xs : List V), [some (V.ref i), some (.ref l), some (.ref c2), some (.ref r), some (.int (pas cs n : Nat)), some (.int (bk bb cs (pas cs n))), some (.int n)] = [some (.ref i), some (.ref l), some (.ref c2), some (.ref r), some (.int kk), some (.int (bk bb cs kk)), List.getD [some (V.ref i), some (.ref l), some (.ref c2), some (.ref r), some (.int (pas cs n : Nat)), some (.int (bk bb cs (pas cs n))), some (.int n)] 6 none] ∧ kk ≤ cs.length ∧ (∀ q, q < kk → ∀ n ∈ ns.drop (j + 1), cs.getD q 0 ≤ n) ∧
          upd (upd H'' q (.tup [.int v, .int w])) l' (.lst (xs' ++ [y])) r = some (.lst xs) ∧ DaAll m.K (fun _ => False) (upd (upd H'' q (.tup [.int v, .int w])) l' (.lst (xs' ++ [y]))) xs ((ns.take (j + 1)).map (told2 bb cs)) ∧ xs.length = j + 1 ∧ Grow m.T H (upd (upd H'' q (.tup [.int v, .int w])) l' (.lst (xs' ++ [y]))) ∧ upd (upd H'' q (.tup [.int v, .int w])) l' (.lst (xs' ++ [y])) c2 = some (.lst (cs.map V.int))) := by
        intro v w q hq ev ew
        have gq := Grow.new (T := m.T) (o := .tup [.int v, .int w]) hq
        have hx1 := Grow.extN gq _ _ hxs (fun _ z => by cases z)
        have hc1 := Grow.extN gq _ _ hcc (fun _ z => by cases z)
        have gX := GrowX.lst (T := m.T) (ys := xs ++ [V.ref q]) hx1
        refine ⟨r, xs, .ref q, rfl, rfl, hx1, by rw [hxl, sizeLine_eq]; omega, pas cs n, xs ++ [.ref q], rfl, hpl, fun q' hq' n' hn' => ?_, upd_same, ?_, by simp [hxl], Grow.intoNew (g.trans gq) gX fun c z => by rw [z]; exact hrl, by rw [upd_ne hc2r]; exact hc1⟩
        · have h1 := pas_lt cs n q' hq'
          have h2 := (List.pairwise_cons.1 (by rw [← edrop]; exact hns.sublist (List.drop_sublist _ _) : (n :: ns.drop (j + 1)).Pairwise (· ≤ ·))).1 n' hn'
          omega
        · have et : (ns.take (j + 1)).map (told2 bb cs) = (ns.take j).map (told2 bb cs) ++ [told2 bb cs n] := by
            rw [List.take_add_one, hnj]; simp
          rw [et]
          have one : Da m.K (fun _ => False) (upd H'' q (.tup [.int v, .int w])) (.ref q) (told2 bb cs n) := by
            unfold told2
            rw [ev, ew]
            exact .tup (SqT.of upd_same) (.cons (.int _) (.cons (.int _) .nil))
          exact (gX.daAll (Grow.daAll gq dxs) fun _ z => z.elim).append (.cons (gX.da one fun _ z => z.elim) .nil)
      refine ite2 (fun h2 => ?_) fun h2 => ?_
      · have h2 : ((pas cs n % 2 : Nat) : Int) = 1 := by simpa using h2
        walk_at "V"
        refine ⟨by walk_at "S", fun q hq => ?_⟩
        obtain ⟨l', xs', y, e1, e2, e3, e4, rest⟩ := hval (bk bb cs (pas cs n) + n) 1 q hq (by unfold val valK; rw [if_pos (by omega)]) h2
        refine w_nil ⟨l', xs', y, e1, e2, e3, e4, ?_⟩
        exact b_nil rest
      · have h2 : ¬ ((pas cs n % 2 : Nat) : Int) = 1 := by simpa using h2
        walk_at "V"
        refine ⟨by walk_at "S", fun q hq => ?_⟩
        obtain ⟨l', xs', y, e1, e2, e3, e4, rest⟩ := hval (bk bb cs (pas cs n)) 0 q hq (by unfold val valK; rw [if_neg (by omega)]) (by omega)
        refine w_nil ⟨l', xs', y, e1, e2, e3, e4, ?_⟩
        exact b_nil rest
  · rintro σ H' ⟨kk, xs, es, hk, _, hxs, dxs, hxl, g, hcc⟩
    rw [List.length_map, List.take_length] at *
    rw [es]
    walk_at "B"
    walk_at "V"
    exact k r xs H' g hrl hxs (dxs.sub fun _ z => z.elim)
theorem da_tup {K : PySem.W.Frag} {A : Addr → Prop} {H : Hp} {v : V} {ds : List PyData} (h : Da K A H v (.tuple ds)) : ∃ a xs, v = .ref a ∧ SqT K H a xs ∧ DaAll K A H xs ds := by
  cases h with | tup s r => exact ⟨_, _, rfl, s, r⟩
theorem g_truI {X : Cx} {i : Int} {H : Hp} {QB : Bool → Hp → Prop} (q : QB (i != 0) H) : gTru X (.int i) H QB := ⟨_, rfl, q⟩
/-- the facts of the two properties -/
structure Prp (m : Md) (C : Addr) : Prop where
  pb : ∃ p g fd, PropOf m.K C "begin" p g ∧ FnG m C8.CX0 1 g fd ps_Stair_begin (sp_begin C) ∧ L2.Binds m.K fd ps_Stair_begin []
  pc : ∃ p g fd, PropOf m.K C "corners" p g ∧ FnG m C8.CX0 1 g fd ps_Stair_corners (sp_corn m C) ∧ L2.Binds m.K fd ps_Stair_corners []
def sp_sinit (m : Md) (C : Addr) : Sp := fun vs H Q _ => ∃ (i dx a : Addr) (b : Int) (cs : List Int), vs = [.ref i, .int b, .ref a] ∧ H i = some (.ins C dx []) ∧ SqL m.K H a (cs.map V.int) ∧ a ≠ i ∧ Cor cs ∧ cs.length < 1000 ∧
  ∀ (lc : Addr) (H' : Hp), GrowX m.T (· = i) H H' → New H lc → H' i = some (.ins C dx [("_begin", .int b), ("_corners", .ref lc)]) → H' lc = some (.lst (cs.map V.int)) → Q .non H'
theorem f_sinit {m : Md} {C f : Addr} {fd : FuncData} (R : StC m C) (hl : m.mg "list" = none) (F : C8.Fun m.K "__init__" "Stair.__init__" st_Stair_init f fd) (W : Cal m 2 "need_whole" sp_need_whole) (A : Cal m 3 "_are_corners" (sp_are m)) : FnG m C8.CX0 4 f fd ps_Stair_init (sp_sinit m C) := by
  refine fnG_of F sc_Stair_init (fun vs H Q E h => by obtain ⟨_, _, _, _, _, rfl, _⟩ := h; rfl) fun X vs H Q E hA hM h => ?_
  obtain ⟨i, dx, a, b, cs, rfl, hi, hs, hai, hc, hcl, k⟩ := h
  obtain ⟨n0, n1, n2⟩ := nv_Stair_init
  walk_at "B"
  walk_at "V"
  refine w_call hA W (by omega) rfl ?_
  walk_at "V"
  refine ⟨b, rfl, ?_⟩
  walk_at "B"
  walk_at "V"
  refine w_call hA A (by omega) rfl ?_
  walk_at "V"
  refine ⟨a, cs, rfl, hs, hc, hcl, fun H1 g1 => ?_⟩
  walk_at "V"
  refine iteF (b_nil ?_)
  walk_at "B"
  have hi1 := g1.extN _ _ hi (fun _ z => by cases z)
  refine s_fld hA R.cl R.nb ?_
  walk_at "V"
  refine ⟨i, dx, [], rfl, hi1, by decide, ?_⟩
  have gX : GrowX m.T (· = i) H1 (upd H1 i (.ins C dx (putF "_begin" (.int b) []))) := GrowX.set rfl hi1 (fun _ z => by cases z) (fun _ z => by unfold CodeO at z; cases z) (fun _ z => by cases z) (fun _ _ z => by cases z)
  have hi2 : (upd H1 i (.ins C dx (putF "_begin" (.int b) []))) i = some (.ins C dx [("_begin", .int b)]) := upd_same
  generalize upd H1 i (.ins C dx (putF "_begin" (.int b) [])) = H2 at gX hi2 ⊢
  walk_at "B"
  refine s_fld hA R.cl R.nc ?_
  refine g_typ hA hl rfl bt_list ?_
  walk_at "V"
  have g02 : GrowX m.T (· = i) H H2 := (Grow.to g1).trans gX
  refine g_listOf hA (.inl (g02.seqL hs hai)) fun lc hlc => ?_
  have gl := Grow.new (T := m.T) (o := .lst (cs.map V.int)) hlc
  have hlci : lc ≠ i := fun w => by rw [w, hi2] at hlc; cases hlc
  walk_at "V"
  have hi3 := gl.extN _ _ hi2 (fun _ z => by cases z)
  refine ⟨i, dx, _, rfl, hi3, by show 1 < 1000; decide, ?_⟩
  have gY : GrowX m.T (· = i) _ (upd (upd H2 lc (.lst (cs.map V.int))) i (.ins C dx (putF "_corners" (.ref lc) [("_begin", .int b)]))) := GrowX.set rfl hi3 (fun _ z => by cases z) (fun _ z => by unfold CodeO at z; cases z) (fun _ z => by cases z) (fun _ _ z => by cases z)
  refine b_nil ?_
  exact k lc _ ((g02.trans (Grow.to gl)).trans gY) (g02.keep _ hlc) upd_same (by rw [upd_ne hlci]; exact upd_same)
/-- Stair(e1, e2) -/
theorem w_stair {m : Md} {N : List Str} {sc : Scope} {j k : Nat} {X : Cx} {e1 e2 : Expr} {σ : L2.St} {H : Hp} {Q : VK} {C : Addr} {pos p : Pos} (h : At m N sc k X) (Mk : MakX m C8.CX0 j "Stair" C (sp_sinit m C) []) (hk : j + 1 ≤ k) (hg : sc.names.lookup ("Stair" : Str) = some .globalImplicit)
    (q : wA X [e1, e2] σ H fun vs H1 => ∃ (b : Int) (a : Addr) (cs : List Int), vs = [.int b, .ref a] ∧ SqL m.K H1 a (cs.map V.int) ∧ H1 a ≠ none ∧ Cor cs ∧ cs.length < 1000 ∧ ∀ (i : Addr) (H2 : Hp), Grow m.T H1 H2 → New H1 i → StairAt C (New H1) H2 i b cs → Q (.ref i) H2)
    (he : starEach (e1 :: [e2]) X.env = (false, eval e1 X.env) :: starEach [e2] X.env := by with_unfolding_all rfl) (hpl : (backTo pos (starEach [e2] X.env)).any (·.1) = false := by with_unfolding_all rfl) : wE X (.Call (.Name "Stair" p) [e1, e2] [] pos) σ H Q := by
  refine w_makX (E := C8.E0) h Mk hk hg (fun pins H s e s' I c => C8.pass0 pins σ H s e s' I c) ?_ (by with_unfolding_all decide) he hpl
  unfold wA at q ⊢
  refine fun pos pins s I => wpAny_mono (q pos pins s I) (fun v s' z => ?_) fun _ _ z => z
  obtain ⟨vs, H1, I1, r1, b, a, cs, ev, hs, ha, hc, hl, k⟩ := z
  refine ⟨vs, H1, I1, r1, fun i dx hi hdx hne => ?_⟩
  subst ev
  have g0 : Grow m.T H1 (upd (upd H1 dx (.own i)) i (.ins C dx [])) := (Grow.new hdx).trans (Grow.new (by rw [upd_ne (Ne.symm hne)]; exact hi))
  refine ⟨i, dx, a, b, cs, rfl, upd_same, GrowX.seqL g0 hs fun z => z, fun w => ha (by rw [w]; exact hi), hc, hl, fun lc H' g nl hi' hlc => ⟨rfl, ?_⟩⟩
  exact k i H' (Grow.intoNew g0 g fun c z => by rw [z]; exact hi) hi ⟨dx, lc, hi', hlc, g0.keep _ nl⟩
def sp_value (m : Md) (C : Addr) : Sp := fun vs H Q _ => ∃ (i : Addr) (b n : Int) (cs : List Int), vs = [.ref i, .int n] ∧ StairAt C Any H i b cs ∧ Cor cs ∧ cs.length < 1000 ∧ 0 ≤ n ∧ ∀ H', Grow m.T H H' → Q (.int (val b cs n)) H'
theorem m_value {m : Md} {C f : Addr} {fd : FuncData} (R : StC m C) (F : C8.Fun m.K "value" "Stair.value" st_Stair_value f fd) (b : L2.Binds m.K fd ps_Stair_value []) (me : Meth m.K C "value" f) (W : Cal m 3 "need_count_from" sp_need_count) (Co : Cal m 3 "_course" (sp_course m C)) : MetX m C8.CX0 4 C "value" (sp_value m C) [] := by
  refine ⟨f, fd, ps_Stair_value, [], fnG_of F sc_Stair_value (fun vs H Q E h => by obtain ⟨_, _, _, _, rfl, _⟩ := h; rfl) fun X vs H Q E hA hM h => ?_, R.cl, me, b, .nil⟩
  obtain ⟨i, b, n, cs, rfl, st, hc, hcl, hn, k⟩ := h
  obtain ⟨n0, n1⟩ := nv_Stair_value
  walk_at "B"
  walk_at "V"
  refine w_call hA W (by omega) rfl ?_
  walk_at "V"
  refine ⟨0, n, rfl, hn, hn, ?_⟩
  walk_at "B"
  walk_at "V"
  refine w_call hA Co (by omega) rfl ?_
  walk_at "V"
  refine ⟨by walk_at "S", fun l hl => ?_⟩
  have gl := Grow.new (T := m.T) (o := .lst [.int n]) hl
  refine w_nil ⟨i, l, b, cs, [n], rfl, st.grow (T := m.T) gl (fun _ _ z => z) (fun z => z), hc, hcl, SqL.of upd_same, by simp, by show 1 < 1000; decide, fun r xs H2 g2 nr hr da => ?_⟩
  rw [List.map_cons, List.map_nil] at da
  cases da with | cons d0 rest =>
  cases rest
  obtain ⟨T, ys, rfl, hT, dy⟩ := da_tup d0
  cases dy with | cons p1 dy => cases dy with | cons p2 dy =>
  cases dy
  cases p1
  walk_at "V"
  refine g_ixL hA (SqL.of hr) (atI_at (j := 0) rfl) ?_
  walk_at "V"
  refine g_ixT hA hT (atI_at (j := 0) rfl) ?_
  exact k H2 (gl.trans g2)
def sp_seq (m : Md) (C : Addr) : Sp := fun vs H Q _ => ∃ (i : Addr) (b : Int) (cs : List Int) (y : V), vs = [.ref i, y] ∧ StairAt C Any H i b cs ∧ cs.length < 1000 ∧
  ((∃ (j : Addr) (b' : Int) (cs' : List Int), y = .ref j ∧ StairAt C Any H j b' cs' ∧ cs'.length < 1000 ∧ Q (.bl (decide (b = b' ∧ cs = cs'))) H) ∨ ∃ T, T ∈ ["NoneType", "bool", "int", "str", "list", "tuple", "dict"] ∧ TyX m.K H y (.type T) ∧ Q (.bl false) H)
theorem ints_da {K : PySem.W.Frag} {A : Addr → Prop} {H : Hp} : ∀ ns : List Int, DaAll K A H (ns.map V.int) (ns.map PyData.int)
  | [] => .nil
  | n :: ns => .cons (.int n) (ints_da ns)
theorem ints_shaped (ns : List Int) : SeqAt.shaped (.list (ns.map PyData.int)) = true := by
  have h1 : PyData.canLayAll0 (ns.map PyData.int) = true := by
    induction ns with
    | nil => rfl
    | cons z ns ih => simp [PyData.canLayAll0, PyData.canLay0, ih]
  have h2 : PyData.depthAll (ns.map PyData.int) = 0 := by
    clear h1
    induction ns with
    | nil => rfl
    | cons z ns ih => simp [PyData.depthAll, PyData.depth, ih]
  simp [SeqAt.shaped, PyData.canLay0, h1, PyData.depth, h2]
theorem ints_eqv : ∀ a b : List Int, PyData.eqvAll (a.map PyData.int) (b.map PyData.int) = decide (a = b)
  | [], [] => rfl
  | [], _ :: _ => by simp [PyData.eqvAll]
  | _ :: _, [] => by simp [PyData.eqvAll]
  | x :: a, y :: b => by
    show (PyData.eqv (.int x) (.int y) && PyData.eqvAll (a.map PyData.int) (b.map PyData.int)) = _
    rw [ints_eqv a b, show PyData.eqv (.int x) (.int y) = (x == y) from rfl]
    by_cases h1 : x = y
    · by_cases h2 : a = b <;> simp [h1, h2]
    · simp [h1]
theorem list_eqv (a b : List Int) : PyData.eqv (.list (a.map PyData.int)) (.list (b.map PyData.int)) = decide (a = b) := ints_eqv a b
theorem m_seq {m : Md} {C f : Addr} {fd : FuncData} (R : StC m C) (hi : m.mg "isinstance" = none) (F : C8.Fun m.K "__eq__" "Stair.__eq__" st_Stair_eq f fd) (b : L2.Binds m.K fd ps_Stair_eq []) (me : Meth m.K C "__eq__" f)
    (ty : ∀ (H : Hp) (i dx : Addr) (fs : List (Str × V)), H i = some (.ins C dx fs) → TyX m.K H (.ref i) (.ref C)) (own : PySem.W.kitOne m.K (.ref C) (.ref C) = some true) (oth : ∀ T ∈ ["NoneType", "bool", "int", "str", "list", "tuple", "dict"], PySem.W.kitOne m.K (.type T) (.ref C) = some false) : MetX m C8.CX0 1 C "__eq__" (sp_seq m C) [] := by
  refine ⟨f, fd, ps_Stair_eq, [], fnG_of F sc_Stair_eq (fun vs H Q E h => by obtain ⟨_, _, _, _, rfl, _⟩ := h; rfl) fun X vs H Q E hA hM h => ?_, R.cl, me, b, .nil⟩
  obtain ⟨i, b, cs, y, rfl, ⟨dx, lc, h1, h2, _⟩, hl, k⟩ := h
  obtain ⟨n0, n1⟩ := nv_Stair_eq
  walk_at "B"
  walk_at "V"
  refine g_blt hA hi rfl bt_isinstance ?_
  walk_at "V"
  refine w_glb (v := .ref C) hA R.gS rfl rfl ?_
  walk_at "V"
  rcases k with ⟨j, b', cs', rfl, ⟨dx', lc', h1', h2', _⟩, hl', k⟩ | ⟨T, hT, ty', k⟩
  · refine g_isi hA (.own C) (ty H j dx' _ h1') own ?_
    walk_at "V"
    refine iteT ?_
    walk_at "V"
    refine w_fld hA R.cl R.nb ?_
    walk_at "V"
    refine ⟨i, dx, _, _, rfl, h1, rfl, ?_⟩
    refine w_fld hA R.cl R.nb ?_
    walk_at "V"
    refine ⟨j, dx', _, _, rfl, h1', rfl, ?_⟩
    walk_at "V"
    by_cases hb : b = b'
    · rw [decide_eq_true hb]
      refine iteT ?_
      walk_at "V"
      refine w_fld hA R.cl R.nc ?_
      walk_at "V"
      refine ⟨i, dx, _, _, rfl, h1, rfl, ?_⟩
      refine w_fld hA R.cl R.nc ?_
      walk_at "V"
      refine ⟨j, dx', _, _, rfl, h1', rfl, ?_⟩
      refine g_eqD hA (Dp.lst (SqL.of h2) (DaAll.dp _ _ (ints_da (A := Any) cs))) (Dp.lst (SqL.of h2') (DaAll.dp _ _ (ints_da (A := Any) cs'))) (ints_shaped _) (ints_shaped _) ?_
      rw [list_eqv]
      have e : decide (b = b' ∧ cs = cs') = decide (cs = cs') := by simp [hb]
      rw [e] at k
      exact k
    · rw [decide_eq_false hb]
      refine iteF ?_
      have e : decide (b = b' ∧ cs = cs') = false := by simp [hb]
      rw [e] at k
      exact k
  · refine g_isi hA (.own C) ty' (oth T hT) ?_
    walk_at "V"
    exact iteF k
theorem DaAll.split {K : PySem.W.Frag} {A : Addr → Prop} {H : Hp} : ∀ {ds es : List PyData} {xs : List V}, DaAll K A H xs (ds ++ es) → ∃ ys zs, xs = ys ++ zs ∧ DaAll K A H ys ds ∧ DaAll K A H zs es
  | [], es, xs, h => ⟨[], xs, rfl, .nil, h⟩
  | d :: ds, es, _, .cons a r => by
    obtain ⟨ys, zs, e, h1, h2⟩ := DaAll.split r
    exact ⟨_ :: ys, zs, by rw [e]; rfl, .cons a h1, h2⟩
theorem at_lastL (hd : List V) (x : V) : atI (hd ++ [x]) (-1) = some x := by
  unfold atI ixN
  rw [if_neg (by decide), List.length_append, List.length_singleton, if_pos (by omega)]
  show (hd ++ [x])[((-1 : Int) + ((hd.length + 1 : Nat) : Int)).toNat]? = some x
  rw [show ((-1 : Int) + ((hd.length + 1 : Nat) : Int)).toNat = hd.length from by omega]
  simp
/-- the last corner, 0 where there is none -/
def lastC (cs : List Int) : Int := (0 :: cs).getLast (by simp)
theorem lastC_nil : lastC [] = 0 := rfl
theorem lastC_at {cs : List Int} (h : 0 < cs.length) : lastC cs = cs.getD (cs.length - 1) 0 := by
  unfold lastC
  rw [List.getLast_cons (by intro z; rw [z] at h; simp at h), List.getLast_eq_getElem]
  simp [List.getD_eq_getElem?_getD, List.getElem?_eq_getElem (show cs.length - 1 < cs.length by omega)]
theorem Cor.pas_last {cs : List Int} (h : Cor cs) : pas cs (lastC cs) % 2 = cs.length % 2 := by
  rcases Nat.eq_zero_or_pos cs.length with z | z
  · rw [List.length_eq_zero_iff.1 z]; rfl
  · rw [lastC_at z, h.pas_at (by omega)]
    congr 1; omega
theorem Cor.sorted0 {cs : List Int} (h : Cor cs) : (0 :: cs).Pairwise (· ≤ ·) := by
  refine List.pairwise_cons.2 ⟨fun c hc => h.nn c hc, ?_⟩
  exact h.asc.imp fun z => Int.le_of_lt z
theorem split_last {α : Type} (x : α) (l : List α) : ∃ hd, x :: l = hd ++ [(x :: l).getLast (by simp)] := ⟨_, (List.dropLast_concat_getLast (by simp)).symm⟩
def sp_end (m : Md) (C : Addr) : Sp := fun vs H Q _ => ∃ (i : Addr) (b : Int) (cs : List Int), vs = [.ref i] ∧ StairAt C Any H i b cs ∧ Cor cs ∧ cs.length < 900 ∧ ∀ H', Grow m.T H H' → Q (if cs.length % 2 = 1 then .non else .int (val b cs (lastC cs))) H'
theorem m_end {m : Md} {C f : Addr} {fd : FuncData} (R : StC m C) (F : C8.Fun m.K "end" "Stair.end" st_Stair_end f fd) (b : L2.Binds m.K fd ps_Stair_end []) (me : Meth m.K C "end" f) (Co : Cal m 3 "_course" (sp_course m C)) : MetX m C8.CX0 4 C "end" (sp_end m C) [] := by
  refine ⟨f, fd, ps_Stair_end, [], fnG_of F sc_Stair_end (fun vs H Q E h => by obtain ⟨_, _, _, rfl, _⟩ := h; rfl) fun X vs H Q E hA hM h => ?_, R.cl, me, b, .nil⟩
  obtain ⟨i, b, cs, rfl, st, hc, hcl, k⟩ := h
  obtain ⟨n0, n1, n2⟩ := nv_Stair_end
  walk_at "B"
  refine s_two hA (pg_nl hA n1) (pg_nl hA n2) ?_
  walk_at "V"
  refine w_call hA Co (by omega) rfl ?_
  walk_at "V"
  refine ⟨by walk_at "S", fun l hl => ?_⟩
  have gl := Grow.new (T := m.T) (o := .lst [.int 0]) hl
  have st1 := st.grow (T := m.T) gl (fun _ _ z => z) (fun z => z)
  have st1' := st1
  obtain ⟨dx, lc, h1, h2, _⟩ := st1'
  refine w_fld hA R.cl R.nc ?_
  walk_at "V"
  refine ⟨i, dx, _, _, rfl, h1, rfl, ?_⟩
  refine g_cat upd_same h2 (by rw [List.length_map, sizeLine_eq]; show 1 + cs.length ≤ _; omega) fun p hp => ?_
  have gp := Grow.new (T := m.T) (o := .lst ([.int 0] ++ cs.map V.int)) hp
  have g2 := gl.trans gp
  walk_at "V"
  refine ⟨i, p, b, cs, 0 :: cs, rfl, st.grow (T := m.T) g2 (fun _ _ z => z) (fun z => z), hc, by omega, SqL.of upd_same, hc.sorted0, by simp; omega, fun r xs H2 g3 nr hr da => ?_⟩
  obtain ⟨hd, ehd⟩ := split_last 0 cs
  have el : (0 :: cs).getLast (by simp) = lastC cs := rfl
  rw [el] at ehd
  rw [ehd, List.map_append] at da
  obtain ⟨ys, zs, exs, _, dz⟩ := DaAll.split da
  rw [List.map_cons, List.map_nil] at dz
  cases dz with | @cons x _ _ _ dx' rest =>
  cases rest
  subst exs
  obtain ⟨T, ys2, rfl, hT, dy⟩ := da_tup dx'
  cases dy with | cons p1 dy => cases dy with | cons p2 dy =>
  cases dy
  cases p1
  cases p2
  walk_at "V"
  refine g_ixL hA (SqL.of hr) (at_lastL _ _) ?_
  refine ⟨T, _, _, rfl, hT, ?_⟩
  walk_at "B"
  walk_at "V"
  have e2 := hc.pas_last
  refine g_truI ?_
  rw [e2]
  have kk := k H2 (g2.trans g3)
  rcases Nat.mod_two_eq_zero_or_one cs.length with z | z
  · rw [if_neg (by omega)] at kk
    rw [z]
    refine iteF ?_
    walk_at "V"
    exact kk
  · rw [if_pos z] at kk
    rw [z]
    refine iteT ?_
    walk_at "V"
    exact kk
def sp_shifted (m : Md) (C : Addr) : Sp := fun vs H Q _ => ∃ (i : Addr) (b n : Int) (cs : List Int), vs = [.ref i, .int n] ∧ StairAt C Any H i b cs ∧ Cor cs ∧ cs.length < 1000 ∧ ∀ (j : Addr) (H' : Hp), Grow m.T H H' → New H j → StairAt C (New H) H' j (b + n) cs → Q (.ref j) H'
theorem m_shifted {m : Md} {C f : Addr} {fd : FuncData} (R : StC m C) (F : C8.Fun m.K "shifted" "Stair.shifted" st_Stair_shifted f fd) (b : L2.Binds m.K fd ps_Stair_shifted []) (me : Meth m.K C "shifted" f) (W : Cal m 2 "need_whole" sp_need_whole) (Mk : MakX m C8.CX0 4 "Stair" C (sp_sinit m C) []) : MetX m C8.CX0 6 C "shifted" (sp_shifted m C) [] := by
  refine ⟨f, fd, ps_Stair_shifted, [], fnG_of F sc_Stair_shifted (fun vs H Q E h => by obtain ⟨_, _, _, _, rfl, _⟩ := h; rfl) fun X vs H Q E hA hM h => ?_, R.cl, me, b, .nil⟩
  obtain ⟨i, b, n, cs, rfl, st, hc, hcl, k⟩ := h
  obtain ⟨n0, n1⟩ := nv_Stair_shifted
  obtain ⟨dx, lc, h1, h2, _⟩ := st
  walk_at "B"
  walk_at "V"
  refine w_call hA W (by omega) rfl ?_
  walk_at "V"
  refine ⟨n, rfl, ?_⟩
  walk_at "B"
  walk_at "V"
  refine w_stair hA Mk (by omega) rfl ?_
  walk_at "V"
  refine w_fld hA R.cl R.nb ?_
  walk_at "V"
  refine ⟨i, dx, _, _, rfl, h1, rfl, ?_⟩
  walk_at "V"
  refine w_fld hA R.cl R.nc ?_
  walk_at "V"
  refine ⟨i, dx, _, _, rfl, h1, rfl, ?_⟩
  walk_at "V"
  exact ⟨b + n, lc, cs, rfl, SqL.of h2, by rw [h2]; simp, hc, hcl, fun j H2 g2 nj sj => k j H2 g2 nj sj⟩
def undV (o : Option Int) : V := match o with | none => .non | some z => .int z
def sp_undone (m : Md) (C : Addr) : Sp := fun vs H Q _ => ∃ (i : Addr) (b num : Int) (cs : List Int), vs = [.ref i, .int num] ∧ StairAt C Any H i b cs ∧ Cor cs ∧ cs.length < 1000 ∧ ∀ H', Grow m.T H H' → Q (undV (und b cs num)) H'
theorem m_undone {m : Md} {C f : Addr} {fd : FuncData} (R : StC m C) (hz : m.mg "zip" = none) (F : C8.Fun m.K "undone" "Stair.undone" st_Stair_undone f fd) (b : L2.Binds m.K fd ps_Stair_undone []) (me : Meth m.K C "undone" f) (W : Cal m 2 "need_whole" sp_need_whole) (Co : Cal m 3 "_course" (sp_course m C)) : MetX m C8.CX0 4 C "undone" (sp_undone m C) [] := by
  refine ⟨f, fd, ps_Stair_undone, [], fnG_of F sc_Stair_undone (fun vs H Q E h => by obtain ⟨_, _, _, _, rfl, _⟩ := h; rfl) fun X vs H Q E hA hM h => ?_, R.cl, me, b, .nil⟩
  obtain ⟨i, b, num, cs, rfl, st, hc, hcl, k⟩ := h
  obtain ⟨n0, n1, n2, n3, n4⟩ := nv_Stair_undone
  have st' := st
  obtain ⟨dx, lc, h1, h2, _⟩ := st'
  walk_at "B"
  walk_at "V"
  refine w_call hA W (by omega) rfl ?_
  walk_at "V"
  refine ⟨num, rfl, ?_⟩
  walk_at "B"
  walk_at "V"
  refine w_fld hA R.cl R.nb ?_
  walk_at "V"
  refine ⟨i, dx, _, _, rfl, h1, rfl, ?_⟩
  walk_at "V"
  refine ite2 (fun h0 => ?_) fun h0 => ?_
  · have h0 : num < b := by simpa using h0
    walk_at "V"
    have e : und b cs num = some (-1) := by unfold und; rw [if_pos h0]
    rw [e] at k
    exact k H GrowX.refl
  · have h0 : ¬ num < b := by simpa using h0
    refine b_nil ?_
    have eu : und b cs num = (match undK b cs num cs.length with | none => none | some i => if i % 2 = 0 then some (cs.getD i 0 + num - val b cs (cs.getD i 0)) else none) := by
      unfold und; rw [if_neg h0]; all_goals rfl
    walk_at "B"
    refine s_forZ hA (pg_tup hA.calm (pgs_cons (pg_nl hA n2) (pgs_cons (pg_tup hA.calm (pgs_cons (pg_nl hA n3) (pgs_cons (pg_nl hA n4) pgs_nil (by with_unfolding_all rfl)) (by with_unfolding_all rfl)) (by with_unfolding_all rfl) (by with_unfolding_all rfl)) pgs_nil (by with_unfolding_all rfl)) (by with_unfolding_all rfl)) (by with_unfolding_all rfl) (by with_unfolding_all rfl)) hz rfl ?_
    refine w_cons (w_rev hA (w_fld hA R.cl R.nc ?_))
    walk_at "V"
    refine ⟨i, dx, _, _, rfl, h1, rfl, lc, _, rfl, SqL.of h2, fun p1 hp1 => ?_⟩
    have g1 := Grow.new (T := m.T) (o := .lst (cs.map V.int).reverse) hp1
    have st1 := st.grow (T := m.T) g1 (fun _ _ z => z) (fun z => z)
    have st1' := st1
    obtain ⟨dx1, lc1, h11, h21, _⟩ := st1'
    refine w_cons (w_rev hA ?_)
    refine w_call hA Co (by omega) rfl ?_
    walk_at "V"
    refine w_fld hA R.cl R.nc ?_
    walk_at "V"
    refine ⟨i, dx1, _, _, rfl, h11, rfl, ?_⟩
    refine w_nil ⟨i, lc1, b, cs, cs, rfl, st1, hc, hcl, SqL.of h21, hc.asc.imp fun z => Int.le_of_lt z, hcl, fun r xs H2 g2 nr hr da => ?_⟩
    refine ⟨r, xs, rfl, SqL.of hr, fun p2 hp2 => ?_⟩
    have g3 := Grow.new (T := m.T) (o := .lst xs.reverse) hp2
    have hxl : xs.length = cs.length := by rw [da.length, List.length_map]
    have hp1' := Grow.extN (g2.trans g3) _ _ upd_same (fun _ z => by cases z)
    refine w_nil ⟨p1, p2, _, xs.reverse, rfl, SqL.of hp1', SqL.of upd_same, by simp [hxl], ?_⟩
    have gall := (g1.trans g2).trans g3
    have da3 := Grow.daAll g3 da
    have hp2' := upd_same (H := H2) (a := p2) (o := .lst xs.reverse)
    generalize upd H2 p2 (.lst xs.reverse) = H3 at *
    refine ⟨fun j σ H' => σ = [some (.ref i), some (.int num), σ.getD 2 none, σ.getD 3 none, σ.getD 4 none] ∧ Grow m.T H3 H' ∧ j ≤ cs.length ∧ undK b cs num cs.length = undK b cs num (cs.length - j), ⟨rfl, GrowX.refl, by omega, rfl⟩, ?_, ?_, ?_⟩
    · rintro j σ H' ⟨_, g, _⟩
      exact ⟨GrowX.seqL g (SqL.of hp1') fun z => z, GrowX.seqL g (SqL.of hp2') fun z => z⟩
    · rintro j x y T σ H' hx hy ⟨es, g, hj, hu⟩ hT
      have hjl : j < cs.length := by
        have := (List.getElem?_eq_some_iff.1 hx).1
        simpa using this
      obtain ⟨q, hq⟩ : ∃ q, cs.length - j = q + 1 := ⟨cs.length - j - 1, by omega⟩
      have hql : q < cs.length := by omega
      have ex : x = .int (cs.getD q 0) := by
        rw [List.getElem?_reverse (by simpa using hjl)] at hx
        rw [List.length_map, show cs.length - 1 - j = q from by omega, List.getElem?_map, getD_get hql] at hx
        exact (Option.some.inj hx).symm
      obtain ⟨pd, hpd, dy⟩ := da3.getV (v := y) (i := q) (by
        rw [List.getElem?_reverse (by rw [hxl]; exact hjl), hxl, show cs.length - 1 - j = q from by omega] at hy
        exact hy)
      rw [List.getElem?_map, getD_get hql] at hpd
      obtain rfl : told2 b cs (cs.getD q 0) = pd := by simpa using hpd
      subst ex
      have gT := Grow.new (T := m.T) (o := .tup [V.int (cs.getD q 0), y]) hT
      obtain ⟨T2, ys2, rfl, hT2, dys⟩ := da_tup (Grow.da (g.trans gT) dy)
      cases dys with | cons p1' dys => cases dys with | cons p2' dys =>
      cases dys
      cases p1'
      cases p2'
      refine ⟨T, _, rfl, SqT.of upd_same, rfl, _, _, rfl, _, [], rfl, ⟨T2, _, rfl, (by rw [hA.kk]; exact hT2), rfl, _, _, rfl, _, [], rfl, ⟨rfl, ⟨rfl, ?_⟩⟩⟩⟩
      rw [es]
      walk_at "B"
      walk_at "V"
      rw [hq] at hu
      refine ite2 (fun h3 => ?_) fun h3 => ?_
      · have h3 : val b cs (cs.getD q 0) ≤ num := by simpa using h3
        have e3 : undK b cs num cs.length = some q := by rw [hu]; unfold undK; rw [if_pos h3]
        rw [e3] at eu
        rw [eu] at k
        have kk := k _ (gall.trans (g.trans gT))
        dsimp only at kk
        walk_at "V"
        refine g_truI ?_
        rw [hc.pas_at hql]
        rcases Nat.mod_two_eq_zero_or_one q with z | z
        · rw [if_pos z] at kk
          rw [show (q + 1) % 2 = 1 from by omega]
          refine iteT ?_
          walk_at "V"
          exact kk
        · rw [if_neg (by omega)] at kk
          rw [show (q + 1) % 2 = 0 from by omega]
          refine iteF ?_
          walk_at "V"
          exact kk
      · have h3 : ¬ val b cs (cs.getD q 0) ≤ num := by simpa using h3
        refine b_nil (b_nil ?_)
        refine ⟨rfl, g.trans gT, by omega, ?_⟩
        rw [hu, show cs.length - (j + 1) = q from by omega]
        show (if val b cs (cs.getD q 0) ≤ num then some q else undK b cs num q) = _
        rw [if_neg h3]
    · rintro σ H' ⟨es, g, _, hu⟩
      rw [es]
      walk_at "B"
      walk_at "V"
      rw [List.length_reverse, List.length_map, Nat.sub_self] at hu
      rw [hu] at eu
      have e : und b cs num = none := eu
      rw [e] at k
      exact k H' (gall.trans g)
/-- corners as they are drawn -/
structure Drn (most : Nat) (cs : List Int) : Prop where
  cor : Cor cs
  len : cs.length ≤ most
  top : ∀ c ∈ cs, c ≤ 5 * cs.length - 2
def sp_corners (m : Md) : Sp := fun vs H Q _ => ∃ (p : Addr) (n most : Nat), vs = [.ref p, .int most] ∧ Purse H p n ∧ n ≤ 2 ^ 37 ∧ most ≤ 50 ∧ ∀ (r : Addr) (cs : List Int) (H' : Hp), Drew m p n (24 + 8 * most) H H' → New H r → H' r = some (.lst (cs.map V.int)) → Drn most cs → Q (.ref r) H'
theorem Purse.ne {H : Hp} {p l : Addr} {n : Nat} (h : Purse H p n) (hl : H l = none) : l ≠ p := fun w => by obtain ⟨_, e⟩ := h.at_; rw [← w, hl] at e; cases e
theorem c_corners {m : Md} {f : Addr} {fd : FuncData} (F : C8.Def m.K m.mg "_law_corners" st_corners f fd) (b : L2.Binds m.K fd ps_corners []) (hr : m.mg "range" = none) (D : Cal m 2 "_law_draw" (sp_draw m)) (O : Cal m 3 "_law_one_of" (sp_one_of m)) : Cal m 4 "_law_corners" (sp_corners m) := by
  refine cal_of F b sc_corners (fun vs H Q E h => by obtain ⟨_, _, _, rfl, _⟩ := h; rfl) fun X vs H Q E hA h => ?_
  obtain ⟨p, n, most, rfl, hp, hn, hm, k⟩ := h
  obtain ⟨n0, n1, n2, n3, n4⟩ := nv_corners
  walk_at "B"
  refine s_par hA n2 n3 ?_
  walk_at "V"
  refine ⟨by walk_at "S", fun r hr1 => ?_⟩
  have gr := Grow.new (T := m.T) (o := .lst []) hr1
  have hrp := hp.ne hr1
  walk_at "V"
  refine w_call hA O (by omega) rfl ?_
  walk_at "V"
  refine ⟨by walk_at "S", fun l hl => ?_⟩
  have gl := Grow.new (T := m.T) (o := .lst [.int 0, .int 0, .int 1, .int 3]) hl
  have grl := gr.trans gl
  have hp1 := hp.new grl
  have hlp := (hp.new gr).ne hl
  walk_at "V"
  refine ⟨p, n, l, _, rfl, hp1, by omega, SqL.of upd_same, hlp, by decide, by decide, fun j v H1 hv d1 => ?_⟩
  have d1' := Drew.pre grl d1
  obtain ⟨w, rfl, w0, w1⟩ : ∃ w : Int, v = .int w ∧ 0 ≤ w ∧ w ≤ 3 := by
    have := List.mem_of_getElem? hv
    simp only [List.mem_cons, List.not_mem_nil, or_false] at this
    rcases this with h | h | h | h <;> exact ⟨_, h, by omega, by omega⟩
  refine w_nil ⟨_, _, rfl, ?_⟩
  have hrl : r ≠ l := fun w => by rw [← w, upd_same] at hl; cases hl
  have hr2 : H1 r = some (.lst []) := d1.grow.ext _ _ hrp (by rw [upd_ne hrl]; exact upd_same) (fun _ z => by cases z)
  walk_at "B"
  refine s_forR hA (pg_nl hA n4) hr rfl ?_
  walk_at "V"
  refine w_call hA D (by omega) rfl ?_
  walk_at "V"
  refine ⟨p, _, _, rfl, d1'.purse, by omega, by omega, by omega, fun z H2 z0 z1 d2 => ?_⟩
  have hr3 := d2.grow.ext _ _ hrp hr2 (fun _ z => by cases z)
  have d12 := d1'.trans d2
  walk_at "V"
  refine ⟨by omega, by omega, fun i σ H' => ∃ (cs : List Int) (v : Int), σ = [some (.ref p), some (.int most), some (.ref r), some (.int v), σ.getD 4 none] ∧ H' r = some (.lst (cs.map V.int)) ∧ Cor cs ∧ cs.length = i ∧ (∀ c ∈ cs, c < v ∧ c + 5 ≤ 3 + 5 * i) ∧ 0 ≤ v ∧ v ≤ 3 + 5 * i ∧ Drew m p n (16 + 8 * i) H H', ?_, ?_, ?_⟩
  · exact ⟨[], w, rfl, hr3, ⟨List.Pairwise.nil, by simp⟩, rfl, by simp, w0, by omega, d12⟩
  · rintro i σ H' hi ⟨cs, v, es, hcs, hc, hl2, hb, v0, v1, dd⟩
    rw [es]
    walk_at "B"
    walk_at "V"
    refine g_append ?_
    walk_at "V"
    refine ⟨tyL hcs, ?_⟩
    walk_at "V"
    refine ⟨r, _, .int v, rfl, rfl, hcs, by rw [List.length_map, sizeLine_eq]; omega, ?_⟩
    have gX := GrowX.lst (T := m.T) (ys := cs.map V.int ++ [.int v]) hcs
    have dX : Drew m p n (16 + 8 * i) H (upd H' r (.lst (cs.map V.int ++ [.int v]))) := ⟨dd.grow.into gX fun c w => .inl (by rw [w]; exact hr1), dd.purse.x gX fun w => hrp w.symm⟩
    walk_at "B"
    walk_at "V"
    refine w_call hA D (by omega) rfl ?_
    walk_at "V"
    refine ⟨p, _, _, rfl, dX.purse, by omega, by omega, by omega, fun y H3 y0 y1 d3 => ?_⟩
    walk_at "V"
    refine ⟨cs ++ [v], _, rfl, ?_, ⟨?_, ?_⟩, by simp [hl2], ?_, by omega, by omega, (dX.trans d3).mono (by omega)⟩
    · rw [List.map_append]
      exact d3.grow.ext _ _ hrp upd_same (fun _ z => by cases z)
    · exact List.pairwise_append.2 ⟨hc.asc, by simp, fun a ha c hc' => by rw [List.mem_singleton.1 hc']; exact (hb a ha).1⟩
    · intro c hc'
      rcases List.mem_append.1 hc' with e | e
      · exact hc.nn c e
      · rw [List.mem_singleton.1 e]; exact v0
    · intro c hc'
      rcases List.mem_append.1 hc' with e | e
      · have := hb c e; omega
      · rw [List.mem_singleton.1 e]; omega
  · rintro σ H' ⟨cs, v, es, hcs, hc, hl2, hb, v0, v1, dd⟩
    rw [es]
    walk_at "B"
    walk_at "V"
    refine k r cs H' (dd.mono (by omega)) hr1 hcs ⟨hc, by omega, fun c hc' => by have := hb c hc'; omega⟩
def sp_stair (m : Md) : Sp := fun vs H Q _ => ∃ (p : Addr) (n most : Nat), vs = [.ref p, .int most] ∧ Purse H p n ∧ n ≤ 2 ^ 36 ∧ most ≤ 50 ∧ ∀ (T r : Addr) (b : Int) (cs : List Int) (H' : Hp), Drew m p n (40 + 8 * most) H H' → New H r → H' r = some (.lst (cs.map V.int)) → Drn most cs → SqT m.K H' T [.int b, .ref r] → -4 ≤ b → b ≤ 8 → Q (.ref T) H'
theorem c_stair {m : Md} {f : Addr} {fd : FuncData} (F : C8.Def m.K m.mg "_law_stair" st_stair f fd) (b : L2.Binds m.K fd ps_stair []) (D : Cal m 2 "_law_draw" (sp_draw m)) (Cn : Cal m 4 "_law_corners" (sp_corners m)) : Cal m 5 "_law_stair" (sp_stair m) := by
  refine cal_of F b sc_stair (fun vs H Q E h => by obtain ⟨_, _, _, rfl, _⟩ := h; rfl) fun X vs H Q E hA h => ?_
  obtain ⟨p, n, most, rfl, hp, hn, hm, k⟩ := h
  obtain ⟨n0, n1⟩ := nv_stair
  walk_at "B"
  walk_at "V"
  refine w_call hA D (by omega) rfl ?_
  walk_at "V"
  refine ⟨p, n, _, rfl, hp, by omega, by omega, by omega, fun r1 H1 q1 q2 d1 => ?_⟩
  refine w_call hA D (by omega) rfl ?_
  walk_at "V"
  refine ⟨p, _, _, rfl, d1.purse, by omega, by omega, by omega, fun r2 H2 q3 q4 d2 => ?_⟩
  walk_at "V"
  refine w_call hA Cn (by omega) rfl ?_
  walk_at "V"
  have d12 := d1.trans d2
  refine ⟨p, _, most, rfl, d12.purse, by omega, hm, fun r cs H3 d3 nr hr dn => ?_⟩
  walk_at "V"
  refine ⟨by walk_at "S", fun T hT => ?_⟩
  have gT := Grow.new (T := m.T) (o := .tup [.int (r1 - r2), .ref r]) hT
  exact k T r (r1 - r2) cs _ (((d12.trans d3).post gT).mono (by omega)) (d12.grow.keep _ nr) (gT.extN _ _ hr (fun _ z => by cases z)) dn (SqT.of upd_same) (by omega) (by omega)
/-- what is told from 0 to M -/
def stp (b : Int) (cs : List Int) (M : Nat) : List Int := (List.range (M + 1)).map fun n : Nat => val b cs n
theorem stp_len (b : Int) (cs : List Int) (M : Nat) : (stp b cs M).length = M + 1 := by simp [stp]
theorem stp_get {b : Int} {cs : List Int} {M j : Nat} (h : j ≤ M) : (stp b cs M)[j]? = some (val b cs j) := by
  unfold stp
  rw [List.getElem?_map, List.getElem?_range (by omega)]; rfl
theorem stp_succ (b : Int) (cs : List Int) (M : Nat) : stp b cs (M + 1) = stp b cs M ++ [val b cs ((M + 1 : Nat) : Int)] := by
  unfold stp
  rw [List.range_succ (n := M + 1), List.map_append]; rfl
theorem stp_last (b : Int) (cs : List Int) (M : Nat) : ∃ hd, stp b cs M = hd ++ [val b cs M] := by
  cases M with
  | zero => exact ⟨[], rfl⟩
  | succ M => exact ⟨_, stp_succ b cs M⟩
def sp_steps (m : Md) : Sp := fun vs H Q _ => ∃ (a : Addr) (b : Int) (cs : List Int) (M : Nat), vs = [.int b, .ref a, .int M] ∧ SqL m.K H a (cs.map V.int) ∧ Cor cs ∧ cs.length < 1000 ∧ M < 1000 ∧ ∀ (r : Addr) (H' : Hp), Grow m.T H H' → New H r → H' r = some (.lst ((stp b cs M).map V.int)) → Q (.ref r) H'
theorem c_steps {m : Md} {f : Addr} {fd : FuncData} (F : C8.Def m.K m.mg "_law_steps" st_steps f fd) (b : L2.Binds m.K fd ps_steps []) (hr : m.mg "range" = none) (hn : m.mg "len" = none) : Cal m 1 "_law_steps" (sp_steps m) := by
  refine cal_ofM F b sc_steps (fun vs H Q E h => by obtain ⟨_, _, _, _, rfl, _⟩ := h; rfl) fun X vs H Q E hA hM h => ?_
  obtain ⟨a, b, cs, M, rfl, hs, hc, hcl, hMl, k⟩ := h
  obtain ⟨n0, n1, n2, n3, n4⟩ := nv_steps
  walk_at "B"
  walk_at "V"
  refine ⟨by walk_at "S", fun r hr1 => ?_⟩
  have gr := Grow.new (T := m.T) (o := .lst [.int b]) hr1
  walk_at "B"
  refine s_forR hA (pg_nc hA n4 hM.fn) hr rfl ?_
  walk_at "V"
  refine ⟨by omega, by omega, fun i σ H' => σ = [some (.int b), some (.ref a), some (.int M), some (.ref r), σ.getD 4 none, none] ∧ H' r = some (.lst ((stp b cs i).map V.int)) ∧ Grow m.T H H', ?_, ?_, ?_⟩
  · refine ⟨rfl, ?_, gr⟩
    rw [upd_same]
    unfold stp
    show _ = some (HO.lst [V.int (val b cs ((0 : Nat) : Int))])
    rw [show ((0 : Nat) : Int) = 0 from rfl, hc.val_zero b]
  · rintro i σ H' hi ⟨es, hst, g⟩
    rw [es]
    walk_at "B"
    walk_at "V"
    refine g_append ?_
    walk_at "V"
    refine ⟨tyL hst, ?_⟩
    obtain ⟨hd, ehd⟩ := stp_last b cs i
    walk_at "V"
    refine g_ixL hA (SqL.of hst) (by rw [ehd, List.map_append]; exact at_lastL _ _) ?_
    walk_at "V"
    refine g_blt hA hn rfl bt_len ?_
    refine w_cons (w_lcLi hA (by decide +kernel) (i := 5) ⟨rfl, rfl⟩ ?_)
    walk_at "V"
    have hs1 := GrowX.seqL g hs fun z => z
    refine ⟨a, _, rfl, hs1, fun D hD => ?_⟩
    refine ⟨fun j H4 => Grow m.T H' H4 ∧ H4 D = some (.lst (((cs.take j).filter fun c => decide (c ≤ (i : Int))).map V.int)), ⟨Grow.new hD, upd_same⟩, ?_, ?_, ?_⟩
    · rintro j H4 _ ⟨g4, _⟩
      exact GrowX.seqL g4 hs1 fun z => z
    · rintro j x H4 hx ⟨g4, hd4⟩ X' hX'
      have c4 := nc_of hX' 4 "_law_count"
      have c5 := nl_of hX' 5 "_law_corner"
      rw [List.getElem?_map] at hx
      obtain ⟨c, hcj, rfl⟩ := Option.map_eq_some_iff.1 hx
      have hj : j < cs.length := (List.getElem?_eq_some_iff.1 hcj).1
      have et : cs.take (j + 1) = cs.take j ++ [c] := by rw [List.take_add_one, hcj]; rfl
      walk_at "V"
      refine ite2 (fun h0 => ?_) fun h0 => ?_
      · intro X2 hX2
        have c5 := nl_of hX2 5 "_law_corner"
        walk_at "V"
        have hl : ((cs.take j).filter fun c => decide (c ≤ (i : Int))).length ≤ cs.length := by
          refine Nat.le_trans (List.length_filter_le _ _) ?_
          rw [List.length_take]; omega
        refine ⟨_, hd4, by rw [List.length_map, sizeLine_eq]; omega, Grow.intoNew g4 (GrowX.lst hd4) fun c w => by rw [w]; exact hD, ?_⟩
        have h0' : c ≤ (i : Int) := by simpa using h0
        have e1 : [c].filter (fun c => decide (c ≤ (i : Int))) = [c] := by simp [h0']
        rw [upd_same, et, List.filter_append, e1, List.map_append]; rfl
      · refine ⟨g4, ?_⟩
        have h0' : ¬ c ≤ (i : Int) := by simpa using h0
        have e1 : [c].filter (fun c => decide (c ≤ (i : Int))) = [] := by simp only [List.filter_cons, List.filter_nil, decide_eq_false h0']; rfl
        rw [et, List.filter_append, e1, List.append_nil]
        exact hd4
    · rintro H4 ⟨g4, hd4⟩
      rw [List.length_map, List.take_length] at hd4
      walk_at "V"
      refine g_lenL hA (SqL.of hd4) ?_
      rw [List.length_map, hc.filter_pas]
      walk_at "V"
      refine g_modI (by omega) ?_
      walk_at "V"
      have hst4 := Grow.extN g4 _ _ hst (fun _ z => by cases z)
      refine ⟨r, _, _, rfl, rfl, hst4, by rw [List.length_map, stp_len, sizeLine_eq]; omega, ?_⟩
      refine b_nil ⟨rfl, ?_, Grow.intoNew (g.trans g4) (GrowX.lst hst4) fun c w => by rw [w]; exact hr1⟩
      rw [upd_same, stp_succ, List.map_append]
      have e := hc.val_step b (i : Int)
      rw [show ((i + 1 : Nat) : Int) = (i : Int) + 1 from by omega, e]
      rw [show ((pas cs (i : Int) : Int) % 2) = ((pas cs (i : Int) % 2 : Nat) : Int) from by omega]
      rfl
  · rintro σ H' ⟨es, hst, g⟩
    rw [es]
    walk_at "B"
    walk_at "V"
    rw [Int.toNat_natCast] at hst
    exact k r H' g hr1 hst
def sp_undL (m : Md) : Sp := fun vs H Q _ => ∃ (a : Addr) (b num : Int) (cs : List Int), vs = [.ref a, .int num, .bl (decide (cs.length % 2 = 1))] ∧ SqL m.K H a ((stp b cs 40).map V.int) ∧ Cor cs ∧ (∀ c ∈ cs, c ≤ 40) ∧ ∀ H', Grow m.T H H' → Q (undV (und b cs num)) H'
theorem c_undL {m : Md} {f : Addr} {fd : FuncData} (F : C8.Def m.K m.mg "_law_undone" st_undone f fd) (b : L2.Binds m.K fd ps_undone []) (hr : m.mg "range" = none) (hn : m.mg "len" = none) : Cal m 1 "_law_undone" (sp_undL m) := by
  refine cal_ofM F b sc_undone (fun vs H Q E h => by obtain ⟨_, _, _, _, rfl, _⟩ := h; rfl) fun X vs H Q E hA hM h => ?_
  obtain ⟨a, b, num, cs, rfl, hs, hc, h40, k⟩ := h
  obtain ⟨n2, n3, n0, n1⟩ := nv_undone
  -- the counts at which at most num is told: a beginning of 0 .. 40
  obtain ⟨q, hq, hv⟩ : ∃ q : Nat, q ≤ 41 ∧ ∀ n : Nat, n < 41 → (val b cs n ≤ num ↔ n < q) := by
    have key : ∀ M : Nat, ∃ q : Nat, q ≤ M ∧ ∀ n : Nat, n < M → (val b cs n ≤ num ↔ n < q) := by
      intro M
      induction M with
      | zero => exact ⟨0, Nat.le_refl 0, fun n hn => by omega⟩
      | succ M ih =>
        obtain ⟨q, hq, hv⟩ := ih
        by_cases hM : val b cs M ≤ num
        · refine ⟨M + 1, Nat.le_refl _, fun n hn => ⟨fun _ => hn, fun _ => ?_⟩⟩
          have := hc.val_mono (b := b) (show (n : Int) ≤ M by omega)
          omega
        · refine ⟨q, by omega, fun n hn => ?_⟩
          rcases Nat.lt_or_ge n M with w | w
          · exact hv n w
          · have : n = M := by omega
            subst this
            exact ⟨fun z => absurd z hM, fun z => by omega⟩
    exact key 41
  have und_q := hc.und_eq h40 hq hv
  walk_at "B"
  refine s_lcRi hA hr rfl n3 (by decide +kernel) (i := 4) ⟨rfl, rfl⟩ ?_
  walk_at "V"
  refine g_blt hA hn rfl bt_len ?_
  walk_at "V"
  refine g_lenL hA hs ?_
  rw [List.length_map, stp_len]
  walk_at "V"
  refine ⟨by omega, by omega, fun D hD => ?_⟩
  have hDn : New H D := hD
  refine ⟨fun j H4 => Grow m.T H H4 ∧ H4 D = some (.lst ((List.range (min j q)).map fun n : Nat => V.int n)), ⟨Grow.new hD, by rw [upd_same]; simp⟩, ?_, ?_⟩
  · rintro j H4 hj ⟨g4, hd4⟩ X' hX'
    have c0 := nc_of hX' 0 "_law_steps_here"
    have c1 := nc_of hX' 1 "_law_number"
    have c4 := nl_of hX' 4 "_law_count"
    have hj : j < 41 := by simpa using hj
    walk_at "V"
    refine g_ixL hX' (GrowX.seqL g4 hs fun z => z) (atI_at (by rw [List.getElem?_map, stp_get (by omega)]; rfl)) ?_
    walk_at "V"
    have hvj := hv j hj
    refine ite2 (fun h0 => ?_) fun h0 => ?_
    · have h0 : val b cs j ≤ num := by simpa using h0
      have hjq := hvj.1 h0
      intro X2 hX2
      have c4 := nl_of hX2 4 "_law_count"
      walk_at "V"
      refine ⟨_, hd4, by rw [List.length_map, List.length_range, sizeLine_eq]; omega, Grow.intoNew g4 (GrowX.lst hd4) fun c w => by rw [w]; exact hD, ?_⟩
      rw [upd_same, show min (j + 1) q = j + 1 from by omega, show min j q = j from by omega, List.range_succ, List.map_append]; rfl
    · have h0 : ¬ val b cs j ≤ num := by simpa using h0
      have hjq : ¬ j < q := fun w => h0 (hvj.2 w)
      refine ⟨g4, ?_⟩
      rw [show min (j + 1) q = min j q from by omega]
      exact hd4
  · rintro H4 ⟨g4, hd4⟩
    rw [show ((40 + 1 : Nat) : Int).toNat = 41 from rfl, show min 41 q = q from by omega] at hd4
    walk_at "B"
    walk_at "V"
    refine ⟨by walk_at "S", fun e1 he1 => ?_⟩
    have ge := Grow.new (T := m.T) (o := .lst []) he1
    have hd5 := ge.extN _ _ hd4 (fun _ z => by cases z)
    have dps : ∀ (l : List Nat), DaAll m.K Any (upd H4 e1 (.lst [])) (l.map fun n : Nat => V.int n) (l.map fun n : Nat => PyData.int n) := by
      intro l
      induction l with
      | nil => exact .nil
      | cons x l ih => exact .cons (.int _) ih
    have shp : SeqAt.shaped (.list ((List.range q).map fun n : Nat => PyData.int n)) = true := by
      have := ints_shaped ((List.range q).map fun n : Nat => (n : Int))
      rw [List.map_map] at this
      exact this
    refine g_eqD hA (Dp.lst (SqL.of hd5) (DaAll.dp _ _ (dps _))) (Dp.lst (SqL.of upd_same) .nil) shp rfl ?_
    have e0 : PyData.eqv (.list ((List.range q).map fun n : Nat => PyData.int n)) (.list []) = decide (q = 0) := by
      cases q with
      | zero => rfl
      | succ q => rw [List.range_succ_eq_map]; rfl
    rw [e0]
    walk_at "V"
    refine ite2 (fun h0 => ?_) fun h0 => ?_
    · have h0 : q = 0 := by simpa using h0
      walk_at "V"
      rw [if_pos h0] at und_q
      rw [und_q] at k
      exact k _ (g4.trans ge)
    · have h0 : ¬ q = 0 := by simpa using h0
      refine b_nil ?_
      rw [if_neg h0] at und_q
      obtain ⟨q', rfl⟩ : ∃ q', q = q' + 1 := ⟨q - 1, by omega⟩
      have hd6 : upd H4 e1 (.lst []) D = some (.lst (((List.range q').map fun n : Nat => V.int n) ++ [V.int q'])) := by
        rw [hd5, List.range_succ, List.map_append]; rfl
      have hs5 := GrowX.seqL (g4.trans ge) hs fun z => z
      walk_at "B"
      walk_at "V"
      refine g_ixL hA (SqL.of hd6) (at_lastL _ _) ?_
      walk_at "V"
      refine g_blt hA hn rfl bt_len ?_
      walk_at "V"
      refine g_lenL hA hs5 ?_
      rw [List.length_map, stp_len]
      walk_at "V"
      refine ite2 (fun h1 => ?_) fun h1 => ?_
      · have h1 : q' < 40 := by simp only [decide_eq_true_eq] at h1; omega
        walk_at "V"
        refine g_ixL hA (SqL.of hd6) (at_lastL _ _) ?_
        rw [if_pos (by omega)] at und_q
        rw [und_q] at k
        have kk := k _ (g4.trans ge)
        rw [show ((q' + 1 : Nat) : Int) - 1 = q' from by omega] at kk
        exact kk
      · have h1 : q' = 40 := by
          have h1 : ¬ ((q' : Int) < ((40 + 1 : Nat) : Int) - 1) := by simpa using h1
          omega
        subst h1
        refine b_nil ?_
        rw [if_neg (by omega)] at und_q
        walk_at "B"
        walk_at "V"
        by_cases hl : cs.length % 2 = 1
        · rw [if_pos hl] at und_q
          rw [und_q] at k
          rw [decide_eq_true hl]
          refine iteT ?_
          walk_at "V"
          refine g_ixL hA (SqL.of hd6) (at_lastL _ _) ?_
          walk_at "V"
          obtain ⟨hd, ehd⟩ := stp_last b cs 40
          refine g_ixL hA hs5 (by rw [ehd, List.map_append]; exact at_lastL _ _) ?_
          walk_at "V"
          exact k _ (g4.trans ge)
        · rw [if_neg hl] at und_q
          rw [und_q] at k
          rw [decide_eq_false hl]
          refine iteF ?_
          walk_at "V"
          exact k _ (g4.trans ge)
theorem fits_int {i : Int} (h : i.natAbs < 10 ^ 12) : (PyData.int i).showable = true ∧ (PyData.int i).shown.length ≤ sizeLine ∧ (PyData.int i).depth ≤ 60 := by
  have e3 : i.natAbs.log2 < 1920 := by
    rcases Nat.eq_zero_or_pos i.natAbs with e | e
    · rw [e]; decide
    · exact (Nat.log2_lt (by omega)).2 (by omega)
  refine ⟨by simp [PyData.showable, e3], ?_, by simp [PyData.depth]⟩
  have := PyData.shown_int_le (i := i) (by omega)
  rw [sizeLine_eq]; omega
theorem ints_w : ∀ ns : List Int, (∀ n ∈ ns, n.natAbs < 10 ^ 12) → PyData.weightAll (ns.map PyData.int) ≤ 100 * ns.length ∧ PyData.intsShortAll 13 (ns.map PyData.int) = true ∧ PyData.showableAll (ns.map PyData.int) = true ∧ PyData.canLayAll0 (ns.map PyData.int) = true ∧ PyData.depthAll (ns.map PyData.int) = 0
  | [], _ => by simp [PyData.weightAll, PyData.intsShortAll, PyData.showableAll, PyData.canLayAll0, PyData.depthAll]
  | n :: ns, h => by
    obtain ⟨h1, h2, h3, h4, h5⟩ := ints_w ns fun x hx => h x (by simp [hx])
    have hn := h n (by simp)
    have w := Tm.wt_int (i := n) (by omega)
    have e3 : n.natAbs.log2 < 1920 := by
      rcases Nat.eq_zero_or_pos n.natAbs with e | e
      · rw [e]; decide
      · exact (Nat.log2_lt (by omega)).2 (by omega)
    have s := PyData.shown_int_le (i := n) (by omega)
    refine ⟨?_, ?_, ?_, ?_, ?_⟩
    · simp only [List.map_cons, PyData.weightAll, List.length_cons]; omega
    · simp [PyData.intsShortAll, PyData.intsShort, h2, s]
    · simp [PyData.showableAll, PyData.showable, h3, e3]
    · simp [PyData.canLayAll0, PyData.canLay0, h4]
    · simp [PyData.depthAll, PyData.depth, h5]
theorem fits_pair {b : Int} {cs : List Int} (hb : b.natAbs < 10 ^ 12) (h : ∀ n ∈ cs, n.natAbs < 10 ^ 12) (hl : cs.length ≤ 100) : (PyData.list [.int b, .list (cs.map PyData.int)]).showable = true ∧ (PyData.list [.int b, .list (cs.map PyData.int)]).shown.length ≤ sizeLine ∧ (PyData.list [.int b, .list (cs.map PyData.int)]).depth ≤ 60 := by
  obtain ⟨h1, h2, h3, h4, h5⟩ := ints_w cs h
  have w := Tm.wt_int (i := b) (by omega)
  have e3 : b.natAbs.log2 < 1920 := by
    rcases Nat.eq_zero_or_pos b.natAbs with e | e
    · rw [e]; decide
    · exact (Nat.log2_lt (by omega)).2 (by omega)
  have s := PyData.shown_int_le (i := b) (by omega)
  refine ⟨by simp [PyData.showable, PyData.showableAll, h3, e3], ?_, by simp [PyData.depth, PyData.depthAll, h5]⟩
  have := shown_le13 (d := .list [.int b, .list (cs.map PyData.int)]) ?_ (by simp [PyData.intsShort, PyData.intsShortAll, h2, s])
  · rw [sizeLine_eq]; omega
  · unfold PyData.layable0
    rw [show (PyData.list [.int b, .list (cs.map PyData.int)]).canLay0 = true from by simp [PyData.canLay0, PyData.canLayAll0, h4]]
    simp only [Bool.true_and, Bool.and_eq_true, decide_eq_true_eq]
    refine ⟨?_, ?_⟩
    · simp [PyData.depth, PyData.depthAll, h5]
    · show (PyData.int b).weight + 1 + (PyData.weightAll (cs.map PyData.int) + 1 + 0) ≤ 2 ^ 20
      omega
theorem g_neB {X : Cx} {x y : Bool} {H : Hp} {Q : VK} (q : Q (.bl (!decide (x = y))) H) : gOp X (compareOp .NotEq) (.bl x) (.bl y) H Q := gOp.of op_ne ⟨rfl, by
  have e : decide (V.bl x = V.bl y) = decide (x = y) := by rw [decide_eq_decide]; exact ⟨fun z => by injection z, fun z => by rw [z]⟩
  rw [e]; exact q⟩
/-- what == and != of stairs ask of the class -/
structure StE (m : Md) (C : Addr) : Prop where
  ty : ∀ (H : Hp) (i dx : Addr) (fs : List (Str × V)), H i = some (.ins C dx fs) → TyX m.K H (.ref i) (.ref C)
  nfS : PySem.W.notFirst m.K C (.ref C) = true
  nfO : ∀ T ∈ ["NoneType", "bool", "int", "str", "list", "tuple", "dict"], PySem.W.notFirst m.K C (.type T) = true
  ne : PySem.W.findIn m.K (.ref C) "__ne__" = some (some (.builtin "object.__ne__"))
  hm : PySem.W.mroIn m.K C (.type "object") = some true
section
variable {m : Md} {N : List Str} {sc : Scope} {j k : Nat} {X : Cx} {H : Hp} {Q : VK} {C : Addr}
theorem g_eqSt (h : At m N sc k X) (E2 : StE m C) (me : MetX m C8.CX0 j C "__eq__" (sp_seq m C) []) (hk : j ≤ k) {i i' : Addr} {b b' : Int} {cs cs' : List Int} (r : StairAt C Any H i b cs) (r' : StairAt C Any H i' b' cs') (l : cs.length < 1000) (l' : cs'.length < 1000) (q : Q (.bl (decide (b = b' ∧ cs = cs'))) H) : gOp X (compareOp .Eq) (.ref i) (.ref i') H Q := by
  have r0 := r
  obtain ⟨dx, lc, hi, _⟩ := r0
  have r0' := r'
  obtain ⟨dx', lc', hi', _⟩ := r0'
  exact g_eqIns (E := C8.E0) h me hk C8.pass0 hi (E2.ty H i' dx' _ hi') E2.nfS ⟨i, b, cs, .ref i', rfl, r, l, .inl ⟨i', b', cs', rfl, r', l', _, rfl, q⟩⟩
theorem g_neSt (h : At m N sc k X) (E2 : StE m C) (me : MetX m C8.CX0 j C "__eq__" (sp_seq m C) []) (hk : j + 1 ≤ k) {i i' : Addr} {b b' : Int} {cs cs' : List Int} (r : StairAt C Any H i b cs) (r' : StairAt C Any H i' b' cs') (l : cs.length < 1000) (l' : cs'.length < 1000) (q : Q (.bl (!decide (b = b' ∧ cs = cs'))) H) : gOp X (compareOp .NotEq) (.ref i) (.ref i') H Q := by
  have r0 := r
  obtain ⟨dx, lc, hi, _⟩ := r0
  have r0' := r'
  obtain ⟨dx', lc', hi', _⟩ := r0'
  exact g_neIns (E := C8.E0) h me E2.ne E2.hm hk C8.pass0 hi (E2.ty H i' dx' _ hi') E2.nfS ⟨i, b, cs, .ref i', rfl, r, l, .inl ⟨i', b', cs', rfl, r', l', _, rfl, q⟩⟩
theorem g_eqStO (h : At m N sc k X) (E2 : StE m C) (me : MetX m C8.CX0 j C "__eq__" (sp_seq m C) []) (hk : j ≤ k) {i : Addr} {b : Int} {cs : List Int} {y : V} {T : String} (hT : T ∈ ["NoneType", "bool", "int", "str", "list", "tuple", "dict"]) (ty : TyX m.K H y (.type T)) (r : StairAt C Any H i b cs) (l : cs.length < 1000) (q : Q (.bl false) H) : gOp X (compareOp .Eq) (.ref i) y H Q := by
  have r0 := r
  obtain ⟨dx, lc, hi, _⟩ := r0
  exact g_eqIns (E := C8.E0) h me hk C8.pass0 hi ty (E2.nfO T hT) ⟨i, b, cs, y, rfl, r, l, .inr ⟨T, hT, ty, _, rfl, q⟩⟩
/-- lists of ints compared -/
theorem g_neL (h : At m N sc k X) {a c : Addr} {xs ys : List Int} (ha : SqL m.K H a (xs.map V.int)) (hc : SqL m.K H c (ys.map V.int)) (q : Q (.bl (!decide (xs = ys))) H) : gOp X (compareOp .NotEq) (.ref a) (.ref c) H Q := by
  refine g_neD h (Dp.lst ha (DaAll.dp _ _ (ints_da (A := Any) xs))) (Dp.lst hc (DaAll.dp _ _ (ints_da (A := Any) ys))) (ints_shaped _) (ints_shaped _) ?_
  rw [list_eqv]; exact q
end
/-- all that is known of the class of stairs -/
structure Sts (m : Md) (C : Addr) : Prop where
  R : StC m C
  E2 : StE m C
  P : Prp m C
  Mk : MakX m C8.CX0 4 "Stair" C (sp_sinit m C) []
  Va : MetX m C8.CX0 4 C "value" (sp_value m C) []
  En : MetX m C8.CX0 4 C "end" (sp_end m C) []
  Un : MetX m C8.CX0 4 C "undone" (sp_undone m C) []
  Sh : MetX m C8.CX0 6 C "shifted" (sp_shifted m C) []
  Eq : MetX m C8.CX0 1 C "__eq__" (sp_seq m C) []
section
variable {m : Md} {N : List Str} {sc : Scope} {k : Nat} {X : Cx} {H : Hp} {Q : VK} {C : Addr} {e : Expr} {σ : L2.St} {pos : Pos}
theorem w_begin (h : At m N sc k X) (S : Sts m C) (hk : 2 ≤ k) (q : wE X e σ H fun x H1 => ∃ i b cs, x = .ref i ∧ StairAt C Any H1 i b cs ∧ Q (.int b) H1) (hab : attributeBase e "begin" X.env (eval e X.env) = eval e X.env := by with_unfolding_all rfl) : wE X (.Attribute e "begin" pos) σ H Q := by
  obtain ⟨p, g, fd, hp, F, b⟩ := S.P.pb
  refine w_prop h S.R.cl hp F b hk (wE.mono q fun x H1 ⟨i, b, cs, ex, st, k1⟩ => ?_) hab
  have st' := st
  obtain ⟨dx, lc, h1, h2, _⟩ := st'
  exact ⟨i, dx, _, ex, h1, i, b, cs, rfl, st, k1⟩
theorem w_corn (h : At m N sc k X) (S : Sts m C) (hk : 2 ≤ k) (q : wE X e σ H fun x H1 => ∃ i b cs, x = .ref i ∧ StairAt C Any H1 i b cs ∧ ∀ (r : Addr) (H2 : Hp), Grow m.T H1 H2 → New H1 r → H2 r = some (.lst (cs.map V.int)) → Q (.ref r) H2) (hab : attributeBase e "corners" X.env (eval e X.env) = eval e X.env := by with_unfolding_all rfl) : wE X (.Attribute e "corners" pos) σ H Q := by
  obtain ⟨p, g, fd, hp, F, b⟩ := S.P.pc
  refine w_prop h S.R.cl hp F b hk (wE.mono q fun x H1 ⟨i, b, cs, ex, st, k1⟩ => ?_) hab
  have st' := st
  obtain ⟨dx, lc, h1, h2, _⟩ := st'
  exact ⟨i, dx, _, ex, h1, i, b, cs, rfl, st, k1⟩
end
theorem w_ifV {X : Cx} {c a b : Expr} {va vb : V} {σ : L2.St} {H : Hp} {Q : VK} {pos : Pos} (q : wT X c σ H fun k H1 => (k = true → wE X a σ H1 fun x H2 => x = va ∧ H2 = H1) ∧ (k = false → wE X b σ H1 fun x H2 => x = vb ∧ H2 = H1) ∧ Q (if k = true then va else vb) H1) : wE X (.IfExp c a b pos) σ H Q := by
  refine w_if ?_
  refine (toT (Q := fun k H1 => if k = true then wE X a σ H1 Q else wE X b σ H1 Q) (t := fun σ H Q' => wT X c σ H Q') cT ?_)
  have mono : ∀ {Q1 Q2 : Bool → Hp → Prop}, wT X c σ H Q1 → (∀ v H', Q1 v H' → Q2 v H') → wT X c σ H Q2 := by
    intro Q1 Q2 h k
    unfold wT at h ⊢
    exact fun pins s I => thn (h pins s I) fun _ _ ⟨H', I', q⟩ => ⟨H', I', k _ H' q⟩
  refine mono q fun k H1 ⟨h1, h2, h3⟩ => ?_
  cases k with
  | true => exact iteT (wE.mono (h1 rfl) fun x H2 ⟨e1, e2⟩ => by rw [e1, e2]; simpa using h3)
  | false => exact iteF (wE.mono (h2 rfl) fun x H2 ⟨e1, e2⟩ => by rw [e1, e2]; simpa using h3)
def undD (o : Option Int) : PyData := match o with | none => .none | some z => .int z
theorem undD_dp {K : PySem.W.Frag} {H : Hp} (o : Option Int) : Dp K H (undV o) (undD o) := by
  cases o with
  | none => exact .non
  | some z => exact .int z
theorem undD_fits {o : Option Int} (h : ∀ z, o = some z → z.natAbs < 10 ^ 12) : (undD o).showable = true ∧ (undD o).shown.length ≤ sizeLine ∧ (undD o).depth ≤ 60 := by
  cases o with
  | none => exact ⟨rfl, by rw [sizeLine_eq]; decide, by decide⟩
  | some z => exact fits_int (h z rfl)
theorem und_small {b num : Int} {cs : List Int} (hn : num.natAbs < 10 ^ 7) (hc : ∀ c ∈ cs, 0 ≤ c ∧ c ≤ 40) (hvb : ∀ N : Nat, (N : Int) ≤ 100 → (val b cs N).natAbs < 10 ^ 6) : ∀ z, und b cs num = some z → z.natAbs < 10 ^ 12 := by
  intro z hz
  unfold und at hz
  split at hz
  · injection hz with hz; subst hz; decide
  · cases hu : undK b cs num cs.length with
    | none => rw [hu] at hz; cases hz
    | some i =>
      rw [hu] at hz
      obtain ⟨u1, _, _⟩ := undK_some hu
      dsimp only at hz
      split at hz
      · injection hz with hz
        obtain ⟨c, hcd⟩ : ∃ c, cs.getD i 0 = c := ⟨_, rfl⟩
        have hcm : c ∈ cs := by
          rw [← hcd, List.getD_eq_getElem?_getD, List.getElem?_eq_getElem u1]; simp
        have hb := hc c hcm
        have hv := hvb c.toNat (by omega)
        rw [show (c.toNat : Int) = c from by omega] at hv
        rw [hcd] at hz
        omega
      · cases hz
def sp_right (m : Md) : Sp := fun vs H Q _ => ∃ (p a : Addr) (b : Int) (cs : List Int) (n : Nat), vs = [.ref p, .int b, .ref a] ∧ Purse H p n ∧ n ≤ 1000 ∧ H a = some (.lst (cs.map V.int)) ∧ a ≠ p ∧ Drn 7 cs ∧ -4 ≤ b ∧ b ≤ 8 ∧
  ∀ H', GrowX m.T (fun x => x = p ∨ x = a) H H' → Purse H' p (n + 100) → Q (.bl true) H'
theorem c_right {m : Md} {C f : Addr} {fd : FuncData} (F : C8.Def m.K m.mg "_law_right" st_right f fd) (b : L2.Binds m.K fd ps_right []) (S : Sts m C) (hlist : m.mg "list" = none) (hrepr : m.mg "repr" = none) (hlen : m.mg "len" = none) (hrange : m.mg "range" = none)
    (D : Cal m 2 "_law_draw" (sp_draw m)) (O : Cal m 3 "_law_one_of" (sp_one_of m)) (Stp : Cal m 1 "_law_steps" (sp_steps m)) (Ul : Cal m 1 "_law_undone" (sp_undL m)) : Cal m 10 "_law_right" (sp_right m) := by
  refine cal_ofM F b sc_right (fun vs H Q E h => by obtain ⟨_, _, _, _, _, rfl, _⟩ := h; rfl) fun X vs H Q E hA hM h => ?_
  obtain ⟨p, a, b, cs, n, rfl, hp, hn, ha, hap, dn, b0, b1, k⟩ := h
  replace hA : At m nl_right (C8.fnScope st_right) 9 X := hA
  obtain ⟨n0, n1, n2, n3, n4, n5, n6, n7, n8, n9, n10⟩ := nv_right
  have hc := dn.cor
  have hl7 := dn.len
  walk_at "B"
  walk_at "V"
  refine g_typ hA hlist rfl bt_list ?_
  walk_at "V"
  refine g_listOf hA (.inl (SqL.of ha)) fun kl hkl => ?_
  have g1 := Grow.new (T := m.T) (o := .lst (cs.map V.int)) hkl
  have hkl1 := upd_same (H := H) (a := kl) (o := .lst (cs.map V.int))
  have ha1 := g1.extN _ _ ha (fun _ z => by cases z)
  have hkp0 : kl ≠ p := hp.ne hkl
  have hkla : kl ≠ a := fun w => by rw [w, ha] at hkl; cases hkl
  generalize upd H kl (.lst (cs.map V.int)) = H1 at *
  walk_at "B"
  refine s_two hA (pg_nc hA n10 hM.fn) (pg_nl hA n4) ?_
  refine w_tup (w_cons (w_stair hA S.Mk (by omega) rfl ?_))
  walk_at "V"
  refine ⟨b, a, cs, rfl, SqL.of ha1, by rw [ha1]; simp, hc, by omega, fun i H2 g2 ni st2 => ?_⟩
  walk_at "V"
  refine w_call hA Stp (by omega) rfl ?_
  walk_at "V"
  have ha2 := g2.extN _ _ ha1 (fun _ z => by cases z)
  refine ⟨a, b, cs, 40, rfl, SqL.of ha2, hc, by omega, by omega, fun s H3 g3 ns hs3 => ?_⟩
  walk_at "V"
  refine ⟨by walk_at "S", fun q hq => ⟨q, _, _, rfl, SqT.of upd_same, ?_⟩⟩
  have g4 := Grow.new (T := m.T) (o := .tup [.ref i, .ref s]) hq
  have hs4 := g4.extN _ _ hs3 (fun _ z => by cases z)
  have g24 := (g2.trans g3).trans g4
  have hsp : s ≠ p := ((hp.new g1).new g2).ne ns
  have hip : i ≠ p := (hp.new g1).ne ni
  have hkp : kl ≠ p := hkp0
  have nP : ∀ x, New H1 x → ¬ x = p := fun x z => (hp.new g1).ne z
  have ha4 := Grow.extN g24 _ _ ha1 (fun _ z => by cases z)
  have hkl4 := Grow.extN g24 _ _ hkl1 (fun _ z => by cases z)
  have st4 := st2.grow (T := m.T) (g3.trans g4) (fun _ _ z => z) (fun z => z)
  have hsa : s ≠ a := fun w => by
    have e : H2 a = none := by rw [← w]; exact ns
    rw [e] at ha2; cases ha2
  have hia : i ≠ a := fun w => by
    have e : H1 a = none := by rw [← w]; exact ni
    rw [e] at ha1; cases ha1
  generalize upd H3 q (.tup [.ref i, .ref s]) = H4 at *
  -- the list that was passed is changed
  walk_at "B"
  walk_at "V"
  refine g_append ?_
  walk_at "V"
  refine ⟨tyL ha4, ?_⟩
  walk_at "V"
  refine ⟨a, _, .int 99, rfl, rfl, ha4, by rw [List.length_map, sizeLine_eq]; omega, ?_⟩
  have gX := GrowX.lst (T := m.T) (ys := cs.map V.int ++ [.int 99]) ha4
  have nA : ∀ x, New H1 x → ¬ x = a := fun x z w => by
    have e : H1 a = none := by rw [← w]; exact z
    rw [e] at ha1; cases ha1
  have st5n := st4.grow (T := m.T) gX nA hia
  have st5 := st5n.sub (A' := Any) fun _ _ => trivial
  have hs5 := gX.ext _ _ hsa hs4 (fun _ z => by cases z)
  have hkl5 := gX.ext _ _ hkla hkl4 (fun _ z => by cases z)
  have g05 : GrowX m.T (· = a) H _ := (Grow.to (g1.trans g24)).trans gX
  generalize upd H4 a (.lst (cs.map V.int ++ [.int 99])) = H5 at *
  have hp5 : Purse H5 p n := hp.x g05 fun w => hap w.symm
  have hb : b.natAbs < 10 ^ 12 := by omega
  have hcb : ∀ c ∈ cs, c.natAbs < 10 ^ 12 := fun c hcm => by have := hc.nn c hcm; have := dn.top c hcm; omega
  obtain ⟨s1, s2, s3⟩ := fits_pair hb hcb (by omega)
  walk_at "B"
  walk_at "V"
  refine g_blt hA hrepr rfl bt_repr ?_
  refine w_cons (w_lst (w_cons (w_begin hA S (by omega) ?_)))
  walk_at "V"
  refine ⟨i, b, cs, rfl, st5, ?_⟩
  refine w_cons (w_corn hA S (by omega) ?_)
  walk_at "V"
  refine ⟨i, b, cs, rfl, st5, fun r6 H6 g6 nr6 hr6 => ?_⟩
  walk_at "V"
  refine ⟨by walk_at "S", fun l6 hl6 => ?_⟩
  have gl6 := Grow.new (T := m.T) (o := .lst [.int b, .ref r6]) hl6
  walk_at "V"
  have dpair : ∀ (H : Hp) (l r : Addr), H l = some (.lst [.int b, .ref r]) → H r = some (.lst (cs.map V.int)) → Dp m.K H (.ref l) (.list [.int b, .list (cs.map PyData.int)]) := fun H l r e1 e2 => .lst (SqL.of e1) (.cons (.int b) (.cons (.lst (SqL.of e2) (DaAll.dp _ _ (ints_da (A := Any) cs))) .nil))
  refine g_repr hA (dpair _ l6 r6 upd_same (gl6.extN _ _ hr6 (fun _ z => by cases z))) s1 s2 s3 ?_
  obtain ⟨shw, hshw⟩ : ∃ z, (PyData.list [.int b, .list (cs.map PyData.int)]).shown = z := ⟨_, rfl⟩
  rw [hshw]
  walk_at "V"
  refine g_blt hA hrepr rfl bt_repr ?_
  walk_at "V"
  refine ⟨by walk_at "S", fun l7 hl7 => ?_⟩
  have gl7 := Grow.new (T := m.T) (o := .lst [.int b, .ref kl]) hl7
  have g57 := (g6.trans gl6).trans gl7
  walk_at "V"
  have hkl7 := Grow.extN g57 _ _ hkl5 (fun _ z => by cases z)
  refine g_repr hA (dpair _ l7 kl upd_same hkl7) s1 s2 s3 ?_
  rw [hshw]
  walk_at "V"
  rw [show (!decide (shw = shw)) = false from by simp]
  refine iteF (b_nil ?_)
  have st7 := st5.grow (T := m.T) g57 (fun _ _ z => z) (fun z => z)
  generalize upd (upd H6 l6 (.lst [.int b, .ref r6])) l7 (.lst [.int b, .ref kl]) = H7 at g57 st7 hkl7 ⊢
  walk_at "B"
  walk_at "V"
  refine g_append (w_corn hA S (by omega) ?_)
  walk_at "V"
  refine ⟨i, b, cs, rfl, st7, fun r8 H8 g8 nr8 hr8 => ?_⟩
  refine ⟨tyL hr8, ?_⟩
  walk_at "V"
  refine ⟨r8, _, .str "more", rfl, rfl, hr8, by rw [List.length_map, sizeLine_eq]; omega, ?_⟩
  have gY := Grow.intoNew g8 (GrowX.lst (T := m.T) (ys := cs.map V.int ++ [.str "more"]) hr8) fun c w => by rw [w]; exact nr8
  have g59 := g57.trans gY
  have st9 := st7.grow (T := m.T) gY (fun _ _ z => z) (fun z => z)
  have hkl9 := gY.extN _ _ hkl7 (fun _ z => by cases z)
  have hs9 := Grow.extN g59 _ _ hs5 (fun _ z => by cases z)
  generalize upd H8 r8 (.lst (cs.map V.int ++ [.str "more"])) = H9 at g59 st9 hkl9 hs9 ⊢
  walk_at "B"
  walk_at "V"
  refine g_blt hA hlen rfl bt_len ?_
  walk_at "V"
  refine g_lenL hA (SqL.of hkl9) ?_
  rw [List.length_map]
  walk_at "V"
  refine g_modI (by omega) ?_
  walk_at "V"
  rw [show decide ((cs.length : Int) % 2 = 1) = decide (cs.length % 2 = 1) from by rw [decide_eq_decide]; omega]
  -- the values from 0 to 40
  refine w_lcR hA hrange rfl (by decide +kernel) (i := 11) ⟨rfl, rfl⟩ ?_
  walk_at "V"
  refine ⟨by omega, by omega, fun D1 hD1 => ?_⟩
  refine ⟨fun j H' => Grow m.T H9 H' ∧ H' D1 = some (.lst (((List.range j).map fun n : Nat => val b cs n).map V.int)), ⟨Grow.new hD1, upd_same⟩, ?_, ?_⟩
  · rintro j H' hj ⟨g, hd⟩ X' hX'
    have c10 := nc_of hX' 10 "_law_stair_here"
    have c11 := nl_of hX' 11 "_law_count"
    have stj := st9.grow (T := m.T) g (fun _ _ z => z) (fun z => z)
    have stj' := stj
    obtain ⟨dx, lc, e1, e2, _⟩ := stj'
    refine w_metX (E := C8.E0) hX' S.Va (by omega) C8.pass0 ?_
    walk_at "V"
    refine ⟨i, dx, _, rfl, e1, rfl, ?_⟩
    walk_at "V"
    refine ⟨i, b, (j : Int), cs, rfl, stj, hc, by omega, by omega, fun H2 g2 => ?_⟩
    have hd2 := g2.extN _ _ hd (fun _ z => by cases z)
    have hj41 : j < 41 := by simpa using hj
    refine ⟨_, hd2, by rw [List.length_map, List.length_map, List.length_range, sizeLine_eq]; omega, Grow.intoNew (g.trans g2) (GrowX.lst hd2) fun c w => by rw [w]; exact hD1, ?_⟩
    rw [upd_same, List.range_succ, List.map_append, List.map_append]; rfl
  rintro HA ⟨gA, hdA⟩
  have hdA' : HA D1 = some (.lst ((stp b cs 40).map V.int)) := hdA
  walk_at "V"
  have hsA := gA.extN _ _ hs9 (fun _ z => by cases z)
  have stA := st9.grow (T := m.T) gA (fun _ _ z => z) (fun z => z)
  have hklA := gA.extN _ _ hkl9 (fun _ z => by cases z)
  refine g_neL hA (SqL.of hdA') (SqL.of hsA) ?_
  walk_at "V"
  rw [show (!decide (stp b cs 40 = stp b cs 40)) = false from by simp]
  refine iteF ?_
  walk_at "V"
  refine w_corn hA S (by omega) ?_
  walk_at "V"
  refine ⟨i, b, cs, rfl, stA, fun rB HB gB nrB hrB => ?_⟩
  walk_at "V"
  have hklB := gB.extN _ _ hklA (fun _ z => by cases z)
  refine g_neL hA (SqL.of hrB) (SqL.of hklB) ?_
  walk_at "V"
  rw [show (!decide (cs = cs)) = false from by simp]
  refine iteF (b_nil ?_)
  have g9B := gA.trans gB
  have stB := stA.grow (T := m.T) gB (fun _ _ z => z) (fun z => z)
  have hsB := gB.extN _ _ hsA (fun _ z => by cases z)
  -- its end
  have h40 : ∀ c ∈ cs, c ≤ 40 := fun c hcm => by have := dn.top c hcm; omega
  have hvb : ∀ N : Nat, (N : Int) ≤ 100 → (val b cs N).natAbs < 10 ^ 6 := by
    intro N hN
    have m0 := hc.val_mono (b := b) (show (0 : Int) ≤ N by omega)
    have v0 := hc.val_zero b
    have up : val b cs N ≤ b + N := by
      clear hN m0
      induction N with
      | zero => rw [show ((0 : Nat) : Int) = 0 from rfl, v0]; omega
      | succ N ih =>
        have := hc.val_step b (N : Int)
        rw [show ((N + 1 : Nat) : Int) = (N : Int) + 1 from by omega, this]
        omega
    omega
  have hlast : cs.length % 2 ≠ 1 → val b cs (lastC cs) = val b cs 40 := by
    intro ev
    have hlc : ∀ c ∈ cs, c ≤ lastC cs := by
      rcases Nat.eq_zero_or_pos cs.length with z | z
      · rw [List.length_eq_zero_iff.1 z]; simp
      · intro c hcm
        rw [lastC_at z]
        obtain ⟨q, hq⟩ := List.getElem?_of_mem hcm
        have hql := (List.getElem?_eq_some_iff.1 hq).1
        have eq1 : cs.getD q 0 = c := by rw [getD_get hql] at hq; exact Option.some.inj hq
        rcases Nat.lt_or_ge q (cs.length - 1) with w | w
        · have := hc.lt w (by omega); omega
        · have : q = cs.length - 1 := by omega
          rw [← this, eq1]; exact Int.le_refl _
    have l40 : lastC cs ≤ 40 := by
      rcases Nat.eq_zero_or_pos cs.length with z | z
      · rw [List.length_eq_zero_iff.1 z]; decide
      · rw [lastC_at z]
        exact h40 _ (by rw [List.getD_eq_getElem?_getD, List.getElem?_eq_getElem (show cs.length - 1 < cs.length by omega)]; simp)
    have := hc.val_far (b := b) hlc (40 - lastC cs).toNat
    rw [show lastC cs + ((40 - lastC cs).toNat : Int) = 40 from by omega] at this
    rw [this]
    have z : cs.length % 2 = 0 := by omega
    rw [z]; simp
  walk_at "B"
  walk_at "V"
  refine g_blt hA hrepr rfl bt_repr ?_
  have stB' := stB
  obtain ⟨dxB, lcB, e1B, e2B, _⟩ := stB'
  refine w_cons (w_met0 (E := C8.E0) hA S.En (by omega) C8.pass0 ?_)
  walk_at "V"
  refine ⟨i, dxB, _, rfl, e1B, rfl, i, b, cs, rfl, stB, hc, by omega, fun HC gC => ?_⟩
  walk_at "V"
  have eN : ∀ HH : Hp, Dp m.K HH (if cs.length % 2 = 1 then V.non else .int (val b cs (lastC cs))) (if cs.length % 2 = 1 then PyData.none else .int (val b cs (lastC cs))) := by
    intro HH
    split
    · exact .non
    · exact .int _
  have lv : cs.length % 2 ≠ 1 → (val b cs (lastC cs)).natAbs < 10 ^ 12 := fun w => by
    rw [hlast w]
    have := hvb 40 (by omega)
    rw [show ((40 : Nat) : Int) = 40 from rfl] at this
    omega
  have fN : (if cs.length % 2 = 1 then PyData.none else .int (val b cs (lastC cs))).showable = true ∧ (if cs.length % 2 = 1 then PyData.none else .int (val b cs (lastC cs))).shown.length ≤ sizeLine ∧ (if cs.length % 2 = 1 then PyData.none else .int (val b cs (lastC cs))).depth ≤ 60 := by
    split
    · exact ⟨rfl, by rw [sizeLine_eq]; decide, by decide⟩
    · exact fits_int (lv (by assumption))
  refine g_repr hA (eN _) fN.1 fN.2.1 fN.2.2 ?_
  obtain ⟨shE, hshE⟩ : ∃ z, (if cs.length % 2 = 1 then PyData.none else .int (val b cs (lastC cs))).shown = z := ⟨_, rfl⟩
  rw [hshE]
  have g9C := g9B.trans gC
  have stC := stB.grow (T := m.T) gC (fun _ _ z => z) (fun z => z)
  have hsC := gC.extN _ _ hsB (fun _ z => by cases z)
  have hklC := gC.extN _ _ hklB (fun _ z => by cases z)
  obtain ⟨hd, ehd⟩ := stp_last b cs 40
  have hsC' : HC s = some (.lst (hd.map V.int ++ [V.int (val b cs 40)])) := by rw [hsC, ehd, List.map_append]; rfl
  walk_at "V"
  refine g_blt hA hrepr rfl bt_repr ?_
  refine w_cons (w_ifV (va := .non) (vb := .int (val b cs 40)) ?_)
  walk_at "V"
  refine ⟨fun _ => by walk_at "V"; exact ⟨rfl, rfl⟩, fun _ => ?_, ?_⟩
  · walk_at "V"
    refine g_ixL hA (SqL.of hsC') (at_lastL _ _) ⟨rfl, rfl⟩
  rw [show (if decide (cs.length % 2 = 1) = true then V.non else .int (val b cs 40)) = (if cs.length % 2 = 1 then V.non else .int (val b cs (lastC cs))) from by
    by_cases w : cs.length % 2 = 1
    · rw [if_pos w, if_pos (by simpa using w)]
    · rw [if_neg w, if_neg (by simpa using w), hlast w]]
  refine w_nil ?_
  refine g_repr hA (eN _) fN.1 fN.2.1 fN.2.2 ?_
  rw [hshE]
  walk_at "V"
  rw [show (!decide (shE = shE)) = false from by simp]
  refine iteF (b_nil ?_)
  walk_at "B"
  -- seven numbers
  refine s_forL hA (pg_nl hA n6) ?_
  walk_at "V"
  refine g_ixL hA (SqL.of hsC') (at_lastL _ _) ?_
  walk_at "V"
  refine g_ixL hA (SqL.of hsC') (at_lastL _ _) ?_
  walk_at "V"
  refine g_ixL hA (SqL.of hsC') (at_lastL _ _) ?_
  walk_at "V"
  have hpC : Purse HC p n := hp5.new (g59.trans g9C)
  refine w_call hA D (by omega) rfl ?_
  walk_at "V"
  refine ⟨p, n, _, rfl, hpC, by omega, by omega, by omega, fun r HD r0 r1 dD => ?_⟩
  walk_at "V"
  refine ⟨by walk_at "S", fun L hL => ?_⟩
  have gL := Grow.new (T := m.T) (o := .lst [.int (b - 1), .int b, .int (b + 1), .int (val b cs 40 - 1), .int (val b cs 40), .int (val b cs 40 + 5), .int (b + r)]) hL
  have dL := dD.post gL
  have stD := (st5n.grow (T := m.T) (g59.trans g9C) (fun _ _ z => z) (fun z => z)).grow dL.grow nP hip
  have hsD := dL.grow.ext _ _ hsp hsC (fun _ z => by cases z)
  have hklD := dL.grow.ext _ _ hkp hklC (fun _ z => by cases z)
  have hL1 := upd_same (H := HD) (a := L) (o := .lst [.int (b - 1), .int b, .int (b + 1), .int (val b cs 40 - 1), .int (val b cs 40), .int (val b cs 40 + 5), .int (b + r)])
  generalize upd HD L (.lst [.int (b - 1), .int b, .int (b + 1), .int (val b cs 40 - 1), .int (val b cs 40), .int (val b cs 40 + 5), .int (b + r)]) = HL at *
  have v40 : (val b cs 40).natAbs < 10 ^ 6 := by
    have := hvb 40 (by omega)
    rwa [show ((40 : Nat) : Int) = 40 from rfl] at this
  have hcc : ∀ c ∈ cs, 0 ≤ c ∧ c ≤ 40 := fun c hcm => ⟨hc.nn c hcm, h40 c hcm⟩
  refine ⟨L, _, rfl, SqL.of hL1, fun j σ H' => ∃ z, σ = [some (.ref p), some (.int b), some (.ref a), some (.ref kl), some (.ref s), some (.bl (decide (cs.length % 2 = 1))), z, none, none, none, some (.ref i), none] ∧ Grow m.T HL H', ⟨none, rfl, GrowX.refl⟩, ?_, ?_, ?_⟩
  · rintro j σ H' _ ⟨_, _, g⟩
    exact SqL.of (g.extN _ _ hL1 (fun _ z => by cases z))
  · rintro j x σ H' hx ⟨z, es, g⟩
    obtain ⟨num, rfl, hnum⟩ : ∃ num : Int, x = .int num ∧ num.natAbs < 10 ^ 7 := by
      have := List.mem_of_getElem? hx
      simp only [List.mem_cons, List.not_mem_nil, or_false] at this
      rcases this with h | h | h | h | h | h | h <;> exact ⟨_, h, by omega⟩
    have stX := (stD.sub (A' := Any) fun _ _ => trivial).grow (T := m.T) g (fun _ _ z => z) (fun z => z)
    have hsX := g.extN _ _ hsD (fun _ z => by cases z)
    rw [es]
    walk_at "B"
    walk_at "V"
    refine g_blt hA hrepr rfl bt_repr ?_
    have stX' := stX
    obtain ⟨dx, lc, e1, e2, _⟩ := stX'
    refine w_cons (w_metX (E := C8.E0) hA S.Un (by omega) C8.pass0 ?_)
    walk_at "V"
    refine ⟨i, dx, _, rfl, e1, rfl, ?_⟩
    walk_at "V"
    refine ⟨i, b, num, cs, rfl, stX, hc, by omega, fun H1 g1 => ?_⟩
    walk_at "V"
    have fu := undD_fits (und_small hnum hcc hvb)
    refine g_repr hA (undD_dp _) fu.1 fu.2.1 fu.2.2 ?_
    obtain ⟨shU, hshU⟩ : ∃ z, (undD (und b cs num)).shown = z := ⟨_, rfl⟩
    rw [hshU]
    walk_at "V"
    refine g_blt hA hrepr rfl bt_repr ?_
    refine w_cons (w_call hA Ul (by omega) rfl ?_)
    walk_at "V"
    refine ⟨s, b, num, cs, rfl, SqL.of (g1.extN _ _ hsX (fun _ z => by cases z)), hc, h40, fun H2 g2 => ?_⟩
    walk_at "V"
    refine g_repr hA (undD_dp _) fu.1 fu.2.1 fu.2.2 ?_
    rw [hshU]
    walk_at "V"
    rw [show (!decide (shU = shU)) = false from by simp]
    refine iteF (b_nil (b_nil ?_))
    exact ⟨some (.int num), rfl, (g.trans g1).trans g2⟩
  rintro σ HE ⟨z, es, gE⟩
  rw [es]
  have stE := (stD.grow (T := m.T) gE (fun _ _ z => z) (fun z => z))
  have hsE := gE.extN _ _ hsD (fun _ z => by cases z)
  have hklE := gE.extN _ _ hklD (fun _ z => by cases z)
  have dE := dL.post gE
  walk_at "B"
  walk_at "V"
  refine w_call hA O (by omega) rfl ?_
  walk_at "V"
  refine g_powI ⟨by omega, by omega, by omega⟩ ?_
  walk_at "V"
  refine ⟨by walk_at "S", fun l hl => ?_⟩
  have gl := Grow.new (T := m.T) (o := .lst [.int 0, .int 3, .int (-4), .int (10 ^ (20 : Int).toNat)]) hl
  have hpE := dE.purse
  walk_at "V"
  refine ⟨p, _, l, _, rfl, hpE.new gl, by omega, SqL.of upd_same, hpE.ne hl, by simp, by simp, fun jj v HF hv dF => ?_⟩
  obtain ⟨w, rfl⟩ : ∃ w : Int, v = .int w := by
    have := List.mem_of_getElem? hv
    simp only [List.mem_cons, List.not_mem_nil, or_false] at this
    rcases this with h | h | h | h <;> exact ⟨_, h⟩
  have dEF := dE.trans (Drew.pre gl dF)
  have gEF : GrowX m.T (· = p) HE HF := (Grow.to gl).trans dF.grow
  have stF := stE.grow (T := m.T) gEF nP hip
  have hsF := gEF.ext _ _ hsp hsE (fun _ z => by cases z)
  have hklF := gEF.ext _ _ hkp hklE (fun _ z => by cases z)
  have stF' := stF
  obtain ⟨dxF, lcF, f1, f2, _⟩ := stF'
  walk_at "B"
  walk_at "V"
  refine w_metX (E := C8.E0) hA S.Sh (by omega) C8.pass0 ?_
  walk_at "V"
  refine ⟨i, dxF, _, rfl, f1, rfl, ?_⟩
  walk_at "V"
  refine ⟨i, b, w, cs, rfl, stF.sub fun _ _ => trivial, hc, by omega, fun o HG gG no stO => ?_⟩
  have hklG := gG.extN _ _ hklF (fun _ z => by cases z)
  walk_at "B"
  walk_at "V"
  refine w_stair hA S.Mk (by omega) rfl ?_
  walk_at "V"
  refine ⟨b + w, kl, cs, rfl, SqL.of hklG, by rw [hklG]; simp, hc, by omega, fun o2 HH gH no2 stO2 => ?_⟩
  walk_at "V"
  have stOH := (stO.grow (T := m.T) gH (fun _ _ z => z) (fun z => z)).sub (A' := Any) fun _ _ => trivial
  have stH := ((stF.grow (T := m.T) (gG.trans gH) (fun _ _ z => z) (fun z => z))).sub (A' := Any) fun _ _ => trivial
  refine g_neSt hA S.E2 S.Eq (by omega) stOH (stO2.sub fun _ _ => trivial) (by omega) (by omega) ?_
  walk_at "V"
  rw [show (!decide (b + w = b + w ∧ cs = cs)) = false from by simp]
  refine iteF ?_
  walk_at "V"
  refine g_eqSt hA S.E2 S.Eq (by omega) stOH stH (by omega) (by omega) ?_
  walk_at "V"
  refine g_neB ?_
  walk_at "V"
  rw [show (!decide (decide (b + w = b ∧ cs = cs) = decide (w = 0))) = false from by
    by_cases z : w = 0
    · simp [z]
    · have : ¬ b + w = b := by omega
      simp [z, this]]
  refine iteF ?_
  walk_at "V"
  refine w_begin hA S (by omega) ?_
  walk_at "V"
  refine ⟨i, b, cs, rfl, stH, ?_⟩
  walk_at "V"
  rw [show (!decide (b = b)) = false from by simp]
  refine iteF (b_nil ?_)
  have dH := (dEF.post gG).post gH
  have hsH := Grow.extN (gG.trans gH) _ _ hsF (fun _ z => by cases z)
  walk_at "B"
  walk_at "V"
  refine g_powI ⟨by omega, by omega, by omega⟩ ?_
  refine w_call hA D (by omega) rfl ?_
  walk_at "V"
  have hpH := dH.purse
  refine ⟨p, _, _, rfl, hpH, by omega, by omega, by omega, fun y HI y0 y1 dI => ?_⟩
  have stI := (((stF.grow (T := m.T) (gG.trans gH) (fun _ _ z => z) (fun z => z))).grow (T := m.T) dI.grow nP hip).sub (A' := Any) fun _ _ => trivial
  have hsI := dI.grow.ext _ _ hsp hsH (fun _ z => by cases z)
  have stI' := stI
  obtain ⟨dxI, lcI, i1, i2, _⟩ := stI'
  walk_at "V"
  have h29 : (1000 : Int) ≤ 10 ^ (29 : Int).toNat := by decide
  obtain ⟨far, efar, hfar⟩ : ∃ far : Int, (10 : Int) ^ (29 : Int).toNat + y = far ∧ 1000 ≤ far := ⟨_, rfl, by omega⟩
  rw [efar]
  refine w_metX (E := C8.E0) hA S.Va (by omega) C8.pass0 ?_
  walk_at "V"
  refine ⟨i, dxI, _, rfl, i1, rfl, ?_⟩
  walk_at "V"
  refine ⟨i, b, far, cs, rfl, stI, hc, by omega, by omega, fun HJ gJ => ?_⟩
  have hsJ := gJ.extN _ _ hsI (fun _ z => by cases z)
  have hsJ' : HJ s = some (.lst (hd.map V.int ++ [V.int (val b cs 40)])) := by rw [hsJ, ehd, List.map_append]; rfl
  refine w_ifV (va := .int (val b cs 40 + far - 40)) (vb := .int (val b cs 40)) ?_
  walk_at "V"
  refine ⟨fun _ => ?_, fun _ => ?_, ?_⟩
  · walk_at "V"
    refine g_ixL hA (SqL.of hsJ') (at_lastL _ _) ?_
    walk_at "V"
    exact ⟨rfl, rfl⟩
  · walk_at "V"
    exact g_ixL hA (SqL.of hsJ') (at_lastL _ _) ⟨rfl, rfl⟩
  have hvf := hc.val_far (b := b) h40 (far - 40).toNat
  rw [show (40 : Int) + ((far - 40).toNat : Int) = far from by omega] at hvf
  rw [show (if decide (cs.length % 2 = 1) = true then V.int (val b cs 40 + far - 40) else .int (val b cs 40)) = .int (val b cs far) from by
    rcases Nat.mod_two_eq_zero_or_one cs.length with w | w
    · rw [w] at hvf
      rw [if_neg (by simp [w]), hvf]; simp
    · rw [w] at hvf
      rw [if_pos (by simp [w]), hvf]
      congr 1
      omega]
  refine g_eqI ?_
  rw [decide_eq_true rfl]
  have dT := (dH.trans dI).post gJ
  exact k _ ((g05.weak fun _ z => .inr z).trans ((Grow.to (g59.trans g9C)).trans (dT.grow.weak fun _ z => .inl z))) (dT.purse.mono (by omega))
theorem cut_init (ys : List V) (y : V) : cutV (ys ++ [y]) none (some (-1)) = ys := by
  unfold cutV
  rw [HT.sIx_none, List.drop_zero, Nat.sub_zero, show HT.sIx (ys ++ [y]).length (ys ++ [y]).length (some (-1)) = ys.length from by
    unfold HT.sIx
    simp
    omega]
  simp
theorem cut_tail (ys : List V) (y : V) : cutV (y :: ys) (some 1) none = ys := by
  unfold cutV
  rw [HT.sIx_none, show (1 : Int) = ((1 : Nat) : Int) from rfl, HT.sIx_nat]
  simp
def NearE (K : PySem.W.Frag) (b : Int) (cs : List Int) (H : Hp) (x : V) : Prop := ∃ (t : Addr) (b' : Int) (l' : Addr) (cs' : List Int), x = .ref t ∧ SqT K H t [.int b', .ref l'] ∧ H l' = some (.lst (cs'.map V.int)) ∧ Cor cs' ∧ cs'.length < 1000 ∧ ¬ (b = b' ∧ cs = cs')
theorem NearE.grow {T : List (Addr × Str)} {K : PySem.W.Frag} {b : Int} {cs : List Int} {H H' : Hp} {x : V} (h : NearE K b cs H x) (g : Grow T H H') : NearE K b cs H' x := by
  obtain ⟨t, b', l', cs', e, h1, h2, r⟩ := h
  exact ⟨t, b', l', cs', e, GrowX.seqT g h1, g.extN _ _ h2 (fun _ z => by cases z), r⟩
theorem Cor.cut {hd : List Int} {z : Int} (h : Cor (hd ++ [z])) : Cor hd ∧ Cor (hd ++ [z + 1]) ∧ Cor (hd ++ [z] ++ [z + 1]) := by
  have asc := List.pairwise_append.1 h.asc
  have nz : 0 ≤ z := h.nn z (by simp)
  have lt : ∀ a ∈ hd, a < z := fun a ha => asc.2.2 a ha z (by simp)
  refine ⟨⟨asc.1, fun c hc => h.nn c (by simp [hc])⟩, ⟨List.pairwise_append.2 ⟨asc.1, by simp, fun a ha c hc => by rw [List.mem_singleton.1 hc]; have := lt a ha; omega⟩, ?_⟩, ⟨List.pairwise_append.2 ⟨h.asc, by simp, fun a ha c hc => ?_⟩, ?_⟩⟩
  · intro c hc
    rcases List.mem_append.1 hc with e | e
    · exact h.nn c (by simp [e])
    · rw [List.mem_singleton.1 e]; omega
  · rw [List.mem_singleton.1 hc]
    rcases List.mem_append.1 ha with e | e
    · have := lt a e; omega
    · rw [List.mem_singleton.1 e]; omega
  · intro c hc
    rcases List.mem_append.1 hc with e | e
    · exact h.nn c e
    · rw [List.mem_singleton.1 e]; omega
theorem Cor.tail {z : Int} {tl : List Int} (h : Cor (z :: tl)) : Cor tl := ⟨(List.pairwise_cons.1 h.asc).2, fun c hc => h.nn c (by simp [hc])⟩
def sp_near (m : Md) : Sp := fun vs H Q _ => ∃ (a : Addr) (b : Int) (cs : List Int), vs = [.int b, .ref a] ∧ H a = some (.lst (cs.map V.int)) ∧ Cor cs ∧ cs.length < 900 ∧ cs ≠ [] ∧ ∀ H', Grow m.T H H' → Q (.bl true) H'
theorem c_near {m : Md} {C f : Addr} {fd : FuncData} (F : C8.Def m.K m.mg "_law_near_right" st_near_right f fd) (b : L2.Binds m.K fd ps_near_right []) (S : Sts m C) : Cal m 10 "_law_near_right" (sp_near m) := by
  refine cal_ofM F b sc_near_right (fun vs H Q E h => by obtain ⟨_, _, _, rfl, _⟩ := h; rfl) fun X vs H Q E hA hM h => ?_
  obtain ⟨a, b, cs, rfl, ha, hc, hl, hne, k⟩ := h
  obtain ⟨n0, n1, n2, n3⟩ := nv_near_right
  obtain ⟨hd, z, ehd⟩ : ∃ hd z, cs = hd ++ [z] := ⟨_, _, (List.dropLast_concat_getLast hne).symm⟩
  obtain ⟨y, tl, etl⟩ : ∃ y tl, cs = y :: tl := by
    cases cs with
    | nil => exact absurd rfl hne
    | cons y tl => exact ⟨y, tl, rfl⟩
  have emap : cs.map V.int = hd.map V.int ++ [.int z] := by rw [ehd, List.map_append]; rfl
  have emapt : cs.map V.int = .int y :: tl.map V.int := by rw [etl]; rfl
  have hcut := Cor.cut (ehd ▸ hc)
  have htail := Cor.tail (etl ▸ hc)
  have lhd : cs.length = hd.length + 1 := by rw [ehd]; simp
  have ltl : cs.length = tl.length + 1 := by rw [etl]; simp
  walk_at "B"
  walk_at "V"
  refine s_nc hA n3 hM.fn ?_
  refine w_stair hA S.Mk (by omega) rfl ?_
  walk_at "V"
  refine ⟨b, a, cs, rfl, SqL.of ha, by rw [ha]; simp, hc, by omega, fun i H2 g2 ni st2 => ?_⟩
  have ha2 := g2.extN _ _ ha (fun _ z => by cases z)
  have st := st2.sub (A' := Any) fun _ _ => trivial
  walk_at "B"
  walk_at "V"
  refine ⟨by walk_at "S", fun t1 ht1 => ?_⟩
  have g3 := Grow.new (T := m.T) (o := .tup [.int (b + 1), .ref a]) ht1
  have ha3 := g3.extN _ _ ha2 (fun _ z => by cases z)
  have e1 : NearE m.K b cs _ (.ref t1) := ⟨t1, b + 1, a, cs, rfl, SqT.of upd_same, ha3, hc, by omega, fun w => by omega⟩
  have st3 := st.grow (T := m.T) g3 (fun _ _ z => z) (fun z => z)
  generalize upd H2 t1 (.tup [.int (b + 1), .ref a]) = H3 at g3 ha3 e1 st3 ⊢
  walk_at "V"
  refine w_sliceTo hA ?_
  walk_at "V"
  refine ⟨a, _, rfl, SqL.of ha3, fun s1 hs1 => ?_⟩
  rw [emap, cut_init]
  have g4 := Grow.new (T := m.T) (o := .lst (hd.map V.int)) hs1
  have ha4 := g4.extN _ _ ha3 (fun _ z => by cases z)
  have h4s := upd_same (H := H3) (a := s1) (o := .lst (hd.map V.int))
  have e14 := e1.grow g4
  have st4 := st3.grow (T := m.T) g4 (fun _ _ z => z) (fun z => z)
  generalize upd H3 s1 (.lst (hd.map V.int)) = H4 at g4 ha4 h4s e14 st4 ⊢
  walk_at "V"
  refine ⟨by walk_at "S", fun t2 ht2 => ?_⟩
  have g5 := Grow.new (T := m.T) (o := .tup [.int b, .ref s1]) ht2
  have ha5 := g5.extN _ _ ha4 (fun _ z => by cases z)
  have e25 : NearE m.K b cs _ (.ref t2) := ⟨t2, b, s1, hd, rfl, SqT.of upd_same, g5.extN _ _ h4s (fun _ z => by cases z), hcut.1, by omega, fun w => by have := congrArg List.length w.2; omega⟩
  have e15 := e14.grow g5
  have st5 := st4.grow (T := m.T) g5 (fun _ _ z => z) (fun z => z)
  generalize upd H4 t2 (.tup [.int b, .ref s1]) = H5 at g5 ha5 e25 e15 st5 ⊢
  walk_at "V"
  refine w_sliceFrom hA ?_
  walk_at "V"
  refine ⟨a, _, rfl, SqL.of ha5, fun s2 hs2 => ?_⟩
  rw [emapt, cut_tail]
  have g6 := Grow.new (T := m.T) (o := .lst (tl.map V.int)) hs2
  have ha6 := g6.extN _ _ ha5 (fun _ z => by cases z)
  have h6s := upd_same (H := H5) (a := s2) (o := .lst (tl.map V.int))
  generalize upd H5 s2 (.lst (tl.map V.int)) = H6 at g6 ha6 h6s ⊢
  walk_at "V"
  refine ⟨by walk_at "S", fun t3 ht3 => ?_⟩
  have g7 := Grow.new (T := m.T) (o := .tup [.int b, .ref s2]) ht3
  have e37 : NearE m.K b cs _ (.ref t3) := ⟨t3, b, s2, tl, rfl, SqT.of upd_same, g7.extN _ _ h6s (fun _ z => by cases z), htail, by omega, fun w => by have := congrArg List.length w.2; omega⟩
  generalize upd H6 t3 (.tup [.int b, .ref s2]) = H7 at g7 e37 ⊢
  walk_at "V"
  refine ⟨by walk_at "S", fun La hLa => ?_⟩
  have g8 := Grow.new (T := m.T) (o := .lst [.ref t1, .ref t2, .ref t3]) hLa
  have g58 := (g6.trans g7).trans g8
  have ha8 := Grow.extN g58 _ _ ha5 (fun _ z => by cases z)
  have hL8 := upd_same (H := H7) (a := La) (o := .lst [.ref t1, .ref t2, .ref t3])
  have e18 := e15.grow g58
  have e28 := e25.grow g58
  have e38 := e37.grow g8
  have st8 := st5.grow (T := m.T) g58 (fun _ _ z => z) (fun z => z)
  have g08 := ((g2.trans g3).trans (g4.trans g5)).trans g58
  generalize upd H7 La (.lst [.ref t1, .ref t2, .ref t3]) = H8 at g08 ha8 hL8 e18 e28 e38 st8 ⊢
  walk_at "V"
  refine g_ixL hA (SqL.of ha8) (by rw [emap]; exact at_lastL _ _) ?_
  walk_at "V"
  refine ⟨by walk_at "S", fun q1 hq1 => ?_⟩
  have g9 := Grow.new (T := m.T) (o := .lst [.int (z + 1)]) hq1
  refine g_cat (g9.extN _ _ ha8 (fun _ z => by cases z)) upd_same (by rw [List.length_map, sizeLine_eq]; show cs.length + 1 ≤ _; omega) fun c1 hc1 => ?_
  have g10 := g9.trans (Grow.new (T := m.T) (o := .lst (cs.map V.int ++ [.int (z + 1)])) hc1)
  have h10 : upd (upd H8 q1 (.lst [.int (z + 1)])) c1 (.lst (cs.map V.int ++ [.int (z + 1)])) c1 = some (.lst ((cs ++ [z + 1]).map V.int)) := by rw [upd_same, List.map_append]; rfl
  generalize upd (upd H8 q1 (.lst [.int (z + 1)])) c1 (.lst (cs.map V.int ++ [.int (z + 1)])) = H10 at g10 h10 ⊢
  walk_at "V"
  refine ⟨by walk_at "S", fun t4 ht4 => ?_⟩
  have g11 := Grow.new (T := m.T) (o := .tup [.int b, .ref c1]) ht4
  have e4 : NearE m.K b cs _ (.ref t4) := ⟨t4, b, c1, cs ++ [z + 1], rfl, SqT.of upd_same, g11.extN _ _ h10 (fun _ z => by cases z), by rw [ehd]; exact hcut.2.2, by simp; omega, fun w => by have := congrArg List.length w.2; simp at this⟩
  generalize upd H10 t4 (.tup [.int b, .ref c1]) = H11 at g11 e4 ⊢
  walk_at "V"
  refine ⟨by walk_at "S", fun q2 hq2 => ?_⟩
  have g12 := Grow.new (T := m.T) (o := .lst [.ref t4]) hq2
  have g812 := (g10.trans g11).trans g12
  have hLq := Grow.extN g812 _ _ hL8 (fun _ z => by cases z)
  have haq := Grow.extN g812 _ _ ha8 (fun _ z => by cases z)
  have e1q := e18.grow g812
  have e2q := e28.grow g812
  have e3q := e38.grow g812
  have e4q := e4.grow g12
  have stq := st8.grow (T := m.T) g812 (fun _ _ z => z) (fun z => z)
  have hqq := upd_same (H := H11) (a := q2) (o := .lst [.ref t4])
  have g0q := g08.trans g812
  generalize upd H11 q2 (.lst [.ref t4]) = Hq at g0q hLq haq e1q e2q e3q e4q stq hqq ⊢
  refine g_cat hLq hqq (by rw [sizeLine_eq]; simp) fun Lb hLb => ?_
  have gLb := Grow.new (T := m.T) (o := .lst ([.ref t1, .ref t2, .ref t3] ++ [.ref t4])) hLb
  have ha13 := gLb.extN _ _ haq (fun _ z => by cases z)
  have hL13 := upd_same (H := Hq) (a := Lb) (o := .lst ([.ref t1, .ref t2, .ref t3] ++ [.ref t4]))
  generalize upd Hq Lb (.lst ([.ref t1, .ref t2, .ref t3] ++ [.ref t4])) = H13 at gLb ha13 hL13 ⊢
  walk_at "B"
  walk_at "V"
  refine g_append ?_
  walk_at "V"
  refine ⟨tyL hL13, ?_⟩
  walk_at "V"
  refine w_sliceTo hA ?_
  walk_at "V"
  refine ⟨a, _, rfl, SqL.of ha13, fun s3 hs3 => ?_⟩
  rw [emap, cut_init]
  have g14 := Grow.new (T := m.T) (o := .lst (hd.map V.int)) hs3
  have ha14 := g14.extN _ _ ha13 (fun _ z => by cases z)
  have h14s := upd_same (H := H13) (a := s3) (o := .lst (hd.map V.int))
  generalize upd H13 s3 (.lst (hd.map V.int)) = H14 at g14 ha14 h14s ⊢
  walk_at "V"
  refine g_ixL hA (SqL.of ha14) (by rw [emap]; exact at_lastL _ _) ?_
  walk_at "V"
  refine ⟨by walk_at "S", fun q3 hq3 => ?_⟩
  have g15 := Grow.new (T := m.T) (o := .lst [.int (z + 1)]) hq3
  refine g_cat (g15.extN _ _ h14s (fun _ z => by cases z)) upd_same (by rw [List.length_map, sizeLine_eq]; show hd.length + 1 ≤ _; omega) fun c2 hc2 => ?_
  have g1416 := g15.trans (Grow.new (T := m.T) (o := .lst (hd.map V.int ++ [.int (z + 1)])) hc2)
  have nc2 : New H14 c2 := g15.keep _ hc2
  have h16 : upd (upd H14 q3 (.lst [.int (z + 1)])) c2 (.lst (hd.map V.int ++ [.int (z + 1)])) c2 = some (.lst ((hd ++ [z + 1]).map V.int)) := by rw [upd_same, List.map_append]; rfl
  generalize upd (upd H14 q3 (.lst [.int (z + 1)])) c2 (.lst (hd.map V.int ++ [.int (z + 1)])) = H16 at g1416 h16 ⊢
  walk_at "V"
  refine ⟨by walk_at "S", fun t5 ht5 => ?_⟩
  have g17 := Grow.new (T := m.T) (o := .tup [.int b, .ref c2]) ht5
  have h17 := g17.extN _ _ h16 (fun _ z => by cases z)
  have ht17 : SqT m.K _ t5 [.int b, .ref c2] := SqT.of (upd_same (H := H16))
  have gq17 := (gLb.trans (g14.trans g1416)).trans g17
  have hL17 := Grow.extN ((g14.trans g1416).trans g17) _ _ hL13 (fun _ z => by cases z)
  have hcL : c2 ≠ Lb := fun w => by
    have e := Grow.extN g14 _ _ hL13 (fun _ z => by cases z)
    rw [← w, nc2] at e; cases e
  generalize upd H16 t5 (.tup [.int b, .ref c2]) = H17 at gq17 h17 ht17 hL17 ⊢
  walk_at "V"
  refine ⟨Lb, _, .ref t5, rfl, rfl, hL17, by rw [sizeLine_eq]; simp, ?_⟩
  have gM := GrowX.lst (T := m.T) (ys := [V.ref t1, .ref t2, .ref t3] ++ [.ref t4] ++ [.ref t5]) hL17
  have gq18 := Grow.intoNew gq17 gM fun c w => by rw [w]; exact hLb
  have e5 : NearE m.K b cs _ (.ref t5) := ⟨t5, b, c2, hd ++ [z + 1], rfl, gM.seqT ht17, gM.ext _ _ hcL h17 (fun _ z => by cases z), hcut.2.1, by simp; omega, fun w => by
    have := w.2
    rw [ehd] at this
    have := List.append_cancel_left this
    injection this with this
    omega⟩
  have es : ∀ x ∈ [V.ref t1, .ref t2, .ref t3] ++ [.ref t4] ++ [.ref t5], NearE m.K b cs (upd H17 Lb (.lst ([V.ref t1, .ref t2, .ref t3] ++ [.ref t4] ++ [.ref t5]))) x := by
    intro x hx
    simp only [List.cons_append, List.nil_append, List.mem_cons, List.not_mem_nil, or_false] at hx
    rcases hx with rfl | rfl | rfl | rfl | rfl
    · exact e1q.grow gq18
    · exact e2q.grow gq18
    · exact e3q.grow gq18
    · exact e4q.grow gq18
    · exact e5
  have stR := stq.grow (T := m.T) gq18 (fun _ _ z => z) (fun z => z)
  have g0R := g0q.trans gq18
  have hLR := upd_same (H := H17) (a := Lb) (o := .lst ([V.ref t1, .ref t2, .ref t3] ++ [.ref t4] ++ [.ref t5]))
  generalize upd H17 Lb (.lst ([V.ref t1, .ref t2, .ref t3] ++ [.ref t4] ++ [.ref t5])) = HR at g0R hLR stR es ⊢
  generalize [V.ref t1, .ref t2, .ref t3] ++ [.ref t4] ++ [.ref t5] = some5 at hLR es
  walk_at "B"
  walk_at "V"
  refine w_lcLi hA (by decide +kernel) (i := 4) ⟨rfl, rfl⟩ ?_
  walk_at "V"
  refine ⟨Lb, _, rfl, SqL.of hLR, fun D hD => ?_⟩
  refine ⟨fun j H' => Grow m.T HR H' ∧ H' D = some (.lst []), ⟨Grow.new hD, upd_same⟩, ?_, ?_, ?_⟩
  · rintro j H' _ ⟨g, _⟩
    exact SqL.of (g.extN _ _ hLR (fun _ z => by cases z))
  · rintro j x H' hx ⟨g, hd'⟩ X' hX'
    have c3 := nc_of hX' 3 "_law_stair_here"
    have c4 := nl_of hX' 4 "_law_one"
    have ne := (es x (List.mem_of_getElem? hx)).grow g
    obtain ⟨t, b', l', cs', rfl, ht, hl', hc', hlen', nee⟩ := ne
    have st' := stR.grow (T := m.T) g (fun _ _ z => z) (fun z => z)
    walk_at "V"
    refine w_stair hX' S.Mk (by omega) rfl ?_
    walk_at "V"
    refine g_ixT hX' ht rfl ?_
    walk_at "V"
    refine g_ixT hX' ht rfl ?_
    walk_at "V"
    refine ⟨b', l', cs', rfl, SqL.of hl', by rw [hl']; simp, hc', hlen', fun i2 HA gA nA stA => ?_⟩
    walk_at "V"
    refine g_eqSt hX' S.E2 S.Eq (by omega) (st'.grow (T := m.T) gA (fun _ _ z => z) (fun z => z)) (stA.sub fun _ _ => trivial) (by omega) hlen' ?_
    walk_at "V"
    rw [decide_eq_false nee]
    refine iteF ?_
    walk_at "V"
    refine w_stair hX' S.Mk (by omega) rfl ?_
    walk_at "V"
    refine g_ixT hX' (GrowX.seqT gA ht) rfl ?_
    walk_at "V"
    refine g_ixT hX' (GrowX.seqT gA ht) rfl ?_
    walk_at "V"
    have hlA := gA.extN _ _ hl' (fun _ z => by cases z)
    refine ⟨b', l', cs', rfl, SqL.of hlA, by rw [hlA]; simp, hc', hlen', fun i3 HB gB nB stB => ?_⟩
    walk_at "V"
    refine g_neSt hX' S.E2 S.Eq (by omega) (st'.grow (T := m.T) (gA.trans gB) (fun _ _ z => z) (fun z => z)) (stB.sub fun _ _ => trivial) (by omega) hlen' ?_
    walk_at "V"
    rw [decide_eq_false nee]
    refine iteF ?_
    exact ⟨g.trans (gA.trans gB), Grow.extN (gA.trans gB) _ _ hd' (fun _ z => by cases z)⟩
  · rintro HE ⟨g, hd'⟩
    walk_at "V"
    refine ⟨by walk_at "S", fun z1 hz1 => ?_⟩
    have gz := Grow.new (T := m.T) (o := .lst []) hz1
    refine g_eqD hA (Dp.lst (SqL.of (gz.extN _ _ hd' (fun _ z => by cases z))) .nil) (Dp.lst (SqL.of upd_same) .nil) rfl rfl ?_
    exact k _ (g0R.trans (g.trans gz))
section
variable {x y : Int} (hx : 0 ≤ x) (hy : 1 ≤ y)
include hx hy
theorem gr_cor : Cor [x, x + y, x + y + y] := ⟨by simp; omega, by simp; omega⟩
theorem gr_pas (n : Int) : pas [x, x + y, x + y + y] n = if n < x then 0 else if n < x + y then 1 else if n < x + y + y then 2 else 3 := by
  simp only [pas]
  repeat' split
  all_goals omega
theorem gr_val (n : Int) (hn : x ≤ n) : val (0 - x) [x, x + y, x + y + y] n = if n < x + y then n - 2 * x else if n < x + y + y then y - x else n - 2 * x - y := by
  unfold val
  rw [gr_pas hx hy, if_neg (by omega)]
  by_cases h1 : n < x + y
  · rw [if_pos h1, if_pos h1]; simp [valK, bk]; omega
  · rw [if_neg h1, if_neg h1]
    by_cases h2 : n < x + y + y
    · rw [if_pos h2, if_pos h2]; simp [valK, bk]; omega
    · rw [if_neg h2, if_neg h2]; simp [valK, bk]; omega
theorem gr_v1 : val (0 - x) [x, x + y, x + y + y] x = 0 - x := by
  rw [gr_val hx hy _ (by omega), if_pos (by omega)]; omega
theorem gr_v2 : val (0 - x) [x, x + y, x + y + y] (x + y) = y - x := by
  rw [gr_val hx hy _ (by omega), if_neg (by omega), if_pos (by omega)]
theorem gr_v3 : val (0 - x) [x, x + y, x + y + y] (x + y + y) = y - x := by
  rw [gr_val hx hy _ (by omega), if_neg (by omega), if_neg (by omega)]; omega
theorem gr_v4 : val (0 - x) [x, x + y, x + y + y] (2 * x + 2 * y) = y := by
  rw [gr_val hx hy _ (by omega), if_neg (by omega), if_neg (by omega)]; omega
theorem gr_und (num : Int) : und (0 - x) [x, x + y, x + y + y] num = if num < 0 - x then some (-1) else if num < y - x then some (2 * x + num) else some (2 * x + y + num) := by
  unfold und
  by_cases h : num < 0 - x
  · rw [if_pos h, if_pos h]
  · rw [if_neg h, if_neg h]
    have e : undK (0 - x) [x, x + y, x + y + y] num 3 = if y - x ≤ num then some 2 else some 0 := by
      simp only [undK, List.getD_cons_zero, List.getD_cons_succ]
      rw [gr_v1 hx hy, gr_v2 hx hy, gr_v3 hx hy]
      repeat' split
      all_goals first | rfl | omega
    show (match undK (0 - x) [x, x + y, x + y + y] num 3 with | none => none | some i => _) = _
    rw [e]
    by_cases h2 : num < y - x
    · rw [if_pos h2, if_neg (by omega)]
      show (if 0 % 2 = 0 then some (x + num - val (0 - x) [x, x + y, x + y + y] x) else none) = _
      rw [gr_v1 hx hy, if_pos rfl]
      congr 1; omega
    · rw [if_neg h2, if_pos (by omega)]
      show (if 2 % 2 = 0 then some (x + y + y + num - val (0 - x) [x, x + y, x + y + y] (x + y + y)) else none) = _
      rw [gr_v3 hx hy, if_pos rfl]
      congr 1; omega
theorem gr_two : Cor [y, y + 5] ∧ val x [y, y + 5] (lastC [y, y + 5]) = x + 5 := by
  refine ⟨⟨by simp; omega, by simp; omega⟩, ?_⟩
  rw [show lastC [y, y + 5] = y + 5 from rfl]
  unfold val
  rw [show pas [y, y + 5] (y + 5) = 2 from by
    simp only [pas]
    rw [if_pos (by omega), if_pos (by omega)]]
  simp [valK, bk]
  omega
end
def sp_great (m : Md) : Sp := fun vs H Q _ => ∃ (p : Addr) (n : Nat), vs = [.ref p] ∧ Purse H p n ∧ n ≤ 2000 ∧ ∀ H', Drew m p n 16 H H' → Q (.bl true) H'
theorem c_great {m : Md} {C f : Addr} {fd : FuncData} (F : C8.Def m.K m.mg "_law_great_right" st_great_right f fd) (b : L2.Binds m.K fd ps_great_right []) (S : Sts m C) (D : Cal m 2 "_law_draw" (sp_draw m)) : Cal m 10 "_law_great_right" (sp_great m) := by
  refine cal_ofM F b sc_great_right (fun vs H Q E h => by obtain ⟨_, _, rfl, _⟩ := h; rfl) fun X vs H Q E hA hM h => ?_
  obtain ⟨p, n, rfl, hp, hn, k⟩ := h
  obtain ⟨n0, n1, n2, n3, n4, n5⟩ := nv_great_right
  walk_at "B"
  refine s_par hA n1 n2 ?_
  walk_at "V"
  refine w_call hA D (by omega) rfl ?_
  walk_at "V"
  refine g_powI ⟨by omega, by omega, by omega⟩ ?_
  walk_at "V"
  refine ⟨p, n, _, rfl, hp, by omega, by decide, by decide, fun x H1 x0 x1 d1 => ?_⟩
  walk_at "V"
  refine w_call hA D (by omega) rfl ?_
  walk_at "V"
  refine g_powI ⟨by omega, by omega, by omega⟩ ?_
  walk_at "V"
  refine ⟨p, _, _, rfl, d1.purse, by omega, by decide, by decide, fun y0 H2 y1 y2 d2 => ?_⟩
  walk_at "V"
  rw [show ((10 : Int) ^ (25 : Int).toNat) = 10000000000000000000000000 from by decide] at x1 y2
  obtain ⟨y, ey, hy, hy2⟩ : ∃ y : Int, 1 + y0 = y ∧ 1 ≤ y ∧ y ≤ 10000000000000000000000000 := ⟨_, rfl, by omega, by omega⟩
  refine ⟨_, _, rfl, ?_⟩
  rw [ey]
  have d12 := d1.trans d2
  walk_at "B"
  have hcor := gr_cor x0 hy
  refine s_nc hA n5 hM.fn ?_
  refine w_stair hA S.Mk (by omega) rfl ?_
  walk_at "V"
  refine ⟨by walk_at "S", fun l hl => ?_⟩
  have gl := Grow.new (T := m.T) (o := .lst [.int x, .int (x + y), .int (x + y + y)]) hl
  walk_at "V"
  refine ⟨0 - x, l, [x, x + y, x + y + y], rfl, SqL.of upd_same, by rw [upd_same]; simp, hcor, by simp, fun i H3 g3 ni st3 => ?_⟩
  have st := st3.sub (A' := Any) fun _ _ => trivial
  walk_at "B"
  walk_at "V"
  refine g_mulI (.inl ⟨by omega, by omega⟩) ?_
  walk_at "V"
  refine g_mulI (.inl ⟨by omega, by omega⟩) ?_
  walk_at "V"
  refine ⟨by walk_at "S", fun La hLa => ?_⟩
  obtain ⟨ns, ens⟩ : ∃ ns : List Int, [x, x + y, x + y + y, 2 * x + 2 * y] = ns := ⟨_, rfl⟩
  have eL : [V.int x, .int (x + y), .int (x + y + y), .int (2 * x + 2 * y)] = ns.map V.int := by rw [← ens]; rfl
  rw [eL]
  have g4 := Grow.new (T := m.T) (o := .lst (ns.map V.int)) hLa
  have hL4 := upd_same (H := H3) (a := La) (o := .lst (ns.map V.int))
  have st4 := st.grow (T := m.T) g4 (fun _ _ z => z) (fun z => z)
  have g24 := (gl.trans g3).trans g4
  generalize upd H3 La (.lst (ns.map V.int)) = H4 at g24 hL4 st4 ⊢
  have hnn : ∀ q ∈ ns, 0 ≤ q := by
    rw [← ens]; simp; omega
  have hns : ns.length < 1000 := by rw [← ens]; simp
  walk_at "B"
  walk_at "V"
  refine w_lcL hA (by decide +kernel) (i := 6) ⟨rfl, rfl⟩ ?_
  walk_at "V"
  refine ⟨La, _, rfl, SqL.of hL4, fun D1 hD1 => ?_⟩
  refine ⟨fun j H' => Grow m.T H4 H' ∧ H' D1 = some (.lst ((ns.take j).map fun q => V.int (val (0 - x) [x, x + y, x + y + y] q))), ⟨Grow.new hD1, upd_same⟩, ?_, ?_, ?_⟩
  · rintro j H' _ ⟨g, _⟩
    exact SqL.of (g.extN _ _ hL4 (fun _ z => by cases z))
  · rintro j v H' hv ⟨g, hd⟩ X' hX'
    have c5 := nc_of hX' 5 "_law_stair_here"
    have c6 := nl_of hX' 6 "_law_count"
    rw [List.getElem?_map] at hv
    obtain ⟨q, hq, rfl⟩ := Option.map_eq_some_iff.1 hv
    have stj := st4.grow (T := m.T) g (fun _ _ z => z) (fun z => z)
    have stj' := stj
    obtain ⟨dx, lc, e1, e2, _⟩ := stj'
    refine w_metX (E := C8.E0) hX' S.Va (by omega) C8.pass0 ?_
    walk_at "V"
    refine ⟨i, dx, _, rfl, e1, rfl, ?_⟩
    walk_at "V"
    refine ⟨i, 0 - x, q, _, rfl, stj, hcor, by simp, hnn q (List.mem_of_getElem? hq), fun H5 g5 => ?_⟩
    have hd5 := g5.extN _ _ hd (fun _ z => by cases z)
    refine ⟨_, hd5, by rw [List.length_map, List.length_take, sizeLine_eq]; omega, Grow.intoNew (g.trans g5) (GrowX.lst hd5) fun c w => by rw [w]; exact hD1, ?_⟩
    rw [upd_same, List.take_add_one, hq, List.map_append]; rfl
  rintro H5 ⟨g5, hd5⟩
  have hd5' : H5 D1 = some (.lst ([0 - x, y - x, y - x, y].map V.int)) := by
    rw [hd5, ← ens]
    simp only [List.length_map, List.length_cons, List.length_nil, List.take, List.map_cons, List.map_nil]
    rw [gr_v1 x0 hy, gr_v2 x0 hy, gr_v3 x0 hy, gr_v4 x0 hy]
  walk_at "V"
  refine ⟨by walk_at "S", fun D2 hD2 => ?_⟩
  have g6 := Grow.new (T := m.T) (o := .lst [.int (0 - x), .int (y - x), .int (y - x), .int y]) hD2
  refine g_neL hA (xs := [0 - x, y - x, y - x, y]) (ys := [0 - x, y - x, y - x, y]) (SqL.of (g6.extN _ _ hd5' (fun _ z => by cases z))) (SqL.of upd_same) ?_
  walk_at "V"
  rw [decide_eq_true rfl]
  refine iteF (b_nil ?_)
  have st6 := st4.grow (T := m.T) (g5.trans g6) (fun _ _ z => z) (fun z => z)
  have g26 := g24.trans (g5.trans g6)
  generalize upd H5 D2 (.lst [.int (0 - x), .int (y - x), .int (y - x), .int y]) = H6 at g26 st6 ⊢
  walk_at "B"
  walk_at "V"
  refine g_mulI (.inl ⟨by omega, by omega⟩) ?_
  walk_at "V"
  refine g_mulI (.inl ⟨by omega, by omega⟩) ?_
  walk_at "V"
  refine g_mulI (.inl ⟨by omega, by omega⟩) ?_
  walk_at "V"
  refine ⟨by walk_at "S", fun Du hDu => ?_⟩
  have g7 := Grow.new (T := m.T) (o := .lst [.int (-1), .int x, .int (x + 2 * y), .int (2 * x + 2 * y)]) hDu
  have hDu7 := upd_same (H := H6) (a := Du) (o := .lst [.int (-1), .int x, .int (x + 2 * y), .int (2 * x + 2 * y)])
  have st7 := st6.grow (T := m.T) g7 (fun _ _ z => z) (fun z => z)
  have g27 := g26.trans g7
  generalize upd H6 Du (.lst [.int (-1), .int x, .int (x + 2 * y), .int (2 * x + 2 * y)]) = H7 at g27 hDu7 st7 ⊢
  walk_at "B"
  walk_at "V"
  refine w_lcL hA (by decide +kernel) (i := 7) ⟨rfl, rfl⟩ ?_
  walk_at "V"
  refine ⟨by walk_at "S", fun Lb hLb => ?_⟩
  obtain ⟨ms, ems⟩ : ∃ ms : List Int, [0 - x - 1, 0 - x, y - x, y] = ms := ⟨_, rfl⟩
  have eLb : [V.int (0 - x - 1), .int (0 - x), .int (y - x), .int y] = ms.map V.int := by rw [← ems]; rfl
  rw [eLb]
  have g8 := Grow.new (T := m.T) (o := .lst (ms.map V.int)) hLb
  have hL8 := upd_same (H := H7) (a := Lb) (o := .lst (ms.map V.int))
  have st8 := st7.grow (T := m.T) g8 (fun _ _ z => z) (fun z => z)
  have hDu8 := g8.extN _ _ hDu7 (fun _ z => by cases z)
  have g28 := g27.trans g8
  generalize upd H7 Lb (.lst (ms.map V.int)) = H8 at g28 hL8 hDu8 st8 ⊢
  have hms : ms.length < 1000 := by rw [← ems]; simp
  refine ⟨Lb, _, rfl, SqL.of hL8, fun D2 hD2 => ?_⟩
  refine ⟨fun j H' => Grow m.T H8 H' ∧ H' D2 = some (.lst ((ms.take j).map fun q => undV (und (0 - x) [x, x + y, x + y + y] q))), ⟨Grow.new hD2, upd_same⟩, ?_, ?_, ?_⟩
  · rintro j H' _ ⟨g, _⟩
    exact SqL.of (g.extN _ _ hL8 (fun _ z => by cases z))
  · rintro j v H' hv ⟨g, hd⟩ X' hX'
    have c5 := nc_of hX' 5 "_law_stair_here"
    have c7 := nl_of hX' 7 "_law_number"
    rw [List.getElem?_map] at hv
    obtain ⟨q, hq, rfl⟩ := Option.map_eq_some_iff.1 hv
    have stj := st8.grow (T := m.T) g (fun _ _ z => z) (fun z => z)
    have stj' := stj
    obtain ⟨dx, lc, e1, e2, _⟩ := stj'
    refine w_metX (E := C8.E0) hX' S.Un (by omega) C8.pass0 ?_
    walk_at "V"
    refine ⟨i, dx, _, rfl, e1, rfl, ?_⟩
    walk_at "V"
    refine ⟨i, 0 - x, q, _, rfl, stj, hcor, by simp, fun H5 g5 => ?_⟩
    have hd5 := g5.extN _ _ hd (fun _ z => by cases z)
    refine ⟨_, hd5, by rw [List.length_map, List.length_take, sizeLine_eq]; omega, Grow.intoNew (g.trans g5) (GrowX.lst hd5) fun c w => by rw [w]; exact hD2, ?_⟩
    rw [upd_same, List.take_add_one, hq, List.map_append]; rfl
  rintro H9 ⟨g9, hd9⟩
  have hd9' : H9 D2 = some (.lst ([-1, x, x + 2 * y, 2 * x + 2 * y].map V.int)) := by
    rw [hd9, ← ems]
    simp only [List.length_map, List.length_cons, List.length_nil, List.take, List.map_cons, List.map_nil]
    rw [gr_und x0 hy, gr_und x0 hy, gr_und x0 hy, gr_und x0 hy, if_pos (by omega), if_neg (by omega), if_pos (by omega), if_neg (by omega), if_neg (by omega), if_neg (by omega), if_neg (by omega)]
    simp only [undV]
    rw [show 2 * x + (0 - x) = x from by omega, show 2 * x + y + (y - x) = x + 2 * y from by omega, show 2 * x + y + y = 2 * x + 2 * y from by omega]
  have st9 := st8.grow (T := m.T) g9 (fun _ _ z => z) (fun z => z)
  have g29 := g28.trans g9
  walk_at "V"
  refine g_neL hA (xs := [-1, x, x + 2 * y, 2 * x + 2 * y]) (ys := [-1, x, x + 2 * y, 2 * x + 2 * y]) (SqL.of hd9') (SqL.of (g9.extN _ _ hDu8 (fun _ z => by cases z))) ?_
  walk_at "V"
  rw [decide_eq_true rfl]
  refine iteF (b_nil ?_)
  walk_at "B"
  walk_at "V"
  have st9' := st9
  obtain ⟨dx, lc, e1, e2, _⟩ := st9'
  refine w_met0 (E := C8.E0) hA S.En (by omega) C8.pass0 ?_
  walk_at "V"
  refine ⟨i, dx, _, rfl, e1, rfl, i, 0 - x, _, rfl, st9, hcor, by simp, fun HC gC => ?_⟩
  rw [show (if [x, x + y, x + y + y].length % 2 = 1 then V.non else .int (val (0 - x) [x, x + y, x + y + y] (lastC [x, x + y, x + y + y]))) = .non from if_pos (by simp)]
  walk_at "V"
  rw [decide_eq_true rfl]
  refine iteT ?_
  walk_at "V"
  refine w_met0 (E := C8.E0) hA S.En (by omega) C8.pass0 ?_
  refine w_stair hA S.Mk (by omega) rfl ?_
  walk_at "V"
  refine ⟨by walk_at "S", fun l2 hl2 => ?_⟩
  have gl2 := Grow.new (T := m.T) (o := .lst [.int y, .int (y + 5)]) hl2
  obtain ⟨cor2, v2⟩ := gr_two x0 hy
  walk_at "V"
  refine ⟨x, l2, [y, y + 5], rfl, SqL.of upd_same, by rw [upd_same]; simp, cor2, by simp, fun i2 HD gD ni2 stD => ?_⟩
  have stD' := stD
  obtain ⟨dx2, lc2, f1, f2, _⟩ := stD'
  refine ⟨i2, dx2, _, rfl, f1, rfl, i2, x, _, rfl, stD.sub fun _ _ => trivial, cor2, by simp, fun HE gE => ?_⟩
  rw [show (if [y, y + 5].length % 2 = 1 then V.non else .int (val x [y, y + 5] (lastC [y, y + 5]))) = .int (x + 5) from by rw [if_neg (by simp), v2]]
  walk_at "V"
  rw [decide_eq_true rfl]
  have gT := g29.trans (((gC.trans gl2).trans gD).trans gE)
  exact k _ (d12.post gT)
theorem wT_mono {X : Cx} {c : Expr} {σ : L2.St} {H : Hp} {Q1 Q2 : Bool → Hp → Prop} (h : wT X c σ H Q1) (k : ∀ v H', Q1 v H' → Q2 v H') : wT X c σ H Q2 := by
  unfold wT at h ⊢
  exact fun pins s I => thn (h pins s I) fun _ _ ⟨H', I', q⟩ => ⟨H', I', k _ H' q⟩
theorem g_notF {b : Bool} {X : Cx} {H : Hp} {Q : VK} (q : Q (.bl (!decide (b = false))) H) : gOp X (compareOp .IsNot) (.bl b) (.bl false) H Q := gOp.of op_notBl ⟨_, _, rfl, rfl, q⟩
theorem ints_lay : ∀ ns : List Int, PyData.canLayAll0 (ns.map PyData.int) = true ∧ PyData.depthAll (ns.map PyData.int) = 0
  | [] => by simp [PyData.canLayAll0, PyData.depthAll]
  | n :: ns => by
    obtain ⟨h1, h2⟩ := ints_lay ns
    exact ⟨by simp [PyData.canLayAll0, PyData.canLay0, h1], by simp [PyData.depthAll, PyData.depth, h2]⟩
theorem shaped_pr (b : Int) (cs : List Int) : SeqAt.shaped (.tuple [.int b, .list (cs.map PyData.int)]) = true := by
  obtain ⟨h1, h2⟩ := ints_lay cs
  simp [SeqAt.shaped, PyData.canLay0, PyData.canLayAll0, PyData.depth, PyData.depthAll, h1, h2]
theorem eqv_pr (b b' : Int) (cs cs' : List Int) : PyData.eqv (.tuple [.int b, .list (cs.map PyData.int)]) (.tuple [.int b', .list (cs'.map PyData.int)]) = decide (b = b' ∧ cs = cs') := by
  show (decide (b = b') && (PyData.eqv (.list (cs.map PyData.int)) (.list (cs'.map PyData.int)) && true)) = _
  rw [list_eqv, Bool.and_true]
  by_cases h1 : b = b' <;> by_cases h2 : cs = cs' <;> simp [h1, h2]
theorem dp_pr {K : PySem.W.Frag} {H : Hp} {t r : Addr} {b : Int} {cs : List Int} (ht : SqT K H t [.int b, .ref r]) (hr : H r = some (.lst (cs.map V.int))) : Dp K H (.ref t) (.tuple [.int b, .list (cs.map PyData.int)]) :=
  .tup ht (.cons (.int b) (.cons (.lst (SqL.of hr) (DaAll.dp _ _ (ints_da (A := Any) cs))) .nil))
def sp_law (m : Md) : Sp := fun vs H Q _ => ∃ (a : Addr) (ns : List Int), vs = [.ref a] ∧ SqL m.K H a (ns.map V.int) ∧ ns.length < 1000 ∧ Tabs m.T H ∧ ∀ H', Q (.bl true) H'
theorem f_law {m : Md} {C f : Addr} {fd : FuncData} (F : C8.Fun m.K "law" "law" st_law f fd) (S : Sts m C) (hlist : m.mg "list" = none) (Pu : Cal m 2 "_law_purses" (sp_purses m)) (Sr : Cal m 5 "_law_stair" (sp_stair m)) (Ri : Cal m 10 "_law_right" (sp_right m)) (Ne : Cal m 10 "_law_near_right" (sp_near m)) (Gr : Cal m 10 "_law_great_right" (sp_great m)) : FnG m C8.CX0 12 f fd ps_law (sp_law m) := by
  refine fnG_of F sc_law (fun vs H Q E h => by obtain ⟨_, _, rfl, _⟩ := h; rfl) fun X vs H Q E hA hM h => ?_
  obtain ⟨a, ns, rfl, hs, hn, hT, k⟩ := h
  replace hA : At m nl_law (C8.fnScope st_law) 11 X := hA
  obtain ⟨n0, n1, n2, n3, n4⟩ := nv_law
  walk_at "B"
  refine s_forL hA (pg_nl hA n1) ?_
  refine w_call hA Pu (by omega) rfl ?_
  walk_at "V"
  refine ⟨a, ns, 3, rfl, hs, hn, by omega, by omega, fun r ps H1 P hl => ?_⟩
  have hrp : ∀ q ∈ ps, r ≠ q := fun q hq w => (List.nodup_cons.1 P.nd).1 (w ▸ hq)
  have hnd := (List.nodup_cons.1 P.nd).2
  refine ⟨r, ps.map V.ref, rfl, P.seq, fun j (σ : L2.St) H' => σ = [some (.ref a), σ.getD 1 none, σ.getD 2 none, σ.getD 3 none, σ.getD 4 none] ∧ GrowX m.T (· ∈ ps) H1 H' ∧ ∀ q ∈ ps.drop j, Purse H' q 0, ?_, ?_, ?_, ?_⟩
  · exact ⟨rfl, GrowX.refl, fun q hq => P.purse q (by simpa using hq)⟩
  · rintro j σ H' _ ⟨_, gg, _⟩
    exact gg.seqL P.seq fun z => hrp r z rfl
  · rintro j x σ H' hx ⟨es, gg, hp⟩
    rw [List.getElem?_map] at hx
    obtain ⟨q, hq, rfl⟩ := Option.map_eq_some_iff.1 hx
    have hj : j < ps.length := (List.getElem?_eq_some_iff.1 hq).1
    have ed : ps.drop j = q :: ps.drop (j + 1) := by
      rw [List.drop_eq_getElem_cons hj, (List.getElem?_eq_some_iff.1 hq).2]
    have hqm := List.mem_of_getElem? hq
    have hpq := hp q (by rw [ed]; simp)
    have done : ∀ (HZ : Hp) (σ' : L2.St), σ' = [some (.ref a), σ'.getD 1 none, σ'.getD 2 none, σ'.getD 3 none, σ'.getD 4 none] → GrowX m.T (· = q) H' HZ → σ' = [some (.ref a), σ'.getD 1 none, σ'.getD 2 none, σ'.getD 3 none, σ'.getD 4 none] ∧ GrowX m.T (· ∈ ps) H1 HZ ∧ ∀ q ∈ ps.drop (j + 1), Purse HZ q 0 := by
      intro HZ σ' e g
      refine ⟨e, gg.trans (g.weak fun b z => by rw [z]; exact hqm), fun y hy => ?_⟩
      have hnd2 : (q :: ps.drop (j + 1)).Nodup := by rw [← ed]; exact hnd.sublist (List.drop_sublist _ _)
      exact (hp y (by rw [ed]; simp [hy])).x g fun z => (List.nodup_cons.1 hnd2).1 (z ▸ hy)
    rw [es]
    walk_at "B"
    refine s_two hA (pg_nl hA n2) (pg_nl hA n3) ?_
    refine w_call hA Sr (by omega) rfl ?_
    walk_at "V"
    refine ⟨q, 0, 7, rfl, hpq, by omega, by omega, fun T r1 b cs H2 d2 nr1 hr1 dn hT1 b0 b1 => ?_⟩
    refine ⟨T, _, _, rfl, hT1, ?_⟩
    have hr1q : r1 ≠ q := hpq.ne nr1
    walk_at "B"
    walk_at "V"
    refine w_call hA Sr (by omega) rfl ?_
    walk_at "V"
    refine ⟨q, _, 3, rfl, d2.purse, by omega, by omega, fun T2 r2 b2 cs2 H3 d3 nr2 hr2 dn2 hT2 b3 b4 => ?_⟩
    have hr1' := d3.grow.ext _ _ hr1q hr1 (fun _ z => by cases z)
    have hc1 := dn.cor
    have hc2 := dn2.cor
    have l1 := dn.len
    have l2 := dn2.len
    have d23 := d2.trans d3
    walk_at "B"
    walk_at "V"
    -- two stairs
    refine w_stair hA S.Mk (by omega) rfl ?_
    walk_at "V"
    refine ⟨b, r1, cs, rfl, SqL.of hr1', by rw [hr1']; simp, hc1, by omega, fun i1 H4 g4 ni1 st1 => ?_⟩
    have hT2' := GrowX.seqT g4 hT2
    have hr2' := g4.extN _ _ hr2 (fun _ z => by cases z)
    refine w_stair hA S.Mk (by omega) rfl ?_
    walk_at "V"
    refine g_ixT hA hT2' rfl ?_
    walk_at "V"
    refine g_ixT hA hT2' rfl ?_
    walk_at "V"
    refine ⟨b2, r2, cs2, rfl, SqL.of hr2', by rw [hr2']; simp, hc2, by omega, fun i2 H5 g5 ni2 st2 => ?_⟩
    walk_at "V"
    refine g_eqSt hA S.E2 S.Eq (by omega) ((st1.grow (T := m.T) g5 (fun _ _ z => z) (fun z => z)).sub fun _ _ => trivial) (st2.sub fun _ _ => trivial) (by omega) (by omega) ?_
    walk_at "V"
    refine ⟨by walk_at "S", fun t6 ht6 => ?_⟩
    have g6 := Grow.new (T := m.T) (o := .tup [.int b, .ref r1]) ht6
    have g46 := (g4.trans g5).trans g6
    walk_at "V"
    have hr16 := Grow.extN g46 _ _ hr1' (fun _ z => by cases z)
    refine g_eqD hA (dp_pr (SqT.of upd_same) hr16) (dp_pr (GrowX.seqT (g5.trans g6) hT2') (Grow.extN (g5.trans g6) _ _ hr2' (fun _ z => by cases z))) (shaped_pr _ _) (shaped_pr _ _) ?_
    rw [eqv_pr]
    walk_at "V"
    refine g_neB ?_
    walk_at "V"
    rw [decide_eq_true rfl]
    refine iteF (b_nil ?_)
    generalize upd H5 t6 (.tup [.int b, .ref r1]) = H6 at g46 hr16 ⊢
    -- the same corners in another list
    walk_at "B"
    walk_at "V"
    refine w_stair hA S.Mk (by omega) rfl ?_
    walk_at "V"
    refine ⟨b, r1, cs, rfl, SqL.of hr16, by rw [hr16]; simp, hc1, by omega, fun i3 H7 g7 ni3 st3 => ?_⟩
    have hr17 := g7.extN _ _ hr16 (fun _ z => by cases z)
    refine w_stair hA S.Mk (by omega) rfl ?_
    walk_at "V"
    refine g_typ hA hlist rfl bt_list ?_
    walk_at "V"
    refine g_listOf hA (.inl (SqL.of hr17)) fun kl hkl => ?_
    have g8 := Grow.new (T := m.T) (o := .lst (cs.map V.int)) hkl
    walk_at "V"
    refine ⟨b, kl, cs, rfl, SqL.of upd_same, by rw [upd_same]; simp, hc1, by omega, fun i4 H9 g9 ni4 st4 => ?_⟩
    walk_at "V"
    refine g_neSt hA S.E2 S.Eq (by omega) ((st3.grow (T := m.T) (g8.trans g9) (fun _ _ z => z) (fun z => z)).sub fun _ _ => trivial) (st4.sub fun _ _ => trivial) (by omega) (by omega) ?_
    walk_at "V"
    rw [show (!decide (b = b ∧ cs = cs)) = false from by simp]
    refine g_notF ?_
    walk_at "V"
    rw [show (!decide (false = false)) = false from rfl]
    refine iteF (b_nil ?_)
    have g49 := g46.trans ((g7.trans g8).trans g9)
    have hr19 := Grow.extN ((g7.trans g8).trans g9) _ _ hr16 (fun _ z => by cases z)
    -- no stair is a tuple
    walk_at "B"
    walk_at "V"
    refine w_stair hA S.Mk (by omega) rfl ?_
    walk_at "V"
    refine ⟨b, r1, cs, rfl, SqL.of hr19, by rw [hr19]; simp, hc1, by omega, fun i5 H10 g10 ni5 st5 => ?_⟩
    walk_at "V"
    refine ⟨by walk_at "S", fun t7 ht7 => ?_⟩
    have g11 := Grow.new (T := m.T) (o := .tup [.int b, .ref r1]) ht7
    walk_at "V"
    refine g_eqStO hA S.E2 S.Eq (by omega) (T := "tuple") (by simp) (.base (.tup upd_same)) ((st5.grow (T := m.T) g11 (fun _ _ z => z) (fun z => z)).sub fun _ _ => trivial) (by omega) ?_
    walk_at "V"
    refine iteF (b_nil ?_)
    have g411 := g49.trans (g10.trans g11)
    have hr111 := Grow.extN (g10.trans g11) _ _ hr19 (fun _ z => by cases z)
    generalize upd H10 t7 (.tup [.int b, .ref r1]) = H11 at g411 hr111 ⊢
    -- stairs that are near
    walk_at "B"
    refine s_if (wT_mono (Q1 := fun bb H' => bb = false ∧ Grow m.T H11 H') ?_ ?_)
    · walk_at "V"
      refine ⟨by walk_at "S", fun e1 he1 => ?_⟩
      have ge := Grow.new (T := m.T) (o := .lst []) he1
      have hre := ge.extN _ _ hr111 (fun _ z => by cases z)
      refine g_neD hA (Dp.lst (SqL.of hre) (DaAll.dp _ _ (ints_da (A := Any) cs))) (Dp.lst (SqL.of upd_same) .nil) (ints_shaped _) rfl ?_
      rw [show PyData.eqv (.list (cs.map PyData.int)) (.list []) = decide (cs = []) from list_eqv cs []]
      walk_at "V"
      by_cases hne : cs = []
      · rw [decide_eq_true hne]
        exact iteF ⟨rfl, ge⟩
      · rw [decide_eq_false hne]
        refine iteT ?_
        walk_at "V"
        refine w_call hA Ne (by omega) rfl ?_
        walk_at "V"
        refine ⟨r1, b, cs, rfl, hre, hc1, by omega, hne, fun H' g => ?_⟩
        walk_at "V"
        exact ⟨rfl, ge.trans g⟩
    rintro _ H12 ⟨rfl, g12⟩
    refine iteF (b_nil ?_)
    have g412 := g411.trans g12
    have hr112 := g12.extN _ _ hr111 (fun _ z => by cases z)
    have hp12 : Purse H12 q (0 + (40 + 8 * 7) + (40 + 8 * 3)) := d23.purse.new g412
    -- right
    walk_at "B"
    walk_at "V"
    refine w_stair hA S.Mk (by omega) rfl ?_
    walk_at "V"
    refine ⟨b, r1, cs, rfl, SqL.of hr112, by rw [hr112]; simp, hc1, by omega, fun i6 H13 g13 ni6 st6 => ?_⟩
    have hr113 := g13.extN _ _ hr112 (fun _ z => by cases z)
    walk_at "V"
    refine g_eqStO hA S.E2 S.Eq (by omega) (T := "NoneType") (by simp) (.base .non) (st6.sub fun _ _ => trivial) (by omega) ?_
    walk_at "V"
    refine iteF ?_
    walk_at "V"
    refine w_call hA Ri (by omega) rfl ?_
    walk_at "V"
    refine ⟨q, r1, b, cs, _, rfl, hp12.new g13, by omega, hr113, hr1q, dn, b0, b1, fun H14 g14 hp14 => ?_⟩
    walk_at "V"
    refine iteF (b_nil ?_)
    walk_at "B"
    walk_at "V"
    refine w_call hA Gr (by omega) rfl ?_
    walk_at "V"
    refine ⟨q, _, rfl, hp14, by omega, fun H15 d15 => ?_⟩
    walk_at "V"
    refine iteF (b_nil (b_nil ?_))
    refine done _ _ rfl ?_
    have g1 : GrowX m.T (· = q) H' H13 := d23.grow.trans (Grow.to (g412.trans g13))
    exact (g1.into g14 fun c z => z.elim .inr fun w => .inl (by rw [w]; exact nr1)).trans d15.grow
  · rintro σ H' ⟨es, gg, _⟩
    rw [es]
    walk_at "B"
    walk_at "V"
    exact k _
/-! ### the head's facts -/
/-- a def of the top, as it stands in the written part -/
def DefF (K : PySem.W.Frag) (x : Str) (st : Stmt) : Prop := ∃ (f : Addr) (fd : FuncData), PySem.W.nsIn K mainGlobals x = some (some (.ref f)) ∧ C8.Fun K x x st f fd ∧ PySem.W.keepIn K (.ref f) = true ∧ fd.defaults = .none
theorem mk_def {K : PySem.W.Frag} {x : Str} {st : Stmt} {f : Addr} {od an : Option Addr} {oc kV doc pm cdv ct : Value} {osl : Array (Option Value)} (a : PySem.W.nsIn K mainGlobals x = some (some (.ref f)))
    (l : K.lookup f = some ⟨oc, od, .func (PySem.W.fnOf x x (C8.fnArgs st) (C8.fnBody st) (C8.fnScope st) .none kV doc pm an cdv ct), osl⟩) (c : PySem.W.codeIn K cdv x = true) (k : PySem.W.keepIn K (.ref f) = true) : DefF K x st :=
  ⟨f, _, a, ⟨⟨oc, od, .none, kV, doc, pm, an, cdv, ct, osl, rfl, l, c⟩⟩, k, rfl⟩
theorem DefF.def_ {K : PySem.W.Frag} {h : Heap} {mg : Str → Option Value} {x : Str} {st : Stmt} (D : DefF K x st) (X : K.In h) (G : h.Ns mainGlobals mg) : ∃ f fd, C8.Def K mg x st f fd ∧ fd.defaults = .none := by
  obtain ⟨f, fd, a, F, k, d⟩ := D
  exact ⟨f, fd, ⟨F, PySem.W.mg_of X G a, k⟩, d⟩
/-- a method -/
def MetF (K : PySem.W.Frag) (C : Addr) (x qual : Str) (st : Stmt) : Prop := ∃ (f : Addr) (fd : FuncData), C8.Fun K x qual st f fd ∧ Meth K C x f ∧ fd.defaults = .none
theorem mk_met {K : PySem.W.Frag} {C : Addr} {x qual : Str} {st : Stmt} {f : Addr} {od an : Option Addr} {oc kV doc pm cdv ct : Value} {osl : Array (Option Value)} (a : PySem.W.findIn K (.ref C) x = some (some (.ref f))) (i : PySem.W.isFn K (.ref f) = true)
    (l : K.lookup f = some ⟨oc, od, .func (PySem.W.fnOf x qual (C8.fnArgs st) (C8.fnBody st) (C8.fnScope st) .none kV doc pm an cdv ct), osl⟩) (c : PySem.W.codeIn K cdv qual = true) (k : PySem.W.keepIn K (.ref f) = true) : MetF K C x qual st :=
  ⟨f, _, ⟨⟨oc, od, .none, kV, doc, pm, an, cdv, ct, osl, rfl, l, c⟩⟩, ⟨a, i, k⟩, rfl⟩
/-- a property -/
def PropF (K : PySem.W.Frag) (C : Addr) (x qual : Str) (st : Stmt) : Prop := ∃ (p g : Addr) (fd : FuncData), PropOf K C x p g ∧ C8.Fun K x qual st g fd ∧ fd.defaults = .none
theorem mk_prop {K : PySem.W.Frag} {C : Addr} {x qual : Str} {st : Stmt} {p g : Addr} {rest : List Value} {od an : Option Addr} {oc kV doc pm cdv ct : Value} {osl : Array (Option Value)} (a : PySem.W.findIn K (.ref C) x = some (some (.ref p))) (s : PySem.W.specialIn K (.ref p) "__get__" = some (some (.builtin "property.__get__"))) (t : PySem.W.takesIn K (.ref p) = some true)
    (r : PySem.W.recIn K p "property" = some (.ref g :: rest)) (l : K.lookup g = some ⟨oc, od, .func (PySem.W.fnOf x qual (C8.fnArgs st) (C8.fnBody st) (C8.fnScope st) .none kV doc pm an cdv ct), osl⟩) (c : PySem.W.codeIn K cdv qual = true) : PropF K C x qual st :=
  ⟨p, g, _, ⟨a, s, t, rest, r⟩, ⟨⟨oc, od, .none, kV, doc, pm, an, cdv, ct, osl, rfl, l, c⟩⟩, rfl⟩
/-- the class of stairs -/
structure StaF (K : PySem.W.Frag) (C : Addr) : Prop where
  gR : PySem.W.nsIn K mainGlobals "Stair" = some (some (.ref C))
  pg : PySem.W.plainGet K C Str.empty = true
  hd : PySem.W.hasDictIn K C = true
  po : PySem.W.plainOver K C = true
  sa : PySem.W.findIn K (.ref C) "__setattr__" = some (some (.builtin "object.__setattr__"))
  nb : PySem.W.findIn K (.ref C) "_begin" = some none
  nc : PySem.W.findIn K (.ref C) "_corners" = some none
  ha : PySem.W.findIn K (.ref C) "__class__" = some (some (.builtin "object.__class__"))
  hn : PySem.W.specialIn K (.builtin "object.__class__") "__get__" = some (some (.builtin "getset_descriptor.__get__"))
  ht : PySem.W.takesIn K (.builtin "object.__class__") = some true
  hm : PySem.W.mroIn K C (.type "object") = some true
  own : PySem.W.kitOne K (.ref C) (.ref C) = some true
  oth : ∀ T ∈ ["NoneType", "bool", "int", "str", "list", "tuple", "dict"], PySem.W.kitOne K (.type T) (.ref C) = some false
  nfS : PySem.W.notFirst K C (.ref C) = true
  nfO : ∀ T ∈ ["NoneType", "bool", "int", "str", "list", "tuple", "dict"], PySem.W.notFirst K C (.type T) = true
  ne : PySem.W.findIn K (.ref C) "__ne__" = some (some (.builtin "object.__ne__"))
  mks : PySem.W.makesIn K C = true
  kc : PySem.W.keepIn K (.ref C) = true
section
variable {P : Program} {w : World} {K : PySem.W.Frag} {mg : Str → Option Value} {h : Heap} {fa C : Addr}
theorem all_mk (X : K.In h) (G : h.Ns mainGlobals mg) (hfa : mg "law" = some (.ref fa))
    (dL : DefF K "law" st_law) (R0 : StaF K C)
    (m_init : MetF K C "__init__" "Stair.__init__" st_Stair_init) (m_value : MetF K C "value" "Stair.value" st_Stair_value) (m_end : MetF K C "end" "Stair.end" st_Stair_end) (m_undone : MetF K C "undone" "Stair.undone" st_Stair_undone) (m_shifted : MetF K C "shifted" "Stair.shifted" st_Stair_shifted) (m_eq : MetF K C "__eq__" "Stair.__eq__" st_Stair_eq)
    (p_begin : PropF K C "begin" "Stair.begin" st_Stair_begin) (p_corners : PropF K C "corners" "Stair.corners" st_Stair_corners)
    (d_is_whole : DefF K "is_whole" st_is_whole) (d_is_count : DefF K "is_count" st_is_count) (d_need_whole : DefF K "need_whole" st_need_whole) (d_need_count_from : DefF K "need_count_from" st_need_count_from) (d_x_are_corners : DefF K "_are_corners" st_x_are_corners) (d_x_course : DefF K "_course" st_x_course) (d_purse : DefF K "_law_purse" st_purse) (d_mixed : DefF K "_law_mixed" st_mixed) (d_draw : DefF K "_law_draw" st_draw) (d_purses : DefF K "_law_purses" st_purses) (d_one_of : DefF K "_law_one_of" st_one_of) (d_corners : DefF K "_law_corners" st_corners) (d_stair : DefF K "_law_stair" st_stair) (d_steps : DefF K "_law_steps" st_steps) (d_undone : DefF K "_law_undone" st_undone) (d_right : DefF K "_law_right" st_right) (d_near_right : DefF K "_law_near_right" st_near_right) (d_great_right : DefF K "_law_great_right" st_great_right)
    (z_isinstance : PySem.W.nsIn K mainGlobals "isinstance" = some none) (z_int : PySem.W.nsIn K mainGlobals "int" = some none) (z_bool : PySem.W.nsIn K mainGlobals "bool" = some none) (z_len : PySem.W.nsIn K mainGlobals "len" = some none) (z_all : PySem.W.nsIn K mainGlobals "all" = some none) (z_list : PySem.W.nsIn K mainGlobals "list" = some none) (z_min : PySem.W.nsIn K mainGlobals "min" = some none) (z_max : PySem.W.nsIn K mainGlobals "max" = some none) (z_sum : PySem.W.nsIn K mainGlobals "sum" = some none) (z_range : PySem.W.nsIn K mainGlobals "range" = some none) (z_repr : PySem.W.nsIn K mainGlobals "repr" = some none) (z_zip : PySem.W.nsIn K mainGlobals "zip" = some none)
    : ∃ fd cs T sp, LawG P w K C8.CX0 12 63 "_law_script" mg fa h fd cs T sp := by
  obtain ⟨f_is_whole, fd_is_whole, F_is_whole, e_is_whole⟩ := d_is_whole.def_ X G
  have b_is_whole := F_is_whole.fn.binds e_is_whole (ps := ps_is_whole) fun _ _ _ _ _ _ us hl => match us, hl with | [_], _ => rfl
  obtain ⟨f_is_count, fd_is_count, F_is_count, e_is_count⟩ := d_is_count.def_ X G
  have b_is_count := F_is_count.fn.binds e_is_count (ps := ps_is_count) fun _ _ _ _ _ _ us hl => match us, hl with | [_], _ => rfl
  obtain ⟨f_need_whole, fd_need_whole, F_need_whole, e_need_whole⟩ := d_need_whole.def_ X G
  have b_need_whole := F_need_whole.fn.binds e_need_whole (ps := ps_need_whole) fun _ _ _ _ _ _ us hl => match us, hl with | [_], _ => rfl
  obtain ⟨f_need_count_from, fd_need_count_from, F_need_count_from, e_need_count_from⟩ := d_need_count_from.def_ X G
  have b_need_count_from := F_need_count_from.fn.binds e_need_count_from (ps := ps_need_count_from) fun _ _ _ _ _ _ us hl => match us, hl with | [_, _], _ => rfl
  obtain ⟨f_x_are_corners, fd_x_are_corners, F_x_are_corners, e_x_are_corners⟩ := d_x_are_corners.def_ X G
  have b_x_are_corners := F_x_are_corners.fn.binds e_x_are_corners (ps := ps_x_are_corners) fun _ _ _ _ _ _ us hl => match us, hl with | [_], _ => rfl
  obtain ⟨f_x_course, fd_x_course, F_x_course, e_x_course⟩ := d_x_course.def_ X G
  have b_x_course := F_x_course.fn.binds e_x_course (ps := ps_x_course) fun _ _ _ _ _ _ us hl => match us, hl with | [_, _], _ => rfl
  obtain ⟨f_purse, fd_purse, F_purse, e_purse⟩ := d_purse.def_ X G
  have b_purse := F_purse.fn.binds e_purse (ps := ps_purse) fun _ _ _ _ _ _ us hl => match us, hl with | [_, _], _ => rfl
  obtain ⟨f_mixed, fd_mixed, F_mixed, e_mixed⟩ := d_mixed.def_ X G
  have b_mixed := F_mixed.fn.binds e_mixed (ps := ps_mixed) fun _ _ _ _ _ _ us hl => match us, hl with | [_, _, _], _ => rfl
  obtain ⟨f_draw, fd_draw, F_draw, e_draw⟩ := d_draw.def_ X G
  have b_draw := F_draw.fn.binds e_draw (ps := ps_draw) fun _ _ _ _ _ _ us hl => match us, hl with | [_, _], _ => rfl
  obtain ⟨f_purses, fd_purses, F_purses, e_purses⟩ := d_purses.def_ X G
  have b_purses := F_purses.fn.binds e_purses (ps := ps_purses) fun _ _ _ _ _ _ us hl => match us, hl with | [_, _], _ => rfl
  obtain ⟨f_one_of, fd_one_of, F_one_of, e_one_of⟩ := d_one_of.def_ X G
  have b_one_of := F_one_of.fn.binds e_one_of (ps := ps_one_of) fun _ _ _ _ _ _ us hl => match us, hl with | [_, _], _ => rfl
  obtain ⟨f_corners, fd_corners, F_corners, e_corners⟩ := d_corners.def_ X G
  have b_corners := F_corners.fn.binds e_corners (ps := ps_corners) fun _ _ _ _ _ _ us hl => match us, hl with | [_, _], _ => rfl
  obtain ⟨f_stair, fd_stair, F_stair, e_stair⟩ := d_stair.def_ X G
  have b_stair := F_stair.fn.binds e_stair (ps := ps_stair) fun _ _ _ _ _ _ us hl => match us, hl with | [_, _], _ => rfl
  obtain ⟨f_steps, fd_steps, F_steps, e_steps⟩ := d_steps.def_ X G
  have b_steps := F_steps.fn.binds e_steps (ps := ps_steps) fun _ _ _ _ _ _ us hl => match us, hl with | [_, _, _], _ => rfl
  obtain ⟨f_undone, fd_undone, F_undone, e_undone⟩ := d_undone.def_ X G
  have b_undone := F_undone.fn.binds e_undone (ps := ps_undone) fun _ _ _ _ _ _ us hl => match us, hl with | [_, _, _], _ => rfl
  obtain ⟨f_right, fd_right, F_right, e_right⟩ := d_right.def_ X G
  have b_right := F_right.fn.binds e_right (ps := ps_right) fun _ _ _ _ _ _ us hl => match us, hl with | [_, _, _], _ => rfl
  obtain ⟨f_near_right, fd_near_right, F_near_right, e_near_right⟩ := d_near_right.def_ X G
  have b_near_right := F_near_right.fn.binds e_near_right (ps := ps_near_right) fun _ _ _ _ _ _ us hl => match us, hl with | [_, _], _ => rfl
  obtain ⟨f_great_right, fd_great_right, F_great_right, e_great_right⟩ := d_great_right.def_ X G
  have b_great_right := F_great_right.fn.binds e_great_right (ps := ps_great_right) fun _ _ _ _ _ _ us hl => match us, hl with | [_], _ => rfl
  obtain ⟨f_law, fd_law, F_law, e_law⟩ := dL.def_ X G
  obtain ⟨f_minit, fd_minit, F_minit, M_minit, e_minit⟩ := m_init
  have b_minit := F_minit.binds e_minit (ps := ps_Stair_init) fun _ _ _ _ _ _ us hl => match us, hl with | [_, _, _], _ => rfl
  obtain ⟨f_mvalue, fd_mvalue, F_mvalue, M_mvalue, e_mvalue⟩ := m_value
  have b_mvalue := F_mvalue.binds e_mvalue (ps := ps_Stair_value) fun _ _ _ _ _ _ us hl => match us, hl with | [_, _], _ => rfl
  obtain ⟨f_mend, fd_mend, F_mend, M_mend, e_mend⟩ := m_end
  have b_mend := F_mend.binds e_mend (ps := ps_Stair_end) fun _ _ _ _ _ _ us hl => match us, hl with | [_], _ => rfl
  obtain ⟨f_mundone, fd_mundone, F_mundone, M_mundone, e_mundone⟩ := m_undone
  have b_mundone := F_mundone.binds e_mundone (ps := ps_Stair_undone) fun _ _ _ _ _ _ us hl => match us, hl with | [_, _], _ => rfl
  obtain ⟨f_mshifted, fd_mshifted, F_mshifted, M_mshifted, e_mshifted⟩ := m_shifted
  have b_mshifted := F_mshifted.binds e_mshifted (ps := ps_Stair_shifted) fun _ _ _ _ _ _ us hl => match us, hl with | [_, _], _ => rfl
  obtain ⟨f_meq, fd_meq, F_meq, M_meq, e_meq⟩ := m_eq
  have b_meq := F_meq.binds e_meq (ps := ps_Stair_eq) fun _ _ _ _ _ _ us hl => match us, hl with | [_, _], _ => rfl
  obtain ⟨q_pbegin, f_pbegin, fd_pbegin, P_pbegin, F_pbegin, e_pbegin⟩ := p_begin
  have b_pbegin := F_pbegin.binds e_pbegin (ps := ps_Stair_begin) fun _ _ _ _ _ _ us hl => match us, hl with | [_], _ => rfl
  obtain ⟨q_pcorners, f_pcorners, fd_pcorners, P_pcorners, F_pcorners, e_pcorners⟩ := p_corners
  have b_pcorners := F_pcorners.binds e_pcorners (ps := ps_Stair_corners) fun _ _ _ _ _ _ us hl => match us, hl with | [_], _ => rfl
  have n_isinstance := PySem.W.mg_none_of X G z_isinstance
  have n_int := PySem.W.mg_none_of X G z_int
  have n_bool := PySem.W.mg_none_of X G z_bool
  have n_len := PySem.W.mg_none_of X G z_len
  have n_all := PySem.W.mg_none_of X G z_all
  have n_list := PySem.W.mg_none_of X G z_list
  have n_min := PySem.W.mg_none_of X G z_min
  have n_max := PySem.W.mg_none_of X G z_max
  have n_sum := PySem.W.mg_none_of X G z_sum
  have n_range := PySem.W.mg_none_of X G z_range
  have n_repr := PySem.W.mg_none_of X G z_repr
  have n_zip := PySem.W.mg_none_of X G z_zip
  have e := hfa.symm.trans F_law.mgf
  cases e
  refine ⟨fd_law, [], [], sp_law ⟨P, w, K, mg, h, []⟩, ?_⟩
  refine ⟨fun p hp => by simp at hp, fun p hp => by simp at hp, fun p hp => by simp at hp, ?_, ?_, ?_⟩
  · intro s u
    obtain ⟨oc, od, dV, kV, doc, pm, an, cdv, ct, osl, hfd, lk, hcd⟩ := F_law.fn.ex
    have e0 : dV = .none := by have := e_law; rw [hfd] at this; exact this
    subst e0
    subst hfd
    exact .of_eq rfl
  · intro H a ns hl _ hH hS
    exact ⟨a, ns, rfl, hS, by omega, fun p hp => by simp at hp, fun _ => rfl⟩
  · intro base GB XB TB
    obtain ⟨m, hm⟩ : ∃ m : Md, m = ⟨P, w, K, mg, base, []⟩ := ⟨_, rfl⟩
    rw [← hm]
    have hK : m.K = K := by rw [hm]
    have hg : m.mg = mg := by rw [hm]
    have hb : m.base = base := by rw [hm]
    have hTT : m.T = [] := by rw [hm]
    clear hm
    subst hK hg hb
    have R : StC m C := ⟨⟨R0.pg, R0.hd, R0.po, R0.sa⟩, R0.nb, R0.nc, PySem.W.mg_of X G R0.gR⟩
    have tyS : ∀ (H : Hp) (i dx : Addr) (fs : List (Str × V)), H i = some (.ins C dx fs) → TyX m.K H (.ref i) (.ref C) := fun H i dx fs hi => .base (.ins hi R.cl R0.ha R0.hn R0.ht R0.hm)
    have E2 : StE m C := ⟨tyS, R0.nfS, R0.nfO, R0.ne, R0.hm⟩
    have gb := m_begin R F_pbegin
    have gc := m_corn R n_list F_pcorners
    have PR : Prp m C := ⟨⟨q_pbegin, f_pbegin, fd_pbegin, P_pbegin, gb, b_pbegin⟩, ⟨q_pcorners, f_pcorners, fd_pcorners, P_pcorners, gc, b_pcorners⟩⟩
    have c1 := c_is_whole F_is_whole b_is_whole n_isinstance n_int n_bool
    have c2 := c_is_count F_is_count b_is_count c1
    have c3 := c_need_whole F_need_whole b_need_whole c1
    have c4 := c_need_count F_need_count_from b_need_count_from c2
    have c5 := c_are F_x_are_corners b_x_are_corners n_isinstance n_list n_all n_range n_len c2
    have c6 := c_course F_x_course b_x_course R n_len P_pbegin gb b_pbegin P_pcorners gc b_pcorners
    have mI := f_sinit R n_list F_minit c3 c5
    have MK : MakX m C8.CX0 4 "Stair" C (sp_sinit m C) [] := ⟨f_minit, fd_minit, ps_Stair_init, [], mI, ⟨R0.mks, M_minit.at_, M_minit.fn, R0.kc⟩, PySem.W.mg_of X G R0.gR, b_minit, .nil⟩
    have mV := m_value R F_mvalue b_mvalue M_mvalue c4 c6
    have mE := m_end R F_mend b_mend M_mend c6
    have mU := m_undone R n_zip F_mundone b_mundone M_mundone c3 c6
    have mS := m_shifted R F_mshifted b_mshifted M_mshifted c3 MK
    have mQ := m_seq R n_isinstance F_meq b_meq M_meq tyS R0.own R0.oth
    have S : Sts m C := ⟨R, E2, PR, MK, mV, mE, mU, mS, mQ⟩
    have l1 := c_mixed F_mixed b_mixed
    have l2 := c_draw F_draw b_draw n_range l1
    have l3 := c_purse F_purse b_purse n_sum n_max
    have l4 := c_purses F_purses b_purses n_range n_max n_min n_len l3
    have l5 := c_one_of F_one_of b_one_of n_len l2
    have l6 := c_corners F_corners b_corners n_range l2 l5
    have l7 := c_stair F_stair b_stair l2 l6
    have l8 := c_steps F_steps b_steps n_range n_len
    have l9 := c_undL F_undone b_undone n_range n_len
    have l10 := c_right F_right b_right S n_list n_repr n_len n_range l2 l5 l8 l9
    have l11 := c_near F_near_right b_near_right S
    have l12 := c_great F_great_right b_great_right S l2
    refine (f_law F_law.fn S n_list l4 l7 l10 l11 l12).imp fun vs H Q E z => ?_
    obtain ⟨a, ns, e, hs, hn, hT, k⟩ := z
    exact ⟨a, ns, e, hs, hn, by rw [hTT]; exact hT, k⟩
end
end Vf
open PySem PySem.W PyProof.Rows
set_option maxRecDepth 100000 in
set_option maxHeartbeats 0 in
theorem PySem.Challenge.cw_leafwaits_k43_stairs_made_holds : PySem.Challenge.rw_leafwaits_k43_stairs_made.Holds := by
  w_on; o_law; k_head; (case hw => w_witness2)
  k_fill
  refine Vf.walkG (l := PySem.Challenge.rw_leafwaits_k43_stairs_made) (n := 63) (k := 12) (x := "_law_script") (CX := fun _ => C8.CX0) rfl (by decide) rfl ⟨rfl, by decide, by decide⟩ (fun w h Y => PySem.W.kIn_of Y) ?F (fun _ _ _ _ _ z => z)
  case F =>
    intro w mg fa h Y KX G hmg
    refine' Vf.all_mk KX G hmg ?dL ?R0 ?m_init ?m_value ?m_end ?m_undone ?m_shifted ?m_eq ?p_begin ?p_corners ?d_is_whole ?d_is_count ?d_need_whole ?d_need_count_from ?d_x_are_corners ?d_x_course ?d_purse ?d_mixed ?d_draw ?d_purses ?d_one_of ?d_corners ?d_stair ?d_steps ?d_undone ?d_right ?d_near_right ?d_great_right ?z_isinstance ?z_int ?z_bool ?z_len ?z_all ?z_list ?z_min ?z_max ?z_sum ?z_range ?z_repr ?z_zip
    (case dL => (refine' Vf.mk_def ?a ?l ?c ?k; (case a => k_is); (case l => k_is); (case c => k_is); (case k => k_is)))
    (case R0 =>
      refine' ⟨?gR, ?pg, ?hd, ?po, ?sa, ?nb, ?nc, ?ha, ?hn, ?ht, ?hm, ?own, ?oth, ?nfS, ?nfO, ?ne, ?mks, ?kc⟩
      (case gR => k_is); (case pg => k_is); (case hd => k_is); (case po => k_is); (case sa => k_is); (case nb => k_is); (case nc => k_is); (case ha => k_is); (case hn => k_is); (case ht => k_is); (case hm => k_is)
      (case own => first | k_is | kernel_rfl)
      (case oth => intro T hT; simp only [List.mem_cons, List.not_mem_nil, or_false] at hT; rcases hT with rfl | rfl | rfl | rfl | rfl | rfl | rfl <;> first | k_is | kernel_rfl)
      (case nfS => k_is)
      (case nfO => intro T hT; simp only [List.mem_cons, List.not_mem_nil, or_false] at hT; rcases hT with rfl | rfl | rfl | rfl | rfl | rfl | rfl <;> k_is)
      (case ne => k_is); (case mks => k_is); (case kc => k_is))
    (case m_init => (refine' Vf.mk_met ?a ?i ?l ?c ?k; (case a => k_is); (case i => k_is); (case l => k_is); (case c => k_is); (case k => k_is)))
    (case m_value => (refine' Vf.mk_met ?a ?i ?l ?c ?k; (case a => k_is); (case i => k_is); (case l => k_is); (case c => k_is); (case k => k_is)))
    (case m_end => (refine' Vf.mk_met ?a ?i ?l ?c ?k; (case a => k_is); (case i => k_is); (case l => k_is); (case c => k_is); (case k => k_is)))
    (case m_undone => (refine' Vf.mk_met ?a ?i ?l ?c ?k; (case a => k_is); (case i => k_is); (case l => k_is); (case c => k_is); (case k => k_is)))
    (case m_shifted => (refine' Vf.mk_met ?a ?i ?l ?c ?k; (case a => k_is); (case i => k_is); (case l => k_is); (case c => k_is); (case k => k_is)))
    (case m_eq => (refine' Vf.mk_met ?a ?i ?l ?c ?k; (case a => k_is); (case i => k_is); (case l => k_is); (case c => k_is); (case k => k_is)))
    (case p_begin => (refine' Vf.mk_prop ?a ?s ?t ?r ?l ?c; (case a => k_is); (case s => k_is); (case t => k_is); (case r => k_is); (case l => k_is); (case c => k_is)))
    (case p_corners => (refine' Vf.mk_prop ?a ?s ?t ?r ?l ?c; (case a => k_is); (case s => k_is); (case t => k_is); (case r => k_is); (case l => k_is); (case c => k_is)))
    (case d_is_whole => (refine' Vf.mk_def ?a ?l ?c ?k; (case a => k_is); (case l => k_is); (case c => k_is); (case k => k_is)))
    (case d_is_count => (refine' Vf.mk_def ?a ?l ?c ?k; (case a => k_is); (case l => k_is); (case c => k_is); (case k => k_is)))
    (case d_need_whole => (refine' Vf.mk_def ?a ?l ?c ?k; (case a => k_is); (case l => k_is); (case c => k_is); (case k => k_is)))
    (case d_need_count_from => (refine' Vf.mk_def ?a ?l ?c ?k; (case a => k_is); (case l => k_is); (case c => k_is); (case k => k_is)))
    (case d_x_are_corners => (refine' Vf.mk_def ?a ?l ?c ?k; (case a => k_is); (case l => k_is); (case c => k_is); (case k => k_is)))
    (case d_x_course => (refine' Vf.mk_def ?a ?l ?c ?k; (case a => k_is); (case l => k_is); (case c => k_is); (case k => k_is)))
    (case d_purse => (refine' Vf.mk_def ?a ?l ?c ?k; (case a => k_is); (case l => k_is); (case c => k_is); (case k => k_is)))
    (case d_mixed => (refine' Vf.mk_def ?a ?l ?c ?k; (case a => k_is); (case l => k_is); (case c => k_is); (case k => k_is)))
    (case d_draw => (refine' Vf.mk_def ?a ?l ?c ?k; (case a => k_is); (case l => k_is); (case c => k_is); (case k => k_is)))
    (case d_purses => (refine' Vf.mk_def ?a ?l ?c ?k; (case a => k_is); (case l => k_is); (case c => k_is); (case k => k_is)))
    (case d_one_of => (refine' Vf.mk_def ?a ?l ?c ?k; (case a => k_is); (case l => k_is); (case c => k_is); (case k => k_is)))
    (case d_corners => (refine' Vf.mk_def ?a ?l ?c ?k; (case a => k_is); (case l => k_is); (case c => k_is); (case k => k_is)))
    (case d_stair => (refine' Vf.mk_def ?a ?l ?c ?k; (case a => k_is); (case l => k_is); (case c => k_is); (case k => k_is)))
    (case d_steps => (refine' Vf.mk_def ?a ?l ?c ?k; (case a => k_is); (case l => k_is); (case c => k_is); (case k => k_is)))
    (case d_undone => (refine' Vf.mk_def ?a ?l ?c ?k; (case a => k_is); (case l => k_is); (case c => k_is); (case k => k_is)))
    (case d_right => (refine' Vf.mk_def ?a ?l ?c ?k; (case a => k_is); (case l => k_is); (case c => k_is); (case k => k_is)))
    (case d_near_right => (refine' Vf.mk_def ?a ?l ?c ?k; (case a => k_is); (case l => k_is); (case c => k_is); (case k => k_is)))
    (case d_great_right => (refine' Vf.mk_def ?a ?l ?c ?k; (case a => k_is); (case l => k_is); (case c => k_is); (case k => k_is)))
    (case z_isinstance => k_is)
    (case z_int => k_is)
    (case z_bool => k_is)
    (case z_len => k_is)
    (case z_all => k_is)
    (case z_list => k_is)
    (case z_min => k_is)
    (case z_max => k_is)
    (case z_sum => k_is)
    (case z_range => k_is)
    (case z_repr => k_is)
    (case z_zip => k_is)
