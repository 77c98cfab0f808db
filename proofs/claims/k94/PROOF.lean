import PyProof.Rows.All
import Wide.All
import OpenK.AllK
import Wide.FinOn
import HandS.ForMost
import HandS.ForExc
import HandS.Codes
import HandS.Wide
import HandS.WideBits
import HandS.Deep
import HandS.More
import HandS.Flow
import HandS.Lambda
import HandS.Nested
import HandS.EndTab
import PyProof.Rows.RegFStrParts
import HandS.OwnEq
import HandS.IsInst
import HandS.ExcInit
import HandS.ExcField
import HandS.Walk
import HandS.Text
import PyProof.EqKinds
import HandS.Zip
import HandS.Style
import HandS.Property
import HandS.Defaults
import HandS.StrMore
import HandS.FStr
import PySem.Challenge.RW_leafwaits_k94_whole_texts_of_all_small_t
set_option Elab.async false
set_option linter.all false
set_option maxRecDepth 100000
set_option maxHeartbeats 4000000
set_option maxRecDepth 100000
set_option maxHeartbeats 4000000
/-! Core: the layer's judgements as weakest preconditions over the syntax. Own work. -/
namespace Vf
open PySem PySem.Spec PyProof.Rows L2

/-! ### canonical readings -/
@[irreducible] def wE (X : Cx) (e : Expr) : TE := fun σ H Q => ∀ (pins : List (Addr × Obj)) (s : Shared), Inv X pins σ H s → wpAny (model X.prog X.w) X.A (eval e X.env) (EP X pins σ Q) X.xe s
@[irreducible] def wT (X : Cx) (e : Expr) : TT := fun σ H Q => ∀ (pins : List (Addr × Obj)) (s : Shared), Inv X pins σ H s → wpAny (model X.prog X.w) X.A (isTrue e X.env (eval e X.env)) (TP X pins σ Q) X.xe s
@[irreducible] def wW (X : Cx) (e : Expr) : TT := fun σ H Q => ∀ (whole : Sem Value) (pins : List (Addr × Obj)) (s : Shared), Inv X pins σ H s → wpAny (model X.prog X.w) X.A (isTrue e X.env whole) (TP X pins σ Q) X.xe s
@[irreducible] def wA (X : Cx) (es : List Expr) : TA := fun σ H Q => ∀ (pos : Pos) (pins : List (Addr × Obj)) (s : Shared), Inv X pins σ H s → wpAny (model X.prog X.w) X.A (spliced (backTo pos (starEach es X.env))) (AP X pins σ Q) X.xe s
@[irreducible] def wS (X : Cx) (st : Stmt) : TS := fun D σ H => ∀ (pins : List (Addr × Obj)) (s : Shared), Inv X pins σ H s → wpAny (model X.prog X.w) X.A (exec st X.env) (SP X pins D) X.xe s
@[irreducible] def wB (X : Cx) (st : List Stmt) : TS := fun D σ H => ∀ (pins : List (Addr × Obj)) (s : Shared), Inv X pins σ H s → wpAny (model X.prog X.w) X.A (execs st X.env) (SP X pins D) X.xe s
section
variable {X : Cx} {e a b c : Expr} {es : List Expr} {st : Stmt} {sts : List Stmt} {t : TE} {σ : L2.St} {H : Hp} {Q : VK} {D : Ends}
theorem cE : PE X e (wE X e) := ⟨fun pins s _ _ _ I h => by unfold wE at h; exact h pins s I⟩
theorem cT : PT X e (wT X e) := ⟨fun pins s _ _ _ I h => by unfold wT at h; exact h pins s I⟩
theorem cW : PW X e (wW X e) := ⟨fun wh pins s _ _ _ I h => by unfold wW at h; exact h wh pins s I⟩
theorem cA : PA X es (wA X es) := ⟨fun pos pins s _ _ _ I h => by unfold wA at h; exact h pos pins s I⟩
theorem cS : PS X st (wS X st) := ⟨fun pins s _ _ _ I h => by unfold wS at h; exact h pins s I⟩
theorem cB : PSs X sts (wB X sts) := ⟨fun pins s _ _ _ I h => by unfold wB at h; exact h pins s I⟩
theorem toE (h : PE X e t) (q : t σ H Q) : wE X e σ H Q := by unfold wE; exact fun pins s I => h.run pins s σ H Q I q
theorem toT {t : TT} {Q : Bool → Hp → Prop} (h : PT X e t) (q : t σ H Q) : wT X e σ H Q := by unfold wT; exact fun pins s I => h.run pins s σ H Q I q
theorem toW {t : TT} {Q : Bool → Hp → Prop} (h : PW X e t) (q : t σ H Q) : wW X e σ H Q := by unfold wW; exact fun wh pins s I => h.run wh pins s σ H Q I q
theorem toA {t : TA} {Q : List V → Hp → Prop} (h : PA X es t) (q : t σ H Q) : wA X es σ H Q := by unfold wA; exact fun pos pins s I => h.run pos pins s σ H Q I q
theorem toS {t : TS} (h : PS X st t) (q : t D σ H) : wS X st D σ H := by unfold wS; exact fun pins s I => h.run pins s σ H D I q
theorem toB {t : TS} (h : PSs X sts t) (q : t D σ H) : wB X sts D σ H := by unfold wB; exact fun pins s I => h.run pins s σ H D I q
theorem wE.mono {Q' : VK} (h : wE X e σ H Q) (k : ∀ v H', Q v H' → Q' v H') : wE X e σ H Q' := by
  unfold wE at h ⊢
  exact fun pins s I => thn (h pins s I) fun _ _ ⟨v, H', I', r, q⟩ => ⟨v, H', I', r, k v H' q⟩
end

/-! ### the module: program, world, written part, globals, base -/
structure Md where
  P : Program
  w : World
  K : PySem.W.Frag
  mg : Str → Option Value
  base : Heap
  /-- the tables of code objects (a lambda is looked up in its maker's), each with the one name that it tells -/
  T : List (Addr × Str)
/-- a def that keeps a promise where nothing is being shown (no repr under way): what is asked of it at one place is known of all -/
structure FnG (m : Md) (CX : CXT) (k : Nat) (f : Addr) (fd : FuncData) (ps : List Str) (sp : Sp) : Prop where
  len : ∀ vs H Q E, sp vs H Q E → vs.length = ps.length
  run : ∀ (A : Around) (outer : List Env) (s : Shared) (H : Hp) (args : Args) (us : List Value) (vs : List V) (Q : VK) (E : XK), A.guards = some [] → Room k A → Env0 m.P m.w m.K m.mg m.base A outer s H →
    BindsTo s fd args (ps.zip us) → Vals vs us → sp vs H Q E → codeAny (model m.P m.w) A (.call (.ref f) args) (CR CX outer m.P m.w H s Q E) s
theorem FnG.mono {m : Md} {CX : CXT} {j k : Nat} {f : Addr} {fd : FuncData} {ps : List Str} {sp : Sp} (F : FnG m CX j f fd ps sp) (h : j ≤ k) : FnG m CX k f fd ps sp := ⟨F.len, fun A outer s H args us vs Q E hg hr => F.run A outer s H args us vs Q E hg (hr.mono h)⟩
theorem FnG.imp {m : Md} {CX : CXT} {k : Nat} {f : Addr} {fd : FuncData} {ps : List Str} {sp sp' : Sp} (F : FnG m CX k f fd ps sp) (h : ∀ vs H Q E, sp' vs H Q E → sp vs H Q E) : FnG m CX k f fd ps sp' :=
  ⟨fun vs H Q E q => F.len vs H Q E (h _ _ _ _ q), fun A outer s H args us vs Q E hg hr he hb hv hs => F.run A outer s H args us vs Q E hg hr he hb hv (h _ _ _ _ hs)⟩
/-- X is a place in a def of the module m: names N, scope sc, room for k calls -/
structure At (m : Md) (N : List Str) (sc : Scope) (k : Nat) (X : Cx) : Prop where
  pp : X.prog = m.P
  ww : X.w = m.w
  kk : X.K = m.K
  mm : X.mg = m.mg
  bb : X.base = m.base
  nn : X.N = N
  ss : X.env.scope = sc
  calm : X.calm = true
  room : Room k X.A
  pass : PassesOwn (model X.prog X.w) X.A X.env X.xe
  nd : N.Nodup
  gd : X.A.guards = some []
section
variable {m : Md} {N : List Str} {sc : Scope} {k : Nat} {X : Cx} (h : At m N sc k X)
include h
theorem At.hu : X.A.units + 1 < cLine := hu_of h.room
end

def visB (sc : Scope) (x : Str) : Bool := match sc.names.lookup x with
  | some .local => true | some .cell => true | some .free => true | _ => false
theorem vis_of {sc : Scope} {x : Str} (h : visB sc x = true) : Vis sc x := by
  unfold visB at h
  unfold Vis
  split at h
  · next e => exact .inl e
  · next e => exact .inr (.inl e)
  · next e => exact .inr (.inr e)
  · cases h
section
variable {m : Md} {N : List Str} {sc : Scope} {k : Nat} {X : Cx} {a b c e : Expr} {es : List Expr} {σ : L2.St} {H : Hp} {Q : VK} {QB : Bool → Hp → Prop} {D : Ends} {pos p p1 p2 : Pos} {x y : Str} {i j : Nat} {v : V}
theorem At.gl (h : At m N sc k X) (e : sc.names.lookup x = some .globalImplicit) : Gl X x := by
  unfold Gl Env.kindOf
  rw [h.ss]
  exact e
theorem At.vis (h : At m N sc k X) (e : visB sc x = true) : Vis X.env.scope x := by rw [h.ss]; exact vis_of e

/-- the i-th name is x, a plain local of the scope; a local that others capture; one captured from outside -/
structure NL (N : List Str) (sc : Scope) (i : Nat) (x : Str) : Prop where
  ix : N[i]? = some x
  loc : sc.names.lookup x = some .local
structure NC (N : List Str) (sc : Scope) (i : Nat) (x : Str) : Prop where
  ix : N[i]? = some x
  cel : sc.names.lookup x = some .cell
structure NFr (N : List Str) (sc : Scope) (i : Nat) (x : Str) : Prop where
  ix : N[i]? = some x
  fre : sc.names.lookup x = some .free
/-! ### expressions -/
theorem w_var (h : At m N sc k X) (i : Nat) (hN : N[i]? = some x) (hv : visB sc x = true) (hs : σ[i]? = some (some v)) (q : Q v H) (hd : (x == ("__debug__" : Str)) = false := by with_unfolding_all decide) (hcd : (x == ("__classdict__" : Str)) = false := by with_unfolding_all decide) : wE X (.Name x pos) σ H Q :=
  toE (pe_var (by rw [h.nn]; exact hN) (h.vis hv) hd hcd) ⟨v, hs, q⟩
theorem w_nl (h : At m N sc k X) (n : NL N sc i x) (hs : σ[i]? = some (some v)) (q : Q v H) (hd : (x == ("__debug__" : Str)) = false := by with_unfolding_all decide) (hcd : (x == ("__classdict__" : Str)) = false := by with_unfolding_all decide) : wE X (.Name x pos) σ H Q :=
  toE (pe_var (by rw [h.nn]; exact n.ix) (by rw [h.ss]; exact .inl n.loc) hd hcd) ⟨v, hs, q⟩
theorem w_nc (h : At m N sc k X) (n : NC N sc i x) (hs : σ[i]? = some (some v)) (q : Q v H) (hd : (x == ("__debug__" : Str)) = false := by with_unfolding_all decide) (hcd : (x == ("__classdict__" : Str)) = false := by with_unfolding_all decide) : wE X (.Name x pos) σ H Q :=
  toE (pe_var (by rw [h.nn]; exact n.ix) (by rw [h.ss]; exact .inr (.inl n.cel)) hd hcd) ⟨v, hs, q⟩
theorem w_nf (h : At m N sc k X) (n : NFr N sc i x) (hs : σ[i]? = some (some v)) (q : Q v H) (hd : (x == ("__debug__" : Str)) = false := by with_unfolding_all decide) (hcd : (x == ("__classdict__" : Str)) = false := by with_unfolding_all decide) : wE X (.Name x pos) σ H Q :=
  toE (pe_var (by rw [h.nn]; exact n.ix) (by rw [h.ss]; exact .inr (.inr n.fre)) hd hcd) ⟨v, hs, q⟩
theorem w_int {i : Int} (q : Q (.int i) H) : wE X (.Constant (.int i) j pos) σ H Q := toE pe_int q
theorem w_bl {b : Bool} (q : Q (.bl b) H) : wE X (.Constant (.bool b) j pos) σ H Q := toE pe_bl q
theorem w_non (q : Q .non H) : wE X (.Constant .none j pos) σ H Q := toE pe_non q
theorem w_str {z : Str} (q : Q (.str z) H) : wE X (.Constant (.str z) j pos) σ H Q := toE pe_str q
theorem w_bin {op : Operator} {r : R2} (ho : OpR X (binaryOp op) r) (q : wE X a σ H fun x H1 => wE X b σ H1 fun y H2 => r x y H2 Q) : wE X (.BinOp a op b pos) σ H Q := toE (pe_op ho cE cE) q
theorem w_un {op : UnaryOp} {r : V → Hp → VK → Prop} (ho : UnR X (unaryOp op) r) (q : wE X a σ H fun x H1 => r x H1 Q) : wE X (.UnaryOp op a pos) σ H Q := toE (pe_un ho cE) q
theorem w_cmp {op : CmpOp} {r : R2} (ho : OpR X (compareOp op) r) (hm : behindInMarks op b = false) (q : wE X a σ H fun x H1 => wE X b σ H1 fun y H2 => r x y H2 Q) : wE X (.Compare a [op] [b] pos) σ H Q := toE (pe_cmpR ho cE cE hm) q
theorem w_not (q : wE X a σ H fun x H1 => ∃ c, x = .bl c ∧ Q (.bl (!c)) H1) : wE X (.UnaryOp .Not a pos) σ H Q := toE (pe_not cE) q
theorem w_and {rest : List Expr} (q : wE X a σ H fun x H1 => ∃ c, x = .bl c ∧ if c = true then wE X (.BoolOp .And (b :: rest) pos) σ H1 Q else Q (.bl false) H1) : wE X (.BoolOp .And (a :: b :: rest) pos) σ H Q := toE (pe_and cE cE) q
theorem w_or {rest : List Expr} (q : wE X a σ H fun x H1 => ∃ c, x = .bl c ∧ if c = true then Q (.bl true) H1 else wE X (.BoolOp .Or (b :: rest) pos) σ H1 Q) : wE X (.BoolOp .Or (a :: b :: rest) pos) σ H Q := toE (pe_or cE cE) q
theorem w_one {op : BoolOp} (q : wE X a σ H Q) : wE X (.BoolOp op [a] pos) σ H Q := toE (pe_one cE) q
theorem w_if (q : wT X c σ H fun k H1 => if k = true then wE X a σ H1 Q else wE X b σ H1 Q) : wE X (.IfExp c a b pos) σ H Q := toE (pe_ifExp cT cE cE) q
theorem w_tup {x1} (q : wA X es σ H fun xs H1 => xs.length ≤ sizeLine ∧ ∀ p, H1 p = none → Q (.ref p) (upd H1 p (.tup xs))) : wE X (.Tuple es x1 pos) σ H Q := toE (pe_tup cA) q
theorem w_lst (q : wA X es σ H fun xs H1 => xs.length ≤ sizeLine ∧ ∀ p, H1 p = none → Q (.ref p) (upd H1 p (.lst xs))) : wE X (.List es pos) σ H Q := toE (pe_lst cA) q
theorem w_ix {r : R2} (hr : IxR X r) (hs : PlainIx b) (q : wE X a σ H fun x H1 => wE X b σ H1 fun y H2 => r x y H2 Q) : wE X (.Subscript a b pos) σ H Q := toE (pe_ix hr cE cE hs) q
theorem w_nil {Q : List V → Hp → Prop} (q : Q [] H) : wA X [] σ H Q := toA pa_nil q
theorem w_cons {Q : List V → Hp → Prop} (q : wE X e σ H fun x H1 => wA X es σ H1 fun xs H2 => Q (x :: xs) H2) (hs : starEach (e :: es) X.env = (false, eval e X.env) :: starEach es X.env := by with_unfolding_all rfl) : wA X (e :: es) σ H Q := toA (pa_cons cE cA hs) q
/-- what a run of the def at f leaves, seen from X -/
theorem fnG_run {CX : CXT} {f : Addr} {fd : FuncData} {ps : List Str} {sp : Sp} {E : XK} {args : Args} {us : List Value} {vs : List V} {pins : List (Addr × Obj)} {s : Shared} (h : At m N sc k X) (F : FnG m CX j f fd ps sp) (hk : j ≤ k) (hx : Passes CX X E) (I : Inv X pins σ H s)
    (hb : BindsTo s fd args (ps.zip us)) (r : Vals vs us) (q : sp vs H Q E) : codeAny (model X.prog X.w) X.A (.call (.ref f) args) (fun r s' => match r with | .ok (.ret u) => EP X pins σ Q u s' | .ok _ => False | .error e => X.xe e s') s := by
  have e0 := I.env0
  rw [h.pp, h.ww, h.kk, h.mm, h.bb] at e0
  have rc := F.run X.A X.stack s H args us vs Q E h.gd (h.room.mono hk) e0 hb r q
  rw [← h.pp, ← h.ww] at rc
  refine codeAny_mono rc fun r s' hq => ?_
  match r, hq with
  | .error e, hq => exact hx pins σ H s e s' I hq
  | .ok (.ret u), hq => exact I.after hq
/-- a def that may be called by its name; dvs: what stands for the parameters that are left out -/
structure CalX (m : Md) (CX : CXT) (k : Nat) (x : Str) (sp : Sp) (dvs : List V) : Prop where
  ex : ∃ (f : Addr) (fd : FuncData) (ps : List Str) (ds : List Value), FnG m CX k f fd ps sp ∧ m.mg x = some (.ref f) ∧ PySem.W.keepIn m.K (.ref f) = true ∧ Binds m.K fd ps ds ∧ Vals dvs ds
abbrev Cal (m : Md) (k : Nat) (x : Str) (sp : Sp) : Prop := CalX m C8.CX0 k x sp []
theorem w_callX {CX : CXT} {sp : Sp} {dvs : List V} {E : XK} (h : At m N sc k X) (c : CalX m CX j x sp dvs) (hk : j ≤ k) (hg : sc.names.lookup x = some .globalImplicit) (hx : Passes CX X E) (q : wA X (e :: es) σ H fun vs H1 => sp (vs ++ dvs) H1 Q E)
    (hdb : (x == ("__debug__" : Str)) = false := by with_unfolding_all decide) (he : starEach (e :: es) X.env = (false, eval e X.env) :: starEach es X.env := by with_unfolding_all rfl) (hpl : (backTo pos (starEach es X.env)).any (·.1) = false := by with_unfolding_all rfl) : wE X (.Call (.Name x p) (e :: es) [] pos) σ H Q := by
  obtain ⟨f, fd, ps, ds, F, hm, kp, b, d⟩ := c.ex
  unfold wE
  intro pins s I
  refine wpAny_Call_Name_kw (ld_glob (u := .ref f) I (h.gl hg) (by rw [h.mm]; exact hm) ?_ hdb)
  refine PySem.W.callWith_K (h₀ := X.base) I.ok.mod.kin (by rw [h.kk]; exact kp) (thn ((cA (X := X) (es := e :: es)).run pos pins s σ H _ I q) fun us s1 ⟨vs, H1, I1, r, q1⟩ => ⟨I1.kIn, ?_⟩) he hpl
  have r2 := Vals.append r d
  refine wpAny_call (codeAny_mono (fnG_run (us := us ++ ds) (vs := vs ++ dvs) h F hk hx I1 (b s1 us (by rw [← h.kk]; exact I1.kIn) (by rw [← r2.length]; exact F.len _ _ _ _ q1)) r2 q1) fun r s' hq => ?_)
  match r, hq with
  | .error e, hq => exact hq
  | .ok (.ret u), hq => exact hq
theorem w_callX0 {CX : CXT} {sp : Sp} {dvs : List V} {E : XK} (h : At m N sc k X) (c : CalX m CX j x sp dvs) (hk : j ≤ k) (hg : sc.names.lookup x = some .globalImplicit) (hx : Passes CX X E) (q : sp dvs H Q E)
    (hdb : (x == ("__debug__" : Str)) = false := by with_unfolding_all decide) : wE X (.Call (.Name x p) [] [] pos) σ H Q := by
  obtain ⟨f, fd, ps, ds, F, hm, kp, b, d⟩ := c.ex
  unfold wE
  intro pins s I
  refine wpAny_Call_Name_kw (ld_glob (u := .ref f) I (h.gl hg) (by rw [h.mm]; exact hm) ?_ hdb)
  refine PySem.W.callWith_K0 I.kIn (by rw [h.kk]; exact kp) (wpAny_call (codeAny_mono (fnG_run (us := ds) (vs := dvs) h F hk hx I (b s [] (by rw [← h.kk]; exact I.kIn) (by simpa [← d.length] using F.len _ _ _ _ q)) d q) fun r s' hq => ?_))
  match r, hq with
  | .error e, hq => exact hq
  | .ok (.ret u), hq => exact hq
theorem w_call {sp : Sp} (h : At m N sc k X) (c : Cal m j x sp) (hk : j ≤ k) (hg : sc.names.lookup x = some .globalImplicit) (q : wA X (e :: es) σ H fun vs H1 => sp vs H1 Q C8.E0)
    (hdb : (x == ("__debug__" : Str)) = false := by with_unfolding_all decide) (he : starEach (e :: es) X.env = (false, eval e X.env) :: starEach es X.env := by with_unfolding_all rfl) (hpl : (backTo pos (starEach es X.env)).any (·.1) = false := by with_unfolding_all rfl) : wE X (.Call (.Name x p) (e :: es) [] pos) σ H Q := by
  refine w_callX (E := C8.E0) h c hk hg C8.pass0 ?_ hdb he hpl
  simpa using q
/-- a built-in function by its name -/
theorem w_blt {id : String} {r : List V → Hp → VK → Prop} (h : At m N sc k X) (hc : CallR X (.builtin id) r) (hm : m.mg x = none) (hg : sc.names.lookup x = some .globalImplicit) (hv : bootBuiltins x = some (.builtin id)) (q : wA X (e :: es) σ H fun vs H1 => r vs H1 Q)
    (hn : x ≠ "__name__" := by with_unfolding_all decide) (hdb : (x == ("__debug__" : Str)) = false := by with_unfolding_all decide) (he : starEach (e :: es) X.env = (false, eval e X.env) :: starEach es X.env := by with_unfolding_all rfl) (hpl : (backTo pos (starEach es X.env)).any (·.1) = false := by with_unfolding_all rfl) : wE X (.Call (.Name x p) (e :: es) [] pos) σ H Q :=
  toE (pe_callB hc (h.gl hg) (by rw [h.mm]; exact hm) hv cA hn hdb he hpl) q
theorem w_ty {T : String} {r : List V → Hp → VK → Prop} (h : At m N sc k X) (hc : CallR X (.type T) r) (hm : m.mg x = none) (hg : sc.names.lookup x = some .globalImplicit) (hv : bootBuiltins x = some (.type T)) (q : wA X (e :: es) σ H fun vs H1 => r vs H1 Q)
    (hn : x ≠ "__name__" := by with_unfolding_all decide) (hdb : (x == ("__debug__" : Str)) = false := by with_unfolding_all decide) (he : starEach (e :: es) X.env = (false, eval e X.env) :: starEach es X.env := by with_unfolding_all rfl) (hpl : (backTo pos (starEach es X.env)).any (·.1) = false := by with_unfolding_all rfl) : wE X (.Call (.Name x p) (e :: es) [] pos) σ H Q :=
  toE (pe_callTy hc (h.gl hg) (by rw [h.mm]; exact hm) hv cA hn hdb he hpl) q

/-! ### tests -/
theorem t_val (q : wE X e σ H fun x H1 => ∃ c, x = .bl c ∧ QB c H1) (he : ∀ whole, isTrue e X.env whole = (do let v ← whole; standAt e.pos; holding [v] (truthy v)) := by with_unfolding_all (intro _; rfl)) : wT X e σ H QB := toT (pt_val cE he) q
theorem t_cmp {op : CmpOp} {r : R2} (ho : OpR X (compareOp op) r) (hm : behindInMarks op b = false) (q : wE X a σ H fun x H1 => wE X b σ H1 fun y H2 => r x y H2 fun z H' => ∃ k, z = .bl k ∧ QB k H') : wT X (.Compare a [op] [b] pos) σ H QB := toT (pt_cmpR ho cE cE hm) q
theorem t_not (q : wT X a σ H fun c H1 => QB (!c) H1) : wT X (.UnaryOp .Not a pos) σ H QB := toT (pt_not cT) q
theorem t_and {rest : List Expr} (q : wW X (.BoolOp .And (a :: b :: rest) pos) σ H QB) : wT X (.BoolOp .And (a :: b :: rest) pos) σ H QB := toT (cW.pt) q
theorem t_or {rest : List Expr} (q : wW X (.BoolOp .Or (a :: b :: rest) pos) σ H QB) : wT X (.BoolOp .Or (a :: b :: rest) pos) σ H QB := toT (cW.pt) q
theorem k_and {rest : List Expr} (q : wT X a σ H fun c H1 => if c = true then wW X (.BoolOp .And (b :: rest) pos) σ H1 QB else QB false H1) : wW X (.BoolOp .And (a :: b :: rest) pos) σ H QB := toW (pw_and cT cW) q
theorem k_or {rest : List Expr} (q : wT X a σ H fun c H1 => if c = true then QB true H1 else wW X (.BoolOp .Or (b :: rest) pos) σ H1 QB) : wW X (.BoolOp .Or (a :: b :: rest) pos) σ H QB := toW (pw_or cT cW) q
theorem k_and1 (q : wT X a σ H QB) : wW X (.BoolOp .And [a] pos) σ H QB := toW (pw_and1 cT) q
theorem k_or1 (q : wT X a σ H QB) : wW X (.BoolOp .Or [a] pos) σ H QB := toW (pw_or1 cT) q
theorem t_truth (q : wE X a σ H fun x H1 => ∃ k, TruV X.K x H1 k ∧ QB k H1) (he : ∀ whole, isTrue a X.env whole = (do let v ← whole; standAt a.pos; holding [v] (truthy v)) := by with_unfolding_all (intro _; rfl)) : wT X a σ H QB := toT (pt_truth cE he) q

/-! ### statements: what is wanted behind is written out -/
variable {st : Stmt} {sts rest th el body : List Stmt} {nx : L2.St → Hp → Prop} {rt : VK} {bk ct : L2.St → Hp → Prop}
theorem b_nil (q : nx σ H) : wB X [] ⟨nx, rt, bk, ct⟩ σ H := toB pss_nil q
theorem b_cons (q : wS X st ⟨wB X rest ⟨nx, rt, bk, ct⟩, rt, bk, ct⟩ σ H) : wB X (st :: rest) ⟨nx, rt, bk, ct⟩ σ H := toB (pss_cons cS cB) q
theorem b_one (q : wS X st ⟨nx, rt, bk, ct⟩ σ H) : wB X [st] ⟨nx, rt, bk, ct⟩ σ H := toB (pss_one cS) q
theorem s_ret (q : wE X e σ H rt) : wS X (.Return (some e) pos) ⟨nx, rt, bk, ct⟩ σ H := toS (ps_ret cE) q
theorem s_retN (q : rt .non H) : wS X (.Return none pos) ⟨nx, rt, bk, ct⟩ σ H := toS ps_retN q
theorem s_if (q : wT X c σ H fun b H1 => if b = true then wB X th ⟨nx, rt, bk, ct⟩ σ H1 else wB X el ⟨nx, rt, bk, ct⟩ σ H1) : wS X (.If c th el pos) ⟨nx, rt, bk, ct⟩ σ H := toS (ps_if cT cB cB) q
theorem s_expr (q : wE X e σ H fun _ H1 => nx σ H1) (hs : swapsWith e none pos.line X.env = pure false := by with_unfolding_all rfl) : wS X (.Expr e pos) ⟨nx, rt, bk, ct⟩ σ H := toS (ps_expr cE hs) q
theorem s_set (h : At m N sc k X) (i : Nat) (hN : N[i]? = some x) (hl : sc.names.lookup x = some .local) (q : wE X e σ H fun v H1 => nx (σ.set i (some v)) H1) (hs : swapsWith e (some (.Name x p1)) pos.line X.env = pure false := by with_unfolding_all rfl) :
    wS X (.Assign [.Name x p1] e pos) ⟨nx, rt, bk, ct⟩ σ H :=
  toS (ps_set (by rw [h.nn]; exact h.nd) (by rw [h.nn]; exact hN) (by rw [h.ss]; exact .inl hl) cE hs (.inr (by rw [h.ss]; exact hl))) q
theorem s_nl (h : At m N sc k X) (n : NL N sc i x) (q : wE X e σ H fun v H1 => nx (σ.set i (some v)) H1) (hs : swapsWith e (some (.Name x p1)) pos.line X.env = pure false := by with_unfolding_all rfl) : wS X (.Assign [.Name x p1] e pos) ⟨nx, rt, bk, ct⟩ σ H := s_set h i n.ix n.loc q hs
theorem s_nc (h : At m N sc k X) (n : NC N sc i x) (hf : ∀ y, X.fn y = true) (q : wE X e σ H fun v H1 => nx (σ.set i (some v)) H1) (hs : swapsWith e (some (.Name x p1)) pos.line X.env = pure false := by with_unfolding_all rfl) : wS X (.Assign [.Name x p1] e pos) ⟨nx, rt, bk, ct⟩ σ H :=
  toS (ps_set (by rw [h.nn]; exact h.nd) (by rw [h.nn]; exact n.ix) (by rw [h.ss]; exact .inr n.cel) cE hs (.inl (hf x))) q
theorem pg_nl (h : At m N sc k X) (n : NL N sc i x) : PG X (.Name x pos) (gName i) := pg_name (by rw [h.nn]; exact h.nd) (by rw [h.nn]; exact n.ix) (by rw [h.ss]; exact .inl n.loc) (.inr (by rw [h.ss]; exact n.loc))
theorem pg_nc (h : At m N sc k X) (n : NC N sc i x) (hf : ∀ y, X.fn y = true) : PG X (.Name x pos) (gName i) := pg_name (by rw [h.nn]; exact h.nd) (by rw [h.nn]; exact n.ix) (by rw [h.ss]; exact .inr n.cel) (.inl (hf x))
/-- xs[i] = e -/
theorem s_sub {o ix : Expr} {t : TSet} (hs : PSet X t) (q : wE X e σ H fun v H1 => wE X o σ H1 fun x H2 => wE X ix σ H2 fun y H3 => t x y v H3 fun H4 => nx σ H4)
    (ha : ∀ v : Value, assign (.Subscript o ix p1) X.env v = (do
      let ov ← holding [v] (eval o X.env)
      let iv ← holding [v, ov] (eval ix X.env)
      standAt p1
      holding [v, ov, iv] (setItem ov iv v)
      release [v, ov, iv] []) := by with_unfolding_all (intro _; rfl))
    (h1 : swapsWithSole [.Subscript o ix p1] e pos.line X.env = pure false := by with_unfolding_all rfl) (h2 : swappedStores [.Subscript o ix p1] e X.env = pure none := by with_unfolding_all rfl) : wS X (.Assign [.Subscript o ix p1] e pos) ⟨nx, rt, bk, ct⟩ σ H :=
  toS (ps_asg cE (pg_sub cE cE hs ha) h1 h2) q
/-- xs[i] = e, xs a list -/
theorem s_subL {o ix : Expr} (q : wE X e σ H fun v H1 => wE X o σ H1 fun x H2 => wE X ix σ H2 fun y H3 => ∃ (p : Addr) (xs : List V) (z : Int) (j : Nat), x = .ref p ∧ y = .int z ∧ H3 p = some (.lst xs) ∧ ixN xs.length z = some j ∧ nx σ (upd H3 p (.lst (xs.set j v))))
    (ha : ∀ v : Value, assign (.Subscript o ix p1) X.env v = (do
      let ov ← holding [v] (eval o X.env)
      let iv ← holding [v, ov] (eval ix X.env)
      standAt p1
      holding [v, ov, iv] (setItem ov iv v)
      release [v, ov, iv] []) := by with_unfolding_all (intro _; rfl))
    (h1 : swapsWithSole [.Subscript o ix p1] e pos.line X.env = pure false := by with_unfolding_all rfl) (h2 : swappedStores [.Subscript o ix p1] e X.env = pure none := by with_unfolding_all rfl) : wS X (.Assign [.Subscript o ix p1] e pos) ⟨nx, rt, bk, ct⟩ σ H :=
  s_sub set_list q ha h1 h2
/-- for x in range(e) -/
theorem s_forR {tg : Expr} {g : TG} {po : Pos} (h : At m N sc k X) (hg : PG X tg g) (hm : m.mg "range" = none) (hgl : sc.names.lookup ("range" : Str) = some .globalImplicit)
    (q : wE X e σ H fun v H1 => ∃ z : Int, v = .int z ∧ -(2 ^ 62) ≤ z ∧ z < 2 ^ 62 ∧ ∃ Pv : Nat → L2.St → Hp → Prop, Pv 0 σ H1 ∧ (∀ i σ H, i < z.toNat → Pv i σ H → g (.int i) σ H fun σ2 H2 => wB X body ⟨Pv (i + 1), rt, nx, Pv (i + 1)⟩ σ2 H2) ∧ ∀ σ H, Pv z.toNat σ H → nx σ H)
    (hs : starEach [e] X.env = [(false, eval e X.env)] := by with_unfolding_all rfl) (hf : ∀ x, foldedSetIterable (.Call (.Name "range" p1) [e] [] p2) X.env x = pure x := by with_unfolding_all (intro _; rfl)) : wS X (.For tg (.Call (.Name "range" p1) [e] [] p2) body [] po) ⟨nx, rt, bk, ct⟩ σ H := by
  refine toS (ps_for h.pass h.calm (pi_range1 (h.gl hgl) (by rw [h.mm]; exact hm) (pa_cons cE pa_nil hs) hs) hg cB hf) ?_
  refine wE.mono q fun v H1 ⟨z, ez, z1, z2, Pv, p0, turn, fin⟩ => ⟨z, by rw [ez], z1, z2, ?_⟩
  exact for_range (lo := 0) (n := z.toNat) Pv p0 (fun i σ H hi hp => by simpa using turn i σ H hi hp) fin
/-- for x in xs, xs a list that stands still -/
theorem s_forL {tg : Expr} {g : TG} {po : Pos} (h : At m N sc k X) (hg : PG X tg g)
    (q : wE X e σ H fun v H1 => ∃ (a : Addr) (xs : List V), v = .ref a ∧ SqL m.K H1 a xs ∧ ∃ Pv : Nat → L2.St → Hp → Prop, Pv 0 σ H1 ∧ (∀ i σ H, i ≤ xs.length → Pv i σ H → SqL m.K H a xs) ∧ (∀ i x σ H, xs[i]? = some x → Pv i σ H → g x σ H fun σ2 H2 => wB X body ⟨Pv (i + 1), rt, nx, Pv (i + 1)⟩ σ2 H2) ∧ ∀ σ H, Pv xs.length σ H → nx σ H)
    (hf : ∀ x, foldedSetIterable e X.env x = pure x := by with_unfolding_all (intro _; rfl)) : wS X (.For tg e body [] po) ⟨nx, rt, bk, ct⟩ σ H := by
  refine toS (ps_for h.pass h.calm (pi_list cE) hg cB hf) ?_
  refine wE.mono q fun v H1 ⟨a, xs, ea, hs, Pv, p0, hl, turn, fin⟩ => ⟨a, ea, ⟨xs, by rw [h.kk]; exact hs⟩, ?_⟩
  exact for_list (K := X.K) (a := a) (xs := xs) Pv p0 (fun i σ H hi hp => by rw [h.kk]; exact hl i σ H hi hp) turn fin
/-- for x in t, t a tuple -/
theorem s_forT {tg : Expr} {g : TG} {po : Pos} (h : At m N sc k X) (hg : PG X tg g)
    (q : wE X e σ H fun v H1 => ∃ (a : Addr) (xs : List V), v = .ref a ∧ SqT m.K H1 a xs ∧ ∃ Pv : Nat → L2.St → Hp → Prop, Pv 0 σ H1 ∧ (∀ i σ H, i ≤ xs.length → Pv i σ H → SqT m.K H a xs) ∧ (∀ i x σ H, xs[i]? = some x → Pv i σ H → g x σ H fun σ2 H2 => wB X body ⟨Pv (i + 1), rt, nx, Pv (i + 1)⟩ σ2 H2) ∧ ∀ σ H, Pv xs.length σ H → nx σ H)
    (hf : ∀ x, foldedSetIterable e X.env x = pure x := by with_unfolding_all (intro _; rfl)) : wS X (.For tg e body [] po) ⟨nx, rt, bk, ct⟩ σ H := by
  refine toS (ps_for h.pass h.calm (pi_tup cE) hg cB hf) ?_
  refine wE.mono q fun v H1 ⟨a, xs, ea, hs, Pv, p0, hl, turn, fin⟩ => ⟨a, ea, ⟨xs, by rw [h.kk]; exact hs⟩, ?_⟩
  exact for_tup (K := X.K) (a := a) (xs := xs) Pv p0 (fun i σ H hi hp => by rw [h.kk]; exact hl i σ H hi hp) turn fin
end

/-! ### a def by its body -/
/-- what a def that makes lambdas knows of its place besides -/
structure AtM (X : Cx) (x : Str) (cdv : Value) : Prop where
  code : X.env.code = cdv
  qual : X.env.qual = x ++ ".<locals>."
  fn : ∀ y, X.fn y = true
  ex : X.ex = []
section
variable {m : Md} {N ps : List Str} {k : Nat} {x qual : Str} {st : Stmt} {f : Addr} {fd : FuncData} {sp : Sp}
/-- a def that lets no exception out, by its body -/
theorem fnG_of (F : C8.Fun m.K x qual st f fd) (S : FnScope N ps (C8.fnScope st)) (len : ∀ vs H Q E, sp vs H Q E → vs.length = ps.length)
    (hb : ∀ (X : Cx) (vs : List V) (H : Hp) (Q : VK) (E : XK), At m N (C8.fnScope st) k X → AtM X qual fd.code → sp vs H Q E → wB X (C8.fnBody st) { nx := fun _ H' => Q .non H', rt := Q } (start N vs) H) : FnG m C8.CX0 (k + 1) f fd ps sp := by
  obtain ⟨oc, od, dV, kV, doc, pm, an, cdv, ct, osl, rfl, lk, hc⟩ := F.ex
  refine ⟨len, fun A outer s H args us vs Q E hg hr e0 bt r q => ?_⟩
  refine LamX.run_ofS (CX := C8.CX0) (N := N) lk hc S hr e0 bt r (len _ _ _ _ q) fun hr' => ⟨_, PSs.nox cB, ?_⟩
  exact hb (cxOf C8.CX0 m.P m.w m.K m.mg m.base N qual (C8.fnScope st) f cdv A outer s H E).nox vs H Q E ⟨rfl, rfl, rfl, rfl, rfl, rfl, rfl, rfl, hr', PassesOwn.never, S.nd, hg⟩ ⟨rfl, rfl, fun _ => rfl, rfl⟩ q
theorem cal_ofM (F : C8.Def m.K m.mg x st f fd) (b : Binds m.K fd ps []) (S : FnScope N ps (C8.fnScope st)) (len : ∀ vs H Q E, sp vs H Q E → vs.length = ps.length)
    (hb : ∀ (X : Cx) (vs : List V) (H : Hp) (Q : VK) (E : XK), At m N (C8.fnScope st) k X → AtM X x fd.code → sp vs H Q E → wB X (C8.fnBody st) { nx := fun _ H' => Q .non H', rt := Q } (start N vs) H) : Cal m (k + 1) x sp :=
  ⟨f, fd, ps, [], fnG_of F.fn S len hb, F.mgf, F.kp, b, .nil⟩
theorem cal_of (F : C8.Def m.K m.mg x st f fd) (b : Binds m.K fd ps []) (S : FnScope N ps (C8.fnScope st)) (len : ∀ vs H Q E, sp vs H Q E → vs.length = ps.length)
    (hb : ∀ (X : Cx) (vs : List V) (H : Hp) (Q : VK) (E : XK), At m N (C8.fnScope st) k X → sp vs H Q E → wB X (C8.fnBody st) { nx := fun _ H' => Q .non H', rt := Q } (start N vs) H) : Cal m (k + 1) x sp :=
  cal_ofM F b S len fun X vs H Q E h _ q => hb X vs H Q E h q
end
theorem atI_at {α : Type} {xs : List α} {j : Nat} {v : α} (h : xs[j]? = some v) : atI xs (j : Int) = some v := atI_nat h
end Vf
set_option maxRecDepth 100000
set_option maxHeartbeats 4000000
/-! Lam: lambdas with parameters, made in a def's body and handed on. Own work. -/
namespace Vf
open PySem PySem.Spec PyProof.Rows L2 LamX NdefX

/-- a lambda's words -/
structure LF where
  qual : Str
  params : Arguments
  body : Expr
  scope : Scope
  cl : List (Str × Addr)
  c : Addr
abbrev LF.fd (F : LF) (pm ctv : Value) : FuncData := PySem.W.kla_fn "<lambda>" F.qual F.params F.body F.scope F.cl pm (.ref F.c) ctv
abbrev LF.nf (F : LF) : NF := ⟨"<lambda>", F.qual, F.params, [], F.scope, F.cl, F.c⟩
def LamO (f : Addr) (F : LF) : HO := .ext fun h => ∃ (od : Option Addr) (sl : Array (Option Value)) (pm ctv : Value), h.get? f = some (⟨.type "function", od, .func (F.fd pm ctv), sl⟩ : Obj)
theorem lamO_tbl {f : Addr} {F : LF} (ps : Array Value) : LamO f F ≠ .tbl ps := fun z => by unfold LamO at z; cases z
theorem lamO_at {P : Program} {w : World} {H : Hp} {h : Heap} {f : Addr} {F : LF} (hok : HOk P w H h) (e : H f = some (LamO f F)) : ∃ (od : Option Addr) (sl : Array (Option Value)) (pm ctv : Value), h.get? f = some (⟨.type "function", od, .func (F.fd pm ctv), sl⟩ : Obj) := by
  obtain ⟨z, _, _⟩ := hok f _ e
  exact z
theorem lamO_ok {P : Program} {w : World} {H : Hp} {h : Heap} {f : Addr} {F : LF} {od : Option Addr} {sl : Array (Option Value)} {pm ctv : Value} (e : h.get? f = some (⟨.type "function", od, .func (F.fd pm ctv), sl⟩ : Obj)) : ObjOk P w H h f (LamO f F) :=
  ⟨⟨od, sl, pm, ctv, e⟩, ⟨_, e⟩, fun h1 h2 ⟨od, sl, p, t, z⟩ st => ⟨od, sl, p, t, st _ z⟩⟩

section
variable {X : Cx} {pins : List (Addr × Obj)} {σ : L2.St} {H : Hp} {s : Shared}
theorem inv_lam {F : LF} {o : Obj} {t' : Nat} {pm ctv : Value} (I : Inv X pins σ H s) (ho : o = { cls := .type "function", data := .func (F.fd pm ctv) }) :
    Inv X pins σ (upd H s.heap.objs.size (LamO s.heap.objs.size F)) { s with heap := s.heap.push o, toks := t' } := by
  subst ho
  refine I.laid (a := s.heap.objs.size) (fun b u e => Heap.get?_push_of_some _ e) (Nat.le_refl _) ?_
  exact lamO_ok (Heap.get?_push_size _ rfl)
/-- the lambda is made and tracked -/
theorem lam_make3 {T : List (Addr × Str)} {c P : Addr} {params : Arguments} {body : Expr} {scope : Scope} {pos : Pos} {E : Value → Shared → Prop} {Q : Value → Shared → Prop} (I : Inv X pins σ H s) (TB : TabB X.base X.mg c P) (hcode : X.env.code = .ref c)
    (hm : (P, X.env.qual ++ "<lambda>") ∈ T) (hu : ∀ p ∈ T, p.1 = P → p.2 = X.env.qual ++ "<lambda>") (hT : Tabs T H) (hdef : defaultsOf params X.env = ([], [])) (hfree : ∀ y ∈ scope.names, y.2 = .free → ∃ c, X.env.cells.lookup y.1 = some c)
    (h : ∀ (f c' : Addr) (H1 : Hp) (s' : Shared), Inv X pins σ H1 s' → ExtN H H1 → Tabs T H1 → H f = none → H1 f = some (LamO f ⟨X.env.qual ++ "<lambda>", params, body, scope, cloFrom X.env.cells scope.names [], c'⟩) → H1 c' = some (CodeO c' (X.env.qual ++ "<lambda>")) → (∀ b, H1 b = none → H b = none) → Q (.ref f) s') :
    wpAny (model X.prog X.w) X.A (eval (.Lambda params body scope pos) X.env) Q E s := by
  obtain ⟨ps, hP, ht, ha⟩ := hT _ hm
  refine PySem.W.kla_eval hdef ?_
  have bP : s.heap.BuiltinsAt X.mg P := TB.bm.keeps I.bk
  have hP' : s.heap.get? P = some { cls := .none, data := .fields ps } := I.hok P _ hP
  cases hc : codeAmong pos ps.toList with
  | none =>
    refine PySem.W.kla_makeFunction (mg := X.mg) (c := c) (P := P) (ps := ps) (closure_ok hfree) I.ok.glob (I.mod.glob.keeps I.bk) hcode (TB.code.keeps I.bk) hP' ht hc TB.gP bP fun c' ctv h' tk hx hge hlt hrec htb => ?_
    obtain ⟨c2, oc, vs, t, e2, hoc, hd, hv⟩ := hrec
    cases e2
    have nC : H c' = none := I.hok.fresh hge
    have I1 := inv_table (t' := tk) (more := #[rawInt pos.line, rawInt pos.col, .ref c']) (h' := h') I hP (fun b o hb e => hx b o hb e) htb hge ⟨oc, vs, t, hoc, hd, hv⟩
    have hE : ExtN H (upd (upd H P (.tbl (ps ++ #[rawInt pos.line, rawInt pos.col, .ref c']))) c' (CodeO c' (X.env.qual ++ "<lambda>"))) := fun b o e n => by
      rw [upd_ne (ne_of_none e nC), upd_ne (fun z => n ps (Option.some.inj (e.symm.trans (by rw [z]; exact hP))))]
      exact e
    have eL : (ps ++ #[rawInt pos.line, rawInt pos.col, .ref c']).toList = ps.toList ++ [rawInt pos.line, rawInt pos.col, .ref c'] := by simp
    have T1 : Tabs T (upd (upd H P (.tbl (ps ++ #[rawInt pos.line, rawInt pos.col, .ref c']))) c' (CodeO c' (X.env.qual ++ "<lambda>"))) := fun p hp => by
      by_cases hb : p.1 = P
      · rw [hu p hp hb, hb]
        refine ⟨_, by rw [upd_ne (ne_of_none hP nC), upd_same], by rw [eL]; exact PySem.TriplesOk_snoc _ _ _ _ ht, fun p' cv hcv => ?_⟩
        rw [eL] at hcv
        rcases among_app _ ht hcv with z | z
        · obtain ⟨c0, e1, e2⟩ := ha p' cv z
          exact ⟨c0, e1, hE _ _ e2 codeO_ne⟩
        · exact ⟨c', z, upd_same⟩
      · obtain ⟨ps', a1, a2, a3⟩ := hT p hp
        refine ⟨ps', by rw [upd_ne (ne_of_none a1 nC), upd_ne hb]; exact a1, a2, fun p' cv hcv => ?_⟩
        obtain ⟨c0, e1, e2⟩ := a3 p' cv hcv
        exact ⟨c0, e1, hE _ _ e2 codeO_ne⟩
    have nF := I1.hok.fresh (Nat.le_refl _)
    have I2 := inv_lam (F := ⟨X.env.qual ++ "<lambda>", params, body, scope, cloFrom X.env.cells scope.names [], c'⟩) (t' := tk) (pm := (X.mg "__name__").getD .none) (ctv := ctv) I1 rfl
    refine h h'.objs.size c' _ _ I2 (fun b o e n => ?_) (T1.ext fun b o e => ?_) (I.hok.fresh (Nat.le_trans hge (Nat.le_of_lt hlt))) upd_same ?_ (fun b e => upd_none (upd_none (upd_none e)))
    · have e1 := hE b o e n
      exact (upd_ne (ne_of_none e1 nF)).trans e1
    · exact (upd_ne (ne_of_none e nF)).trans e
    · exact (upd_ne (Nat.ne_of_lt hlt)).trans upd_same
  | some cv =>
    obtain ⟨c', e, hco⟩ := ha pos cv hc
    subst e
    refine PySem.W.kla_makeFunctionHit (mg := X.mg) (c := c) (P := P) (ps := ps) (closure_ok hfree) I.ok.glob (I.mod.glob.keeps I.bk) hcode (TB.code.keeps I.bk) hP' ht hc bP fun ctv h' tk hx hsz => ?_
    have I1 : Inv X pins σ H { s with heap := h', toks := tk } := I.kept hx
    have nF : H h'.objs.size = none := I1.hok.fresh (Nat.le_refl _)
    have I2 := inv_lam (F := ⟨X.env.qual ++ "<lambda>", params, body, scope, cloFrom X.env.cells scope.names [], c'⟩) (t' := tk) (pm := (X.mg "__name__").getD .none) (ctv := ctv) I1 rfl
    refine h h'.objs.size c' _ _ I2 (fun b o e n => ?_) (hT.ext fun b o e => ?_) nF upd_same ?_ (fun b e => upd_none e)
    · exact (upd_ne (ne_of_none e nF)).trans e
    · exact (upd_ne (ne_of_none e nF)).trans e
    · exact (upd_ne (ne_of_none hco nF)).trans hco
end

/-! ### what calling a function value promises -/
/-- f, in every heap from H on, keeps the promise sp when it is called -/
structure Callable (m : Md) (k : Nat) (f : Addr) (sp : Sp) (H : Hp) : Prop where
  lam : ∃ F, H f = some (LamO f F)
  run : ∀ (H1 : Hp), ExtN H H1 → ∀ (A : Around) (outer : List Env) (s : Shared) (us : List Value) (vs : List V) (Q : VK), A.guards = some [] → Room k A → Env0 m.P m.w m.K m.mg m.base A outer s H1 → Vals vs us → sp vs H1 Q C8.E0 →
    codeAny (model m.P m.w) A (.call (.ref f) ⟨us, []⟩) (CR C8.CX0 outer m.P m.w H1 s Q C8.E0) s
theorem Callable.ext {m : Md} {k : Nat} {f : Addr} {sp : Sp} {H H' : Hp} (c : Callable m k f sp H) (e : ExtN H H') : Callable m k f sp H' :=
  ⟨by obtain ⟨F, h⟩ := c.lam; exact ⟨F, e _ _ h lamO_tbl⟩, fun H1 e1 => c.run H1 (e.trans e1)⟩
theorem Callable.mono {m : Md} {k j : Nat} {f : Addr} {sp : Sp} {H : Hp} (c : Callable m k f sp H) (h : k ≤ j) : Callable m j f sp H := ⟨c.lam, fun H1 e1 A outer s us vs Q hg hr => c.run H1 e1 A outer s us vs Q hg (hr.mono h)⟩
theorem Callable.imp {m : Md} {k : Nat} {f : Addr} {sp sp' : Sp} {H : Hp} (c : Callable m k f sp H) (h : ∀ H1, ExtN H H1 → ∀ vs Q E, sp' vs H1 Q E → sp vs H1 Q E) : Callable m k f sp' H := ⟨c.lam, fun H1 e1 A outer s us vs Q hg hr e0 r q => c.run H1 e1 A outer s us vs Q hg hr e0 r (h H1 e1 _ _ _ q)⟩

/-- the context of a lambda's body -/
abbrev lcx (m : Md) (N : List Str) (F : LF) (f : Addr) (A : Around) (outer : List Env) (s : Shared) (H : Hp) : Cx := (ncx C8.CX0 m.P m.w m.K m.mg m.base N F.nf f A outer s H C8.E0).nox
/-- a lambda called: its body in its own context; ws: what its captured cells hold -/
theorem lam_run {m : Md} {N ps fr : List Str} {F : LF} {f : Addr} {k : Nat} {A : Around} {outer : List Env} {s : Shared} {H : Hp} {us : List Value} {vs : List V} {ws : List (Option V)} {Q : VK} (S : NScope N ps fr F.scope)
    (hb : ∀ (pm ctv : Value) (us : List Value), us.length = ps.length → bindArgs (F.fd pm ctv) ⟨us, []⟩ = pure (ps.zip us)) (hg : A.guards = some []) (hr : Room (k + 1) A) (e0 : Env0 m.P m.w m.K m.mg m.base A outer s H) (hf : ∃ (od : Option Addr) (sl : Array (Option Value)) (pm ctv : Value), s.heap.get? f = some (⟨.type "function", od, .func (F.fd pm ctv), sl⟩ : Obj))
    (hc : H F.c = some (CodeO F.c F.qual)) (C : CellsAt F.cl fr ws s.heap H) (r : Vals vs us) (hl : vs.length = ps.length)
    (hbody : ∀ (X : Cx), At m N F.scope k X → wE X F.body (startF N vs ws) H Q) : codeAny (model m.P m.w) A (.call (.ref f) ⟨us, []⟩) (CR C8.CX0 outer m.P m.w H s Q C8.E0) s := by
  have lim : s.heap.NoLimit := e0.mod.nolimit.keeps fun b o e => (e0.bs b o e).1
  obtain ⟨od, sl, pm, ctv, ho⟩ := hf
  refine PySem.W.kla_callFunE hr.depth ho rfl S.co S.gen rfl (codeO_at e0.hok hc) ?_
  rw [hb pm ctv us (by rw [← r.length]; exact hl)]
  refine wpAny_pure (wpAny_newFunctionEnv S.nocell (fun ⟨n, _⟩ hy => S.par n (List.of_mem_zip hy).1) (fun h₁ hns hsb => ⟨lim.fresh _ hsb, ?_⟩) S.kind)
  show codeAny _ _ (.expr F.body (envF F.nf f s.heap.objs.size)) _ _
  have kp : ∀ b o, s.heap.get? b = some o → h₁.get? b = some o := fun b o e => hsb.extBut b o (Nat.ne_of_lt (Heap.lt_size e)) (Heap.get?_push_of_some _ e)
  have I : Inv (ncx C8.CX0 m.P m.w m.K m.mg m.base N F.nf f A outer s H C8.E0) [] (startF N vs ws) H { s with heap := h₁, toks := s.toks + (ps.zip us).length } := inv_startN S hr.hd e0 hl r C hns kp
  have hA : At m N F.scope k (lcx m N F f A outer s H) := ⟨rfl, rfl, rfl, rfl, rfl, rfl, rfl, rfl, hr.deeper _, PassesOwn.never, S.nd, hg⟩
  have q := hbody _ hA
  have pe : PE (ncx C8.CX0 m.P m.w m.K m.mg m.base N F.nf f A outer s H C8.E0) F.body (wE (lcx m N F f A outer s H) F.body) := PE.nox cE
  refine PySem.W.kla_codeExpr (wpAny_mono (pe.run [] _ _ H Q I q) (fun v s' hq => ?_) fun e s' hq => hq)
  obtain ⟨w', H', J', rv, q⟩ := hq
  exact ⟨w', H', J'.os, J'.bare, J'.base, J'.hok, rv, q⟩

/-- a name that holds a function value, called -/
theorem w_callv {m : Md} {N : List Str} {sc : Scope} {j k i : Nat} {X : Cx} {x : Str} {sp : Sp} {f : Addr} {σ : L2.St} {H : Hp} {Q : VK} {e : Expr} {es : List Expr} {p pos : Pos} (h : At m N sc j X) (hN : N[i]? = some x) (hv : visB sc x = true) (hs : σ[i]? = some (some (.ref f))) (c : Callable m k f sp H) (hk : k ≤ j)
    (q : wA X (e :: es) σ H fun vs H1 => ExtN H H1 ∧ sp vs H1 Q C8.E0) (hd : (x == ("__debug__" : Str)) = false := by with_unfolding_all decide) (hcd : (x == ("__classdict__" : Str)) = false := by with_unfolding_all decide)
    (he : starEach (e :: es) X.env = (false, eval e X.env) :: starEach es X.env := by with_unfolding_all rfl) (hpl : (backTo pos (starEach es X.env)).any (·.1) = false := by with_unfolding_all rfl) : wE X (.Call (.Name x p) (e :: es) [] pos) σ H Q := by
  unfold wE
  intro pins s I
  refine wpAny_Call_Name_kw (thn ((pe_var (pos := p) (by rw [h.nn]; exact hN) (h.vis hv) hd hcd).run pins s σ H (fun v H1 => v = .ref f ∧ H1 = H) I ⟨.ref f, hs, rfl, rfl⟩) fun u s1 ⟨v, H1, I1, r1, q1⟩ => ?_)
  obtain ⟨rfl, rfl⟩ := q1
  obtain rfl : u = Value.ref f := r1
  obtain ⟨F, hF⟩ := c.lam
  have fnAt : ∀ {H2 : Hp} {s2 : Shared}, Inv X pins σ H2 s2 → ExtN H1 H2 → PySem.W.FnAt f s2.heap := fun {H2 s2} I2 e2 => by
    obtain ⟨od, sl, pm, ctv, ho⟩ := lamO_at I2.hok (e2 _ _ hF lamO_tbl)
    exact ⟨_, od, _, sl, ho⟩
  refine PySem.W.callWith_F (first := []) (fnAt I1 (ExtN.refl _)) (thn ((cA (X := X) (es := e :: es)).run pos pins s1 σ _ _ I1 q) fun us s2 ⟨vs, H2, I2, r, e2, q2⟩ => ⟨fnAt I2 e2, ?_⟩) he hpl
  show wpAny _ _ (call (.ref f) us) _ _ _
  have e0 := I2.env0
  rw [h.pp, h.ww, h.kk, h.mm, h.bb] at e0
  have rc := c.run H2 e2 X.A X.stack s2 us vs Q h.gd (h.room.mono hk) e0 r q2
  rw [← h.pp, ← h.ww] at rc
  refine wpAny_call (codeAny_mono rc fun r s' hq => ?_)
  cases r with
  | error e => exact (show False from hq).elim
  | ok fl =>
    cases fl with
    | ret u => exact I2.after hq
    | next => exact False.elim hq
    | brk => exact False.elim hq
    | cont => exact False.elim hq

/-- a lambda that captures nothing, as a value -/
theorem w_lam0 {m : Md} {N : List Str} {sc : Scope} {j k : Nat} {X : Cx} {T : List (Addr × Str)} {c P : Addr} {qual : Str} {NL ps : List Str} {params : Arguments} {body : Expr} {scope : Scope} {pos : Pos} {sp : Sp} {σ : L2.St} {H : Hp} {Q : VK} (h : At m N sc j X)
    (TB : TabB m.base m.mg c P) (hcode : X.env.code = .ref c) (hqual : X.env.qual ++ "<lambda>" = qual) (hm : (P, qual) ∈ T) (hu : ∀ p ∈ T, p.1 = P → p.2 = qual) (S : NScope NL ps [] scope) (hb : ∀ (c' : Addr) (cl : List (Str × Addr)) (pm ctv : Value) (us : List Value), us.length = ps.length → bindArgs (LF.fd ⟨qual, params, body, scope, cl, c'⟩ pm ctv) ⟨us, []⟩ = pure (ps.zip us))
    (hlen : ∀ vs H Q E, sp vs H Q E → vs.length = ps.length)
    (hbody : ∀ (X : Cx) (vs : List V) (H : Hp) (Q : VK), At m NL scope k X → sp vs H Q C8.E0 → wE X body (startF NL vs []) H Q)
    (hT : Tabs T H) (q : ∀ f H1, ExtN H H1 → Tabs T H1 → (∀ b, H1 b = none → H b = none) → Callable m (k + 1) f sp H1 → Q (.ref f) H1) (hdef : defaultsOf params X.env = ([], []) := by with_unfolding_all rfl) : wE X (.Lambda params body scope pos) σ H Q := by
  unfold wE
  intro pins s I
  subst hqual
  have nofree : ∀ y ∈ scope.names, y.2 = .free → ∃ c, X.env.cells.lookup y.1 = some c := fun y hy e => absurd (S.free y hy e) (by simp)
  refine lam_make3 (T := T) (c := c) (P := P) I (by rw [h.bb, h.mm]; exact TB) hcode hm hu hT hdef nofree fun f c' H1 s' I1 eN T1 f0 f1 c1 nn => ?_
  refine ⟨.ref f, H1, I1, rfl, q f H1 eN T1 nn ⟨⟨_, f1⟩, fun H2 e2 A outer s2 us vs Q2 hg hr e0 r hsp => ?_⟩⟩
  refine lam_run (N := NL) (ps := ps) (fr := []) (ws := []) S (fun pm ctv us hl => hb c' _ pm ctv us hl) hg hr e0 (lamO_at e0.hok (e2 _ _ f1 lamO_tbl)) (e2 _ _ c1 codeO_ne) ?_ r (hlen _ _ _ _ hsp) fun X' hA => hbody X' vs H2 Q2 hA hsp
  have ecl : cloFrom X.env.cells scope.names [] = [] := by
    cases hcl : cloFrom X.env.cells scope.names [] with
    | nil => rfl
    | cons y r =>
      have hm2 : (y.1, y.2) ∈ cloFrom X.env.cells scope.names [] := by rw [hcl]; exact List.mem_cons_self
      rcases cloFrom_mem hm2 with z | ⟨z, _⟩
      · cases z
      · exact absurd (S.free _ z rfl) (by simp)
  refine ⟨rfl, fun y c e => ?_, fun x y c e => ?_, fun i y e => ?_⟩
  · rw [ecl] at e; cases e
  · rw [ecl] at e; cases e
  · simp at e

/-! ### one captured cell, locked while the function is handed on -/
def dl (H : Hp) (c : Addr) : Hp := fun b => if b = c then none else H b
theorem dl_same {H : Hp} {c : Addr} : dl H c c = none := if_pos rfl
theorem dl_ne {H : Hp} {b c : Addr} (h : b ≠ c) : dl H c b = H b := if_neg h
theorem dl_some {H : Hp} {b c : Addr} {o : HO} (h : dl H c b = some o) : b ≠ c ∧ H b = some o := by
  by_cases e : b = c
  · subst e; rw [dl_same] at h; cases h
  · rw [dl_ne e] at h; exact ⟨e, h⟩
abbrev lkO (o : Obj) : HO := .frz o (.own 0)
section
variable {P : Program} {w : World} {H H1 : Hp} {h h' : Heap} {c : Addr} {o : Obj} {fs ex : List Addr}
theorem HOk.lock (x : HOk P w H h) (n : H c = none) (e : h.get? c = some o) : HOk P w (upd H c (lkO o)) h := fun b u q => by
  by_cases hb : b = c
  · subst hb; rw [upd_same] at q; cases q; exact ⟨e, ⟨o, e⟩⟩
  · rw [upd_ne hb] at q
    exact (x b u q).stay (fun _ _ _ r => r) (fun d r => by rw [upd_ne (ne_of_none r n)]; exact r) fun d xs r => by rw [upd_ne (ne_of_none r n)]; exact r
theorem HOk.unlock (x : HOk P w H h) (e : H c = some (lkO o)) : HOk P w (dl H c) h := fun b u q => by
  obtain ⟨hb, q⟩ := dl_some q
  exact (x b u q).stay (fun _ _ _ r => r) (fun d r => by rw [dl_ne (fun z => by subst z; rw [e] at r; cases r)]; exact r) fun d xs r => by rw [dl_ne (fun z => by subst z; rw [e] at r; cases r)]; exact r
/-- behind a run that saw the lock -/
theorem Un.unlock (u : Un fs ex (upd H c (lkO o)) H1 h h') (ok : HOk P w H1 h') (n : H c = none) (e : h.get? c = some o) (hfs : c ∉ fs) (hex : c ∉ ex) : Un fs ex H (dl H1 c) h h' := by
  have hc1 : H1 c = some (lkO o) := u.frzs c o _ upd_same
  have hc' : h'.get? c = some o := (ok c _ hc1).1
  refine ⟨fun b ob q nb hf hx => ?_, fun b ob q nb hf hx => ?_, fun b ob q nb hx => ?_, fun b ob q hx => u.there b ob q hx, fun b xs q => ?_, fun b ob z q => ?_, fun b ps q => ?_⟩
  · by_cases hb : b = c
    · subst hb; rw [e] at q; cases q; exact hc'
    · exact u.keep b ob q (by rw [upd_ne hb]; exact nb) hf hx
  · by_cases hb : b = c
    · subst hb; exact absurd hf hfs
    · exact u.slot b ob q (by rw [upd_ne hb]; exact nb) hf hx
  · by_cases hb : b = c
    · subst hb; exact dl_same
    · rw [dl_ne hb]; exact u.free b ob q (by rw [upd_ne hb]; exact nb) hx
  · have hb : b ≠ c := ne_of_none q n
    rw [dl_ne hb]; exact u.tups b xs (by rw [upd_ne hb]; exact q)
  · have hb : b ≠ c := ne_of_none q n
    rw [dl_ne hb]; exact u.frzs b ob z (by rw [upd_ne hb]; exact q)
  · have hb : b ≠ c := ne_of_none q n
    obtain ⟨more, z⟩ := u.tbls b ps (by rw [upd_ne hb]; exact q)
    exact ⟨more, by rw [dl_ne hb]; exact z⟩
/-- a run from which the lock was taken away, with it again -/
theorem Un.relock (u : Un fs ex (dl H c) H1 h h') (e : H c = some (lkO o)) (ec : h.get? c = some o) (hfs : c ∉ fs) (hex : c ∉ ex) : Un fs ex H (upd H1 c (lkO o)) h h' := by
  refine ⟨fun b ob q nb hf hx => ?_, fun b ob q nb hf hx => ?_, fun b ob q nb hx => ?_, fun b ob q hx => u.there b ob q hx, fun b xs q => ?_, fun b ob z q => ?_, fun b ps q => ?_⟩
  · have hb : b ≠ c := fun z => by subst z; rw [e] at nb; cases nb
    exact u.keep b ob q (by rw [dl_ne hb]; exact nb) hf hx
  · have hb : b ≠ c := fun z => by subst z; rw [e] at nb; cases nb
    exact u.slot b ob q (by rw [dl_ne hb]; exact nb) hf hx
  · have hb : b ≠ c := fun z => by subst z; rw [e] at nb; cases nb
    rw [upd_ne hb]; exact u.free b ob q (by rw [dl_ne hb]; exact nb) hx
  · have hb : b ≠ c := fun z => by subst z; rw [e] at q; cases q
    rw [upd_ne hb]; exact u.tups b xs (by rw [dl_ne hb]; exact q)
  · by_cases hb : b = c
    · subst hb; rw [e] at q; cases q; exact upd_same
    · rw [upd_ne hb]; exact u.frzs b ob z (by rw [dl_ne hb]; exact q)
  · have hb : b ≠ c := fun z => by subst z; rw [e] at q; cases q
    obtain ⟨more, z⟩ := u.tbls b ps (by rw [dl_ne hb]; exact q)
    exact ⟨more, by rw [upd_ne hb]; exact z⟩
theorem HOk.relock (x : HOk P w H1 h') (u : Un fs ex (dl H c) H1 h h') (ec : h.get? c = some o) (hfs : c ∉ fs) (hex : c ∉ ex) : HOk P w (upd H1 c (lkO o)) h' := by
  have hn : H1 c = none := u.free c o ec dl_same hex
  exact HOk.lock x hn (u.keep c o ec dl_same hfs hex)
end
/-- the captured cell of a function value: its address, its object, what it holds -/
structure Cap1 (F : LF) (y : Str) (c : Addr) (o : Obj) (v : V) : Prop where
  look : F.cl.lookup y = some c
  only : ∀ y' c', F.cl.lookup y' = some c' → y' = y
  data : ∃ u, o.data = .cell (some u) ∧ RelV v u
theorem ExtN.frz {H H' : Hp} (e : ExtN H H') {c : Addr} {o : Obj} {u : HO} (h : H c = some (.frz o u)) : H' c = some (.frz o u) := e _ _ h (fun _ z => by cases z)
/-- a lambda that captures one name, handed to a def by its last argument: g(e1, lambda ..: ..) -/
theorem w_lam1 {m : Md} {N : List Str} {sc : Scope} {j k kg iy : Nat} {X : Cx} {T : List (Addr × Str)} {c P : Addr} {x y xg : Str} {cdv : Value} {NL ps : List Str} {params : Arguments} {body e1 : Expr} {scope : Scope} {lpos p pos : Pos} {spw spg : Sp} {v : V} {σ : L2.St} {H : Hp} {Q : VK}
    (h : At m N sc j X) (hm' : AtM X x cdv) (TB : TabB m.base m.mg c P) (hcode : cdv = .ref c) (hm : (P, x ++ ".<locals>." ++ "<lambda>") ∈ T) (hu : ∀ p ∈ T, p.1 = P → p.2 = x ++ ".<locals>." ++ "<lambda>") (S : NScope NL ps [y] scope) (hy : (y, NameKind.free) ∈ scope.names)
    (hyN : N[iy]? = some y) (hyc : sc.names.lookup y = some .cell) (hyv : σ[iy]? = some (some v))
    (hb : ∀ (c' : Addr) (cl : List (Str × Addr)) (pm ctv : Value) (us : List Value), us.length = ps.length → bindArgs (LF.fd ⟨x ++ ".<locals>." ++ "<lambda>", params, body, scope, cl, c'⟩ pm ctv) ⟨us, []⟩ = pure (ps.zip us))
    (hlen : ∀ vs H Q E, spw vs H Q E → vs.length = ps.length) (hbody : ∀ (X : Cx) (vs : List V) (H : Hp) (Q : VK), At m NL scope k X → spw vs H Q C8.E0 → wE X body (startF NL vs [some v]) H Q)
    (g : Cal m kg xg spg) (hkg : kg ≤ j) (hgl : sc.names.lookup xg = some .globalImplicit)
    (q : wE X e1 σ H fun v1 H1 => Tabs T H1 ∧ ∀ (f ca : Addr) (o : Obj) (H2 : Hp), H1 ca = none → ExtN H1 H2 → Tabs T H2 → H2 ca = some (lkO o) →
      Callable m (k + 1) f (fun vs H Q E => H ca = some (lkO o) ∧ spw vs (dl H ca) (fun v H' => Q v (upd H' ca (lkO o))) E) H2 → spg [v1, .ref f] H2 (fun v H3 => Q v (dl H3 ca)) C8.E0)
    (hdef : defaultsOf params X.env = ([], []) := by with_unfolding_all rfl) (hdb : (xg == ("__debug__" : Str)) = false := by with_unfolding_all decide)
    (he : starEach [e1, .Lambda params body scope lpos] X.env = (false, eval e1 X.env) :: starEach [.Lambda params body scope lpos] X.env := by with_unfolding_all rfl) (he2 : starEach [.Lambda params body scope lpos] X.env = [(false, eval (.Lambda params body scope lpos) X.env)] := by with_unfolding_all rfl)
    (hpl : (backTo pos (starEach [.Lambda params body scope lpos] X.env)).any (·.1) = false := by with_unfolding_all rfl) : wE X (.Call (.Name xg p) [e1, .Lambda params body scope lpos] [] pos) σ H Q := by
  subst hcode
  obtain ⟨fg, fdg, psg, dsg, Fg, hmg, kpg, bg, dg⟩ := g.ex
  unfold wE
  intro pins s I
  have bs0 := I.ok
  refine wpAny_Call_Name_kw (ld_glob (u := .ref fg) I (h.gl hgl) (by rw [h.mm]; exact hmg) ?_ hdb)
  refine PySem.W.callWith_K (h₀ := X.base) I.ok.mod.kin (by rw [h.kk]; exact kpg) ?_ he hpl
  rw [he]
  show wpAny _ _ (spliced ((false, eval e1 X.env) :: backTo pos (starEach [.Lambda params body scope lpos] X.env))) _ _ s
  refine Calls.spliced_cons (thn ((cE (X := X) (e := e1)).run pins s σ H _ I q) fun u1 s1 ⟨v1, H1, I1, r1, hT, q1⟩ => ?_)
  rw [he2]
  show wpAny _ _ (spliced ((false, eval (.Lambda params body scope lpos) X.env) :: backTo pos [])) _ _ s1
  have hq : X.env.qual ++ "<lambda>" = x ++ ".<locals>." ++ "<lambda>" := by rw [hm'.qual]
  have hfree : ∀ z ∈ scope.names, z.2 = .free → X.env.scope.names.lookup z.1 = some .cell ∨ X.env.scope.names.lookup z.1 = some .free := fun z hz e => by
    have := S.free z hz e
    simp only [List.mem_singleton] at this
    rw [this, h.ss]; exact .inl hyc
  have hfree' : ∀ z ∈ scope.names, z.2 = .free → ∃ c, X.env.cells.lookup z.1 = some c := fun z hz e => (hfree z hz e).elim (fun k => I1.ok.has _ (.inl k)) fun k => I1.ok.has _ (.inr k)
  refine Calls.spliced_cons (lam_make3 (T := T) (c := c) (P := P) I1 (by rw [h.bb, h.mm]; exact TB) hm'.code (by rw [hq]; exact hm) (by rw [hq]; exact hu) hT hdef hfree' fun f c' H2 s2 I2 eN T2 f0 f1 c1 nn => ?_)
  refine Calls.spliced_nil ⟨I2.kIn, ?_⟩
  rw [hq] at f1 c1
  -- the captured cell
  have cp : Caps X (cloFrom X.env.cells scope.names []) [y] [iy] := Caps.made I2.ok hfree (fun z hz => by simp only [List.mem_singleton] at hz; subst hz; exact hy) (by simp [h.nn, hyN])
  have C := cells_of I2 cp
  obtain ⟨ca, hca, hval⟩ := C.has 0 y rfl
  have eslot : slotAt σ iy = some v := slotAt_of hyv
  obtain ⟨u, ru, o, ho, hod⟩ := hval v (by show ([iy].map (slotAt σ))[0]? = _; simp [eslot])
  have nca : H2 ca = none := (C.all y ca hca).1
  have nca1 : H1 ca = none := nn ca nca
  have hX : X.env.cells.lookup y = some ca := cp.sub y ca hca
  have only : ∀ y' c'', (cloFrom X.env.cells scope.names []).lookup y' = some c'' → y' = y := fun y' c'' e => by
    rcases cloFrom_mem (PySem.mem_of_lookup e) with z | ⟨z, _⟩
    · cases z
    · simpa using S.free (y', .free) z rfl
  have cs0 : X.s_0.heap.objs.size ≤ ca := I2.ok.cab y ca (hm'.fn y) hX
  have ncb : ∀ b ob, X.base.get? b = some ob → b ≠ ca := fun b ob e z => by
    subst z
    exact absurd (Nat.lt_of_lt_of_le (Heap.lt_size e) (Nat.le_trans I2.ok.bsz cs0)) (Nat.lt_irrefl _)
  have nfs : ca ∉ frs X.stack := fun z => by
    rcases List.mem_cons.mp (I2.stkSub _ z) with e | hb'
    · exact I2.cne y ca hX e
    · obtain ⟨_, ob, hob, _⟩ := I2.ok.funs.mem hb'
      exact absurd (Nat.lt_of_lt_of_le (Heap.lt_size hob) cs0) (Nat.lt_irrefl _)
  let H3 := upd H2 ca (lkO o)
  have ok3 : HOk X.prog X.w H3 s2.heap := HOk.lock I2.hok nca ho
  have e0 := I2.env0
  have e03 : Env0 X.prog X.w X.K X.mg X.base X.A X.stack s2 H3 := ⟨e0.frames, e0.mod, fun b ob e => ⟨(e0.bs b ob e).1, by show upd H2 ca (lkO o) b = none; rw [upd_ne (ncb b ob e)]; exact (e0.bs b ob e).2⟩, e0.bsz, e0.funs,
    fun b hb' => by show upd H2 ca (lkO o) b = none; rw [upd_ne (fun z => nfs (by rw [← z]; exact hb'))]; exact e0.frf b hb', ok3, e0.bare⟩
  have x23 : ExtN H2 H3 := fun b ob e _ => by show upd H2 ca (lkO o) b = _; rw [upd_ne (ne_of_none e nca)]; exact e
  have t3 : Tabs T H3 := Tabs.ext T2 fun b ob e => by show upd H2 ca (lkO o) b = _; rw [upd_ne (ne_of_none e nca)]; exact e
  have F3 : H3 f = some (LamO f _) := x23 _ _ f1 lamO_tbl
  have C3 : H3 c' = some (CodeO c' _) := x23 _ _ c1 codeO_ne
  have hcall : Callable m (k + 1) f (fun vs H Q E => H ca = some (lkO o) ∧ spw vs (dl H ca) (fun v H' => Q v (upd H' ca (lkO o))) E) H3 := by
    refine ⟨⟨_, F3⟩, fun H4 e4 A outer s4 us vs Q4 hg hr e04 r hsp => ?_⟩
    obtain ⟨hc4, hsp⟩ := hsp
    have ho4 : s4.heap.get? ca = some o := (e04.hok ca _ hc4).1
    have nf4 : ca ∉ frs outer := fun z => by have := e04.frf ca z; rw [hc4] at this; cases this
    have e05 : Env0 m.P m.w m.K m.mg m.base A outer s4 (dl H4 ca) := ⟨e04.frames, e04.mod, fun b ob e => ⟨(e04.bs b ob e).1, by
        by_cases hb' : b = ca
        · subst hb'; exact dl_same
        · rw [dl_ne hb']; exact (e04.bs b ob e).2⟩, e04.bsz, e04.funs, fun b hb' => by rw [dl_ne (fun z => nf4 (by rw [← z]; exact hb'))]; exact e04.frf b hb', HOk.unlock e04.hok hc4, e04.bare⟩
    have nef : c' ≠ ca := ne_of C3 (show H3 ca = some (lkO o) from upd_same) (by unfold CodeO; intro z; cases z)
    have F4 := e4 _ _ F3 lamO_tbl
    have C4 : dl H4 ca c' = some (CodeO c' (x ++ ".<locals>." ++ "<lambda>")) := by rw [dl_ne nef]; exact e4 _ _ C3 codeO_ne
    have run := lam_run (m := m) (N := NL) (ps := ps) (fr := [y]) (ws := [some v]) (F := ⟨x ++ ".<locals>." ++ "<lambda>", params, body, scope, cloFrom X.env.cells scope.names [], c'⟩) (f := f) (Q := fun v H' => Q4 v (upd H' ca (lkO o))) S (fun pm ctv us hl => hb c' _ pm ctv us hl) hg hr e05 (lamO_at e04.hok F4) C4
      ⟨rfl, fun y' c'' e => ?_, fun a b c0 h1 h2 => by rw [only a c0 h1, only b c0 h2], fun i y' e => ?_⟩ r (hlen _ _ _ _ hsp) fun X' hA => hbody X' vs _ _ hA hsp
    · refine codeAny_mono run fun r s' hq => ?_
      cases r with
      | error e => exact hq
      | ok fl =>
        cases fl with
        | ret u' =>
          obtain ⟨v', H', os, bare, un, hok, rv, qq⟩ := hq
          exact ⟨v', upd H' ca (lkO o), os, bare, Un.relock un hc4 ho4 nf4 (by simp), HOk.relock hok un ho4 nf4 (by simp), rv, qq⟩
        | next => exact hq
        | brk => exact hq
        | cont => exact hq
    · have := only y' c'' e
      subst this
      rw [hca] at e; cases e
      exact ⟨dl_same, _, o, ho4, hod⟩
    · match i, e with
      | 0, e =>
        cases e
        exact ⟨ca, hca, fun v' ev => by cases ev; exact ⟨u, ru, o, ho4, hod⟩⟩
  have hsp := q1 f ca o H3 nca1 (eN.trans x23) t3 upd_same hcall
  have r2 : Vals ([v1, .ref f] ++ []) ([u1, .ref f] ++ dsg) := Vals.append (Paired.cons r1 (Paired.cons rfl .nil) : Vals [v1, .ref f] [u1, .ref f]) dg
  have rc := Fg.run X.A X.stack s2 H3 ⟨[u1, .ref f], []⟩ ([u1, .ref f] ++ dsg) [v1, .ref f] (fun v H3 => Q v (dl H3 ca)) C8.E0 h.gd (h.room.mono hkg) (by rw [← h.pp, ← h.ww, ← h.kk, ← h.mm, ← h.bb]; exact e03)
    (bg s2 [u1, .ref f] (by rw [← h.kk]; exact I2.kIn) (by rw [← r2.length]; have := Fg.len _ _ _ _ hsp; simpa using this)) (by simpa using r2) hsp
  show wpAny _ _ (call (.ref fg) [u1, .ref f]) _ _ _
  rw [← h.pp, ← h.ww] at rc
  refine wpAny_call (codeAny_mono rc fun r s' hq => ?_)
  cases r with
  | error e => exact (show False from hq).elim
  | ok fl =>
    cases fl with
    | ret u' =>
      obtain ⟨v', H', os, bare, un, hok, rv, qq⟩ := hq
      exact I2.after ⟨v', dl H' ca, os, bare, Un.unlock un hok nca ho nfs (by simp), HOk.unlock hok (un.frzs ca o _ upd_same), rv, qq⟩
    | next => exact False.elim hq
    | brk => exact False.elim hq
    | cont => exact False.elim hq
end Vf
set_option maxRecDepth 100000
set_option maxHeartbeats 4000000
/-! Dat: data at any depth in the abstract heap, with the addresses that it lies at. Own work. -/
namespace Vf
open PySem PySem.Spec PyProof.Rows L2 LamX

mutual
/-- v is the data d; all lists of it lie at addresses of A -/
inductive Da (K : PySem.W.Frag) (A : Addr → Prop) (H : Hp) : V → PyData → Prop
  | non : Da K A H .non .none
  | bl (b : Bool) : Da K A H (.bl b) (.bool b)
  | int (i : Int) : Da K A H (.int i) (.int i)
  | str (x : Str) : Da K A H (.str x) (.str x)
  | lst {a : Addr} {xs : List V} {ds : List PyData} : A a → SqL K H a xs → DaAll K A H xs ds → Da K A H (.ref a) (.list ds)
  | tup {a : Addr} {xs : List V} {ds : List PyData} : SqT K H a xs → DaAll K A H xs ds → Da K A H (.ref a) (.tuple ds)
inductive DaAll (K : PySem.W.Frag) (A : Addr → Prop) (H : Hp) : List V → List PyData → Prop
  | nil : DaAll K A H [] []
  | cons {v : V} {vs : List V} {d : PyData} {ds : List PyData} : Da K A H v d → DaAll K A H vs ds → DaAll K A H (v :: vs) (d :: ds)
end
section
variable {K : PySem.W.Frag} {A A' : Addr → Prop} {H H' : Hp}
mutual
theorem Da.dp : ∀ (d : PyData) (v : V), Da K A H v d → Dp K H v d
  | .none, _, h => by cases h; exact .non
  | .bool b, _, h => by cases h; exact .bl b
  | .int i, _, h => by cases h; exact .int i
  | .str x, _, h => by cases h; exact .str x
  | .list ds, _, h => by cases h with | lst _ s r => exact .lst s (DaAll.dp ds _ r)
  | .tuple ds, _, h => by cases h with | tup s r => exact .tup s (DaAll.dp ds _ r)
  | .dict _, _, h => by cases h
theorem DaAll.dp : ∀ (ds : List PyData) (vs : List V), DaAll K A H vs ds → DpAll K H vs ds
  | [], _, h => by cases h; exact .nil
  | d :: ds, _, h => by cases h with | cons a b => exact .cons (Da.dp d _ a) (DaAll.dp ds _ b)
end
mutual
theorem Da.mono (hA : ∀ a, A a → A' a) (hL : ∀ a xs, A a → SqL K H a xs → SqL K H' a xs) (hT : ∀ a xs, SqT K H a xs → SqT K H' a xs) : ∀ (d : PyData) (v : V), Da K A H v d → Da K A' H' v d
  | .none, _, h => by cases h; exact .non
  | .bool b, _, h => by cases h; exact .bl b
  | .int i, _, h => by cases h; exact .int i
  | .str x, _, h => by cases h; exact .str x
  | .list ds, _, h => by cases h with | lst a s r => exact .lst (hA _ a) (hL _ _ a s) (DaAll.mono hA hL hT ds _ r)
  | .tuple ds, _, h => by cases h with | tup s r => exact .tup (hT _ _ s) (DaAll.mono hA hL hT ds _ r)
  | .dict _, _, h => by cases h
theorem DaAll.mono (hA : ∀ a, A a → A' a) (hL : ∀ a xs, A a → SqL K H a xs → SqL K H' a xs) (hT : ∀ a xs, SqT K H a xs → SqT K H' a xs) : ∀ (ds : List PyData) (vs : List V), DaAll K A H vs ds → DaAll K A' H' vs ds
  | [], _, h => by cases h; exact .nil
  | d :: ds, _, h => by cases h with | cons a b => exact .cons (Da.mono hA hL hT d _ a) (DaAll.mono hA hL hT ds _ b)
end
mutual
theorem Dp.noDict : ∀ (d : PyData) (v : V), Dp K H v d → d.hasDict = false
  | .none, _, _ => rfl
  | .bool _, _, _ => rfl
  | .int _, _, _ => rfl
  | .str _, _, _ => rfl
  | .list ds, _, h => by cases h with | lst s r => show PyData.hasDictAll ds = false; exact DpAll.noDict ds _ r
  | .tuple ds, _, h => by cases h with | tup s r => show PyData.hasDictAll ds = false; exact DpAll.noDict ds _ r
  | .dict _, _, h => by cases h
theorem DpAll.noDict : ∀ (ds : List PyData) (vs : List V), DpAll K H vs ds → PyData.hasDictAll ds = false
  | [], _, _ => rfl
  | d :: ds, _, h => by cases h with | cons a b => show (d.hasDict || PyData.hasDictAll ds) = false; rw [Dp.noDict d _ a, DpAll.noDict ds _ b]; rfl
end
/-- everything -/
abbrev Any : Addr → Prop := fun _ => True
mutual
theorem Da.of : ∀ (d : PyData) (v : V), Dp K H v d → Da K Any H v d
  | .none, _, h => by cases h; exact .non
  | .bool b, _, h => by cases h; exact .bl b
  | .int i, _, h => by cases h; exact .int i
  | .str x, _, h => by cases h; exact .str x
  | .list ds, _, h => by cases h with | lst s r => exact .lst trivial s (DaAll.of ds _ r)
  | .tuple ds, _, h => by cases h with | tup s r => exact .tup s (DaAll.of ds _ r)
  | .dict _, _, h => by cases h
theorem DaAll.of : ∀ (ds : List PyData) (vs : List V), DpAll K H vs ds → DaAll K Any H vs ds
  | [], _, h => by cases h; exact .nil
  | d :: ds, _, h => by cases h with | cons a b => exact .cons (Da.of d _ a) (DaAll.of ds _ b)
end
theorem DaAll.length : ∀ {vs : List V} {ds : List PyData}, DaAll K A H vs ds → vs.length = ds.length
  | _, _, .nil => rfl
  | _, _, .cons _ r => congrArg (· + 1) (DaAll.length r)
theorem DaAll.get : ∀ {vs : List V} {ds : List PyData} {i : Nat} {d : PyData}, DaAll K A H vs ds → ds[i]? = some d → ∃ v, vs[i]? = some v ∧ Da K A H v d
  | _, _, i, _, .nil, e => by simp at e
  | _, _, 0, _, .cons a _, e => by simp at e; subst e; exact ⟨_, rfl, a⟩
  | _, _, i + 1, d, .cons _ r, e => by
    obtain ⟨v, h1, h2⟩ := DaAll.get (i := i) r (by simpa using e)
    exact ⟨v, by simpa using h1, h2⟩
theorem DaAll.getV : ∀ {vs : List V} {ds : List PyData} {i : Nat} {v : V}, DaAll K A H vs ds → vs[i]? = some v → ∃ d, ds[i]? = some d ∧ Da K A H v d
  | _, _, i, _, .nil, e => by simp at e
  | _, _, 0, _, .cons a _, e => by simp at e; subst e; exact ⟨_, rfl, a⟩
  | _, _, i + 1, d, .cons _ r, e => by
    obtain ⟨v, h1, h2⟩ := DaAll.getV (i := i) r (by simpa using e)
    exact ⟨v, by simpa using h1, h2⟩
theorem DaAll.append : ∀ {vs ws : List V} {ds es : List PyData}, DaAll K A H vs ds → DaAll K A H ws es → DaAll K A H (vs ++ ws) (ds ++ es)
  | _, _, _, _, .nil, s => s
  | _, _, _, _, .cons a r, s => .cons a (DaAll.append r s)
end

/-! ### how heaps grow -/
theorem SqL.ext {K : PySem.W.Frag} {H H' : Hp} {a : Addr} {xs : List V} (e : ExtN H H') (h : SqL K H a xs) : SqL K H' a xs := by
  rcases h with (h | ⟨o, h⟩) | h
  · exact .inl (.inl (e _ _ h (fun _ z => by cases z)))
  · exact .inl (.inr ⟨o, e _ _ h (fun _ z => by cases z)⟩)
  · exact .inr h
theorem SqT.ext {K : PySem.W.Frag} {H H' : Hp} {a : Addr} {xs : List V} (e : ExtN H H') (h : SqT K H a xs) : SqT K H' a xs := by
  rcases h with (h | ⟨o, h⟩) | h
  · exact .inl (.inl (e _ _ h (fun _ z => by cases z)))
  · exact .inl (.inr ⟨o, e _ _ h (fun _ z => by cases z)⟩)
  · exact .inr h
/-- what was tracked stays, but for the objects of S (and tables of code, which grow); the tables T stay tables; no tuple and nothing frozen changes -/
structure GrowX (T : List (Addr × Str)) (S : Addr → Prop) (H H' : Hp) : Prop where
  ext : ∀ b o, ¬ S b → H b = some o → (∀ ps, o ≠ .tbl ps) → H' b = some o
  tab : Tabs T H → Tabs T H'
  keep : ∀ b, H' b = none → H b = none
  tup : ∀ b xs, H b = some (.tup xs) → H' b = some (.tup xs)
  frz : ∀ b o u, H b = some (.frz o u) → H' b = some (.frz o u)
abbrev Grow (T : List (Addr × Str)) (H H' : Hp) : Prop := GrowX T (fun _ => False) H H'
section
variable {T : List (Addr × Str)} {S S' : Addr → Prop} {H H1 H2 : Hp} {K : PySem.W.Frag} {A : Addr → Prop}
theorem GrowX.refl : GrowX T S H H := ⟨fun _ _ _ h _ => h, id, fun _ h => h, fun _ _ h => h, fun _ _ _ h => h⟩
theorem GrowX.trans (a : GrowX T S H H1) (b : GrowX T S H1 H2) : GrowX T S H H2 := ⟨fun c o s h n => b.ext c o s (a.ext c o s h n) n, fun t => b.tab (a.tab t), fun c h => a.keep c (b.keep c h), fun c xs h => b.tup c xs (a.tup c xs h), fun c o u h => b.frz c o u (a.frz c o u h)⟩
theorem GrowX.weak (a : GrowX T S H H1) (h : ∀ b, S b → S' b) : GrowX T S' H H1 := ⟨fun c o s e n => a.ext c o (fun z => s (h c z)) e n, a.tab, a.keep, a.tup, a.frz⟩
theorem Grow.extN (a : Grow T H H1) : ExtN H H1 := fun b o h n => a.ext b o (fun z => z) h n
theorem Grow.of (a : ExtN H H1) (t : Tabs T H → Tabs T H1) (k : ∀ b, H1 b = none → H b = none) : Grow T H H1 := ⟨fun b o _ h n => a b o h n, t, k, fun b xs h => a b _ h (fun _ z => by cases z), fun b o u h => a b _ h (fun _ z => by cases z)⟩
theorem Grow.to (a : Grow T H H1) : GrowX T S H H1 := a.weak fun _ z => z.elim
theorem Grow.new {p : Addr} {o : HO} (h : H p = none) : Grow T H (upd H p o) := ⟨fun b u _ e _ => by rw [upd_ne (ne_of_none e h)]; exact e, fun t => t.ext fun b u e => by rw [upd_ne (ne_of_none e h)]; exact e, fun b e => NdefX.upd_none e, fun b xs e => by rw [upd_ne (ne_of_none e h)]; exact e, fun b u v e => by rw [upd_ne (ne_of_none e h)]; exact e⟩
theorem GrowX.set {p : Addr} {o u : HO} (hp : S p) (h : H p = some u) (n : ∀ ps, u ≠ .tbl ps) (hc : ∀ q, u ≠ CodeO p q) (ht : ∀ xs, u ≠ .tup xs) (hf : ∀ w v, u ≠ .frz w v) : GrowX T S H (upd H p o) := by
  refine ⟨fun b w s e _ => by rw [upd_ne (fun z => s (by rw [z]; exact hp))]; exact e, fun t q hq => ?_, fun b e => NdefX.upd_none e, fun b xs e => by rw [upd_ne (fun z => ht xs (Option.some.inj (h.symm.trans (by rw [← z]; exact e))))]; exact e, fun b w v e => by rw [upd_ne (fun z => hf w v (Option.some.inj (h.symm.trans (by rw [← z]; exact e))))]; exact e⟩
  obtain ⟨ps, h1, h2, h3⟩ := t q hq
  refine ⟨ps, by rw [upd_ne (fun z => n ps (Option.some.inj (h.symm.trans (by rw [← z]; exact h1))))]; exact h1, h2, fun pos cv hc' => ?_⟩
  obtain ⟨c, e1, e2⟩ := h3 pos cv hc'
  exact ⟨c, e1, by rw [upd_ne (fun z => hc q.2 (Option.some.inj (h.symm.trans (by rw [← z]; exact e2))))]; exact e2⟩
theorem GrowX.seqL {a : Addr} {xs : List V} (g : GrowX T S H H1) (h : SqL K H a xs) (n : ¬ S a) : SqL K H1 a xs := by
  rcases h with (h | ⟨o, h⟩) | h
  · exact .inl (.inl (g.ext _ _ n h (fun _ z => by cases z)))
  · exact .inl (.inr ⟨o, g.ext _ _ n h (fun _ z => by cases z)⟩)
  · exact .inr h
theorem GrowX.seqT {a : Addr} {xs : List V} (g : GrowX T S H H1) (h : SqT K H a xs) : SqT K H1 a xs := by
  rcases h with (h | ⟨o, h⟩) | h
  · exact .inl (.inl (g.tup _ _ h))
  · exact .inl (.inr ⟨o, g.frz _ _ _ h⟩)
  · exact .inr h
theorem GrowX.da {v : V} {d : PyData} (g : GrowX T S H H1) (h : Da K A H v d) (n : ∀ a, A a → ¬ S a) : Da K A H1 v d := Da.mono (fun _ z => z) (fun a xs ha e => g.seqL e (n a ha)) (fun a xs e => g.seqT e) d v h
theorem GrowX.daAll {v : List V} {d : List PyData} (g : GrowX T S H H1) (h : DaAll K A H v d) (n : ∀ a, A a → ¬ S a) : DaAll K A H1 v d := DaAll.mono (fun _ z => z) (fun a xs ha e => g.seqL e (n a ha)) (fun a xs e => g.seqT e) d v h
theorem Grow.da {v : V} {d : PyData} (g : Grow T H H1) (h : Da K A H v d) : Da K A H1 v d := GrowX.da g h fun _ _ z => z
theorem Grow.daAll {v : List V} {d : List PyData} (g : Grow T H H1) (h : DaAll K A H v d) : DaAll K A H1 v d := GrowX.daAll g h fun _ _ z => z
theorem Da.sub {A' : Addr → Prop} {v : V} {d : PyData} (h : Da K A H v d) (s : ∀ a, A a → A' a) : Da K A' H v d := Da.mono s (fun _ _ _ e => e) (fun _ _ e => e) d v h
theorem DaAll.sub {A' : Addr → Prop} {v : List V} {d : List PyData} (h : DaAll K A H v d) (s : ∀ a, A a → A' a) : DaAll K A' H v d := DaAll.mono s (fun _ _ _ e => e) (fun _ _ e => e) d v h
/-- free addresses -/
abbrev New (H : Hp) : Addr → Prop := fun a => H a = none
theorem GrowX.new {a : Addr} (g : GrowX T S H H1) (h : New H1 a) : New H a := g.keep a h
end

/-! ### repr of data -/
theorem call_reprD {X : Cx} (hg : X.A.guards = some []) (hu : X.A.units + 64 < cLine) : CallR X (.builtin "repr") (fun xs H Q => ∃ v d, xs = [v] ∧ Dp X.K H v d ∧ d.showable = true ∧ d.shown.length ≤ sizeLine ∧ d.depth ≤ 60 ∧ Q (.str d.shown) H) := by
  intro pins s σ H xs us Q I r h
  obtain ⟨v, d, rfl, hd, hs, hl, hdp, q⟩ := h
  obtain ⟨u, rfl, ru⟩ := vals1 r
  have fin : ∀ (h' : Heap) (u' tk : Tok), (∀ b o, s.heap.get? b = some o → h'.get? b = some o) → EP X pins σ Q (.str d.shown u') { s with heap := h', toks := tk } := fun h' u' tk kp => ⟨.str d.shown, H, I.kept kp, ⟨_, rfl⟩, q⟩
  cases hd with
  | non => cases ru; exact PySem.P.repr_of_none (fin _ _ _ fun _ _ e => e)
  | bl b => cases ru; exact PySem.P.repr_of_bool (fin _ _ _ fun _ _ e => e)
  | int i => obtain ⟨t, rfl⟩ := ru; exact PySem.P.repr_of_int (by simpa [PyData.showable] using hs) (fin _ _ _ fun _ _ e => e)
  | str x => obtain ⟨t, rfl⟩ := ru; exact PySem.P.repr_of_str (fin _ _ _ fun _ _ e => e) hl
  | lst hsq hda =>
    obtain ⟨as, rd⟩ := Dp.reads I _ _ _ (Dp.lst hsq hda) ru
    cases ru
    exact repr_of_reads' rd hs (PyData.noDict_hsm (Dp.noDict _ _ (Dp.lst hsq hda))) hg (by omega) (fun _ _ e => e) (fun h' u tk kp => fin h' u tk kp) hl
  | tup hsq hda =>
    obtain ⟨as, rd⟩ := Dp.reads I _ _ _ (Dp.tup hsq hda) ru
    cases ru
    exact repr_of_reads' rd hs (PyData.noDict_hsm (Dp.noDict _ _ (Dp.tup hsq hda))) hg (by omega) (fun _ _ e => e) (fun h' u tk kp => fin h' u tk kp) hl
end Vf
set_option maxRecDepth 100000
set_option maxHeartbeats 4000000
/-! Gen: operators, subscripts, calls at values: what is left of an expression when its parts are known. Own work. -/
namespace Vf
open PySem PySem.Spec PyProof.Rows L2 LamX
/-- a binary operator or comparison at two values -/
def gOp (X : Cx) (f : Value → Value → Sem Value) (x y : V) (H : Hp) (Q : VK) : Prop := ∀ (pins : List (Addr × Obj)) (s : Shared) (σ : L2.St) (v u : Value), Inv X pins σ H s → L2.RelV x v → L2.RelV y u → wpAny (model X.prog X.w) X.A (f v u) (EP X pins σ Q) X.xe s
/-- a subscript at two values -/
def gIx (X : Cx) (x y : V) (H : Hp) (Q : VK) : Prop := ∀ (value slice : Expr) (pins : List (Addr × Obj)) (s : Shared) (σ : L2.St) (v u : Value), Inv X pins σ H s → L2.RelV x v → L2.RelV y u →
  subscripted slice false v u = operate [v, u] (getItem v u) → wpAny (model X.prog X.w) X.A (subscriptTail value slice v u) (EP X pins σ Q) X.xe s
/-- a store x[y] = z at three values -/
def gSet (X : Cx) (x y z : V) (H : Hp) (Q : Hp → Prop) : Prop := ∃ t, PSet X t ∧ t x y z H Q
/-- a built-in's call at values -/
def gCall (X : Cx) (f : Value) (xs : List V) (H : Hp) (Q : VK) : Prop := ∃ r, CallR X f r ∧ r xs H Q
/-- truth -/
def gTru (X : Cx) (x : V) (H : Hp) (Q : Bool → Hp → Prop) : Prop := ∃ k, TruV X.K x H k ∧ Q k H
section
variable {m : Md} {N : List Str} {sc : Scope} {k : Nat} {X : Cx} {a b c e o : Expr} {es : List Expr} {σ : L2.St} {H : Hp} {Q : VK} {QB : Bool → Hp → Prop} {D : Ends} {pos p p1 p2 : Pos} {x y : Str} {i j : Nat} {v w : V}
theorem gOp_ok {f : Value → Value → Sem Value} : OpR X f (gOp X f) := fun pins s σ H x y v u Q I rx ry h => h pins s σ v u I rx ry
theorem gOp.of {f : Value → Value → Sem Value} {r : R2} (h : OpR X f r) {x y : V} (q : r x y H Q) : gOp X f x y H Q := fun pins s σ v u I rx ry => h pins s σ H x y v u Q I rx ry q
theorem gIx_ok : IxR X (gIx X) := fun value slice pins s σ H x y v u Q I rx ry h hs => h value slice pins s σ v u I rx ry hs
theorem gIx.of {r : R2} (h : IxR X r) {x y : V} (q : r x y H Q) : gIx X x y H Q := fun value slice pins s σ v u I rx ry hs => h value slice pins s σ H x y v u Q I rx ry q hs
theorem g_bin {op : Operator} (q : wE X a σ H fun x H1 => wE X b σ H1 fun y H2 => gOp X (binaryOp op) x y H2 Q) : wE X (.BinOp a op b pos) σ H Q := w_bin gOp_ok q
theorem g_cmp {op : CmpOp} (q : wE X a σ H fun x H1 => wE X b σ H1 fun y H2 => gOp X (compareOp op) x y H2 Q) (hm : behindInMarks op b = false := by with_unfolding_all first | exact nomark _ | rfl) : wE X (.Compare a [op] [b] pos) σ H Q := w_cmp gOp_ok hm q
theorem gt_cmp {op : CmpOp} (q : wE X a σ H fun x H1 => wE X b σ H1 fun y H2 => gOp X (compareOp op) x y H2 fun z H' => ∃ k, z = .bl k ∧ QB k H') (hm : behindInMarks op b = false := by with_unfolding_all first | exact nomark _ | rfl) : wT X (.Compare a [op] [b] pos) σ H QB := t_cmp gOp_ok hm q
theorem g_ix (q : wE X a σ H fun x H1 => wE X b σ H1 fun y H2 => gIx X x y H2 Q) (hs : PlainIx b := by with_unfolding_all exact fun _ _ => rfl) : wE X (.Subscript a b pos) σ H Q := w_ix gIx_ok hs q
theorem gt_tru (q : wE X a σ H fun x H1 => gTru X x H1 QB) (he : ∀ whole, isTrue a X.env whole = (do let v ← whole; standAt a.pos; holding [v] (truthy v)) := by with_unfolding_all (intro _; rfl)) : wT X a σ H QB := t_truth q he
theorem decI {i j : Int} : decide (V.int i = V.int j) = decide (i = j) := by rw [decide_eq_decide]; exact ⟨fun z => by injection z, fun z => by rw [z]⟩
theorem decS {i j : Str} : decide (V.str i = V.str j) = decide (i = j) := by rw [decide_eq_decide]; exact ⟨fun z => by injection z, fun z => by rw [z]⟩
/-- .. ints -/
theorem g_addI {i j : Int} (q : Q (.int (i + j)) H) : gOp X (binaryOp .Add) (.int i) (.int j) H Q := gOp.of op_add ⟨_, _, rfl, rfl, q⟩
theorem g_subI {i j : Int} (q : Q (.int (i - j)) H) : gOp X (binaryOp .Sub) (.int i) (.int j) H Q := gOp.of op_sub ⟨_, _, rfl, rfl, q⟩
theorem g_mulI {i j : Int} (hc : CMul i j) (q : Q (.int (i * j)) H) : gOp X (binaryOp .Mult) (.int i) (.int j) H Q := gOp.of op_mul ⟨_, _, rfl, rfl, hc, q⟩
theorem g_modI {i j : Int} (hj : 0 < j) (q : Q (.int (i % j)) H) : gOp X (binaryOp .Mod) (.int i) (.int j) H Q := gOp.of op_mod ⟨_, _, rfl, rfl, hj, q⟩
/-- the rest alone is known by its bounds -/
theorem g_modB {i j : Int} (hj : 0 < j) (q : ∀ r, 0 ≤ r → r < j → Q (.int r) H) : gOp X (binaryOp .Mod) (.int i) (.int j) H Q := g_modI hj (q _ (Int.emod_nonneg _ (by omega)) (Int.emod_lt_of_pos _ hj))
theorem g_divI {i j : Int} (hj : 0 < j ∧ j < 1073741824) (q : Q (.int (i / j)) H) : gOp X (binaryOp .FloorDiv) (.int i) (.int j) H Q := gOp.of op_fdiv ⟨_, _, rfl, rfl, hj, q⟩
theorem g_divW {i j : Int} (hj : CDivW i j) (q : Q (.int (i / j)) H) : gOp X (binaryOp .FloorDiv) (.int i) (.int j) H Q := gOp.of op_fdivW ⟨_, _, rfl, rfl, hj, q⟩
theorem g_powI {i j : Int} (hc : CPow i j) (q : Q (.int (i ^ j.toNat)) H) : gOp X (binaryOp .Pow) (.int i) (.int j) H Q := gOp.of op_pow ⟨_, _, rfl, rfl, hc, q⟩
theorem g_ltI {i j : Int} (q : Q (.bl (decide (i < j))) H) : gOp X (compareOp .Lt) (.int i) (.int j) H Q := gOp.of op_lt ⟨_, _, rfl, rfl, q⟩
theorem g_leI {i j : Int} (q : Q (.bl (decide (i ≤ j))) H) : gOp X (compareOp .LtE) (.int i) (.int j) H Q := gOp.of op_le ⟨_, _, rfl, rfl, q⟩
theorem g_gtI {i j : Int} (q : Q (.bl (decide (j < i))) H) : gOp X (compareOp .Gt) (.int i) (.int j) H Q := gOp.of op_gt ⟨_, _, rfl, rfl, q⟩
theorem g_geI {i j : Int} (q : Q (.bl (decide (j ≤ i))) H) : gOp X (compareOp .GtE) (.int i) (.int j) H Q := gOp.of op_ge ⟨_, _, rfl, rfl, q⟩
theorem g_eqI {i j : Int} (q : Q (.bl (decide (i = j))) H) : gOp X (compareOp .Eq) (.int i) (.int j) H Q := gOp.of op_eq ⟨rfl, by rw [decI]; exact q⟩
theorem g_neI {i j : Int} (q : Q (.bl (!decide (i = j))) H) : gOp X (compareOp .NotEq) (.int i) (.int j) H Q := gOp.of op_ne ⟨rfl, by rw [decI]; exact q⟩
theorem g_eqS {i j : Str} (q : Q (.bl (decide (i = j))) H) : gOp X (compareOp .Eq) (.str i) (.str j) H Q := gOp.of op_eq ⟨rfl, by rw [decS]; exact q⟩
theorem g_neS {i j : Str} (q : Q (.bl (!decide (i = j))) H) : gOp X (compareOp .NotEq) (.str i) (.str j) H Q := gOp.of op_ne ⟨rfl, by rw [decS]; exact q⟩
theorem g_leS {i j : Str} (q : Q (.bl (!decide (j.cps.toList < i.cps.toList))) H) (hr : OpR X (compareOp .LtE) (fun x y H Q => ∃ i j, x = .str i ∧ y = .str j ∧ Q (.bl (!decide (j.cps.toList < i.cps.toList))) H)) : gOp X (compareOp .LtE) (.str i) (.str j) H Q := gOp.of hr ⟨_, _, rfl, rfl, q⟩
theorem g_isN (q : Q (.bl (decide (v = .non))) H) : gOp X (compareOp .Is) v .non H Q := gOp.of op_isN ⟨rfl, q⟩
theorem g_notN (q : Q (.bl (!decide (v = .non))) H) : gOp X (compareOp .IsNot) v .non H Q := gOp.of op_notN ⟨rfl, q⟩
/-- .. texts -/
theorem g_addS {i j : Str} (hl : i.length + j.length ≤ sizeLine) (q : Q (.str (i ++ j)) H) : gOp X (binaryOp .Add) (.str i) (.str j) H Q := gOp.of op_add_str ⟨_, _, rfl, rfl, hl, q⟩
/-- .. lists -/
theorem g_cat {l r : Addr} {xs zs : List V} (h1 : H l = some (.lst xs)) (h2 : H r = some (.lst zs)) (hz : xs.length + zs.length ≤ sizeLine) (q : ∀ p, H p = none → Q (.ref p) (upd H p (.lst (xs ++ zs)))) : gOp X (binaryOp .Add) (.ref l) (.ref r) H Q := gOp.of op_cat ⟨_, _, _, _, rfl, rfl, h1, h2, hz, q⟩
theorem g_ixL (h : At m N sc k X) {l : Addr} {xs : List V} {i : Int} {v : V} (hs : SqL m.K H l xs) (e : atI xs i = some v) (q : Q v H) : gIx X (.ref l) (.int i) H Q := gIx.of ix_list ⟨_, _, _, _, rfl, rfl, by rw [h.kk]; exact hs, e, q⟩
theorem g_ixT (h : At m N sc k X) {l : Addr} {xs : List V} {i : Int} {v : V} (hs : SqT m.K H l xs) (e : atI xs i = some v) (q : Q v H) : gIx X (.ref l) (.int i) H Q := gIx.of ix_tup ⟨_, _, _, _, rfl, rfl, by rw [h.kk]; exact hs, e, q⟩
theorem g_ixS {z : Str} {i : Int} {c : Nat} (hz : z.length ≤ sizeLine) (e : atI z.cps.toList i = some c) (q : Q (.str ⟨#[c]⟩) H) : gIx X (.str z) (.int i) H Q := gIx.of ix_str ⟨_, _, _, rfl, rfl, hz, e, q⟩
theorem g_eqD (h : At m N sc k X) {v w : V} {d e : PyData} (hd : Dp m.K H v d) (he : Dp m.K H w e) (sd : SeqAt.shaped d = true) (se : SeqAt.shaped e = true) (q : Q (.bl (PyData.eqv d e)) H) : gOp X (compareOp .Eq) v w H Q := gOp.of (op_eqD h.room.units) ⟨d, e, by rw [h.kk]; exact hd, by rw [h.kk]; exact he, sd, se, q⟩
theorem g_neD (h : At m N sc k X) {v w : V} {d e : PyData} (hd : Dp m.K H v d) (he : Dp m.K H w e) (sd : SeqAt.shaped d = true) (se : SeqAt.shaped e = true) (q : Q (.bl (!PyData.eqv d e)) H) : gOp X (compareOp .NotEq) v w H Q := gOp.of (op_neD h.room.units) ⟨d, e, by rw [h.kk]; exact hd, by rw [h.kk]; exact he, sd, se, q⟩
theorem g_inF (h : At m N sc k X) {v : V} {l : Addr} {xs : List V} (hs : SqL m.K H l xs ∨ SqT m.K H l xs) (f1 : flatV v = true) (f2 : xs.all flatV = true) (q : Q (.bl (inV v xs)) H) : gOp X (compareOp .In) v (.ref l) H Q := gOp.of op_in_seq ⟨_, _, rfl, by rw [h.kk]; exact hs, f1, f2, q⟩
theorem g_notInF (h : At m N sc k X) {v : V} {l : Addr} {xs : List V} (hs : SqL m.K H l xs ∨ SqT m.K H l xs) (f1 : flatV v = true) (f2 : xs.all flatV = true) (q : Q (.bl (!inV v xs)) H) : gOp X (compareOp .NotIn) v (.ref l) H Q := gOp.of op_notIn_seq ⟨_, _, rfl, by rw [h.kk]; exact hs, f1, f2, q⟩
/-- a built-in function by its name -/
theorem g_blt {id : String} (h : At m N sc k X) (hm : m.mg x = none) (hg : sc.names.lookup x = some .globalImplicit) (hv : bootBuiltins x = some (.builtin id)) (q : wA X (e :: es) σ H fun vs H1 => gCall X (.builtin id) vs H1 Q)
    (hn : x ≠ "__name__" := by with_unfolding_all decide) (hdb : (x == ("__debug__" : Str)) = false := by with_unfolding_all decide) (he : starEach (e :: es) X.env = (false, eval e X.env) :: starEach es X.env := by with_unfolding_all rfl) (hpl : (backTo pos (starEach es X.env)).any (·.1) = false := by with_unfolding_all rfl) : wE X (.Call (.Name x p) (e :: es) [] pos) σ H Q :=
  w_blt (r := fun vs H1 Q => gCall X (.builtin id) vs H1 Q) h (fun pins s σ H xs us Q I r ⟨rr, hr, q⟩ => hr pins s σ H xs us Q I r q) hm hg hv q hn hdb he hpl
theorem g_typ {T : String} (h : At m N sc k X) (hm : m.mg x = none) (hg : sc.names.lookup x = some .globalImplicit) (hv : bootBuiltins x = some (.type T)) (q : wA X (e :: es) σ H fun vs H1 => gCall X (.type T) vs H1 Q)
    (hn : x ≠ "__name__" := by with_unfolding_all decide) (hdb : (x == ("__debug__" : Str)) = false := by with_unfolding_all decide) (he : starEach (e :: es) X.env = (false, eval e X.env) :: starEach es X.env := by with_unfolding_all rfl) (hpl : (backTo pos (starEach es X.env)).any (·.1) = false := by with_unfolding_all rfl) : wE X (.Call (.Name x p) (e :: es) [] pos) σ H Q :=
  w_ty (r := fun vs H1 Q => gCall X (.type T) vs H1 Q) h (fun pins s σ H xs us Q I r ⟨rr, hr, q⟩ => hr pins s σ H xs us Q I r q) hm hg hv q hn hdb he hpl
theorem g_sum (h : At m N sc k X) {l : Addr} {ns : List Int} (hs : SqL m.K H l (ns.map V.int)) (q : Q (.int ns.sum) H) : gCall X (.builtin "sum") [.ref l] H Q := ⟨_, cr_sum h.calm, _, _, rfl, by rw [h.kk]; exact hs, q⟩
theorem g_max2 (h : At m N sc k X) {i j : Int} (q : Q (.int (if j > i then j else i)) H) : gCall X (.builtin "max") [.int i, .int j] H Q := ⟨_, call_max2 h.calm, _, _, rfl, q⟩
theorem g_min2 (h : At m N sc k X) {i j : Int} (q : Q (.int (if j < i then j else i)) H) : gCall X (.builtin "min") [.int i, .int j] H Q := ⟨_, call_min2 h.calm, _, _, rfl, q⟩
theorem g_lenL (h : At m N sc k X) {l : Addr} {xs : List V} (hs : SqL m.K H l xs) (q : Q (.int xs.length) H) : gCall X (.builtin "len") [.ref l] H Q := ⟨_, call_len, _, xs.length, rfl, .inl ⟨_, by rw [h.kk]; exact hs, rfl⟩, q⟩
theorem g_lenT (h : At m N sc k X) {l : Addr} {xs : List V} (hs : SqT m.K H l xs) (q : Q (.int xs.length) H) : gCall X (.builtin "len") [.ref l] H Q := ⟨_, call_len, _, xs.length, rfl, .inr ⟨_, by rw [h.kk]; exact hs, rfl⟩, q⟩
theorem g_lenS {z : Str} (hz : z.length ≤ sizeLine) (q : Q (.int z.length) H) : gCall X (.builtin "len") [.str z] H Q := ⟨_, call_len, _, z.length, rfl, ⟨hz, rfl⟩, q⟩
theorem g_listOf (h : At m N sc k X) {l : Addr} {ys : List V} (hs : SqL m.K H l ys ∨ SqT m.K H l ys) (q : ∀ p, H p = none → Q (.ref p) (upd H p (.lst ys))) : gCall X (.type "list") [.ref l] H Q := ⟨_, call_list_of, _, _, rfl, by rw [h.kk]; exact hs, q⟩
theorem g_all (h : At m N sc k X) {l : Addr} {bs : List Bool} (hs : SqL m.K H l (bs.map V.bl)) (q : Q (.bl (bs.all id)) H) : gCall X (.builtin "all") [.ref l] H Q := ⟨_, cr_all h.calm, _, _, rfl, by rw [h.kk]; exact hs, q⟩
theorem g_any (h : At m N sc k X) {l : Addr} {bs : List Bool} (hs : SqL m.K H l (bs.map V.bl)) (q : Q (.bl (bs.any id)) H) : gCall X (.builtin "any") [.ref l] H Q := ⟨_, cr_any h.calm, _, _, rfl, by rw [h.kk]; exact hs, q⟩
theorem g_repr (h : At m N sc k X) {v : V} {d : PyData} (hd : Dp m.K H v d) (h1 : d.showable = true) (h2 : d.shown.length ≤ sizeLine) (h3 : d.depth ≤ 60) (q : Q (.str d.shown) H) : gCall X (.builtin "repr") [v] H Q := ⟨_, call_reprD h.gd h.room.units, _, _, rfl, by rw [h.kk]; exact hd, h1, h2, h3, q⟩
/-- n.bit_length() -/
theorem g_bits (q : wE X o σ H fun x H1 => ∃ i, x = .int i ∧ Q (.int (Builtin.Int.intBits i : Nat)) H1) (hbase : attributeBase o "bit_length" X.env (eval o X.env) = eval o X.env := by with_unfolding_all rfl) {apos : Pos} (hline : (apos.endLine == pos.line) = true := by with_unfolding_all rfl) : wE X (.Call (.Attribute o "bit_length" apos) [] [] pos) σ H Q := toE (pe_bits cE hbase hline) q
/-- xs.append(e) -/
theorem g_append (q : wE X o σ H fun x H1 => tyV X.K "list" x H1 ∧ wA X [e] σ H1 fun ys H2 => ∃ l xs y, x = .ref l ∧ ys = [y] ∧ H2 l = some (.lst xs) ∧ xs.length < sizeLine ∧ Q .non (upd H2 l (.lst (xs ++ [y])))) {apos : Pos}
    (hbase : attributeBase o "append" X.env (eval o X.env) = eval o X.env := by with_unfolding_all rfl)
    (hfew : ((backTo pos (starEach [e] X.env)).all (fun x => !x.1) && (backToKw pos (keywordEach [] X.env)).all (fun x => x.1.isSome) && decide ([e].length + ([] : List Keyword).length + (if ([] : List Keyword).isEmpty then 0 else 1) < 30)) = true := by with_unfolding_all rfl)
    (hline : (apos.endLine == pos.line) = true := by with_unfolding_all rfl) (hs : starEach [e] X.env = (false, eval e X.env) :: starEach [] X.env := by with_unfolding_all rfl) (hplain : (backTo pos (starEach [] X.env)).any (·.1) = false := by with_unfolding_all rfl) : wE X (.Call (.Attribute o "append" apos) [e] [] pos) σ H Q :=
  toE (pe_bm PySem.F.plainAttrs_list PySem.F.slot_list_append PySem.F.type_list_append mt_append cE cA hbase hfew hline hs hplain) q
/-- e[lo:hi] of a list -/
theorem tyL {l : Addr} {xs : List V} (h : H l = some (.lst xs)) : tyV X.K "list" (.ref l) H := .inl ⟨rfl, _, SqL.of h⟩
end
theorem bt_sum : bootBuiltins "sum" = some (.builtin "sum") := by decide +kernel
theorem bt_max : bootBuiltins "max" = some (.builtin "max") := by decide +kernel
theorem bt_min : bootBuiltins "min" = some (.builtin "min") := by decide +kernel
theorem bt_len : bootBuiltins "len" = some (.builtin "len") := by decide +kernel
theorem bt_all : bootBuiltins "all" = some (.builtin "all") := by decide +kernel
theorem bt_any : bootBuiltins "any" = some (.builtin "any") := by decide +kernel
theorem bt_repr : bootBuiltins "repr" = some (.builtin "repr") := by decide +kernel
theorem bt_sorted : bootBuiltins "sorted" = some (.builtin "sorted") := by decide +kernel
theorem bt_isinstance : bootBuiltins "isinstance" = some (.builtin "isinstance") := by decide +kernel
theorem bt_abs : bootBuiltins "abs" = some (.builtin "abs") := by decide +kernel
theorem bt_list : bootBuiltins "list" = some (.type "list") := by decide +kernel
theorem bt_int : bootBuiltins "int" = some (.type "int") := by decide +kernel
theorem bt_str : bootBuiltins "str" = some (.type "str") := by decide +kernel
theorem bt_set : bootBuiltins "set" = some (.type "set") := by decide +kernel
theorem bt_dict : bootBuiltins "dict" = some (.type "dict") := by decide +kernel
theorem bt_tuple : bootBuiltins "tuple" = some (.type "tuple") := by decide +kernel
theorem bt_bool : bootBuiltins "bool" = some (.type "bool") := by decide +kernel
end Vf
set_option maxRecDepth 100000
set_option maxHeartbeats 4000000
/-! Lc: list comprehensions, slices, powers. Own work. -/
namespace Vf
open PySem PySem.Spec PyProof.Rows L2 LamX
section
variable {m : Md} {N : List Str} {sc scope : Scope} {k : Nat} {X : Cx} {a b c e o elt iter : Expr} {es : List Expr} {σ : L2.St} {H : Hp} {Q : VK} {D : Ends} {pos p p1 p2 p3 : Pos} {x y : Str} {i j : Nat} {v w : V}
theorem blk_at (h : At m N sc k X) (s : Shared) (H : Hp) (C : Addr) (cl : List (Str × Addr)) (fp : List Addr) : At m N (relS scope sc) k (X.blk s H scope (compEnvC scope cl C X.env) fp) :=
  ⟨h.pp, h.ww, h.kk, h.mm, h.bb, h.nn, by show relS scope X.env.scope = _; rw [h.ss], h.calm, h.room, PassesOwn.never, h.nd, h.gd⟩
theorem wipe1 {u : Option V} : wipe (σ.set i u) [i] = wipe σ [i] := by simp [wipe, List.set_set]
/-- the new list's element, run wherever the block may stand -/
abbrev inBlk (m : Md) (N : List Str) (sc : Scope) (k : Nat) (e : Expr) : TE := fun σ H Q => ∀ X', At m N sc k X' → wE X' e σ H Q
abbrev inBlkT (m : Md) (N : List Str) (sc : Scope) (k : Nat) (e : Expr) : TT := fun σ H Q => ∀ X', At m N sc k X' → wT X' e σ H Q
theorem blk_pe (h : At m N sc k X) (s : Shared) (H : Hp) (C : Addr) (cl : List (Str × Addr)) (fp : List Addr) : PE (X.blk s H scope (compEnvC scope cl C X.env) fp) e (inBlk m N (relS scope sc) k e) := ⟨fun pins s' σ' H' Q I q => cE.run pins s' σ' H' Q I (q _ (blk_at h s H C cl fp))⟩
theorem blk_pt (h : At m N sc k X) (s : Shared) (H : Hp) (C : Addr) (cl : List (Str × Addr)) (fp : List Addr) : PT (X.blk s H scope (compEnvC scope cl C X.env) fp) e (inBlkT m N (relS scope sc) k e) := ⟨fun pins s' σ' H' Q I q => cT.run pins s' σ' H' Q I (q _ (blk_at h s H C cl fp))⟩
theorem set_wipe {z : V} : (wipe σ [i]).set i (some z) = σ.set i (some z) := by simp [wipe, List.set_set]
/-- what one turn of a block asks: the element is appended to the list at D, then the invariant -/
abbrev App (D : Addr) (P : Hp → Prop) : VK := fun y H4 => ∃ acc, H4 D = some (.lst acc) ∧ acc.length < sizeLine ∧ P (upd H4 D (.lst (acc ++ [y])))
/-- [elt for x in iter], iter a list that the block leaves as it is -/
theorem w_lcL (h : At m N sc k X) (ok : blkC N sc scope [(x, i)] = true) (n : NL N (relS scope sc) i x)
    (q : wE X iter σ H fun v H1 => ∃ (a : Addr) (xs : List V), v = .ref a ∧ SqL m.K H1 a xs ∧ ∀ D, H1 D = none → ∃ Pv : Nat → Hp → Prop, Pv 0 (upd H1 D (.lst [])) ∧ (∀ j H, j ≤ xs.length → Pv j H → SqL m.K H a xs) ∧
      (∀ j x H, xs[j]? = some x → Pv j H → ∀ X', At m N (relS scope sc) k X' → wE X' elt (σ.set i (some x)) H (App D (Pv (j + 1)))) ∧ ∀ H, Pv xs.length H → Q (.ref D) H)
    (hs : ∀ x, foldedSetIterable iter X.env x = pure x := by with_unfolding_all (intro _; rfl)) : wE X (.ListComp elt [⟨.Name x p1, iter, [], 0⟩] scope pos) σ H Q := by
  refine toE (pe_lc (own := [(x, i)]) (g := gName i) (tt := tYes) (te := inBlk m N (relS scope sc) k elt) h.calm (by rw [h.nn]; exact h.nd) (pi_list cE) (by rw [h.nn, h.ss]; exact blkOk_by ok) (fun s H C cl fp => pg_nl (blk_at h s H C cl fp) n) (fun _ _ _ _ _ => pts_nil) (fun s H C cl fp => blk_pe h s H C cl fp) hs) ?_
  refine wE.mono q fun v H1 ⟨a, xs, ea, hl, go⟩ => ⟨a, ea, ⟨xs, by rw [h.kk]; exact hl⟩, fun D hD => ?_⟩
  obtain ⟨Pv, p0, st, turn, fin⟩ := go D hD
  refine lc_list (K := X.K) (a := a) (xs := xs) (g := gName i) (tt := tYes) (te := inBlk m N (relS scope sc) k elt) (vs := [i]) (σ := σ) Pv p0 (fun j H hj hp => by rw [h.kk]; exact st j H hj hp) (fun j z H hz hp => ?_) fin
  refine ⟨by rw [wipe1]; simp [wipe, List.set_set], ?_⟩
  unfold tYes
  refine iteT fun X' hX' => ?_
  rw [set_wipe]
  exact turn j z H hz hp X' hX'
/-- [elt for x in iter if c] -/
theorem w_lcLi (h : At m N sc k X) (ok : blkC N sc scope [(x, i)] = true) (n : NL N (relS scope sc) i x)
    (q : wE X iter σ H fun v H1 => ∃ (a : Addr) (xs : List V), v = .ref a ∧ SqL m.K H1 a xs ∧ ∀ D, H1 D = none → ∃ Pv : Nat → Hp → Prop, Pv 0 (upd H1 D (.lst [])) ∧ (∀ j H, j ≤ xs.length → Pv j H → SqL m.K H a xs) ∧
      (∀ j x H, xs[j]? = some x → Pv j H → ∀ X', At m N (relS scope sc) k X' → wT X' c (σ.set i (some x)) H fun b H3 => if b = true then (∀ X', At m N (relS scope sc) k X' → wE X' elt (σ.set i (some x)) H3 (App D (Pv (j + 1)))) else Pv (j + 1) H3) ∧
      ∀ H, Pv xs.length H → Q (.ref D) H)
    (hs : ∀ x, foldedSetIterable iter X.env x = pure x := by with_unfolding_all (intro _; rfl)) : wE X (.ListComp elt [⟨.Name x p1, iter, [c], 0⟩] scope pos) σ H Q := by
  refine toE (pe_lc (own := [(x, i)]) (g := gName i) (tt := inBlkT m N (relS scope sc) k c) (te := inBlk m N (relS scope sc) k elt) h.calm (by rw [h.nn]; exact h.nd) (pi_list cE) (by rw [h.nn, h.ss]; exact blkOk_by ok) (fun s H C cl fp => pg_nl (blk_at h s H C cl fp) n) (fun s H C cl fp => pts_one (blk_pt h s H C cl fp)) (fun s H C cl fp => blk_pe h s H C cl fp) hs) ?_
  refine wE.mono q fun v H1 ⟨a, xs, ea, hl, go⟩ => ⟨a, ea, ⟨xs, by rw [h.kk]; exact hl⟩, fun D hD => ?_⟩
  obtain ⟨Pv, p0, st, turn, fin⟩ := go D hD
  refine lc_list (K := X.K) (a := a) (xs := xs) (g := gName i) (tt := inBlkT m N (relS scope sc) k c) (te := inBlk m N (relS scope sc) k elt) (vs := [i]) (σ := σ) Pv p0 (fun j H hj hp => by rw [h.kk]; exact st j H hj hp) (fun j z H hz hp => ?_) fin
  refine ⟨by rw [wipe1]; simp [wipe, List.set_set], fun X' hX' => ?_⟩
  have t := turn j z H hz hp X' hX'
  rw [set_wipe]
  exact t
/-- [elt for x in range(e)] -/
theorem w_lcR (h : At m N sc k X) (hm : m.mg "range" = none) (hgl : sc.names.lookup ("range" : Str) = some .globalImplicit) (ok : blkC N sc scope [(x, i)] = true) (n : NL N (relS scope sc) i x)
    (q : wE X e σ H fun v H1 => ∃ z : Int, v = .int z ∧ -(2 ^ 62) ≤ z ∧ z < 2 ^ 62 ∧ ∀ D, H1 D = none → ∃ Pv : Nat → Hp → Prop, Pv 0 (upd H1 D (.lst [])) ∧
      (∀ j H, j < z.toNat → Pv j H → ∀ X', At m N (relS scope sc) k X' → wE X' elt (σ.set i (some (.int j))) H (App D (Pv (j + 1)))) ∧ ∀ H, Pv z.toNat H → Q (.ref D) H)
    (hst : starEach [e] X.env = [(false, eval e X.env)] := by with_unfolding_all rfl) (hs : ∀ x, foldedSetIterable (.Call (.Name "range" p2) [e] [] p3) X.env x = pure x := by with_unfolding_all (intro _; rfl)) : wE X (.ListComp elt [⟨.Name x p1, .Call (.Name "range" p2) [e] [] p3, [], 0⟩] scope pos) σ H Q := by
  refine toE (pe_lc (own := [(x, i)]) (g := gName i) (tt := tYes) (te := inBlk m N (relS scope sc) k elt) h.calm (by rw [h.nn]; exact h.nd) (pi_range1 (h.gl hgl) (by rw [h.mm]; exact hm) (pa_cons cE pa_nil hst) hst) (by rw [h.nn, h.ss]; exact blkOk_by ok) (fun s H C cl fp => pg_nl (blk_at h s H C cl fp) n) (fun _ _ _ _ _ => pts_nil) (fun s H C cl fp => blk_pe h s H C cl fp) hs) ?_
  refine wE.mono q fun v H1 ⟨z, ez, z1, z2, go⟩ => ⟨z, by rw [ez], z1, z2, fun D hD => ?_⟩
  obtain ⟨Pv, p0, turn, fin⟩ := go D hD
  refine lc_range (lo := 0) (n := z.toNat) (g := gName i) (tt := tYes) (te := inBlk m N (relS scope sc) k elt) (vs := [i]) (σ := σ) Pv p0 (fun j H hj hp => ?_) fin
  refine ⟨by rw [wipe1]; simp [wipe, List.set_set], ?_⟩
  unfold tYes
  refine iteT fun X' hX' => ?_
  rw [set_wipe, Int.zero_add]
  exact turn j H hj hp X' hX'
/-- [elt for x in range(e) if c] -/
theorem w_lcRi (h : At m N sc k X) (hm : m.mg "range" = none) (hgl : sc.names.lookup ("range" : Str) = some .globalImplicit) (ok : blkC N sc scope [(x, i)] = true) (n : NL N (relS scope sc) i x)
    (q : wE X e σ H fun v H1 => ∃ z : Int, v = .int z ∧ -(2 ^ 62) ≤ z ∧ z < 2 ^ 62 ∧ ∀ D, H1 D = none → ∃ Pv : Nat → Hp → Prop, Pv 0 (upd H1 D (.lst [])) ∧
      (∀ j H, j < z.toNat → Pv j H → ∀ X', At m N (relS scope sc) k X' → wT X' c (σ.set i (some (.int j))) H fun b H3 => if b = true then (∀ X', At m N (relS scope sc) k X' → wE X' elt (σ.set i (some (.int j))) H3 (App D (Pv (j + 1)))) else Pv (j + 1) H3) ∧ ∀ H, Pv z.toNat H → Q (.ref D) H)
    (hst : starEach [e] X.env = [(false, eval e X.env)] := by with_unfolding_all rfl) (hs : ∀ x, foldedSetIterable (.Call (.Name "range" p2) [e] [] p3) X.env x = pure x := by with_unfolding_all (intro _; rfl)) : wE X (.ListComp elt [⟨.Name x p1, .Call (.Name "range" p2) [e] [] p3, [c], 0⟩] scope pos) σ H Q := by
  refine toE (pe_lc (own := [(x, i)]) (g := gName i) (tt := inBlkT m N (relS scope sc) k c) (te := inBlk m N (relS scope sc) k elt) h.calm (by rw [h.nn]; exact h.nd) (pi_range1 (h.gl hgl) (by rw [h.mm]; exact hm) (pa_cons cE pa_nil hst) hst) (by rw [h.nn, h.ss]; exact blkOk_by ok) (fun s H C cl fp => pg_nl (blk_at h s H C cl fp) n) (fun s H C cl fp => pts_one (blk_pt h s H C cl fp)) (fun s H C cl fp => blk_pe h s H C cl fp) hs) ?_
  refine wE.mono q fun v H1 ⟨z, ez, z1, z2, go⟩ => ⟨z, by rw [ez], z1, z2, fun D hD => ?_⟩
  obtain ⟨Pv, p0, turn, fin⟩ := go D hD
  refine lc_range (lo := 0) (n := z.toNat) (g := gName i) (tt := inBlkT m N (relS scope sc) k c) (te := inBlk m N (relS scope sc) k elt) (vs := [i]) (σ := σ) Pv p0 (fun j H hj hp => ?_) fin
  refine ⟨by rw [wipe1]; simp [wipe, List.set_set], fun X' hX' => ?_⟩
  have t := turn j H hj hp X' hX'
  rw [set_wipe, Int.zero_add]
  exact t
/-! ### slices of lists; powers of any size -/
theorem w_slice {lo hi : Expr} (h : At m N sc k X) (q : wE X e σ H fun x H1 => wE X lo σ H1 fun l H2 => ∃ i : Int, l = .int i ∧ wE X hi σ H2 fun u H3 => ∃ j : Int, u = .int j ∧ ∃ (a : Addr) (xs : List V), x = .ref a ∧ SqL m.K H3 a xs ∧ ∀ p, H3 p = none → Q (.ref p) (upd H3 p (.lst (cutV xs (some i) (some j))))) :
    wE X (.Subscript e (.Slice (some lo) (some hi) none p2) pos) σ H Q := by
  refine toE (pe_slice sl_list cE (po_some cE) (po_some cE)) ?_
  refine wE.mono q fun x H1 q1 => wE.mono q1 fun l H2 ⟨i, ei, q2⟩ => ⟨i, ei, wE.mono q2 fun u H3 ⟨j, ej, a, xs, ea, hs, q3⟩ => ⟨j, ej, a, xs, ea, by rw [h.kk]; exact hs, q3⟩⟩
theorem w_sliceTo {hi : Expr} (h : At m N sc k X) (q : wE X e σ H fun x H1 => wE X hi σ H1 fun u H3 => ∃ j : Int, u = .int j ∧ ∃ (a : Addr) (xs : List V), x = .ref a ∧ SqL m.K H3 a xs ∧ ∀ p, H3 p = none → Q (.ref p) (upd H3 p (.lst (cutV xs none (some j))))) :
    wE X (.Subscript e (.Slice none (some hi) none p2) pos) σ H Q := by
  refine toE (pe_slice sl_list cE po_none (po_some cE)) ?_
  refine wE.mono q fun x H1 q1 => ?_
  show wE X hi σ H1 _
  exact wE.mono q1 fun u H3 ⟨j, ej, a, xs, ea, hs, q3⟩ => ⟨j, ej, a, xs, ea, by rw [h.kk]; exact hs, q3⟩
theorem w_sliceFrom {lo : Expr} (h : At m N sc k X) (q : wE X e σ H fun x H1 => wE X lo σ H1 fun u H3 => ∃ j : Int, u = .int j ∧ ∃ (a : Addr) (xs : List V), x = .ref a ∧ SqL m.K H3 a xs ∧ ∀ p, H3 p = none → Q (.ref p) (upd H3 p (.lst (cutV xs (some j) none)))) :
    wE X (.Subscript e (.Slice (some lo) none none p2) pos) σ H Q := by
  refine toE (pe_slice sl_list cE (po_some cE) po_none) ?_
  exact wE.mono q fun x H1 q1 => wE.mono q1 fun u H3 ⟨j, ej, a, xs, ea, hs, q3⟩ => ⟨j, ej, a, xs, ea, by rw [h.kk]; exact hs, q3⟩
theorem cutV_map {α : Type} (f : α → V) (xs : List α) (lo hi : Option Int) : ∃ ys : List α, cutV (xs.map f) lo hi = ys.map f ∧ ys.length ≤ xs.length := by
  unfold cutV
  rw [List.length_map]
  exact ⟨(xs.drop (HT.sIx xs.length 0 lo)).take (HT.sIx xs.length xs.length hi - HT.sIx xs.length 0 lo), by rw [List.map_take, List.map_drop], by rw [List.length_take, List.length_drop]; omega⟩
theorem g_powW {i j : Int} (h0 : 0 ≤ j) (hb : (Builtin.Int.intBits i : Int) * j ≤ 2 ^ 27) (q : Q (.int (i ^ j.toNat)) H) : gOp X (binaryOp .Pow) (.int i) (.int j) H Q := fun pins s σ v u I rx ry => by
  obtain ⟨t, rfl⟩ := rx
  obtain ⟨t', rfl⟩ := ry
  exact PyProof.Rows.pow_int h0 hb ⟨.int _, H, I.tok _, ⟨_, rfl⟩, q⟩
end
end Vf
set_option maxRecDepth 100000
set_option maxHeartbeats 4000000
/-! Lcs: comprehensions that are stored at once. Own work. -/
namespace Vf
open PySem PySem.Spec PyProof.Rows L2 LamX
section
variable {m : Md} {N : List Str} {sc scope : Scope} {k l : Nat} {X : Cx} {a b c e o elt iter : Expr} {es : List Expr} {σ : L2.St} {H : Hp} {nx : L2.St → Hp → Prop} {rt : VK} {bk ct : L2.St → Hp → Prop} {pos p p1 p2 p3 py spos : Pos} {x y : Str} {i j : Nat} {v w : V}
/-- y = [..], y a name of this place alone -/
theorem s_lcL (h : At m N sc k X) (nl : NL N sc l y) (ok : blkC N sc scope [(x, i)] = true) (n : NL N (relS scope sc) i x)
    (q : wE X iter σ H fun v H1 => ∃ (a : Addr) (xs : List V), v = .ref a ∧ SqL m.K H1 a xs ∧ ∀ D, H1 D = none → ∃ Pv : Nat → Hp → Prop, Pv 0 (upd H1 D (.lst [])) ∧ (∀ j H, j ≤ xs.length → Pv j H → SqL m.K H a xs) ∧
      (∀ j x H, xs[j]? = some x → Pv j H → ∀ X', At m N (relS scope sc) k X' → wE X' elt (σ.set i (some x)) H (App D (Pv (j + 1)))) ∧ ∀ H, Pv xs.length H → nx (σ.set l (some (.ref D))) H)
    (hs : ∀ x, foldedSetIterable iter X.env x = pure x := by with_unfolding_all (intro _; rfl)) (hk : sc.kind = .function := by with_unfolding_all rfl) (hl : (py.line == pos.line) = true := by with_unfolding_all rfl) (ha : (scope.names.any fun (n, k) => n == y && (k == .local || k == .cell)) = false := by with_unfolding_all (decide +kernel)) : wS X (.Assign [.Name y py] (.ListComp elt [⟨.Name x p1, iter, [], 0⟩] scope pos) spos) ⟨nx, rt, bk, ct⟩ σ H := by
  refine toS (ps_setLc (i := l) (y := y) (py := py) (own := [(x, i)]) (g := gName i) (tt := tYes) (te := inBlk m N (relS scope sc) k elt) h.calm (by rw [h.nn]; exact h.nd) (by rw [h.nn]; exact nl.ix) (by rw [h.ss]; exact nl.loc) (sw_true (by rw [h.ss]; exact hk) (by rw [h.ss]; exact nl.loc) hl ha) (pi_list cE) (by rw [h.nn, h.ss]; exact blkOk_by ok) (fun s H C cl fp => pg_nl (blk_at h s H C cl fp) n) (fun _ _ _ _ _ => pts_nil) (fun s H C cl fp => blk_pe h s H C cl fp) hs) ?_
  refine wE.mono q fun v H1 ⟨a, xs, ea, hl, go⟩ => ⟨a, ea, ⟨xs, by rw [h.kk]; exact hl⟩, fun D hD => ?_⟩
  obtain ⟨Pv, p0, st, turn, fin⟩ := go D hD
  refine lc_list (K := X.K) (a := a) (xs := xs) (g := gName i) (tt := tYes) (te := inBlk m N (relS scope sc) k elt) (vs := [i]) (σ := σ) Pv p0 (fun j H hj hp => by rw [h.kk]; exact st j H hj hp) (fun j z H hz hp => ?_) fin
  refine ⟨by rw [wipe1]; simp [wipe, List.set_set], ?_⟩
  unfold tYes
  refine iteT fun X' hX' => ?_
  rw [set_wipe]
  exact turn j z H hz hp X' hX'
/-- y = [..], y a name of this place alone -/
theorem s_lcLi (h : At m N sc k X) (nl : NL N sc l y) (ok : blkC N sc scope [(x, i)] = true) (n : NL N (relS scope sc) i x)
    (q : wE X iter σ H fun v H1 => ∃ (a : Addr) (xs : List V), v = .ref a ∧ SqL m.K H1 a xs ∧ ∀ D, H1 D = none → ∃ Pv : Nat → Hp → Prop, Pv 0 (upd H1 D (.lst [])) ∧ (∀ j H, j ≤ xs.length → Pv j H → SqL m.K H a xs) ∧
      (∀ j x H, xs[j]? = some x → Pv j H → ∀ X', At m N (relS scope sc) k X' → wT X' c (σ.set i (some x)) H fun b H3 => if b = true then (∀ X', At m N (relS scope sc) k X' → wE X' elt (σ.set i (some x)) H3 (App D (Pv (j + 1)))) else Pv (j + 1) H3) ∧
      ∀ H, Pv xs.length H → nx (σ.set l (some (.ref D))) H)
    (hs : ∀ x, foldedSetIterable iter X.env x = pure x := by with_unfolding_all (intro _; rfl)) (hk : sc.kind = .function := by with_unfolding_all rfl) (hl : (py.line == pos.line) = true := by with_unfolding_all rfl) (ha : (scope.names.any fun (n, k) => n == y && (k == .local || k == .cell)) = false := by with_unfolding_all (decide +kernel)) : wS X (.Assign [.Name y py] (.ListComp elt [⟨.Name x p1, iter, [c], 0⟩] scope pos) spos) ⟨nx, rt, bk, ct⟩ σ H := by
  refine toS (ps_setLc (i := l) (y := y) (py := py) (own := [(x, i)]) (g := gName i) (tt := inBlkT m N (relS scope sc) k c) (te := inBlk m N (relS scope sc) k elt) h.calm (by rw [h.nn]; exact h.nd) (by rw [h.nn]; exact nl.ix) (by rw [h.ss]; exact nl.loc) (sw_true (by rw [h.ss]; exact hk) (by rw [h.ss]; exact nl.loc) hl ha) (pi_list cE) (by rw [h.nn, h.ss]; exact blkOk_by ok) (fun s H C cl fp => pg_nl (blk_at h s H C cl fp) n) (fun s H C cl fp => pts_one (blk_pt h s H C cl fp)) (fun s H C cl fp => blk_pe h s H C cl fp) hs) ?_
  refine wE.mono q fun v H1 ⟨a, xs, ea, hl, go⟩ => ⟨a, ea, ⟨xs, by rw [h.kk]; exact hl⟩, fun D hD => ?_⟩
  obtain ⟨Pv, p0, st, turn, fin⟩ := go D hD
  refine lc_list (K := X.K) (a := a) (xs := xs) (g := gName i) (tt := inBlkT m N (relS scope sc) k c) (te := inBlk m N (relS scope sc) k elt) (vs := [i]) (σ := σ) Pv p0 (fun j H hj hp => by rw [h.kk]; exact st j H hj hp) (fun j z H hz hp => ?_) fin
  refine ⟨by rw [wipe1]; simp [wipe, List.set_set], fun X' hX' => ?_⟩
  have t := turn j z H hz hp X' hX'
  rw [set_wipe]
  exact t
/-- y = [..], y a name of this place alone -/
theorem s_lcR (h : At m N sc k X) (hm : m.mg "range" = none) (hgl : sc.names.lookup ("range" : Str) = some .globalImplicit) (nl : NL N sc l y) (ok : blkC N sc scope [(x, i)] = true) (n : NL N (relS scope sc) i x)
    (q : wE X e σ H fun v H1 => ∃ z : Int, v = .int z ∧ -(2 ^ 62) ≤ z ∧ z < 2 ^ 62 ∧ ∀ D, H1 D = none → ∃ Pv : Nat → Hp → Prop, Pv 0 (upd H1 D (.lst [])) ∧
      (∀ j H, j < z.toNat → Pv j H → ∀ X', At m N (relS scope sc) k X' → wE X' elt (σ.set i (some (.int j))) H (App D (Pv (j + 1)))) ∧ ∀ H, Pv z.toNat H → nx (σ.set l (some (.ref D))) H)
    (hst : starEach [e] X.env = [(false, eval e X.env)] := by with_unfolding_all rfl) (hs : ∀ x, foldedSetIterable (.Call (.Name "range" p2) [e] [] p3) X.env x = pure x := by with_unfolding_all (intro _; rfl)) (hk : sc.kind = .function := by with_unfolding_all rfl) (hl : (py.line == pos.line) = true := by with_unfolding_all rfl) (ha : (scope.names.any fun (n, k) => n == y && (k == .local || k == .cell)) = false := by with_unfolding_all (decide +kernel)) : wS X (.Assign [.Name y py] (.ListComp elt [⟨.Name x p1, .Call (.Name "range" p2) [e] [] p3, [], 0⟩] scope pos) spos) ⟨nx, rt, bk, ct⟩ σ H := by
  refine toS (ps_setLc (i := l) (y := y) (py := py) (own := [(x, i)]) (g := gName i) (tt := tYes) (te := inBlk m N (relS scope sc) k elt) h.calm (by rw [h.nn]; exact h.nd) (by rw [h.nn]; exact nl.ix) (by rw [h.ss]; exact nl.loc) (sw_true (by rw [h.ss]; exact hk) (by rw [h.ss]; exact nl.loc) hl ha) (pi_range1 (h.gl hgl) (by rw [h.mm]; exact hm) (pa_cons cE pa_nil hst) hst) (by rw [h.nn, h.ss]; exact blkOk_by ok) (fun s H C cl fp => pg_nl (blk_at h s H C cl fp) n) (fun _ _ _ _ _ => pts_nil) (fun s H C cl fp => blk_pe h s H C cl fp) hs) ?_
  refine wE.mono q fun v H1 ⟨z, ez, z1, z2, go⟩ => ⟨z, by rw [ez], z1, z2, fun D hD => ?_⟩
  obtain ⟨Pv, p0, turn, fin⟩ := go D hD
  refine lc_range (lo := 0) (n := z.toNat) (g := gName i) (tt := tYes) (te := inBlk m N (relS scope sc) k elt) (vs := [i]) (σ := σ) Pv p0 (fun j H hj hp => ?_) fin
  refine ⟨by rw [wipe1]; simp [wipe, List.set_set], ?_⟩
  unfold tYes
  refine iteT fun X' hX' => ?_
  rw [set_wipe, Int.zero_add]
  exact turn j H hj hp X' hX'
/-- y = [..], y a name of this place alone -/
theorem s_lcRi (h : At m N sc k X) (hm : m.mg "range" = none) (hgl : sc.names.lookup ("range" : Str) = some .globalImplicit) (nl : NL N sc l y) (ok : blkC N sc scope [(x, i)] = true) (n : NL N (relS scope sc) i x)
    (q : wE X e σ H fun v H1 => ∃ z : Int, v = .int z ∧ -(2 ^ 62) ≤ z ∧ z < 2 ^ 62 ∧ ∀ D, H1 D = none → ∃ Pv : Nat → Hp → Prop, Pv 0 (upd H1 D (.lst [])) ∧
      (∀ j H, j < z.toNat → Pv j H → ∀ X', At m N (relS scope sc) k X' → wT X' c (σ.set i (some (.int j))) H fun b H3 => if b = true then (∀ X', At m N (relS scope sc) k X' → wE X' elt (σ.set i (some (.int j))) H3 (App D (Pv (j + 1)))) else Pv (j + 1) H3) ∧ ∀ H, Pv z.toNat H → nx (σ.set l (some (.ref D))) H)
    (hst : starEach [e] X.env = [(false, eval e X.env)] := by with_unfolding_all rfl) (hs : ∀ x, foldedSetIterable (.Call (.Name "range" p2) [e] [] p3) X.env x = pure x := by with_unfolding_all (intro _; rfl)) (hk : sc.kind = .function := by with_unfolding_all rfl) (hl : (py.line == pos.line) = true := by with_unfolding_all rfl) (ha : (scope.names.any fun (n, k) => n == y && (k == .local || k == .cell)) = false := by with_unfolding_all (decide +kernel)) : wS X (.Assign [.Name y py] (.ListComp elt [⟨.Name x p1, .Call (.Name "range" p2) [e] [] p3, [c], 0⟩] scope pos) spos) ⟨nx, rt, bk, ct⟩ σ H := by
  refine toS (ps_setLc (i := l) (y := y) (py := py) (own := [(x, i)]) (g := gName i) (tt := inBlkT m N (relS scope sc) k c) (te := inBlk m N (relS scope sc) k elt) h.calm (by rw [h.nn]; exact h.nd) (by rw [h.nn]; exact nl.ix) (by rw [h.ss]; exact nl.loc) (sw_true (by rw [h.ss]; exact hk) (by rw [h.ss]; exact nl.loc) hl ha) (pi_range1 (h.gl hgl) (by rw [h.mm]; exact hm) (pa_cons cE pa_nil hst) hst) (by rw [h.nn, h.ss]; exact blkOk_by ok) (fun s H C cl fp => pg_nl (blk_at h s H C cl fp) n) (fun s H C cl fp => pts_one (blk_pt h s H C cl fp)) (fun s H C cl fp => blk_pe h s H C cl fp) hs) ?_
  refine wE.mono q fun v H1 ⟨z, ez, z1, z2, go⟩ => ⟨z, by rw [ez], z1, z2, fun D hD => ?_⟩
  obtain ⟨Pv, p0, turn, fin⟩ := go D hD
  refine lc_range (lo := 0) (n := z.toNat) (g := gName i) (tt := inBlkT m N (relS scope sc) k c) (te := inBlk m N (relS scope sc) k elt) (vs := [i]) (σ := σ) Pv p0 (fun j H hj hp => ?_) fin
  refine ⟨by rw [wipe1]; simp [wipe, List.set_set], fun X' hX' => ?_⟩
  have t := turn j H hj hp X' hX'
  rw [set_wipe, Int.zero_add]
  exact t
end
end Vf
set_option maxRecDepth 100000
set_option maxHeartbeats 4000000
/-! St: stores into several names, insert. Own work. -/
namespace Vf
open PySem PySem.Spec PyProof.Rows L2 LamX
/-- what changes in objects that were not there is growth -/
theorem GrowX.into {T : List (Addr × Str)} {S S' : Addr → Prop} {H H1 H2 : Hp} (a : GrowX T S H H1) (b : GrowX T S' H1 H2) (h : ∀ c, S' c → New H c ∨ S c) : GrowX T S H H2 :=
  ⟨fun c o s e n => b.ext c o (fun z => (h c z).elim (fun z => by rw [z] at e; cases e) s) (a.ext c o s e n) n, fun t => b.tab (a.tab t), fun c z => a.keep c (b.keep c z), fun c xs z => b.tup c xs (a.tup c xs z), fun c o u z => b.frz c o u (a.frz c o u z)⟩
theorem Grow.intoNew {T : List (Addr × Str)} {S' : Addr → Prop} {H H1 H2 : Hp} (a : Grow T H H1) (b : GrowX T S' H1 H2) (h : ∀ c, S' c → New H c) : Grow T H H2 := a.into b fun c z => .inl (h c z)
/-- a list's new elements -/
theorem GrowX.lst {T : List (Addr × Str)} {H : Hp} {p : Addr} {xs ys : List V} (h : H p = some (.lst xs)) : GrowX T (· = p) H (upd H p (.lst ys)) := GrowX.set rfl h (fun _ z => by cases z) (fun _ z => by unfold CodeO at z; cases z) (fun _ z => by cases z) (fun _ _ z => by cases z)
theorem New.ne {H : Hp} {a p : Addr} {o : HO} (n : New H p) (h : H a = some o) : p ≠ a := fun z => by rw [← z, n] at h; cases h
section
variable {m : Md} {N : List Str} {sc : Scope} {k : Nat} {X : Cx} {a b c e o : Expr} {es : List Expr} {σ : L2.St} {H : Hp} {Q : VK} {nx : L2.St → Hp → Prop} {rt : VK} {bk ct : L2.St → Hp → Prop} {pos p1 p2 p3 p4 : Pos} {x y z : Str} {i j l : Nat} {k1 k2 : Nat}
theorem nl_of (h : At m N sc k X) (i : Nat) (x : Str) (a : N[i]? = some x := by rfl) (b : sc.names.lookup x = some .local := by rfl) : NL N sc i x := ⟨a, b⟩
theorem nc_of (h : At m N sc k X) (i : Nat) (x : Str) (a : N[i]? = some x := by rfl) (b : sc.names.lookup x = some .cell := by rfl) : NC N sc i x := ⟨a, b⟩
theorem env_sc {env : Env} (h : env.scope = sc) : { env with scope := sc } = env := by cases env; cases h; rfl
/-- x, y = a, b, both names of this place alone -/
theorem s_par (h : At m N sc k X) (n1 : NL N sc i x) (n2 : NL N sc j y) (q : wA X [a, b] σ H fun vs H1 => ∃ v w, vs = [v, w] ∧ nx ((σ.set i (some v)).set j (some w)) H1) (hij : i ≠ j := by decide)
    (hw : ∀ env : Env, swappedStores [.Tuple [.Name x p1, .Name y p2] k1 p3] (.Tuple [a, b] k2 p4) { env with scope := sc } = pure (some [x, y]) := by with_unfolding_all (intro _; rfl))
    (hs : swapsWithSole [.Tuple [.Name x p1, .Name y p2] k1 p3] (.Tuple [a, b] k2 p4) pos.line X.env = pure false := by with_unfolding_all rfl) : wS X (.Assign [.Tuple [.Name x p1, .Name y p2] k1 p3] (.Tuple [a, b] k2 p4) pos) ⟨nx, rt, bk, ct⟩ σ H :=
  toS (ps_par h.calm (by rw [h.nn]; exact h.nd) (by rw [h.nn]; exact n1.ix) (by rw [h.nn]; exact n2.ix) hij (by rw [h.ss]; exact n1.loc) (by rw [h.ss]; exact n2.loc) cA (by have := hw X.env; rw [env_sc h.ss] at this; exact this) hs) q
/-- x, y = e where the pair is made, then taken apart -/
theorem s_two {t1 t2 : Expr} (h : At m N sc k X) (hg1 : PG X t1 (gName i)) (hg2 : PG X t2 (gName j)) (q : wE X e σ H fun v H1 => ∃ (p : Addr) (v1 v2 : V), v = .ref p ∧ SqT m.K H1 p [v1, v2] ∧ nx ((σ.set i (some v1)).set j (some v2)) H1)
    (hw : ∀ env : Env, swappedStores [.Tuple [t1, t2] k1 p3] e { env with scope := sc } = pure none := by with_unfolding_all (intro _; rfl))
    (hs : swapsWithSole [.Tuple [t1, t2] k1 p3] e pos.line X.env = pure false := by with_unfolding_all rfl)
    (hz : (assignEach [t1, t2] X.env).map (·.2) = assign t1 X.env :: (assignEach [t2] X.env).map (·.2) := by with_unfolding_all rfl) (hz2 : (assignEach [t2] X.env).map (·.2) = assign t2 X.env :: (assignEach [] X.env).map (·.2) := by with_unfolding_all rfl)
    (hn : (assignEach [t1, t2] X.env).length = 2 := by with_unfolding_all rfl) (hst : (assignEach [t1, t2] X.env).findIdx? (·.1) = none := by with_unfolding_all rfl)
    (ho : (assignEach [.Tuple [t1, t2] k1 p3] X.env).map (·.2) = [assign (.Tuple [t1, t2] k1 p3) X.env] := by with_unfolding_all rfl) : wS X (.Assign [.Tuple [t1, t2] k1 p3] e pos) ⟨nx, rt, bk, ct⟩ σ H := by
  refine toS (ps_asg cE (pg_tup h.calm (pgs_cons hg1 (pgs_cons hg2 pgs_nil hz2) hz) hn hst) hs (by have := hw X.env; rw [env_sc h.ss] at this; exact this) ho) ?_
  exact wE.mono q fun v H1 ⟨p, v1, v2, ev, hp, q1⟩ => ⟨p, [v1, v2], ev, by rw [h.kk]; exact hp, rfl, v1, [v2], rfl, v2, [], rfl, rfl, q1⟩
theorem g_truB {b : Bool} {QB : Bool → Hp → Prop} (q : QB b H) : gTru X (.bl b) H QB := ⟨b, rfl, q⟩
theorem w_neg (q : wE X e σ H fun v H1 => ∃ i : Int, v = .int i ∧ Q (.int (-i)) H1) : wE X (.UnaryOp .USub e pos) σ H Q := toE (pe_un un_neg cE) q
/-- xs.insert(a, b) -/
theorem g_insert (q : wE X o σ H fun x H1 => tyV X.K "list" x H1 ∧ wA X [a, b] σ H1 fun ys H2 => ∃ (l : Addr) (xs : List V) (i : Int) (y : V), x = .ref l ∧ ys = [.int i, y] ∧ H2 l = some (.lst xs) ∧ xs.length < sizeLine ∧ 0 ≤ i ∧ i < 2 ^ 63 ∧ Q .non (upd H2 l (.lst (xs.take i.toNat ++ [y] ++ xs.drop i.toNat)))) {apos : Pos}
    (hbase : attributeBase o "insert" X.env (eval o X.env) = eval o X.env := by with_unfolding_all rfl)
    (hfew : ((backTo pos (starEach [a, b] X.env)).all (fun x => !x.1) && (backToKw pos (keywordEach [] X.env)).all (fun x => x.1.isSome) && decide ([a, b].length + ([] : List Keyword).length + (if ([] : List Keyword).isEmpty then 0 else 1) < 30)) = true := by with_unfolding_all rfl)
    (hline : (apos.endLine == pos.line) = true := by with_unfolding_all rfl) (hs : starEach [a, b] X.env = (false, eval a X.env) :: starEach [b] X.env := by with_unfolding_all rfl) (hplain : (backTo pos (starEach [b] X.env)).any (·.1) = false := by with_unfolding_all rfl) : wE X (.Call (.Attribute o "insert" apos) [a, b] [] pos) σ H Q :=
  toE (pe_bm PySem.F.plainAttrs_list PySem.F.slot_list_insert PySem.F.type_list_insert mt_insert cE cA hbase hfew hline hs hplain) q
end
end Vf
set_option maxRecDepth 100000
set_option maxHeartbeats 4000000
/-! Tm: terms of the program as data. Own work. -/
namespace Vf
open PySem PySem.Spec PyProof.Rows L2 LamX
/-- 1 to 8 signs a to z -/
def IsName (z : Str) : Prop := 1 ≤ z.length ∧ z.length ≤ 8 ∧ ∀ c ∈ z.cps.toList, 97 ≤ c ∧ c ≤ 122
inductive Tm
  | part (now : Bool) (z : Str) (w : Int)
  | all (first : Bool) (ts : List Tm)
  | rank (r : Int) (ts : List Tm)
namespace Tm
mutual
/-- the tuple that a term is -/
def py : Tm → PyData
  | .part n z w => .tuple [.str (if n then "now" else "of"), .str z, .int w]
  | .all f ts => .tuple [.str (if f then "first" else "last"), .list (pys ts)]
  | .rank r ts => .tuple [.str "rank", .int r, .list (pys ts)]
def pys : List Tm → List PyData
  | [] => []
  | t :: ts => py t :: pys ts
end
mutual
/-- names of the two lists, waits up to W, ranks in their bounds, no list empty -/
def ok (W : Int) (zs ns : List Str) : Tm → Prop
  | .part n z w => (if n then z ∈ ns else z ∈ zs) ∧ -W ≤ w ∧ w ≤ W
  | .all _ ts => ts ≠ [] ∧ oks W zs ns ts
  | .rank r ts => ts ≠ [] ∧ 1 ≤ r ∧ r ≤ ts.length ∧ oks W zs ns ts
def oks (W : Int) (zs ns : List Str) : List Tm → Prop
  | [] => True
  | t :: ts => ok W zs ns t ∧ oks W zs ns ts
end
mutual
def dep : Tm → Nat
  | .part _ _ _ => 0
  | .all _ ts => deps ts + 1
  | .rank _ ts => deps ts + 1
def deps : List Tm → Nat
  | [] => 0
  | t :: ts => max (dep t) (deps ts)
end
mutual
/-- parts -/
def cnt : Tm → Nat
  | .part _ _ _ => 1
  | .all _ ts => cnts ts
  | .rank _ ts => cnts ts
def cnts : List Tm → Nat
  | [] => 0
  | t :: ts => cnt t + cnts ts
end
mutual
/-- parts and lists -/
def siz : Tm → Nat
  | .part _ _ _ => 1
  | .all _ ts => sizs ts + 1
  | .rank _ ts => sizs ts + 1
def sizs : List Tm → Nat
  | [] => 0
  | t :: ts => siz t + sizs ts
end
mutual
/-- a term: no list empty or beyond bounds, ranks in their bounds -/
def wf : Tm → Prop
  | .part _ _ _ => True
  | .all _ ts => ts ≠ [] ∧ ts.length < 1000 ∧ wfs ts
  | .rank r ts => ts ≠ [] ∧ ts.length < 1000 ∧ 1 ≤ r ∧ r ≤ ts.length ∧ wfs ts
def wfs : List Tm → Prop
  | [] => True
  | t :: ts => wf t ∧ wfs ts
end
mutual
/-- the parts changed -/
def reb (g : Tm → Tm) : Tm → Tm
  | .part n z w => g (.part n z w)
  | .all f ts => .all f (rebs g ts)
  | .rank r ts => .rank r (rebs g ts)
def rebs (g : Tm → Tm) : List Tm → List Tm
  | [] => []
  | t :: ts => reb g t :: rebs g ts
end
mutual
theorem reb_id : ∀ t : Tm, reb (fun x => x) t = t
  | .part _ _ _ => rfl
  | .all f ts => by rw [reb, rebs_id ts]
  | .rank r ts => by rw [reb, rebs_id ts]
theorem rebs_id : ∀ ts : List Tm, rebs (fun x => x) ts = ts
  | [] => rfl
  | t :: ts => by rw [rebs, reb_id t, rebs_id ts]
end
theorem rebs_map (g : Tm → Tm) : ∀ ts : List Tm, rebs g ts = ts.map (reb g)
  | [] => rfl
  | t :: ts => by rw [rebs, rebs_map g ts]; rfl
theorem wfs_iff : ∀ {ts : List Tm}, wfs ts ↔ ∀ t ∈ ts, wf t
  | [] => by simp [wfs]
  | t :: ts => by rw [wfs, wfs_iff]; simp
theorem dep_mem : ∀ {ts : List Tm} {t : Tm}, t ∈ ts → dep t ≤ deps ts
  | [], _, h => by simp at h
  | a :: ts, t, h => by
    rw [deps]
    rcases List.mem_cons.1 h with e | e
    · rw [e]; omega
    · have := dep_mem e; omega
theorem pys_map : ∀ ts : List Tm, pys ts = ts.map py
  | [] => rfl
  | t :: ts => by rw [pys, pys_map ts]; rfl
theorem oks_iff {W : Int} {zs ns : List Str} : ∀ {ts : List Tm}, oks W zs ns ts ↔ ∀ t ∈ ts, ok W zs ns t
  | [] => by simp [oks]
  | t :: ts => by rw [oks, oks_iff]; simp
theorem pys_length (ts : List Tm) : (pys ts).length = ts.length := by rw [pys_map, List.length_map]
theorem cnts_sum : ∀ ts : List Tm, cnts ts = (ts.map cnt).sum
  | [] => rfl
  | t :: ts => by rw [cnts, cnts_sum ts]; rfl
theorem sizs_append : ∀ a b : List Tm, sizs (a ++ b) = sizs a + sizs b
  | [], b => by simp [sizs]
  | t :: a, b => by rw [List.cons_append, sizs, sizs, sizs_append a b]; omega
theorem cnts_append : ∀ a b : List Tm, cnts (a ++ b) = cnts a + cnts b
  | [], b => by simp [cnts]
  | t :: a, b => by rw [List.cons_append, cnts, cnts, cnts_append a b]; omega
theorem pys_append (a b : List Tm) : pys (a ++ b) = pys a ++ pys b := by rw [pys_map, pys_map, pys_map, List.map_append]
theorem oks_append {W : Int} {zs ns : List Str} {a b : List Tm} (h1 : oks W zs ns a) (h2 : oks W zs ns b) : oks W zs ns (a ++ b) := by
  rw [oks_iff] at *
  intro t ht
  rcases List.mem_append.1 ht with h | h
  · exact h1 t h
  · exact h2 t h
section
variable {W : Int} {zs ns : List Str} (hz : ∀ z ∈ zs, IsName z) (hn : ∀ z ∈ ns, IsName z)
include hz hn
theorem part_name {n : Bool} {z : Str} (h : if n = true then z ∈ ns else z ∈ zs) : IsName z := by
  cases n
  · exact hz z (by simpa using h)
  · exact hn z (by simpa using h)
mutual
theorem canLay : ∀ t : Tm, ok W zs ns t → (py t).canLay0 = true
  | .part n z w, h => by
    have e := (part_name hz hn h.1).2.2
    have e1 : PyData.strOk z = true := by
      unfold PyData.strOk
      rw [Array.all_eq_true']
      intro c hc
      have := e c (by simpa using hc)
      simp; omega
    have e2 : PyData.strOk (if n = true then "now" else "of") = true := by cases n <;> decide +kernel
    simp [py, PyData.canLay0, PyData.canLayAll0, e1, e2]
  | .all f ts, h => by
    have e2 : PyData.strOk (if f = true then "first" else "last") = true := by cases f <;> decide +kernel
    simp [py, PyData.canLay0, PyData.canLayAll0, e2, canLays ts h.2]
  | .rank r ts, h => by
    have e2 : PyData.strOk "rank" = true := by decide +kernel
    simp [py, PyData.canLay0, PyData.canLayAll0, e2, canLays ts h.2.2.2]
theorem canLays : ∀ ts : List Tm, oks W zs ns ts → PyData.canLayAll0 (pys ts) = true
  | [], _ => rfl
  | t :: ts, h => by
    rw [pys, PyData.canLayAll0, canLay t h.1, canLays ts h.2]; rfl
end
end
mutual
theorem depth_le : ∀ t : Tm, (py t).depth ≤ 2 * dep t + 1
  | .part n z w => by simp [py, PyData.depth, PyData.depthAll, dep]
  | .all f ts => by have := depths_le ts; simp [py, PyData.depth, PyData.depthAll, dep]; omega
  | .rank r ts => by have := depths_le ts; simp [py, PyData.depth, PyData.depthAll, dep]; omega
theorem depths_le : ∀ ts : List Tm, PyData.depthAll (pys ts) ≤ 2 * deps ts + 1
  | [] => by simp [pys, PyData.depthAll]
  | t :: ts => by have := depth_le t; have := depths_le ts; simp [pys, PyData.depthAll, deps]; omega
end
mutual
theorem dep_le : ∀ t : Tm, dep t ≤ siz t
  | .part n z w => by simp [dep]
  | .all f ts => by have := deps_le ts; simp [dep, siz]; omega
  | .rank r ts => by have := deps_le ts; simp [dep, siz]; omega
theorem deps_le : ∀ ts : List Tm, deps ts ≤ sizs ts
  | [] => by simp [deps]
  | t :: ts => by have := dep_le t; have := deps_le ts; simp [deps, sizs]; omega
end
mutual
theorem siz_pos : ∀ t : Tm, 1 ≤ siz t
  | .part n z w => by simp [siz]
  | .all f ts => by simp [siz]
  | .rank r ts => by simp [siz]
theorem len_le : ∀ ts : List Tm, ts.length ≤ sizs ts
  | [] => by simp
  | t :: ts => by have := siz_pos t; have := len_le ts; simp [sizs]; omega
end
mutual
theorem ok_wf {W : Int} {zs ns : List Str} : ∀ t : Tm, ok W zs ns t → siz t < 1000 → wf t
  | .part _ _ _, _, _ => trivial
  | .all f ts, h, l => by
    have := len_le ts
    simp only [siz] at l
    exact ⟨h.1, by omega, oks_wf ts h.2 (by omega)⟩
  | .rank r ts, h, l => by
    have := len_le ts
    simp only [siz] at l
    exact ⟨h.1, by omega, h.2.1, h.2.2.1, oks_wf ts h.2.2.2 (by omega)⟩
theorem oks_wf {W : Int} {zs ns : List Str} : ∀ ts : List Tm, oks W zs ns ts → sizs ts < 1000 → wfs ts
  | [], _, _ => trivial
  | t :: ts, h, l => by
    simp only [sizs] at l
    exact ⟨ok_wf t h.1 (by omega), oks_wf ts h.2 (by omega)⟩
end
mutual
theorem eqv_py : ∀ a b : Tm, PyData.eqv (py a) (py b) = true ↔ a = b
  | .part n z w, .part n' z' w' => by
    have : (if n = true then ("now" : Str) else "of") = (if n' = true then ("now" : Str) else "of") ↔ n = n' := by cases n <;> cases n' <;> decide +kernel
    simp [py, PyData.eqv, PyData.eqvAll, this]
  | .part n z w, .all f ts => by simp [py, PyData.eqv, PyData.eqvAll]
  | .part n z w, .rank r ts => by simp [py, PyData.eqv, PyData.eqvAll]
  | .all f ts, .part n z w => by simp [py, PyData.eqv, PyData.eqvAll]
  | .all f ts, .all f' ts' => by
    have : (if f = true then ("first" : Str) else "last") = (if f' = true then ("first" : Str) else "last") ↔ f = f' := by cases f <;> cases f' <;> decide +kernel
    simp [py, PyData.eqv, PyData.eqvAll, this, eqv_pys ts ts']
  | .all f ts, .rank r ts' => by simp [py, PyData.eqv, PyData.eqvAll]
  | .rank r ts, .part n z w => by simp [py, PyData.eqv, PyData.eqvAll]
  | .rank r ts, .all f ts' => by simp [py, PyData.eqv, PyData.eqvAll]
  | .rank r ts, .rank r' ts' => by simp [py, PyData.eqv, PyData.eqvAll, eqv_pys ts ts']
theorem eqv_pys : ∀ a b : List Tm, PyData.eqvAll (pys a) (pys b) = true ↔ a = b
  | [], [] => by simp [pys, PyData.eqvAll]
  | [], _ :: _ => by simp [pys, PyData.eqvAll]
  | _ :: _, [] => by simp [pys, PyData.eqvAll]
  | a :: as, b :: bs => by simp [pys, PyData.eqvAll, eqv_py a b, eqv_pys as bs]
end
theorem wt_int {i : Int} (h : i.natAbs < 2 ^ 47) : PyData.weight (.int i) ≤ 47 := by
  unfold PyData.weight
  split
  · omega
  · have : i.natAbs ≠ 0 := by rename_i g; intro w; exact g (by simpa using Int.natAbs_eq_zero.1 w)
    have := (Nat.log2_lt this).2 h
    omega
section
variable {W : Int} {zs ns : List Str} (hz : ∀ z ∈ zs, IsName z) (hn : ∀ z ∈ ns, IsName z) (hW : W < 10 ^ 12)
include hz hn hW
mutual
theorem weight_le : ∀ t : Tm, ok W zs ns t → sizs [t] ≤ 1000 → (py t).weight + 1 ≤ 100 * siz t
  | .part n z w, h, _ => by
    have e : z.cps.size ≤ 8 := (part_name hz hn h.1).2.1
    have e2 : (if n = true then ("now" : Str) else "of").cps.size ≤ 8 := by cases n <;> decide +kernel
    have e3 := wt_int (i := w) (by have := h.2; omega)
    simp only [py, PyData.weight, PyData.weightAll, siz] at e3 ⊢
    omega
  | .all f ts, h, l => by
    have e2 : (if f = true then ("first" : Str) else "last").cps.size ≤ 8 := by cases f <;> decide +kernel
    have := weights_le ts h.2 (by simp only [sizs, siz] at l; omega)
    simp only [py, PyData.weight, PyData.weightAll, siz] at this ⊢
    omega
  | .rank r ts, h, l => by
    have e2 : ("rank" : Str).cps.size ≤ 8 := by decide +kernel
    have := weights_le ts h.2.2.2 (by simp only [sizs, siz] at l; omega)
    have e4 : ts.length ≤ sizs ts := len_le ts
    have e3 := wt_int (i := r) (by have := h.2; simp only [sizs, siz] at l; omega)
    simp only [py, PyData.weight, PyData.weightAll, siz] at this e3 ⊢
    omega
theorem weights_le : ∀ ts : List Tm, oks W zs ns ts → sizs ts ≤ 1000 → PyData.weightAll (pys ts) ≤ 100 * sizs ts
  | [], _, _ => by simp [pys, PyData.weightAll]
  | t :: ts, h, l => by
    have l' : siz t + sizs ts ≤ 1000 := l
    have h1 := weight_le t h.1 (by simp only [sizs]; omega)
    have h2 := weights_le ts h.2 (by omega)
    have h3 := siz_pos t
    simp only [pys, PyData.weightAll, sizs]
    omega
end
mutual
theorem short : ∀ t : Tm, ok W zs ns t → siz t ≤ 1000 → (py t).intsShort 13 = true
  | .part n z w, h, _ => by
    have e3 := PyData.shown_int_le (i := w) (by have := h.2; omega)
    simp [py, PyData.intsShort, PyData.intsShortAll, e3]
  | .all f ts, h, l => by
    have := shorts ts h.2 (by simp only [siz] at l; omega)
    simp [py, PyData.intsShort, PyData.intsShortAll, this]
  | .rank r ts, h, l => by
    have := shorts ts h.2.2.2 (by simp only [siz] at l; omega)
    have e4 : ts.length ≤ sizs ts := len_le ts
    have e3 := PyData.shown_int_le (i := r) (by have := h.2; simp only [siz] at l; omega)
    simp [py, PyData.intsShort, PyData.intsShortAll, this, e3]
theorem shorts : ∀ ts : List Tm, oks W zs ns ts → sizs ts ≤ 1000 → PyData.intsShortAll 13 (pys ts) = true
  | [], _, _ => rfl
  | t :: ts, h, l => by
    have l' : siz t + sizs ts ≤ 1000 := l
    rw [pys, PyData.intsShortAll, short t h.1 (by omega), shorts ts h.2 (by omega)]; rfl
end
mutual
theorem shows : ∀ t : Tm, ok W zs ns t → siz t ≤ 1000 → (py t).showable = true
  | .part n z w, h, _ => by
    have e3 : w.natAbs.log2 < 1920 := by
      rcases Nat.eq_zero_or_pos w.natAbs with e | e
      · rw [e]; decide
      · exact (Nat.log2_lt (by omega)).2 (by have := h.2; omega)
    simp [py, PyData.showable, PyData.showableAll, e3]
  | .all f ts, h, l => by
    have := showss ts h.2 (by simp only [siz] at l; omega)
    simp [py, PyData.showable, PyData.showableAll, this]
  | .rank r ts, h, l => by
    have := showss ts h.2.2.2 (by simp only [siz] at l; omega)
    have e4 : ts.length ≤ sizs ts := len_le ts
    have e3 : r.natAbs.log2 < 1920 := (Nat.log2_lt (by have := h.2; omega)).2 (by have := h.2; simp only [siz] at l; omega)
    simp [py, PyData.showable, PyData.showableAll, this, e3]
theorem showss : ∀ ts : List Tm, oks W zs ns ts → sizs ts ≤ 1000 → PyData.showableAll (pys ts) = true
  | [], _, _ => rfl
  | t :: ts, h, l => by
    have l' : siz t + sizs ts ≤ 1000 := l
    rw [pys, PyData.showableAll, shows t h.1 (by omega), showss ts h.2 (by omega)]; rfl
end
/-- a term's text is of a size that repr makes -/
theorem shown_fits (t : Tm) (h : ok W zs ns t) (l : siz t ≤ 29) : (py t).showable = true ∧ (py t).shown.length ≤ sizeLine ∧ (py t).depth ≤ 60 := by
  have h1 := weight_le hz hn hW t h (by simp only [sizs]; omega)
  have h2 := depth_le t
  have h3 := dep_le t
  refine ⟨shows hz hn hW t h (by omega), ?_, by omega⟩
  have := shown_le13 (d := py t) ?_ (short hz hn hW t h (by omega))
  · rw [sizeLine_eq]; omega
  · unfold PyData.layable0
    rw [canLay hz hn t h]
    simp only [Bool.true_and, Bool.and_eq_true, decide_eq_true_eq]
    exact ⟨by omega, by omega⟩
end
end Tm
end Vf
set_option maxRecDepth 100000
set_option maxHeartbeats 4000000
/-! Own: instances of the text's own classes: fields, methods, making, ==, isinstance. Own work. -/
namespace Vf
open PySem PySem.Spec PyProof.Rows L2 LamX
section
variable {m : Md} {N : List Str} {sc : Scope} {j k : Nat} {X : Cx} {a b c e o : Expr} {es : List Expr} {σ : L2.St} {H : Hp} {Q : VK} {nx : L2.St → Hp → Prop} {rt : VK} {bk ct : L2.St → Hp → Prop} {pos p p1 p2 apos : Pos} {x mn f : Str} {C : Addr} {sp : Sp} {dvs : List V} {CX : CXT} {E : XK}
/-! ### fields -/
theorem w_fld (h : At m N sc k X) (c : Cls m.K C) (n : NoAttr m.K C f) (q : wE X e σ H fun x H1 => ∃ a dx fs v, x = .ref a ∧ H1 a = some (.ins C dx fs) ∧ fs.lookup f = some v ∧ Q v H1)
    (hb : attributeBase e f X.env (eval e X.env) = eval e X.env := by with_unfolding_all rfl) : wE X (.Attribute e f pos) σ H Q := by
  refine toE (pe_fld cE hb) (wE.mono q fun x H1 ⟨a, dx, fs, v, ex, ea, l, q1⟩ => ?_)
  exact ⟨a, C, dx, fs, v, ex, ea, by rw [h.kk]; exact c, by rw [h.kk]; exact n, l, q1⟩
theorem s_fld (h : At m N sc k X) (c : Cls m.K C) (n : NoAttr m.K C f) (q : wE X e σ H fun y H1 => wE X o σ H1 fun x H2 => ∃ a dx fs, x = .ref a ∧ H2 a = some (.ins C dx fs) ∧ fs.length < 1000 ∧ nx σ (upd H2 a (.ins C dx (putF f y fs))))
    (hs : swapsWith e (some (.Attribute o f p1)) pos.line X.env = pure false := by with_unfolding_all rfl) : wS X (.Assign [.Attribute o f p1] e pos) ⟨nx, rt, bk, ct⟩ σ H := by
  refine toS (ps_fld cE cE hs) (wE.mono q fun y H1 q1 => wE.mono q1 fun x H2 ⟨a, dx, fs, ex, ea, l, q2⟩ => ?_)
  exact ⟨a, C, dx, fs, ex, ea, by rw [h.kk]; exact c, by rw [h.kk]; exact n, l, q2⟩
/-! ### methods -/
/-- a method of the class at C that keeps sp -/
structure MetX (m : Md) (CX : CXT) (k : Nat) (C : Addr) (mn : Str) (sp : Sp) (dvs : List V) : Prop where
  ex : ∃ (f : Addr) (fd : FuncData) (ps : List Str) (ds : List Value), FnG m CX k f fd ps sp ∧ Cls m.K C ∧ Meth m.K C mn f ∧ Binds m.K fd ps ds ∧ Vals dvs ds
/-- the callee's run, as a call -/
theorem run_call {pins : List (Addr × Obj)} {s : Shared} {g : Addr} {fd : FuncData} {ps : List Str} {ds us : List Value} {vs : List V} (h : At m N sc k X) (F : FnG m CX j g fd ps sp) (hk : j ≤ k) (hx : Passes CX X E) (I : Inv X pins σ H s) (b : Binds m.K fd ps ds) (d : Vals dvs ds) (r : Vals vs us) (q : sp (vs ++ dvs) H Q E) :
    wpAny (model X.prog X.w) X.A (call (.ref g) us) (EP X pins σ Q) X.xe s := by
  have r2 := Vals.append r d
  refine wpAny_call (codeAny_mono (fnG_run (us := us ++ ds) (vs := vs ++ dvs) h F hk hx I (b s us (by rw [← h.kk]; exact I.kIn) (by rw [← r2.length]; exact F.len _ _ _ _ q)) r2 q) fun r s' hq => ?_)
  match r, hq with
  | .error e, hq => exact hq
  | .ok (.ret u), hq => exact hq
theorem w_metX {pl : Sem Bool} (h : At m N sc k X) (c : MetX m CX j C mn sp dvs) (hk : j ≤ k) (hx : Passes CX X E)
    (q : wE X o σ H fun x H1 => ∃ a dx fs, x = .ref a ∧ H1 a = some (.ins C dx fs) ∧ fs.lookup mn = none ∧ wA X (e :: es) σ H1 fun vs H2 => sp (x :: (vs ++ dvs)) H2 Q E)
    (hst : starEach (e :: es) X.env = (false, eval e X.env) :: starEach es X.env := by with_unfolding_all rfl) (hpl : (backTo pos (starEach es X.env)).any (·.1) = false := by with_unfolding_all rfl)
    (ht : eval (.Call (.Attribute o mn apos) (e :: es) [] pos) X.env = (do
      let ov ← eval o X.env
      standAt apos.atName
      let (f, first) ← holding [ov] (getMethod ov mn pl)
      callWith pos f first (backTo pos (starEach (e :: es) X.env)) (backToKw pos (keywordEach [] X.env))) := by with_unfolding_all rfl) : wE X (.Call (.Attribute o mn apos) (e :: es) [] pos) σ H Q := by
  obtain ⟨g, fd, ps, ds, F, cl, me, b, d⟩ := c.ex
  unfold wE
  intro pins s I
  refine PySem.W.methodCall_KW (pl := pl) (thn ((cE (X := X) (e := o)).run pins s σ H _ I q) fun u s1 ⟨x, H1, I1, rx, i, dx, fs, ex, ea, l, q1⟩ => ?_) ht
  subst ex
  obtain rfl : u = Value.ref i := rx
  refine getmeth_ok I1 ea (by rw [h.kk]; exact cl) (by rw [h.kk]; exact me) l ?_
  refine PySem.W.callWith_K (first := [.ref i]) (h₀ := X.base) I.ok.mod.kin (by rw [h.kk]; exact me.kp) (thn ((cA (X := X) (es := e :: es)).run pos pins s1 σ H1 _ I1 q1) fun us s2 ⟨vs, H2, I2, r, q2⟩ => ⟨I2.kIn, ?_⟩) hst hpl
  exact run_call (us := .ref i :: us) (vs := .ref i :: vs) h F hk hx I2 b d (.cons rfl r) q2
theorem w_met0 {pl : Sem Bool} (h : At m N sc k X) (c : MetX m CX j C mn sp dvs) (hk : j ≤ k) (hx : Passes CX X E)
    (q : wE X o σ H fun x H1 => ∃ a dx fs, x = .ref a ∧ H1 a = some (.ins C dx fs) ∧ fs.lookup mn = none ∧ sp (x :: dvs) H1 Q E)
    (ht : eval (.Call (.Attribute o mn apos) [] [] pos) X.env = (do
      let ov ← eval o X.env
      standAt apos.atName
      let (f, first) ← holding [ov] (getMethod ov mn pl)
      callWith pos f first (backTo pos (starEach [] X.env)) (backToKw pos (keywordEach [] X.env))) := by with_unfolding_all rfl) : wE X (.Call (.Attribute o mn apos) [] [] pos) σ H Q := by
  obtain ⟨g, fd, ps, ds, F, cl, me, b, d⟩ := c.ex
  unfold wE
  intro pins s I
  refine PySem.W.methodCall_KW (pl := pl) (thn ((cE (X := X) (e := o)).run pins s σ H _ I q) fun u s1 ⟨x, H1, I1, rx, i, dx, fs, ex, ea, l, q1⟩ => ?_) ht
  subst ex
  obtain rfl : u = Value.ref i := rx
  refine getmeth_ok I1 ea (by rw [h.kk]; exact cl) (by rw [h.kk]; exact me) l ?_
  exact PySem.W.callWith_K0 (first := [.ref i]) I1.kIn (by rw [h.kk]; exact me.kp) (run_call (us := [.ref i]) (vs := [.ref i]) h F hk hx I1 b d (.cons rfl .nil) q1)
/-! ### making -/
/-- the class x, at C, whose __init__ keeps sp -/
structure MakX (m : Md) (CX : CXT) (k : Nat) (x : Str) (C : Addr) (sp : Sp) (dvs : List V) : Prop where
  ex : ∃ (f : Addr) (fd : FuncData) (ps : List Str) (ds : List Value), FnG m CX k f fd ps sp ∧ Mk m.K C f ∧ m.mg x = some (.ref C) ∧ Binds m.K fd ps ds ∧ Vals dvs ds
theorem w_makX (h : At m N sc k X) (c : MakX m CX j x C sp dvs) (hk : j + 1 ≤ k) (hg : sc.names.lookup x = some .globalImplicit) (hx : L2.PassesAt CX X σ E)
    (q : wA X (e :: es) σ H fun vs H1 => ∀ i dx, H1 i = none → H1 dx = none → dx ≠ i → sp (.ref i :: (vs ++ dvs)) (upd (upd H1 dx (.own i)) i (.ins C dx [])) (fun v H2 => v = .non ∧ Q (.ref i) H2) E)
    (hdb : (x == ("__debug__" : Str)) = false := by with_unfolding_all decide) (he : starEach (e :: es) X.env = (false, eval e X.env) :: starEach es X.env := by with_unfolding_all rfl) (hpl : (backTo pos (starEach es X.env)).any (·.1) = false := by with_unfolding_all rfl) : wE X (.Call (.Name x p) (e :: es) [] pos) σ H Q := by
  obtain ⟨g, fd, ps, ds, F, M, hm, b, d⟩ := c.ex
  unfold wE
  intro pins s I
  refine wpAny_Call_Name_kw (ld_glob (u := .ref C) I (h.gl hg) (by rw [h.mm]; exact hm) ?_ hdb)
  refine PySem.W.callWith_K (h₀ := X.base) I.ok.mod.kin (by rw [h.kk]; exact M.kp) (thn ((cA (X := X) (es := e :: es)).run pos pins s σ H _ I q) fun us s1 ⟨vs, H1, I1, r, q1⟩ => ⟨I1.kIn, ?_⟩) he hpl
  have hq := q1 (s1.heap.objs.size + 1) s1.heap.objs.size (I1.hok.fresh (Nat.le_succ _)) (I1.hok.fresh (Nat.le_refl _)) (Nat.ne_of_lt (Nat.lt_succ_self _))
  have I2 := Inv.made (C := C) I1
  have r2 : Vals (V.ref (s1.heap.objs.size + 1) :: (vs ++ dvs)) (Value.ref (s1.heap.objs.size + 1) :: (us ++ ds)) := .cons rfl (Vals.append r d)
  have e0 := I2.env0.make C us []
  rw [h.pp, h.ww, h.kk, h.mm, h.bb] at e0
  have rc := F.run _ X.stack _ _ ⟨Value.ref (s1.heap.objs.size + 1) :: us, []⟩ (Value.ref (s1.heap.objs.size + 1) :: (us ++ ds)) _ _ E (by exact h.gd) ((h.room.mono hk).make C us []) e0
    (b _ (Value.ref (s1.heap.objs.size + 1) :: us) (by rw [← h.kk]; exact I2.kIn) (by have z := r2.length; rw [F.len _ _ _ _ hq] at z; exact z.symm)) r2 hq
  rw [← h.pp, ← h.ww] at rc
  refine wpAny_call (make_map (f := g) I1.kIn (by rw [h.kk]; exact M.makes) (by rw [h.kk]; exact M.init) (by rw [h.kk]; exact beq_iff_eq.mp M.fn) (codeAny_mono rc fun r s' hq' => ?_))
  match r, hq' with
  | .error e, hq' => exact hx pins _ _ e s' I2 hq'
  | .ok (.ret u), hq' =>
    obtain ⟨v, H', I3, rv, ev, q3⟩ := I2.after hq'
    subst ev
    exact ⟨rv, ⟨V.ref (s1.heap.objs.size + 1), H', I3, rfl, q3⟩⟩
/-! ### isinstance -/
theorem g_isi (h : At m N sc k X) {x c : V} {t u : Value} {r : Bool} (hc : ClsV c u) (ht : TyX m.K H x t) (hr : PySem.W.kitOne m.K t u = some r) (q : Q (.bl r) H) : gCall X (.builtin "isinstance") [x, c] H Q :=
  ⟨_, call_isi, x, c, t, u, r, rfl, hc, by rw [h.kk]; exact ht, by rw [h.kk]; exact hr, q⟩
/-- == by an own __eq__ -/
theorem g_eqIns (h : At m N sc k X) (c : MetX m CX j C "__eq__" sp []) (hk : j ≤ k) (hx : Passes CX X E) {i dx : Addr} {fs : List (Str × V)} {y : V} {t : Value} (hi : H i = some (.ins C dx fs)) (ty : TyX m.K H y t) (nf : PySem.W.notFirst m.K C t = true)
    (q : sp [.ref i, y] H (fun z H' => ∃ r, z = .bl r ∧ Q (.bl r) H') E) : gOp X (compareOp .Eq) (.ref i) y H Q := by
  obtain ⟨g, fd, ps, ds, F, cl, me, b, d⟩ := c.ex
  intro pins s σ v u I rx ry
  cases rx
  have ty' : TyX X.K H y t := by rw [h.kk]; exact ty
  obtain ⟨P, Z, p, _⟩ := kit_of I ry ty'
  obtain ⟨mA, J, _⟩ := ins_get I.hok hi
  obtain ⟨od, J, _⟩ := J.look
  obtain ⟨mm, hF⟩ := I.fr
  show wpAny (model X.prog X.w) X.A (richCompare .Eq (.ref i) u) (EP X pins σ Q) X.xe s
  have hu := h.hu
  refine PySem.W.cmp_K (op := .Eq) (tb := t) (by omega) hF I.ok.mod.kin J (Z.ty _ _ I.kIn p) (by rw [h.kk]; exact nf) (by rw [h.kk]; exact me.at_) (by rw [h.kk]; exact me.fn) ?_
  refine wpAny_mono (run_call (Q := fun z H' => ∃ r, z = .bl r ∧ Q (.bl r) H') (us := [.ref i, u]) (vs := [.ref i, y]) h F hk hx I b d (.cons rfl (.cons ry .nil)) (by cases d; simpa using q)) (fun w s' hq => ?_) fun _ _ x => x
  obtain ⟨z, H', I', rz, r, ez, q'⟩ := hq
  subst ez
  cases rz
  exact ⟨.bl r, _, I', rfl, q'⟩
/-! != where the class has an own __eq__ and no __ne__ -/
section
variable {M : Model} {prog : Program} {w : World} {A : Around} {EE : Value → Shared → Prop} {s : Shared} {K : PySem.W.Frag} {i g : Addr} {oi : Obj} {od : Option Obj} {u tb : Value}
theorem bound_ne {args : List Value} {R : Option Value → Shared → Prop} (KI : K.In s.heap) (J : PySem.W.InstAt s.heap i oi C od) (hs : PySem.W.findIn K (.ref C) "__ne__" = some (some (.builtin "object.__ne__")))
    (q : wpAny M A (call (.builtin "object.__ne__") (.ref i :: args)) (fun v => R (some v)) EE s) : wpAny M A (callSpecialIfBound? (.ref i) "__ne__" args) R EE s := by
  have last : wpAny M A (do let v ← call (.builtin "object.__ne__") ([.ref i] ++ args); pure (some v)) R EE s := wpAny_bind (wpAny_mono q (fun v s' z => wpAny_pure z) fun _ _ z => z)
  simp only [callSpecialIfBound?, bindSpecialIfBound?]
  refine wpAny_holding (wpAny_bind (wpAny_bind (wpAny_bind (J.type.here ((PySem.W.looks_findIn KI hs).here (wpAny_bind (wpAny_askSetting (wpAny_ite ?_))))))))
  split
  · exact wpAny_bind (wpAny_of_eq (F.cmp_object.ne.bind _) (wpAny_pure (by exact last)))
  · exact wpAny_tryCatch (wpAny_bind (wpAny_of_eq (F.cmp_object.ne.bind _) (wpAny_pure (by exact last))))
theorem body_ne (KI : K.In s.heap) (J : PySem.W.InstAt s.heap i oi C od) (he : PySem.W.findIn K (.ref C) "__eq__" = some (some (.ref g))) (hf : PySem.W.isFn K (.ref g) = true) (hu : A.units < cLine) {R : Fin → Shared → Prop}
    (q : wpAny M A (call (.ref g) [.ref i, u]) (fun v s' => ∃ b, v = .bool b ∧ R (.done (.ret (.bool (!b)))) s') EE s) : wpAny M A (Builtin.«object.__ne__» ⟨[.ref i, u], []⟩) R EE s := by
  unfold Builtin.«object.__ne__»
  repeat (first
    | with_reducible refine wpAny_cRoomFor hu ?_
    | (refine wpAny_bind (m := callSpecialIfBound? (.ref i) (Str.ofString "__eq__") [u]) (PySem.W.ifBound_K KI J he hf (wpAny_mono q (fun r s' z => by
          obtain ⟨b, rfl, hq⟩ := z
          repeat (first | exact hq | exact wpAny_pure hq | exact wpAny_truthy_bool hq | (refine wpAny_bind (m := truthy (.bool _)) (wpAny_truthy_bool ?_)) | wp_step)) fun _ _ z => z)))
    | wp_step)
end
/-- the callee's run one built-in deeper -/
theorem run_call1 {pins : List (Addr × Obj)} {s : Shared} {g : Addr} {fd : FuncData} {ps : List Str} {us : List Value} {vs : List V} (h : At m N sc k X) (F : FnG m CX j g fd ps sp) (hk : j + 1 ≤ k) (hx : Passes CX X E) (I : Inv X pins σ H s) (b : Binds m.K fd ps []) (r : Vals vs us) (q : sp vs H Q E) :
    wpAny (model X.prog X.w) X.A.in1 (call (.ref g) us) (EP X pins σ Q) X.xe s := by
  have e0 := I.env0.in1
  rw [h.pp, h.ww, h.kk, h.mm, h.bb] at e0
  have hl : us.length = ps.length := by rw [← r.length]; exact F.len _ _ _ _ q
  have rc := F.run X.A.in1 X.stack s H ⟨us, []⟩ us vs Q E (by exact h.gd) ((h.room.mono hk).in1) e0 (by have := b s us (by rw [← h.kk]; exact I.kIn) (by simpa using hl); simpa using this) r q
  rw [← h.pp, ← h.ww] at rc
  refine wpAny_call (codeAny_mono rc fun r s' hq => ?_)
  match r, hq with
  | .error e, hq => exact hx pins σ H s e s' I hq
  | .ok (.ret u), hq => exact I.after hq
/-- != where the class has an own __eq__ and no __ne__ -/
theorem g_neIns (h : At m N sc k X) (c : MetX m CX j C "__eq__" sp []) (hn : PySem.W.findIn m.K (.ref C) "__ne__" = some (some (.builtin "object.__ne__"))) (hm : PySem.W.mroIn m.K C (.type "object") = some true) (hk : j + 1 ≤ k) (hx : Passes CX X E) {i dx : Addr} {fs : List (Str × V)} {y : V} {t : Value} (hi : H i = some (.ins C dx fs)) (ty : TyX m.K H y t) (nf : PySem.W.notFirst m.K C t = true)
    (q : sp [.ref i, y] H (fun z H' => ∃ r, z = .bl r ∧ Q (.bl (!r)) H') E) : gOp X (compareOp .NotEq) (.ref i) y H Q := by
  obtain ⟨g, fd, ps, ds, F, cl, me, b, d⟩ := c.ex
  intro pins s σ v u I rx ry
  cases rx
  cases d
  have ty' : TyX X.K H y t := by rw [h.kk]; exact ty
  obtain ⟨P, Z, p, _⟩ := kit_of I ry ty'
  obtain ⟨mA, J, _⟩ := ins_get I.hok hi
  obtain ⟨od, J, _⟩ := J.look
  have hu := h.hu
  have KI := I.kIn
  have hb := Z.ty (model X.prog X.w) _ I.kIn p
  have run := run_call1 (Q := fun z H' => ∃ r, z = .bl r ∧ Q (.bl (!r)) H') (us := [.ref i, u]) (vs := [.ref i, y]) h F hk hx I b (.cons rfl (.cons ry .nil)) (by simpa using q)
  have one : wpAny (model X.prog X.w) X.A (tryCompare (.ref i) (cmpInfo .NotEq).2.1 u) (fun r s' => ∃ v, r = some v ∧ EP X pins σ Q v s') X.xe s := by
    unfold tryCompare
    refine wpAny_bind (bound_ne KI J (by rw [h.kk]; exact hn) (wpAny_call (codeAny_call_builtin PySem.F.cmp_object.ne.plain PySem.F.cmpEntry_ne (PySem.W.check_slot PySem.F.cmpKind_ne PySem.F.cmpSplit_ne (J.type.andThen (PySem.W.looks_mroIn KI (by rw [h.kk]; exact hm))) (PySem.F.cmpArgs_ne _ _)
      (body_ne (A := X.A.in1) KI J (by rw [h.kk]; exact me.at_) (by rw [h.kk]; exact me.fn) (by show X.A.units + 1 < cLine; omega) (wpAny_mono run (fun v s' hv => ?_) fun _ _ z => z))))))
    obtain ⟨z, H', I', rz, r, ez, q'⟩ := hv
    subst ez
    cases rz
    exact ⟨r, rfl, wpAny_pure ⟨_, rfl, .bl (!r), H', I', rfl, q'⟩⟩
  show wpAny (model X.prog X.w) X.A (richCompare .NotEq (.ref i) u) (EP X pins σ Q) X.xe s
  unfold richCompare
  simp only [oneThing_ref]
  refine wpAny_holding (wpAny_bind (wpAny_cRoomFor (by omega) ?_))
  refine wpAny_bind (J.type.here (wpAny_bind (hb.here ?_)))
  have nf' : PySem.W.notFirst X.K C t = true := by rw [h.kk]; exact nf
  split
  · rename_i w
    have e : PySem.W.subIn X.K t (.ref C) = some false := by
      rcases Bool.or_eq_true_iff.mp nf' with e | e
      · rw [beq_iff_eq.mp e] at w; simp at w
      · exact beq_iff_eq.mp e
    refine wpAny_bind ((PySem.W.looks_subIn KI e).here ?_)
    simp only [Bool.false_eq_true, if_false]
    refine wpAny_bind (wpAny_mono one (fun r s' z => ?_) fun _ _ z => z)
    obtain ⟨v, rfl, hq⟩ := z
    exact wpAny_pure hq
  · refine wpAny_bind (wpAny_pure ?_)
    simp only [Bool.false_eq_true, if_false]
    refine wpAny_bind (wpAny_mono one (fun r s' z => ?_) fun _ _ z => z)
    obtain ⟨v, rfl, hq⟩ := z
    exact wpAny_pure hq
end
end Vf
set_option maxRecDepth 100000
set_option maxHeartbeats 4000000
/-! Exn: defs that raise own errors with a field, and what catches them. Own work. -/
namespace Vf
open PySem PySem.Spec PyProof.Rows L2 LamX
/-- how the frame of a def stands -/
structure Frm (X : Cx) : Prop where
  stk : X.stack = X.env :: X.outer
  frm : X.env.frame = some X.env.locals
section
variable {m : Md} {N ps : List Str} {k : Nat} {x qual : Str} {st : Stmt} {f : Addr} {fd : FuncData} {sp : Sp}
/-- a def that may raise, by its body -/
theorem fnG_ofX (F : C8.Fun m.K x qual st f fd) (S : FnScope N ps (C8.fnScope st)) (len : ∀ vs H Q E, sp vs H Q E → vs.length = ps.length)
    (hb : ∀ (X : Cx) (vs : List V) (H : Hp) (Q : VK) (E : XK), At m N (C8.fnScope st) k X → AtM X qual fd.code → Frm X → L2.Takes X (fun cls d _ H => E cls d H) → sp vs H Q E → wB X (C8.fnBody st) { nx := fun _ H' => Q .non H', rt := Q } (start N vs) H) : FnG m (L2.CX m.P m.w) (k + 1) f fd ps sp := by
  obtain ⟨oc, od, dV, kV, doc, pm, an, cdv, ct, osl, rfl, lk, hc⟩ := F.ex
  refine ⟨len, fun A outer s H args us vs Q E hg hr e0 bt r q => ?_⟩
  refine LamX.run_ofS (CX := L2.CX m.P m.w) (N := N) lk hc S hr e0 bt r (len _ _ _ _ q) fun hr' => ⟨_, cB, ?_⟩
  exact hb (cxOf (L2.CX m.P m.w) m.P m.w m.K m.mg m.base N qual (C8.fnScope st) f cdv A outer s H E) vs H Q E ⟨rfl, rfl, rfl, rfl, rfl, rfl, rfl, rfl, hr', L2.passes_of rfl, S.nd, hg⟩ ⟨rfl, rfl, fun _ => rfl, rfl⟩ ⟨rfl, rfl⟩ (L2.takes_of rfl rfl rfl rfl) q
theorem calX_of (F : C8.Def m.K m.mg x st f fd) (b : Binds m.K fd ps []) (S : FnScope N ps (C8.fnScope st)) (len : ∀ vs H Q E, sp vs H Q E → vs.length = ps.length)
    (hb : ∀ (X : Cx) (vs : List V) (H : Hp) (Q : VK) (E : XK), At m N (C8.fnScope st) k X → AtM X x fd.code → Frm X → L2.Takes X (fun cls d _ H => E cls d H) → sp vs H Q E → wB X (C8.fnBody st) { nx := fun _ H' => Q .non H', rt := Q } (start N vs) H) : CalX m (L2.CX m.P m.w) (k + 1) x sp [] :=
  ⟨f, fd, ps, [], fnG_ofX F.fn S len hb, F.mgf, F.kp, b, .nil⟩
end
/-- an own error class x at C whose __init__ stores its one argument in the field fn -/
structure ErrC (m : Md) (x : Str) (C : Addr) (fn : Str) : Prop where
  oex : OexC m.K C
  xf : XfC m.K C
  no : PySem.W.findIn m.K (.ref C) fn = some none
  gC : m.mg x = some (.ref C)
  self : PySem.W.exmOne m.K (.ref C) (.ref C) = some true
  init : ∃ (fI : Addr) (fd : FuncData) (ps : List Str), PySem.W.findIn m.K (.ref C) "__init__" = some (some (.ref fI)) ∧ PySem.W.typeIn m.K (.ref fI) = some (.type "function") ∧ Binds m.K fd ps [] ∧
    FnOk m.P m.w m.K m.mg m.base C8.CX0 1 fI fd ps (fun vs H Q _ => ∃ (a : Addr) (v : V), vs = [.ref a, v] ∧ H a = some (exo a C none) ∧ ∀ dx, H dx = none → dx ≠ a → Q .non (upd (upd H dx (exd dx [(fn, v)])) a (exo a C (some dx))))
section
variable {m : Md} {N : List Str} {sc : Scope} {i k : Nat} {X : Cx} {a b c e o : Expr} {es : List Expr} {σ : L2.St} {H : Hp} {Q : VK} {D : Ends} {W Wout : WX} {pos p p1 p2 pos2 np pos' : Pos} {x nm fn : Str} {C : Addr}
/-- raise x(e) -/
theorem s_raise (h : At m N sc k X) (tk : L2.Takes X W) (c : ErrC m x C fn) (hk : 2 ≤ k) (hg : sc.names.lookup x = some .globalImplicit)
    (q : wE X e σ H fun v H1 => ∀ d, H1 d = none → W (.ref C) (some d) σ (upd H1 d (.xd [(fn, v)])))
    (hdb : (x == ("__debug__" : Str)) = false := by with_unfolding_all decide) (he : starEach [e] X.env = (false, eval e X.env) :: starEach [] X.env := by with_unfolding_all rfl) (hpl : (backTo pos (starEach [] X.env)).any (·.1) = false := by with_unfolding_all rfl) : wS X (.Raise (some (.Call (.Name x p) [e] [] pos)) none pos2) D σ H := by
  obtain ⟨fI, fd, ps, iC, tI, b, F⟩ := c.init
  have F' := F
  rw [← h.pp, ← h.ww, ← h.kk, ← h.mm, ← h.bb] at F'
  refine toS (L2.ps_raise h.calm tk (pmk_oex (dvs := []) (ds := []) (by rw [h.kk]; exact c.oex) (by rw [h.kk]; exact iC) (by rw [h.kk]; exact tI) F' (h.room.mono hk) (by rw [h.kk]; exact b) .nil C8.pass0 (h.gl hg) (by rw [h.mm]; exact c.gC) (pa_cons (cE (e := e)) pa_nil he) hdb he hpl)) ?_
  show tCons (wE X e) tNil σ H _
  refine wE.mono q fun v H1 q1 => ?_
  refine ⟨(show 1 ≤ 1000 by decide), fun a ha => ⟨a, v, rfl, upd_same, fun dx hdx hne => ⟨rfl, dx, [(fn, v)], upd_same, by rw [upd_ne hne, upd_same], by rw [upd_ne hne] at hdx; exact hdx, ?_⟩⟩⟩
  have hdx1 : H1 dx = none := by rw [upd_ne hne] at hdx; exact hdx
  have e1 : upd (del (upd (upd (upd H1 a (exo a C none)) dx (exd dx [(fn, v)])) a (exo a C (some dx))) a) dx (.xd [(fn, v)]) = upd H1 dx (.xd [(fn, v)]) := by
    funext z
    by_cases z1 : z = dx
    · rw [z1, upd_same, upd_same]
    · rw [upd_ne z1, upd_ne z1]
      by_cases z2 : z = a
      · rw [z2, del_same, ha]
      · rw [del_ne z2, upd_ne z2, upd_ne z1, upd_ne z2]
  rw [e1]
  exact q1 dx hdx1
theorem At.tr (h : At m N sc k X) {pn : List (Addr × Obj)} {xe : Value → Shared → Prop} (hp : PassesOwn (model X.prog X.w) X.A X.env xe) : At m N sc k (X.tr pn xe) := ⟨h.pp, h.ww, h.kk, h.mm, h.bb, h.nn, h.ss, h.calm, h.room, hp, h.nd, h.gd⟩
theorem Frm.tr (h : Frm X) {pn : List (Addr × Obj)} {xe : Value → Shared → Prop} : Frm (X.tr pn xe) := ⟨h.stk, h.frm⟩
/-- the place of an except suite: a the exception, cls its class, d its dict -/
structure Sui (m : Md) (N : List Str) (sc : Scope) (a : Addr) (cls : Value) (d : Option Addr) (X : Cx) : Prop where
  ex : ∃ (X0 : Cx) (oe : Obj) (pn : List (Addr × Obj)), X = X0.suite a ((a, oe) :: pn) ∧ Zc cls d oe ∧ (∃ vs, oe.data = .fields vs)
  kk : X.K = m.K
  nn : X.N = N
  ss : X.env.scope = sc
  nd : N.Nodup
/-- try: .. except x as nm: .. -/
theorem s_tryAs {body suite : List Stmt} {b0 : Stmt} (h : At m N sc k X) (fr : Frm X) (n : NL N sc i nm) (hx : sc.names.lookup x = some .globalImplicit) (hC : m.mg x = some (.ref C)) (tk : L2.Takes X Wout)
    (q : ∀ X', At m N sc k X' → Frm X' → L2.Takes X' (fun cls d σ H => ∃ r, PySem.W.exmOne m.K cls (.ref C) = some r ∧
        (r = true → ∀ a, H a = none → ∀ X2, Sui m N sc a cls d X2 → wB X2 (b0 :: suite) { nx := fun σ' H' => D.nx (σ'.set i none) H', rt := D.rt, bk := fun σ' H' => D.bk (σ'.set i none) H', ct := fun σ' H' => D.ct (σ'.set i none) H' } (σ.set i (some (.ref a))) H) ∧ (r = false → Wout cls d σ H)) → wB X' body D σ H)
    (hdb : (x == ("__debug__" : Str)) = false := by with_unfolding_all decide) : wS X (.Try body [.ExceptHandler (some (.Name x np)) (some nm) (b0 :: suite) pos'] [] [] pos) D σ H := by
  refine toS (L2.ps_try_as (c := .ref C) (i := i) (Wout := Wout) (tb := fun W D σ H => ∀ X', At m N sc k X' → Frm X' → L2.Takes X' W → wB X' body D σ H) (ts := fun a cls d D σ H => ∀ X2, Sui m N sc a cls d X2 → wB X2 (b0 :: suite) D σ H)
    fr.stk fr.frm (by rw [h.nn]; exact h.nd) (by rw [h.nn]; exact n.ix) (by show X.env.scope.names.lookup nm = _; rw [h.ss]; exact n.loc) ⟨h.gl hx, hdb, .inl (by rw [h.mm]; exact hC)⟩ tk
    (fun W pn xe tk' ps => ⟨fun pins s σ H D I z => (cB (X := X.tr pn xe) (sts := body)).run pins s σ H D I (z _ (h.tr ps) fr.tr tk')⟩) (fun a oe cls d pn hz hf => ⟨fun pins s σ H D I z => (cB (X := X.suite a ((a, oe) :: pn)) (sts := b0 :: suite)).run pins s σ H D I (z _ ⟨⟨X, oe, pn, rfl, hz, hf⟩, h.kk, h.nn, h.ss, h.nd⟩)⟩)) ?_
  intro X' hX' fr' tk'
  refine q X' hX' fr' (L2.Takes.imp tk' fun cls d σ H z => ?_)
  unfold wAs
  rw [h.kk]
  exact z
/-! in a suite -/
theorem w_nlS {cls : Value} {d : Option Addr} {z : Addr} {v : V} (h : Sui m N sc z cls d X) (n : NL N sc i nm) (hs : σ[i]? = some (some v)) (q : Q v H) (hd : (nm == ("__debug__" : Str)) = false := by with_unfolding_all decide) (hcd : (nm == ("__classdict__" : Str)) = false := by with_unfolding_all decide) : wE X (.Name nm pos) σ H Q :=
  toE (pe_var (by rw [h.nn]; exact n.ix) (by rw [h.ss]; exact .inl n.loc) hd hcd) ⟨v, hs, q⟩
theorem s_nlS {cls : Value} {d : Option Addr} {z : Addr} (h : Sui m N sc z cls d X) (n : NL N sc i nm) (q : wE X e σ H fun v H1 => D.nx (σ.set i (some v)) H1) (hs : swapsWith e (some (.Name nm p1)) pos.line X.env = pure false := by with_unfolding_all rfl) : wS X (.Assign [.Name nm p1] e pos) D σ H :=
  toS (ps_set (by rw [h.nn]; exact h.nd) (by rw [h.nn]; exact n.ix) (by rw [h.ss]; exact .inl n.loc) cE hs (.inr (by rw [h.ss]; exact n.loc))) q
/-- e.fn of the caught error -/
theorem w_errS {cls : Value} {d : Option Addr} {z : Addr} (h : Sui m N sc z cls d X) (c : ErrC m x C fn) (hcls : cls = .ref C) (q : wE X e σ H fun y H1 => y = .ref z ∧ ∃ (dd : Addr) (v : V), d = some dd ∧ H1 dd = some (.xd [(fn, v)]) ∧ Q v H1)
    (hb : attributeBase e fn X.env (eval e X.env) = eval e X.env := by with_unfolding_all rfl) : wE X (.Attribute e fn pos) σ H Q := by
  obtain ⟨X0, oe, pn, rfl, hz, hf⟩ := h.ex
  have kk : X0.K = m.K := h.kk
  refine toE (pe_xf (C := C) (by rw [kk]; exact c.xf) (by rw [kk]; exact c.no) hz hf cE hb) ?_
  refine wE.mono q fun y H1 ⟨ey, dd, v, ed, hd, q1⟩ => ?_
  exact ⟨ey, hcls, dd, [(fn, v)], v, ed, hd, by simp [List.lookup], q1⟩
end
end Vf
set_option maxRecDepth 100000
set_option maxHeartbeats 4000000
/-! Fin: the end of a row, where nothing is being shown. Own work. -/
namespace Vf
open PySem PySem.Spec PyProof.Rows L2 LamX
/-- the script's own object -/
def scrO (vs : List Value) : Obj := { cls := .type "list", data := .seq vs.toArray }
/-- an empty table of a code object -/
def tabO : Obj := { cls := .none, data := .fields #[] }
/-- what is tracked where the law is called: the tables of ts, and the script, if it stands in no written part -/
def hp0 (K : PySem.W.Frag) (ts : List Addr) (a : Addr) (vs : List Value) (ns : List Int) : Hp := fun b => if b ∈ ts then some (.tbl #[]) else if b = a ∧ K.lookup a = none then some (.frz (scrO vs) (.lst (ns.map V.int))) else none
section
variable {K : PySem.W.Frag} {ts : List Addr} {a b : Addr} {vs : List Value} {ns : List Int} {h : Heap}
theorem hp0_tab (z : b ∈ ts) : hp0 K ts a vs ns b = some (.tbl #[]) := if_pos z
theorem hp0_some {u : HO} (z : hp0 K ts a vs ns b = some u) : b ∈ ts ∧ u = .tbl #[] ∨ b ∉ ts ∧ b = a ∧ K.lookup a = none ∧ u = .frz (scrO vs) (.lst (ns.map V.int)) := by
  unfold hp0 at z
  split at z
  · rename_i c; exact .inl ⟨c, (Option.some.inj z).symm⟩
  · rename_i c
    split at z
    · rename_i e; exact .inr ⟨c, e.1, e.2, (Option.some.inj z).symm⟩
    · cases z
/-- a heap with the script at a and the tables ts -/
structure Scr (h : Heap) (ts : List Addr) (a : Addr) (vs : List Value) : Prop where
  scr : h.get? a = some (scrO vs)
  tab : ∀ b ∈ ts, h.get? b = some tabO
theorem Scr.at_ (S : Scr h ts a vs) {u : HO} (z : hp0 K ts a vs ns b = some u) : h.get? b = some tabO ∨ h.get? b = some (scrO vs) ∧ K.lookup b = none := by
  rcases hp0_some z with ⟨m, _⟩ | ⟨_, e, k, _⟩
  · exact .inl (S.tab b m)
  · subst e; exact .inr ⟨S.scr, k⟩
/-- what is neither a sequence nor an object of fields without any is not tracked -/
theorem Scr.free (S : Scr h ts a vs) {o : Obj} (e : h.get? b = some o) (n1 : ∀ xs k, o.data ≠ .seq xs k) (n2 : o.data ≠ .fields #[]) : hp0 K ts a vs ns b = none := by
  cases z : hp0 K ts a vs ns b with
  | none => rfl
  | some u =>
    rcases S.at_ z with g | ⟨g, _⟩
    · rw [g] at e; cases e; exact absurd rfl n2
    · rw [g] at e; cases e; exact absurd rfl (n1 _ _)
theorem Scr.ok {P : Program} {w : World} (S : Scr h ts a vs) (hi : IntsAre vs ns) (hl : ns.length ≤ sizeLine) : HOk P w (hp0 K ts a vs ns) h := fun b u z => by
  rcases hp0_some z with ⟨m, rfl⟩ | ⟨_, rfl, _, rfl⟩
  · exact S.tab b m
  · exact ⟨S.scr, by rw [List.length_map]; exact hl, vs, _, vals_ints hi, S.scr⟩
theorem Scr.seq (S : Scr h ts a vs) (hi : IntsAre vs ns) (hl : ns.length ≤ sizeLine) (KX : K.In h) : SqL K (hp0 K ts a vs ns) a (ns.map V.int) := by
  have na : a ∉ ts := fun z => by
    have := S.tab a z
    rw [S.scr] at this
    have q := congrArg Obj.data (Option.some.inj this)
    cases q
  cases k : K.lookup a with
  | none => exact .inl (.inr ⟨_, by unfold hp0; rw [if_neg na, if_pos ⟨rfl, k⟩]⟩)
  | some o =>
    have e := KX a o k
    rw [S.scr] at e
    cases e
    exact .inr ⟨_, vs.toArray, _, k, rfl, rfl, rfl, by rw [List.size_toArray, hi.length]; exact hl, by simpa using vals_ints hi⟩
end
section
variable {m : Md} {mb : Str → Option Value} {CX : CXT} {k : Nat} {fa a : Addr} {cs : List (Addr × Addr)} {fd : FuncData} {x : Str} {sp : Sp} {vs : List Value} {ns : List Int}
/-- the written part and the globals as the law's call finds them -/
structure Gnd (K : PySem.W.Frag) (mg mb : Str → Option Value) (cs : List (Addr × Addr)) (h : Heap) : Prop where
  kin : K.In h
  glb : h.Ns mainGlobals mg
  blt : h.Ns builtinsNs mb
  bot : ∀ y : Str, y ≠ "__name__" → mb y = bootBuiltins y
  lim : h.NoLimit
  off : ∀ p ∈ cs, K.lookup p.2 = none
  cod : ∀ p ∈ cs, PySem.W.CodeHd h p.1 p.2
  mod : ∃ (bm : Addr) (ob : Obj), mg "__builtins__" = some (.ref bm) ∧ bm ≠ builtinsNs ∧ h.get? bm = some ob ∧ ob.cls = .type "module" ∧ ob.dict = some builtinsNs ∧ ob.data = .plain
/-- the tables' addresses -/
abbrev tbs (cs : List (Addr × Addr)) : List Addr := cs.map (·.2)
theorem mem_tbs {p : Addr × Addr} (h : p ∈ cs) : p.2 ∈ tbs cs := List.mem_map.2 ⟨p, h, rfl⟩
/-- the base: the heap without what is tracked -/
abbrev bas (K : PySem.W.Frag) (cs : List (Addr × Addr)) (a : Addr) (vs : List Value) (ns : List Int) (h : Heap) : Heap := hidT h (hp0 K (tbs cs) a vs ns)
theorem Gnd.nsB {K : PySem.W.Frag} {h : Heap} (S : Scr h (tbs cs) a vs) {b : Addr} {f : Str → Option Value} (z : h.Ns b f) : (bas K cs a vs ns h).Ns b f := by
  obtain ⟨o, es, ep, e, d, r⟩ := z
  exact ⟨o, es, ep, hidT_get e (S.free e (fun xs j w => by rw [d] at w; cases w) fun w => by rw [d] at w; cases w), d, r⟩
theorem Gnd.kinB {K : PySem.W.Frag} {mg : Str → Option Value} {h : Heap} (G : Gnd K mg mb cs h) (S : Scr h (tbs cs) a vs) : K.In (bas K cs a vs ns h) := fun b o e => by
  refine hidT_get (G.kin b o e) ?_
  cases z : hp0 K (tbs cs) a vs ns b with
  | none => rfl
  | some u =>
    rcases hp0_some z with ⟨w, _⟩ | ⟨_, w, n, _⟩
    · obtain ⟨p, hp, w⟩ := List.mem_map.1 w
      have n := G.off p hp
      rw [w, e] at n; cases n
    · rw [w, n] at e; cases e
theorem Gnd.tabB {K : PySem.W.Frag} {mg : Str → Option Value} {h : Heap} (G : Gnd K mg mb cs h) (S : Scr h (tbs cs) a vs) : ∀ p ∈ cs, TabB (bas K cs a vs ns h) mg p.1 p.2 := fun p hp => by
  have hT := S.tab _ (mem_tbs hp)
  have nG : ∀ b, mainGlobals = b → h.get? b ≠ some tabO := fun b z w => by
    obtain ⟨o, es, ep, e, hd, _⟩ := G.glb
    rw [z, w] at e
    cases e
    cases hd
  refine ⟨?_, ?_, fun z => nG _ z hT⟩
  · obtain ⟨o, us, fl, tf, fg, tg, inF, tx, tt, at1, kind, dat, el, more⟩ := G.cod p hp
    refine ⟨o, us, fl, tf, fg, tg, inF, tx, tt, hidT_get at1 (S.free at1 (fun xs j w => by rw [dat] at w; cases w) fun w => ?_), kind, dat, el, more⟩
    rw [dat] at w
    cases w
    simp at el
  · obtain ⟨bm, ob, b1, b2, b3, b4, b5, b6⟩ := G.mod
    refine ⟨bm, ob, b1, b2, fun q => ?_, fun q => ?_, hidT_get b3 (S.free b3 (fun xs j w => by rw [b6] at w; cases w) fun w => by rw [b6] at w; cases w), b4, b5, b6⟩
    · obtain ⟨o, es, ep, e, hd, _⟩ := G.glb
      rw [← q, b3] at e
      cases e
      rw [b6] at hd; cases hd
    · rw [q, hT] at b3
      cases b3
      cases b6
/-- the call of the law -/
theorem law_run {h : Heap} {s : Shared} (es : s.heap = h) (G : Gnd m.K m.mg mb cs h) (S : Scr h (tbs cs) a vs) (hg : s.gens = #[]) (hi : IntsAre vs ns) (hl : ns.length ≤ sizeLine) (hr : Room k callerA)
    (F : (bas m.K cs a vs ns h).Ns mainGlobals m.mg → m.K.In (bas m.K cs a vs ns h) → (∀ p ∈ cs, TabB (bas m.K cs a vs ns h) m.mg p.1 p.2) → FnG { m with base := bas m.K cs a vs ns h } CX k fa fd [x] sp) (hb : ∀ (s : Shared) (u : Value), BindsTo s fd ⟨[u], []⟩ [(x, u)])
    (q : ∀ H : Hp, (∀ p ∈ cs, H p.2 = some (.tbl #[])) → SqL m.K H a (ns.map V.int) → sp [.ref a] H (fun v _ => v = .bl true) fun _ _ _ => False) (hCX : ∀ H e s', CX [] H s (fun _ _ _ => False) e s' → False) :
    codeAny (model m.P m.w) callerA (.call (.ref fa) ⟨[.ref a], []⟩) (fun r s' => r = .ok (.ret (.bool true)) ∧ OldK s.heap s'.heap ∧ s'.os = s.os ∧ AllBare s'.gens) s := by
  subst es
  have M : L2.Mod m.K m.mg (bas m.K cs a vs ns s.heap) := ⟨G.kinB S, Gnd.nsB S G.glb, ⟨mb, Gnd.nsB S G.blt, G.bot⟩, by obtain ⟨c, h1, h2⟩ := G.lim; exact ⟨c, Gnd.nsB S h1, h2⟩⟩
  have ok := S.ok (P := m.P) (w := m.w) (K := m.K) hi hl
  have e0 : Env0 m.P m.w m.K m.mg (bas m.K cs a vs ns s.heap) callerA [] s (hp0 m.K (tbs cs) a vs ns) :=
    ⟨rfl, M, fun b o e => of_hidT e, Nat.le_of_eq (hidT_size _ _), trivial, fun b hb => absurd (show b ∈ ([] : List Addr) from hb) (by simp), ok, .of_eq hg⟩
  have run := (F (Gnd.nsB S G.glb) (G.kinB S) (G.tabB S)).run callerA [] s (hp0 m.K (tbs cs) a vs ns) ⟨[.ref a], []⟩ [.ref a] [.ref a] _ _ rfl hr e0 (hb s (.ref a)) (.cons rfl .nil) (q _ (fun p hp => hp0_tab (mem_tbs hp)) (S.seq hi hl G.kin))
  refine codeAny_mono run fun r s' z => ?_
  match r, z with
  | .error e, z => exact (hCX _ e s' z).elim
  | .ok (.ret u), z =>
    obtain ⟨v, H', os, bare, un, ok', rv, ev⟩ := z
    subst ev
    obtain rfl : u = Value.bool true := rv
    have grown : ∀ p ∈ cs, ∃ more : Array Value, s'.heap.get? p.2 = some { cls := .none, data := .fields more } := fun p hp => by
      obtain ⟨more, w⟩ := un.tbls p.2 #[] (hp0_tab (mem_tbs hp))
      exact ⟨_, ok' p.2 _ w⟩
    have stays : ∀ b o, b ∉ tbs cs → s.heap.get? b = some o → s'.heap.get? b = some o := fun b o nb e => by
      cases w : hp0 m.K (tbs cs) a vs ns b with
      | none => exact un.keep b o e w (fun y => absurd (show b ∈ ([] : List Addr) from y) (by simp)) (by simp)
      | some u =>
        rcases hp0_some w with ⟨y, _⟩ | ⟨_, rfl, _, rfl⟩
        · exact absurd y nb
        · have y := un.frzs b _ _ w
          obtain ⟨y2, _⟩ := ok' b _ y
          rw [S.scr] at e
          cases e
          exact y2
    refine ⟨rfl, ⟨fun b o e => ?_, fun b o e => ?_⟩, os, bare⟩
    · by_cases y : b ∈ tbs cs
      · obtain ⟨p, hp, rfl⟩ := List.mem_map.1 y
        obtain ⟨more, hm⟩ := grown p hp
        have t := S.tab _ y
        rw [t] at e
        cases e
        exact .inr (.inl ⟨((G.cod p hp).tab t).isCodeTable, rfl, #[], more, rfl, by rw [Array.empty_append]; exact hm⟩)
      · exact .inl (stays b o y e)
    · by_cases y : b ∈ tbs cs
      · obtain ⟨p, hp, rfl⟩ := List.mem_map.1 y
        obtain ⟨more, hm⟩ := grown p hp
        exact ⟨_, hm⟩
      · exact ⟨o, stays b o y e⟩
end
/-- what is to be shown of the law at the head's heap h -/
structure LawG (P : Program) (w : World) (K : PySem.W.Frag) (CX : CXT) (k n : Nat) (x : Str) (mg : Str → Option Value) (fa : Addr) (h : Heap) (fd : FuncData) (cs : List (Addr × Addr)) (T : List (Addr × Str)) (sp : Sp) : Prop where
  tab : ∀ p ∈ cs, h.get? p.2 = some tabO
  off : ∀ p ∈ cs, K.lookup p.2 = none
  cod : ∀ p ∈ cs, PySem.W.CodeHd h p.1 p.2
  bnd : ∀ (s : Shared) (u : Value), BindsTo s fd ⟨[u], []⟩ [(x, u)]
  pre : ∀ (H : Hp) (a : Addr) (ns : List Int), ns.length ≤ n → (∀ z ∈ ns, Builtin.Int.intBits z ≤ 1048576) → (∀ p ∈ cs, H p.2 = some (.tbl #[])) → SqL K H a (ns.map V.int) → sp [.ref a] H (fun v _ => v = .bl true) fun _ _ _ => False
  run : ∀ base : Heap, base.Ns mainGlobals mg → K.In base → (∀ p ∈ cs, TabB base mg p.1 p.2) → FnG ⟨P, w, K, mg, base, T⟩ CX k fa fd [x] sp
theorem walkG {l : PySem.W.OpenLaw} {n k : Nat} {q : Program} {loose : List Str} {XP : (Str → Option Value) → Heap → Prop} {YP : World → Heap → Prop} {d : DefRec} {K : Params → PySem.W.Frag} {CX : World → CXT} {x : Str}
    (hn : l.most = some n) (hn2 : n ≤ sizeLine) (hdf : d.params.defaults = []) (hr : Room k callerA) (hY : ∀ (w : World) (h : Heap), YP w h → (K w.params).In h)
    (F : ∀ (w : World) (mg : Str → Option Value) (fa : Addr) (h : Heap), YP w h → (K w.params).In h → h.Ns mainGlobals mg → mg d.name = some (.ref fa) → ∃ fd cs T sp, LawG l.prog w (K w.params) (CX w) k n x mg fa h fd cs T sp)
    (hCX : ∀ (w : World) (H : Hp) (s : Shared) (e : Value) (s' : Shared), CX w [] H s (fun _ _ _ => False) e s' → False) :
    PySem.W.WalkO q loose XP YP l.row.toRowW d [] (fun f vs => PySem.call f vs) := by
  refine Att.attach_callB hn hdf fun w s0 s1 mg mb fa o pm cd doc a vs ns G Y _ _ _ hmg hobj hints hlen hbits hg => ?_
  have KX := hY w _ Y
  obtain ⟨fd, cs, T, sp, L⟩ := F w mg fa _ Y KX G.T.g hmg
  exact law_run (m := ⟨l.prog, w, K w.params, mg, s1.heap, T⟩) (h := s1.heap) rfl ⟨KX, G.T.g, G.T.b, G.T.builtins, G.T.nolimit, L.off, L.cod, G.T.bmain⟩ ⟨hobj, fun b hb => by
    obtain ⟨p, hp, e⟩ := List.mem_map.1 hb
    rw [← e]; exact L.tab p hp⟩ hg hints (Nat.le_trans hlen hn2) hr (fun h1 h2 h3 => L.run _ h1 h2 h3) L.bnd (fun H h1 h2 => L.pre H a ns hlen hbits h1 h2) fun H e s' z => hCX w H s1 e s' z
end Vf
set_option maxRecDepth 100000
set_option maxHeartbeats 4000000
/-! Ob: any object that is handed: data with dicts in it, of which only is known that they are dicts. Own work. -/
namespace Vf
open PySem PySem.Spec PyProof.Rows L2 LamX
mutual
inductive Ob (K : PySem.W.Frag) (A : Addr → Prop) (H : Hp) : V → PyData → Prop
  | non : Ob K A H .non .none
  | bl (b : Bool) : Ob K A H (.bl b) (.bool b)
  | int (i : Int) : Ob K A H (.int i) (.int i)
  | str (x : Str) : x.length ≤ sizeLine → Ob K A H (.str x) (.str x)
  | lst {a : Addr} {xs : List V} {ds : List PyData} : A a → SqL K H a xs → ObAll K A H xs ds → xs.length < 1000000 → Ob K A H (.ref a) (.list ds)
  | tup {a : Addr} {xs : List V} {ds : List PyData} : SqT K H a xs → ObAll K A H xs ds → Ob K A H (.ref a) (.tuple ds)
  | dct {a : Addr} {kvs : List (Key × V)} : A a → H a = some (.dK kvs) → Ob K A H (.ref a) (.dict [])
inductive ObAll (K : PySem.W.Frag) (A : Addr → Prop) (H : Hp) : List V → List PyData → Prop
  | nil : ObAll K A H [] []
  | cons {v : V} {vs : List V} {d : PyData} {ds : List PyData} : Ob K A H v d → ObAll K A H vs ds → ObAll K A H (v :: vs) (d :: ds)
end
section
variable {K : PySem.W.Frag} {A A' : Addr → Prop} {H H' : Hp}
theorem ObAll.length : ∀ {vs : List V} {ds : List PyData}, ObAll K A H vs ds → vs.length = ds.length
  | _, _, .nil => rfl
  | _, _, .cons _ r => congrArg (· + 1) (ObAll.length r)
theorem ObAll.getV : ∀ {vs : List V} {ds : List PyData} {i : Nat} {v : V}, ObAll K A H vs ds → vs[i]? = some v → ∃ d, ds[i]? = some d ∧ Ob K A H v d
  | _, _, i, _, .nil, e => by simp at e
  | _, _, 0, _, .cons a _, e => by simp at e; subst e; exact ⟨_, rfl, a⟩
  | _, _, i + 1, d, .cons _ r, e => by
    obtain ⟨v, h1, h2⟩ := ObAll.getV (i := i) r (by simpa using e)
    exact ⟨v, by simpa using h1, h2⟩
mutual
theorem Ob.mono (hA : ∀ a, A a → A' a) (hL : ∀ a xs, A a → SqL K H a xs → SqL K H' a xs) (hT : ∀ a xs, SqT K H a xs → SqT K H' a xs) (hD : ∀ a (kvs : List (Key × V)), A a → H a = some (.dK kvs) → H' a = some (.dK kvs)) : ∀ (d : PyData) (v : V), Ob K A H v d → Ob K A' H' v d
  | .none, _, h => by cases h; exact .non
  | .bool b, _, h => by cases h; exact .bl b
  | .int i, _, h => by cases h; exact .int i
  | .str x, _, h => by cases h with | str _ l => exact .str x l
  | .list ds, _, h => by cases h with | lst a s r l => exact .lst (hA _ a) (hL _ _ a s) (ObAll.mono hA hL hT hD ds _ r) l
  | .tuple ds, _, h => by cases h with | tup s r => exact .tup (hT _ _ s) (ObAll.mono hA hL hT hD ds _ r)
  | .dict _, _, h => by cases h with | dct a e => exact .dct (hA _ a) (hD _ _ a e)
theorem ObAll.mono (hA : ∀ a, A a → A' a) (hL : ∀ a xs, A a → SqL K H a xs → SqL K H' a xs) (hT : ∀ a xs, SqT K H a xs → SqT K H' a xs) (hD : ∀ a (kvs : List (Key × V)), A a → H a = some (.dK kvs) → H' a = some (.dK kvs)) : ∀ (ds : List PyData) (vs : List V), ObAll K A H vs ds → ObAll K A' H' vs ds
  | [], _, h => by cases h; exact .nil
  | d :: ds, _, h => by cases h with | cons a b => exact .cons (Ob.mono hA hL hT hD d _ a) (ObAll.mono hA hL hT hD ds _ b)
end
mutual
/-- texts of a size that len asks -/
def txOk : PyData → Prop
  | .str x => x.length ≤ sizeLine
  | .list ds => ds.length < 1000000 ∧ txOks ds
  | .tuple ds => txOks ds
  | .none | .bool _ | .int _ | .dict _ => True
def txOks : List PyData → Prop
  | [] => True
  | d :: ds => txOk d ∧ txOks ds
end
mutual
theorem Da.ob : ∀ (d : PyData) (v : V), Da K A H v d → txOk d → Ob K A H v d
  | .none, _, h, _ => by cases h; exact .non
  | .bool b, _, h, _ => by cases h; exact .bl b
  | .int i, _, h, _ => by cases h; exact .int i
  | .str x, _, h, t => by cases h; exact .str x t
  | .list ds, _, h, t => by cases h with | lst a s r => exact .lst a s (DaAll.ob ds _ r t.2) (by rw [r.length]; exact t.1)
  | .tuple ds, _, h, t => by cases h with | tup s r => exact .tup s (DaAll.ob ds _ r t)
  | .dict _, _, h, _ => by cases h
theorem DaAll.ob : ∀ (ds : List PyData) (vs : List V), DaAll K A H vs ds → txOks ds → ObAll K A H vs ds
  | [], _, h, _ => by cases h; exact .nil
  | d :: ds, _, h, t => by cases h with | cons a b => exact .cons (Da.ob d _ a t.1) (DaAll.ob ds _ b t.2)
end
/-- the type of data -/
def tyD : PyData → String
  | .none => "NoneType"
  | .bool _ => "bool"
  | .int _ => "int"
  | .str _ => "str"
  | .list _ => "list"
  | .tuple _ => "tuple"
  | .dict _ => "dict"
theorem tyx_lst {a : Addr} {xs : List V} (h : SqL K H a xs) : TyX K H (.ref a) (.type "list") := by
  rcases h with (h | ⟨o, h⟩) | ⟨o, its, n, e, c, _⟩
  · exact .base (.lst h)
  · exact .base (.frz h)
  · exact .kList e c
theorem tyx_tup {a : Addr} {xs : List V} (h : SqT K H a xs) : TyX K H (.ref a) (.type "tuple") := by
  rcases h with (h | ⟨o, h⟩) | ⟨o, its, n, e, c, _⟩
  · exact .base (.tup h)
  · exact .fTuple h
  · exact .kTuple e c
theorem Ob.ty {v : V} {d : PyData} (h : Ob K A H v d) : TyX K H v (.type (tyD d)) := by
  cases h with
  | non => exact .base .non
  | bl b => exact .base (.bl b)
  | int i => exact .base (.int i)
  | str x _ => exact .base (.str x)
  | lst _ s _ _ => exact tyx_lst s
  | tup s _ => exact tyx_tup s
  | dct _ e => exact .base (.dK e)
end
/-! ### what is a term -/
/-- the text z -/
def isS (z : Str) : PyData → Bool
  | .str y => y == z
  | _ => false
def isWh : PyData → Bool
  | .int _ => true
  | _ => false
def nmB (z : Str) : Bool := decide (1 ≤ z.length) && decide (z.length ≤ 8) && z.cps.toList.all fun c => decide (97 ≤ c) && decide (c ≤ 122)
theorem nmB_iff {z : Str} : nmB z = true ↔ IsName z := by
  unfold nmB IsName
  rw [Bool.and_eq_true, Bool.and_eq_true, decide_eq_true_eq, decide_eq_true_eq, List.all_eq_true, and_assoc]
  simp only [Bool.and_eq_true, decide_eq_true_eq]
def isNm : PyData → Bool
  | .str z => nmB z
  | _ => false
def rkOk : PyData → PyData → Bool
  | .int r, .list ds => decide (1 ≤ r) && decide (r ≤ ds.length)
  | _, _ => false
mutual
def isTm : PyData → Bool
  | .tuple ds => isTm3 ds
  | _ => false
def isTm3 : List PyData → Bool
  | [d, x] => (isS "first" d || isS "last" d) && isTl x
  | [d, x, y] => ((isS "of" d || isS "now" d) && isNm x && isWh y) || (isS "rank" d && isTl y && rkOk x y)
  | _ => false
def isTl : PyData → Bool
  | .list ds => !ds.isEmpty && isTms ds
  | _ => false
def isTms : List PyData → Bool
  | [] => true
  | d :: ds => isTm d && isTms ds
end
/-! isinstance of any object -/
def isIn (T : String) (d : PyData) : Bool := decide (tyD d = T) || (T == "int" && decide (tyD d = "bool"))
theorem kit_all (T : String) (hT : T ∈ ["int", "bool", "str", "tuple", "list", "dict"]) : ∀ d : PyData, kitB (tyD d) T = some (isIn T d) := by
  have all : ∀ t ∈ ["NoneType", "bool", "int", "str", "list", "tuple", "dict"], ∀ T ∈ ["int", "bool", "str", "tuple", "list", "dict"], kitB t T = some (decide (t = T) || (T == "int" && decide (t = "bool"))) := by decide +kernel
  intro d
  exact all (tyD d) (by cases d <;> simp [tyD]) T hT
theorem isWh_eq (d : PyData) : isWh d = (isIn "int" d && !isIn "bool" d) := by cases d <;> simp [isWh, isIn, tyD]
end Vf
set_option maxRecDepth 100000
set_option maxHeartbeats 4000000
/-! Ex: names of types, constants of modules, chains, comprehensions over texts. Own work. -/
namespace Vf
open PySem PySem.Spec PyProof.Rows L2 LamX
section
variable {m : Md} {N : List Str} {sc scope : Scope} {i j k : Nat} {X : Cx} {a b c e o elt iter : Expr} {es : List Expr} {σ : L2.St} {H : Hp} {Q : VK} {QB : Bool → Hp → Prop} {pos p p1 p2 : Pos} {x y : Str}
/-- a built-in type as a value -/
theorem w_tyn {T : String} (h : At m N sc k X) (hm : m.mg x = none) (hg : sc.names.lookup x = some .globalImplicit) (hv : bootBuiltins x = some (.type T)) (q : Q (.ty T) H) (hn : x ≠ "__name__" := by with_unfolding_all decide) (hd : (x == ("__debug__" : Str)) = false := by with_unfolding_all decide) : wE X (.Name x pos) σ H Q :=
  toE (pe_bltn (v := .ty T) (h.gl hg) (by rw [h.mm]; exact hm) hv rfl hn hd) q
/-- a name of the module -/
theorem w_glb {v : V} {u : Value} (h : At m N sc k X) (hm : m.mg x = some u) (r : L2.RelV v u) (hg : sc.names.lookup x = some .globalImplicit) (q : Q v H) (hd : (x == ("__debug__" : Str)) = false := by with_unfolding_all decide) : wE X (.Name x pos) σ H Q :=
  toE (pe_glob (h.gl hg) (by rw [h.mm]; exact hm) r hd) q
theorem w_chain {op op' : CmpOp} (q : wE X a σ H fun x H1 => wE X b σ H1 fun y H2 => gOp X (compareOp op) x y H2 fun z H3 => ∃ k, z = .bl k ∧ (if k = true then wE X c σ H3 fun w H4 => gOp X (compareOp op') y w H4 Q else Q (.bl false) H3))
    (hm : lastMarks [op, op'] [b, c] = false := by with_unfolding_all rfl) : wE X (.Compare a [op, op'] [b, c] pos) σ H Q := toE (pe_chain gOp_ok gOp_ok cE cE cE hm) q
theorem t_chain {op op' : CmpOp} (q : wE X a σ H fun x H1 => wE X b σ H1 fun y H2 => gOp X (compareOp op) x y H2 fun z H3 => ∃ k, z = .bl k ∧ (if k = true then wE X c σ H3 fun w H4 => gOp X (compareOp op') y w H4 fun r H5 => ∃ k', r = .bl k' ∧ QB k' H5 else QB false H3))
    (hm : lastMarks [op, op'] [b, c] = false := by with_unfolding_all rfl) : wT X (.Compare a [op, op'] [b, c] pos) σ H QB := by
  refine toT (pt_chain gOp_ok gOp_ok cE cE cE hm) ?_
  refine wE.mono q fun x H1 q1 => wE.mono q1 fun y H2 q2 => ?_
  refine fun pins s σ v u I rx ry => wpAny_mono (q2 pins s σ v u I rx ry) (fun w s' z => ?_) fun _ _ z => z
  obtain ⟨z', H', I', rz, k, ez, q3⟩ := z
  refine ⟨z', H', I', rz, k, ez, ?_⟩
  cases k with
  | true => exact q3
  | false => exact ⟨false, rfl, q3⟩
theorem g_leT {i j : Str} (q : Q (.bl (!decide (j.cps.toList < i.cps.toList))) H) : gOp X (compareOp .LtE) (.str i) (.str j) H Q := gOp.of op_le_str ⟨_, _, rfl, rfl, q⟩
/-- [elt for x in z], z a text -/
theorem w_lcS (h : At m N sc k X) (ok : blkC N sc scope [(x, i)] = true) (n : NL N (relS scope sc) i x)
    (q : wE X iter σ H fun v H1 => ∃ z : Str, v = .str z ∧ ∀ D, H1 D = none → ∃ Pv : Nat → Hp → Prop, Pv 0 (upd H1 D (.lst [])) ∧
      (∀ j c H, z.cps[j]? = some c → Pv j H → ∀ X', At m N (relS scope sc) k X' → wE X' elt (σ.set i (some (.str ⟨#[c]⟩))) H (App D (Pv (j + 1)))) ∧ ∀ H, Pv z.cps.size H → Q (.ref D) H)
    (hs : ∀ x, foldedSetIterable iter X.env x = pure x := by with_unfolding_all (intro _; rfl)) : wE X (.ListComp elt [⟨.Name x p1, iter, [], 0⟩] scope pos) σ H Q := by
  refine toE (pe_lc (own := [(x, i)]) (g := gName i) (tt := tYes) (te := inBlk m N (relS scope sc) k elt) h.calm (by rw [h.nn]; exact h.nd) (pi_str cE) (by rw [h.nn, h.ss]; exact blkOk_by ok) (fun s H C cl fp => pg_nl (blk_at h s H C cl fp) n) (fun _ _ _ _ _ => pts_nil) (fun s H C cl fp => blk_pe h s H C cl fp) hs) ?_
  refine wE.mono q fun v H1 ⟨z, ev, go⟩ => ⟨z, ev, fun D hD => ?_⟩
  obtain ⟨Pv, p0, turn, fin⟩ := go D hD
  refine lc_it walk_str (g := gName i) (tt := tYes) (te := inBlk m N (relS scope sc) k elt) (vs := [i]) (σ := σ) Pv p0 (fun _ _ _ _ => trivial) (fun j y H H' hj hp hy => ?_) fin
  obtain ⟨rfl, c, hc, rfl⟩ := hy
  refine ⟨by rw [wipe1]; simp [wipe, List.set_set], ?_⟩
  unfold tYes
  refine iteT fun X' hX' => ?_
  rw [set_wipe]
  exact turn j c _ hc hp X' hX'
end
end Vf
set_option maxRecDepth 100000
set_option maxHeartbeats 4000000
/-! InOb: is an object one of two texts; is it a text. Own work. -/
namespace Vf
open PySem PySem.Spec PyProof.Rows L2 LamX
theorem str_dec (z : Str) (tk : Tok) (l : Addr) (c : Value) (es : Array DictEntry) (ep : Nat) (dd : Option Addr) (sl : Array (Option Value)) :
    Meets (Builtin.«str.__eq__» ⟨[.str z tk, .ref l], []⟩) (fun _ R s => s.heap.get? l = some { cls := c, dict := dd, data := .dict es ep, slots := sl } ∧ R (.ok (.ret .notImplemented)) s) :=
  .of_wp fun prog w A R s q => by
    obtain ⟨hp, g, d, t, os⟩ := s
    obtain ⟨at1, q⟩ := q
    wp_walk using wpAny_loadPart' at1, wpAny_load at1
    exact ⟨_, rfl, q⟩
theorem dict_dec (l : Addr) (es : Array DictEntry) (ep : Nat) (dd : Option Addr) (sl : Array (Option Value)) (z : Str) (tk : Tok) :
    Meets (Builtin.«dict.__eq__» ⟨[.ref l, .str z tk], []⟩) (fun _ R s => s.heap.get? l = some { cls := .type "dict", dict := dd, data := .dict es ep, slots := sl } ∧ R (.ok (.ret .notImplemented)) s) :=
  .of_wp fun prog w A R s q => by
    obtain ⟨hp, g, d, t, os⟩ := s
    obtain ⟨at1, q⟩ := q
    have f1 := F.sub_str_dict
    wp_walk using wpAny_loadPart' at1, wpAny_load at1
    exact ⟨_, rfl, q⟩
section
variable {A : Around} {s : Shared} {l : Addr} {es : Array DictEntry} {ep : Nat} {dd : Option Addr} {sl : Array (Option Value)}
theorem rc_str_dict (z : Str) (tk : Tok) (ho : s.heap.get? l = some { cls := .type "dict", dict := dd, data := .dict es ep, slots := sl }) (hu : A.units < cLine) : SeqAt.RcAt A s (.str z tk) (.ref l) false := fun prog w E Q q =>
  SeqAt.rc_eq_decline_or (k := false) (typeIs_str s z tk) ⟨_, ho, rfl⟩ (by decide) F.sub_dict_str F.slot_str_eq F.slot_dict_eq_refl
    (fun _ hq => call_meets F.slot_str_eq (typeIs_str s z tk) F.entry_str_eq (F.args_str_eq_2 _ _) (str_dec z tk l (.type "dict") es ep dd sl) ⟨ho, hq⟩)
    (fun _ hq => call_meets F.slot_dict_eq_refl ⟨_, ho, rfl⟩ F.entry_dict_eq (F.args_dict_eq_2 _ _) (dict_dec l es ep dd sl z tk) ⟨ho, hq⟩)
    (fun _ hq => wpAny_of_eq (rfl : isSame (.str z tk) (.ref l) = pure false) hq) (.inr hu) q
theorem rc_dict_str (z : Str) (tk : Tok) (ho : s.heap.get? l = some { cls := .type "dict", dict := dd, data := .dict es ep, slots := sl }) (hu : A.units < cLine) : SeqAt.RcAt A s (.ref l) (.str z tk) false := fun prog w E Q q =>
  SeqAt.rc_eq_decline_or (k := false) ⟨_, ho, rfl⟩ (typeIs_str s z tk) (by decide) F.sub_str_dict F.slot_dict_eq F.slot_str_eq_refl
    (fun _ hq => call_meets F.slot_dict_eq ⟨_, ho, rfl⟩ F.entry_dict_eq (F.args_dict_eq_2 _ _) (dict_dec l es ep dd sl z tk) ⟨ho, hq⟩)
    (fun _ hq => call_meets F.slot_str_eq_refl (typeIs_str s z tk) F.entry_str_eq (F.args_str_eq_2 _ _) (str_dec z tk l (.type "dict") es ep dd sl) ⟨ho, hq⟩)
    (fun _ hq => wpAny_of_eq (rfl : isSame (.ref l) (.str z tk) = pure false) hq) (.inr hu) q
theorem eqAt_str_dict (z : Str) (tk : Tok) (ho : s.heap.get? l = some { cls := .type "dict", dict := dd, data := .dict es ep, slots := sl }) (hu : A.units < cLine) : SeqAt.EqAt A s (.str z tk) (.ref l) false := fun prog w E Q q => by
  unfold eqBool
  refine wpAny_holding ?_
  refine wpAny_ite_split (fun e => absurd (eq_of_beq e) nofun) (fun _ => ?_)
  exact wpAny_bind (rc_str_dict z tk ho hu prog w E _ (wpAny_truthy_bool q))
end
section
variable {X : Cx} {pins : List (Addr × Obj)} {σ : L2.St} {H : Hp} {s : Shared} {A : Addr → Prop} {v : V} {d : PyData} {u : Value}
theorem dct_at {a : Addr} {kvs : List (Key × V)} (I : Inv X pins σ H s) (e : H a = some (.dK kvs)) : ∃ dd es ep sl, s.heap.get? a = some ({ cls := .type "dict", dict := dd, data := .dict es ep, slots := sl } : Obj) := by
  obtain ⟨_, _, vs, _, ob, es, ep, h1, h2, h3, _⟩ := (show ObjOk X.prog X.w H s.heap a (.dK kvs) from I.hok a _ e)
  obtain ⟨c, dd, dat, sl⟩ := ob
  have hc : c = .type "dict" := h2.1
  have hd : dat = .dict es ep := h3
  subst hc hd
  exact ⟨dd, es, ep, sl, h1⟩
theorem ob_rc (I : Inv X pins σ H s) (o : Ob X.K A H v d) (r : L2.RelV v u) (hu : X.A.units < cLine) (z : Str) (tk : Tok) : SeqAt.RcAt X.A s u (.str z tk) (isS z d) := by
  cases o with
  | non => cases r; exact SeqAt.RcAt.none_str z tk
  | bl b => cases r; exact SeqAt.RcAt.bool_str b z tk
  | int i => obtain ⟨t, rfl⟩ := r; exact SeqAt.RcAt.int_str i t z tk
  | str y _ => obtain ⟨t, rfl⟩ := r; exact SeqAt.RcAt.str_str y t z tk
  | lst _ hs _ _ => cases r; obtain ⟨its, _, pl, _⟩ := I.list hs; exact SeqAt.RcAt.list_str z tk pl.isList hu
  | tup hs _ => cases r; obtain ⟨its, _, pl, _⟩ := I.tuple hs; exact SeqAt.RcAt.tuple_str z tk pl hu
  | dct _ e =>
    cases r
    obtain ⟨dd, es, ep, sl, h1⟩ := dct_at I e
    exact rc_dict_str z tk h1 hu
theorem ob_eq {A0 : Around} (I : Inv X pins σ H s) (o : Ob X.K A H v d) (r : L2.RelV v u) (hu : A0.units < cLine) (z : Str) (tk : Tok) : SeqAt.EqAt A0 s (.str z tk) u (isS z d) := by
  cases o with
  | non => cases r; exact SeqAt.EqAt.str_none z tk
  | bl b => cases r; exact SeqAt.EqAt.str_bool z tk b
  | int i => obtain ⟨t, rfl⟩ := r; exact SeqAt.EqAt.str_int z tk i t
  | str y _ =>
    obtain ⟨t, rfl⟩ := r
    have e : isS z (.str y) = (z == y) := by
      show (y == z) = (z == y)
      rw [Bool.eq_iff_iff, beq_iff_eq, beq_iff_eq]; exact eq_comm
    rw [e]
    exact SeqAt.EqAt.str_str z tk y t
  | lst _ hs _ _ => cases r; obtain ⟨its, _, pl, _⟩ := I.list hs; exact SeqAt.EqAt.str_list z tk pl.isList hu
  | tup hs _ => cases r; obtain ⟨its, _, pl, _⟩ := I.tuple hs; exact SeqAt.EqAt.str_tuple z tk pl hu
  | dct _ e =>
    cases r
    obtain ⟨dd, es, ep, sl, h1⟩ := dct_at I e
    exact eqAt_str_dict z tk h1 hu
end
section
variable {m : Md} {N : List Str} {sc : Scope} {k : Nat} {X : Cx} {H : Hp} {Q : VK} {A : Addr → Prop} {v : V} {d : PyData}
/-- x == z, z a text -/
theorem g_eqOb (h : At m N sc k X) {z : Str} (o : Ob m.K A H v d) (q : Q (.bl (isS z d)) H) : gOp X (compareOp .Eq) v (.str z) H Q := fun pins s σ u w I r rz => by
  obtain ⟨tk, rfl⟩ := rz
  have hu := h.hu
  exact ob_rc I (by rw [h.kk]; exact o) r (by omega) z tk X.prog X.w X.xe _ ⟨.bl (isS z d), H, I, rfl, q⟩
/-- x in (z1, z2), two texts -/
theorem g_inOb (h : At m N sc k X) {a : Addr} {z1 z2 : Str} (o : Ob m.K A H v d) (ht : H a = some (.tup [.str z1, .str z2])) (q : Q (.bl (isS z1 d || isS z2 d)) H) : gOp X (compareOp .In) v (.ref a) H Q := fun pins s σ u w I r rz => by
  cases rz
  have hu := h.hu
  obtain ⟨its, rv, pl, hz⟩ := I.tuple (SqT.of ht)
  cases rv with | cons r1 rv => cases rv with | cons r2 rv =>
  cases rv
  obtain ⟨t1, rfl⟩ := r1
  obtain ⟨t2, rfl⟩ := r2
  have o' : Ob X.K A H v d := by rw [h.kk]; exact o
  refine SeqAt.in_tupleAt (fun y => match y with | .str z _ => isS z d | _ => false) pl (fun y hy => ?_) ⟨.bl (isS z1 d || isS z2 d), H, I, by simp [L2.RelV], q⟩
  have hy2 : y = .str z1 t1 ∨ y = .str z2 t2 := by simpa using hy
  rcases hy2 with e | e
  · subst e; exact ob_eq I o' r (by show X.A.units + 1 < cLine; omega) z1 t1
  · subst e; exact ob_eq I o' r (by show X.A.units + 1 < cLine; omega) z2 t2
end
end Vf
set_option maxRecDepth 100000
set_option maxHeartbeats 4000000
/-! Tp: slices and sums of tuples. Own work. -/
namespace Vf
open PySem PySem.Spec PyProof.Rows L2 LamX
section
variable {m : Md} {N : List Str} {sc : Scope} {k : Nat} {X : Cx} {a b c e o : Expr} {σ : L2.St} {H : Hp} {Q : VK} {pos p2 : Pos}
/-- e[:hi] of a tuple, not the whole of it -/
theorem w_sliceToT {hi : Expr} (h : At m N sc k X) (q : wE X e σ H fun x H1 => wE X hi σ H1 fun u H3 => ∃ j : Int, u = .int j ∧ ∃ (a : Addr) (xs : List V), x = .ref a ∧ SqT m.K H3 a xs ∧ HT.sIx xs.length xs.length (some j) ≠ xs.length ∧ ∀ p, H3 p = none → Q (.ref p) (upd H3 p (.tup (cutV xs none (some j))))) :
    wE X (.Subscript e (.Slice none (some hi) none p2) pos) σ H Q := by
  refine toE (pe_slice sl_tup cE po_none (po_some cE)) ?_
  refine wE.mono q fun x H1 q1 => ?_
  show wE X hi σ H1 _
  exact wE.mono q1 fun u H3 ⟨j, ej, a, xs, ea, hs, hn, q3⟩ => ⟨j, ej, a, xs, ea, by rw [h.kk]; exact hs, fun z => hn z.2, q3⟩
theorem g_catT (h : At m N sc k X) {l r : Addr} {xs ys : List V} (h1 : SqT m.K H l xs) (h2 : SqT m.K H r ys) (n1 : xs ≠ []) (n2 : ys ≠ []) (hz : xs.length + ys.length ≤ sizeLine) (q : ∀ p, H p = none → Q (.ref p) (upd H p (.tup (xs ++ ys)))) : gOp X (binaryOp .Add) (.ref l) (.ref r) H Q :=
  gOp.of op_catT ⟨l, r, xs, ys, rfl, rfl, by rw [h.kk]; exact h1, by rw [h.kk]; exact h2, n1, hz, fun e => absurd e n2, fun _ => q⟩
end
theorem six_val (hd : List V) (x : V) : HT.sIx (hd ++ [x]).length (hd ++ [x]).length (some (-1)) = hd.length := by
  have e : (hd ++ [x]).length = hd.length + 1 := by simp
  rw [e]
  unfold HT.sIx
  dsimp only
  rw [if_pos (by decide)]
  omega
theorem cut_last (hd : List V) (x : V) : cutV (hd ++ [x]) none (some (-1)) = hd := by
  unfold cutV
  rw [HT.sIx_none, List.drop_zero, Nat.sub_zero, six_val, List.take_left']
  rfl
theorem six_last (hd : List V) (x : V) : HT.sIx (hd ++ [x]).length (hd ++ [x]).length (some (-1)) ≠ (hd ++ [x]).length := by
  rw [six_val]
  simp
theorem at_last (hd : List V) (x : V) : atI (hd ++ [x]) (-1) = some x := by
  unfold atI ixN
  rw [if_neg (by decide), List.length_append, List.length_singleton, if_pos (by omega)]
  show (hd ++ [x])[((-1 : Int) + ((hd.length + 1 : Nat) : Int)).toNat]? = some x
  rw [show ((-1 : Int) + ((hd.length + 1 : Nat) : Int)).toNat = hd.length from by omega]
  simp
end Vf
set_option maxRecDepth 100000
set_option maxHeartbeats 4000000
/-! Dn: data with the places of its lists, told one by one. Own work. -/
namespace Vf
open PySem PySem.Spec PyProof.Rows L2 LamX
mutual
/-- v is the data d; L: where its lists lie, from the left -/
inductive Dn (K : PySem.W.Frag) (H : Hp) : V → PyData → List Addr → Prop
  | non : Dn K H .non .none []
  | bl (b : Bool) : Dn K H (.bl b) (.bool b) []
  | int (i : Int) : Dn K H (.int i) (.int i) []
  | str (x : Str) : Dn K H (.str x) (.str x) []
  | lst {a : Addr} {xs : List V} {ds : List PyData} {L : List Addr} : H a = some (.lst xs) → DnAll K H xs ds L → Dn K H (.ref a) (.list ds) (a :: L)
  | tup {a : Addr} {xs : List V} {ds : List PyData} {L : List Addr} : SqT K H a xs → DnAll K H xs ds L → Dn K H (.ref a) (.tuple ds) L
inductive DnAll (K : PySem.W.Frag) (H : Hp) : List V → List PyData → List Addr → Prop
  | nil : DnAll K H [] [] []
  | cons {v : V} {vs : List V} {d : PyData} {ds : List PyData} {L M : List Addr} : Dn K H v d L → DnAll K H vs ds M → DnAll K H (v :: vs) (d :: ds) (L ++ M)
end
section
variable {K : PySem.W.Frag} {H H' : Hp} {A : Addr → Prop}
mutual
theorem Dn.da : ∀ {v : V} {d : PyData} {L : List Addr}, Dn K H v d L → (∀ a ∈ L, A a) → Da K A H v d
  | _, _, _, .non, _ => .non
  | _, _, _, .bl b, _ => .bl b
  | _, _, _, .int i, _ => .int i
  | _, _, _, .str x, _ => .str x
  | _, _, _, .lst h r, z => .lst (z _ (by simp)) (SqL.of h) (DnAll.da r fun a ha => z a (by simp [ha]))
  | _, _, _, .tup h r, z => .tup h (DnAll.da r z)
theorem DnAll.da : ∀ {v : List V} {d : List PyData} {L : List Addr}, DnAll K H v d L → (∀ a ∈ L, A a) → DaAll K A H v d
  | _, _, _, .nil, _ => .nil
  | _, _, _, .cons a r, z => .cons (Dn.da a fun b hb => z b (by simp [hb])) (DnAll.da r fun b hb => z b (by simp [hb]))
end
mutual
theorem Dn.mono (hL : ∀ a xs, H a = some (.lst xs) → A a → H' a = some (.lst xs)) (hT : ∀ a xs, SqT K H a xs → SqT K H' a xs) : ∀ {v : V} {d : PyData} {L : List Addr}, Dn K H v d L → (∀ a ∈ L, A a) → Dn K H' v d L
  | _, _, _, .non, _ => .non
  | _, _, _, .bl b, _ => .bl b
  | _, _, _, .int i, _ => .int i
  | _, _, _, .str x, _ => .str x
  | _, _, _, .lst h r, z => .lst (hL _ _ h (z _ (by simp))) (DnAll.mono hL hT r fun a ha => z a (by simp [ha]))
  | _, _, _, .tup h r, z => .tup (hT _ _ h) (DnAll.mono hL hT r z)
theorem DnAll.mono (hL : ∀ a xs, H a = some (.lst xs) → A a → H' a = some (.lst xs)) (hT : ∀ a xs, SqT K H a xs → SqT K H' a xs) : ∀ {v : List V} {d : List PyData} {L : List Addr}, DnAll K H v d L → (∀ a ∈ L, A a) → DnAll K H' v d L
  | _, _, _, .nil, _ => .nil
  | _, _, _, .cons a r, z => .cons (Dn.mono hL hT a fun b hb => z b (by simp [hb])) (DnAll.mono hL hT r fun b hb => z b (by simp [hb]))
end
mutual
theorem Dn.some : ∀ {v : V} {d : PyData} {L : List Addr}, Dn K H v d L → ∀ a ∈ L, ∃ xs, H a = some (.lst xs)
  | _, _, _, .non, _, h => by simp at h
  | _, _, _, .bl _, _, h => by simp at h
  | _, _, _, .int _, _, h => by simp at h
  | _, _, _, .str _, _, h => by simp at h
  | _, _, _, .lst h r, a, ha => by
    rcases List.mem_cons.1 ha with e | e
    · exact ⟨_, e ▸ h⟩
    · exact DnAll.some r a e
  | _, _, _, .tup _ r, a, ha => DnAll.some r a ha
theorem DnAll.some : ∀ {v : List V} {d : List PyData} {L : List Addr}, DnAll K H v d L → ∀ a ∈ L, ∃ xs, H a = some (.lst xs)
  | _, _, _, .nil, _, h => by simp at h
  | _, _, _, .cons a r, b, hb => by
    rcases List.mem_append.1 hb with e | e
    · exact Dn.some a b e
    · exact DnAll.some r b e
end
theorem DnAll.length : ∀ {vs : List V} {ds : List PyData} {L : List Addr}, DnAll K H vs ds L → vs.length = ds.length
  | _, _, _, .nil => rfl
  | _, _, _, .cons _ r => congrArg (· + 1) (DnAll.length r)
theorem DnAll.append : ∀ {vs ws : List V} {ds es : List PyData} {L M : List Addr}, DnAll K H vs ds L → DnAll K H ws es M → DnAll K H (vs ++ ws) (ds ++ es) (L ++ M)
  | _, _, _, _, _, _, .nil, s => s
  | _, _, _, _, _, _, .cons a r, s => by rw [List.append_assoc]; exact .cons a (DnAll.append r s)
theorem GrowX.dn {T : List (Addr × Str)} {S : Addr → Prop} {v : V} {d : PyData} {L : List Addr} (g : GrowX T S H H') (h : Dn K H v d L) (n : ∀ a ∈ L, ¬ S a) : Dn K H' v d L :=
  Dn.mono (A := fun a => ¬ S a) (fun a xs e z => g.ext _ _ z e (fun _ w => by cases w)) (fun a xs e => g.seqT e) h n
theorem GrowX.dnAll {T : List (Addr × Str)} {S : Addr → Prop} {v : List V} {d : List PyData} {L : List Addr} (g : GrowX T S H H') (h : DnAll K H v d L) (n : ∀ a ∈ L, ¬ S a) : DnAll K H' v d L :=
  DnAll.mono (A := fun a => ¬ S a) (fun a xs e z => g.ext _ _ z e (fun _ w => by cases w)) (fun a xs e => g.seqT e) h n
/-- fresh data: all its lists are new and apart -/
def Fr (K : PySem.W.Frag) (H H' : Hp) (v : V) (d : PyData) : Prop := ∃ L, Dn K H' v d L ∧ L.Nodup ∧ ∀ a ∈ L, New H a
theorem Fr.da {v : V} {d : PyData} (h : Fr K H H' v d) : Da K (New H) H' v d := by
  obtain ⟨L, h, _, n⟩ := h
  exact h.da n
theorem Fr.pre {T : List (Addr × Str)} {H0 : Hp} {v : V} {d : PyData} (g : Grow T H0 H) (h : Fr K H H' v d) : Fr K H0 H' v d := by
  obtain ⟨L, h, nd, n⟩ := h
  exact ⟨L, h, nd, fun a ha => g.keep _ (n a ha)⟩
theorem Fr.post {T : List (Addr × Str)} {H2 : Hp} {v : V} {d : PyData} (h : Fr K H H' v d) (g : Grow T H' H2) : Fr K H H2 v d := by
  obtain ⟨L, h, nd, n⟩ := h
  exact ⟨L, GrowX.dn g h fun _ _ z => z, nd, n⟩
end
end Vf
set_option maxRecDepth 100000
set_option maxHeartbeats 4000000
/-! Lit: displays of constants, tuples, lists and known names, at once. Own work. -/
namespace Vf
open PySem PySem.Spec PyProof.Rows L2 LamX
mutual
/-- the data that a display is; env: what names hold -/
def lit (env : List (Str × PyData)) : Expr → Option PyData
  | .Constant (.int i) _ _ => some (.int i)
  | .Constant (.bool b) _ _ => some (.bool b)
  | .Constant (.str z) _ _ => if z.length ≤ 1000 then some (.str z) else none
  | .Constant .none _ _ => some .none
  | .Tuple es _ _ => (lits env es).bind fun ds => if ds.length ≤ 1000 then some (.tuple ds) else none
  | .UnaryOp .USub (.Constant (.int i) _ _) _ => some (.int (-i))
  | .List es _ => (lits env es).bind fun ds => if ds.length ≤ 1000 then some (.list ds) else none
  | .Dict [] [] _ => some (.dict [])
  | .Dict [some (.Constant (.str _) _ _)] [e] _ => (lit env e).map fun _ => .dict []
  | .Name x _ => env.lookup x
  | _ => none
def lits (env : List (Str × PyData)) : List Expr → Option (List PyData)
  | [] => some []
  | e :: es => (lit env e).bind fun d => (lits env es).map fun ds => d :: ds
end
section
variable {m : Md} {X : Cx} {σ : L2.St} {env : List (Str × PyData)} {H0 : Hp}
/-- the names of env hold their data, wherever the heap has grown -/
def EnvOk (m : Md) (X : Cx) (σ : L2.St) (env : List (Str × PyData)) (A : Addr → Prop) (H0 : Hp) : Prop := ∀ x d pos, env.lookup x = some d → ∃ v, Ob m.K A H0 v d ∧ ∀ H Q, Q v H → wE X (.Name x pos) σ H Q
theorem starPlain {e : Expr} {es : List Expr} {d : PyData} (h : lit env e = some d) : starEach (e :: es) X.env = (false, eval e X.env) :: starEach es X.env := by
  cases e <;> first | rfl | (simp [lit] at h)
theorem lit_neg {op : UnaryOp} {e : Expr} {pos : Pos} {d : PyData} (h : lit env (.UnaryOp op e pos) = some d) : ∃ i k ps, op = .USub ∧ e = .Constant (.int i) k ps ∧ d = .int (-i) := by
  unfold lit at h
  split at h <;> first | (cases h; done) | skip
  all_goals first
    | (rename_i hh; cases hh; cases h; exact ⟨_, _, _, rfl, rfl, rfl⟩)
    | (simp at *)
theorem lit_d0 {ks : List (Option Expr)} {pos : Pos} {d : PyData} (h : lit env (.Dict ks [] pos) = some d) : ks = [] ∧ d = .dict [] := by
  unfold lit at h
  split at h <;> first | (cases h; done) | skip
  all_goals first
    | (rename_i hh; cases hh; cases h; exact ⟨rfl, rfl⟩)
    | (simp at *)
theorem lit_d1 {ks : List (Option Expr)} {e : Expr} {pos : Pos} {d : PyData} (h : lit env (.Dict ks [e] pos) = some d) : (∃ z k ps, ks = [some (.Constant (.str z) k ps)]) ∧ (∃ d', lit env e = some d') ∧ d = .dict [] := by
  unfold lit at h
  split at h <;> first | (cases h; done) | skip
  all_goals first
    | (rename_i hh; cases hh; obtain ⟨d', h1, h2⟩ := Option.map_eq_some_iff.1 h; cases h2; exact ⟨⟨_, _, _, rfl⟩, ⟨d', h1⟩, rfl⟩)
    | (simp at *)
theorem lit_d2 {ks : List (Option Expr)} {e e2 : Expr} {es : List Expr} {pos : Pos} {d : PyData} (h : lit env (.Dict ks (e :: e2 :: es) pos) = some d) : False := by
  unfold lit at h
  split at h <;> first | (cases h; done) | skip
  all_goals first
    | (rename_i hh; cases hh; done)
    | (simp at *)
theorem grow_ob {T : List (Addr × Str)} {K : PySem.W.Frag} {A : Addr → Prop} {H H1 : Hp} {v : V} {d : PyData} (g : Grow T H H1) (h : Ob K A H v d) : Ob K A H1 v d :=
  Ob.mono (fun _ z => z) (fun a xs _ e => GrowX.seqL g e fun z => z) (fun a xs e => GrowX.seqT g e) (fun a kvs _ e => g.extN _ _ e (fun _ z => by cases z)) d v h
theorem grow_obs {T : List (Addr × Str)} {K : PySem.W.Frag} {A : Addr → Prop} {H H1 : Hp} {v : List V} {d : List PyData} (g : Grow T H H1) (h : ObAll K A H v d) : ObAll K A H1 v d :=
  ObAll.mono (fun _ z => z) (fun a xs _ e => GrowX.seqL g e fun z => z) (fun a xs e => GrowX.seqT g e) (fun a kvs _ e => g.extN _ _ e (fun _ z => by cases z)) d v h
theorem obs_sub {K : PySem.W.Frag} {A A' : Addr → Prop} {H : Hp} {v : List V} {d : List PyData} (h : ObAll K A H v d) (s : ∀ a, A a → A' a) : ObAll K A' H v d := ObAll.mono s (fun _ _ _ e => e) (fun _ _ e => e) (fun _ _ _ e => e) d v h
theorem ob_sub {K : PySem.W.Frag} {A A' : Addr → Prop} {H : Hp} {v : V} {d : PyData} (h : Ob K A H v d) (s : ∀ a, A a → A' a) : Ob K A' H v d := Ob.mono s (fun _ _ _ e => e) (fun _ _ e => e) (fun _ _ _ e => e) d v h
/-- new in H, and there in H' -/
abbrev Nw (H H' : Hp) : Addr → Prop := fun a => New H a ∧ H' a ≠ none
theorem nw_up {T : List (Addr × Str)} {A : Addr → Prop} {H H1 H2 : Hp} (g : Grow T H1 H2) : ∀ a, A a ∨ Nw H H1 a → A a ∨ Nw H H2 a := fun a z => z.imp id fun w => ⟨w.1, fun e => w.2 (g.keep _ e)⟩
mutual
theorem w_lit {A : Addr → Prop} (hE : EnvOk m X σ env A H0) : ∀ (e : Expr) (d : PyData) (H : Hp) (Q : VK), lit env e = some d → Grow m.T H0 H → (∀ v H', Grow m.T H H' → Ob m.K (fun a => A a ∨ Nw H H' a) H' v d → Q v H') → wE X e σ H Q
  | .Constant (.int i) _ _, d, H, Q, h, g0, q => by
    rw [lit] at h; cases h
    exact w_int (q _ _ GrowX.refl (.int i))
  | .Constant (.bool i) _ _, d, H, Q, h, g0, q => by
    rw [lit] at h; cases h
    exact w_bl (q _ _ GrowX.refl (.bl i))
  | .Constant .none _ _, d, H, Q, h, g0, q => by
    rw [lit] at h; cases h
    exact w_non (q _ _ GrowX.refl .non)
  | .Constant (.str z) _ _, d, H, Q, h, g0, q => by
    rw [lit] at h
    split at h
    · cases h
      refine w_str (q _ _ GrowX.refl (.str z ?_))
      rw [sizeLine_eq]; omega
    · cases h
  | .Name x _, d, H, Q, h, g0, q => by
    rw [lit] at h
    obtain ⟨v, o, r⟩ := hE x d _ h
    refine r H Q (q v H GrowX.refl ?_)
    exact Ob.mono (fun _ z => .inl z) (fun a xs _ e => GrowX.seqL g0 e fun z => z) (fun a xs e => GrowX.seqT g0 e) (fun a kvs _ e => g0.extN _ _ e (fun _ z => by cases z)) d v o
  | .Tuple es _ _, d, H, Q, h, g0, q => by
    rw [lit] at h
    obtain ⟨ds, h1, h2⟩ := Option.bind_eq_some_iff.1 h
    split at h2
    · rename_i hl
      cases h2
      refine w_tup (w_lits hE es ds H _ h1 g0 fun vs H' g o => ⟨by rw [o.length, sizeLine_eq]; omega, fun p hp => ?_⟩)
      have gn := Grow.new (T := m.T) (o := .tup vs) hp
      exact q _ _ (g.trans gn) (.tup (SqT.of upd_same) (obs_sub (grow_obs gn o) (nw_up gn)))
    · cases h2
  | .List es _, d, H, Q, h, g0, q => by
    rw [lit] at h
    obtain ⟨ds, h1, h2⟩ := Option.bind_eq_some_iff.1 h
    split at h2
    · rename_i hl
      cases h2
      refine w_lst (w_lits hE es ds H _ h1 g0 fun vs H' g o => ⟨by rw [o.length, sizeLine_eq]; omega, fun p hp => ?_⟩)
      have gn := Grow.new (T := m.T) (o := .lst vs) hp
      exact q _ _ (g.trans gn) (.lst (.inr ⟨g.keep _ hp, by rw [upd_same]; exact fun z => by cases z⟩) (SqL.of upd_same) (obs_sub (grow_obs gn o) (nw_up gn)) (by rw [o.length]; omega))
    · cases h2
  | .UnaryOp op e _, d, H, Q, h, g0, q => by
    obtain ⟨i, k, ps, rfl, rfl, rfl⟩ := lit_neg h
    exact w_neg (w_int ⟨i, rfl, q _ _ GrowX.refl (.int (-i))⟩)
  | .Constant (.float _) _ _, d, H, Q, h, g0, q => by simp [lit] at h
  | .Constant (.complex _ _) _ _, d, H, Q, h, g0, q => by simp [lit] at h
  | .Constant (.bytes _) _ _, d, H, Q, h, g0, q => by simp [lit] at h
  | .Constant .ellipsis _ _, d, H, Q, h, g0, q => by simp [lit] at h
  | .BoolOp .., d, H, Q, h, g0, q => by simp [lit] at h
  | .NamedExpr .., d, H, Q, h, g0, q => by simp [lit] at h
  | .BinOp .., d, H, Q, h, g0, q => by simp [lit] at h
  | .Lambda .., d, H, Q, h, g0, q => by simp [lit] at h
  | .IfExp .., d, H, Q, h, g0, q => by simp [lit] at h
  | .Dict ks [] _, d, H, Q, h, g0, q => by
    obtain ⟨rfl, rfl⟩ := lit_d0 h
    refine toE pe_dnewK fun p hp => ?_
    exact q _ _ (Grow.new hp) (.dct (.inr ⟨hp, by rw [upd_same]; exact fun z => by cases z⟩) upd_same)
  | .Dict ks [e] _, d, H, Q, h, g0, q => by
    obtain ⟨⟨z, k, ps, rfl⟩, ⟨d', h1⟩, rfl⟩ := lit_d1 h
    refine toE (pe_disp (pps_cons (cE (e := .Constant (.str z) k ps)) (cE (e := e)) pps_nil) rfl rfl (by simp) (show 1 ≤ 15 by decide)) fun p hp => ?_
    have g1 := Grow.new (T := m.T) (o := .dK []) hp
    refine w_str ?_
    refine w_lit hE e d' _ _ h1 (g0.trans g1) fun v H1 g2 _ => ?_
    have h2 : H1 p = some (.dK []) := g2.extN _ _ upd_same (fun _ w => by cases w)
    refine ⟨h2, [(.inr z, v)], rfl, by simp, ?_⟩
    have gX : GrowX m.T (· = p) H1 (upd H1 p (.dK (mergeK [] [(.inr z, v)]))) := GrowX.set rfl h2 (fun _ z => by cases z) (fun _ z => by unfold CodeO at z; cases z) (fun _ z => by cases z) (fun _ _ z => by cases z)
    exact q _ _ (Grow.intoNew (g1.trans g2) gX fun c w => by rw [w]; exact hp) (.dct (.inr ⟨hp, by rw [upd_same]; exact fun z => by cases z⟩) upd_same)
  | .Dict ks (e :: e2 :: es) _, d, H, Q, h, g0, q => (lit_d2 h).elim
  | .Set .., d, H, Q, h, g0, q => by simp [lit] at h
  | .ListComp .., d, H, Q, h, g0, q => by simp [lit] at h
  | .SetComp .., d, H, Q, h, g0, q => by simp [lit] at h
  | .DictComp .., d, H, Q, h, g0, q => by simp [lit] at h
  | .GeneratorExp .., d, H, Q, h, g0, q => by simp [lit] at h
  | .Await .., d, H, Q, h, g0, q => by simp [lit] at h
  | .Yield .., d, H, Q, h, g0, q => by simp [lit] at h
  | .YieldFrom .., d, H, Q, h, g0, q => by simp [lit] at h
  | .Compare .., d, H, Q, h, g0, q => by simp [lit] at h
  | .Call .., d, H, Q, h, g0, q => by simp [lit] at h
  | .FormattedValue .., d, H, Q, h, g0, q => by simp [lit] at h
  | .JoinedStr .., d, H, Q, h, g0, q => by simp [lit] at h
  | .Attribute .., d, H, Q, h, g0, q => by simp [lit] at h
  | .Subscript .., d, H, Q, h, g0, q => by simp [lit] at h
  | .Starred .., d, H, Q, h, g0, q => by simp [lit] at h
  | .Slice .., d, H, Q, h, g0, q => by simp [lit] at h
theorem w_lits {A : Addr → Prop} (hE : EnvOk m X σ env A H0) : ∀ (es : List Expr) (ds : List PyData) (H : Hp) (Q : List V → Hp → Prop), lits env es = some ds → Grow m.T H0 H → (∀ vs H', Grow m.T H H' → ObAll m.K (fun a => A a ∨ Nw H H' a) H' vs ds → Q vs H') → wA X es σ H Q
  | [], ds, H, Q, h, g0, q => by
    rw [lits] at h; cases h
    exact w_nil (q [] H GrowX.refl .nil)
  | e :: es, ds, H, Q, h, g0, q => by
    rw [lits] at h
    obtain ⟨d, h1, h2⟩ := Option.bind_eq_some_iff.1 h
    obtain ⟨ds', h3, rfl⟩ := Option.map_eq_some_iff.1 h2
    refine w_cons (w_lit hE e d H _ h1 g0 fun v H1 g1 o => ?_) (starPlain h1)
    refine w_lits hE es ds' H1 _ h3 (g0.trans g1) fun vs H2 g2 os => ?_
    refine q (v :: vs) H2 (g1.trans g2) (.cons (ob_sub (grow_ob g2 o) (nw_up g2)) (obs_sub os fun a z => ?_))
    rcases z with z | z
    · exact .inl z
    · exact .inr ⟨g1.keep _ z.1, z.2⟩
end
end
end Vf
set_option maxRecDepth 100000
set_option maxHeartbeats 4000000
/-! Zs: while, zip, reversed slices, range of two, properties. Own work. -/
namespace Vf
open PySem PySem.Spec PyProof.Rows L2 LamX
section
variable {m : Md} {N : List Str} {sc scope : Scope} {i j k : Nat} {X : Cx} {a b c e e2 o elt : Expr} {es : List Expr} {σ : L2.St} {H : Hp} {Q : VK} {pos p p1 p2 p3 tpos : Pos} {x y : Str} {body : List Stmt} {nx : L2.St → Hp → Prop} {rt : VK} {bk ct : L2.St → Hp → Prop}
/-- while c: body, by a measure; what is wanted of a turn is written out -/
theorem s_while (h : At m N sc k X) (q : ∃ (Pv : L2.St → Hp → Prop) (μ : L2.St → Hp → Nat), Pv σ H ∧ ∀ σ H, Pv σ H → wT X c σ H fun b H1 => if b = true then wB X body ⟨fun σ' H' => Pv σ' H' ∧ μ σ' H' < μ σ H, rt, nx, fun σ' H' => Pv σ' H' ∧ μ σ' H' < μ σ H⟩ σ H1 else nx σ H1) : wS X (.While c body [] pos) ⟨nx, rt, bk, ct⟩ σ H := by
  refine toS (ps_while h.pass cT cB) ?_
  obtain ⟨Pv, μ, h0, hs⟩ := q
  refine ⟨fun n σ H => n = μ σ H ∧ Pv σ H, ⟨_, rfl, h0⟩, ?_⟩
  rintro n σ H ⟨rfl, p⟩
  have t := hs σ H p
  unfold wT at t ⊢
  refine fun pins s I => wpAny_mono (t pins s I) (fun v s' z => ?_) fun _ _ z => z
  obtain ⟨H1, I1, q1⟩ := z
  refine ⟨H1, I1, ?_⟩
  cases v with
  | true => exact ⟨fun σ' H' => Pv σ' H' ∧ μ σ' H' < μ σ H, fun σ' H' ⟨p', l⟩ => ⟨_, l, rfl, p'⟩, q1⟩
  | false => exact q1
/-- for t in zip(e, e2), of two lists of one length that stand still -/
theorem s_forZ {elts : List Expr} {kk : Nat} {g : TG} {po : Pos} (h : At m N sc k X) (hg : PG X (.Tuple elts kk tpos) g) (hm : m.mg "zip" = none) (hgl : sc.names.lookup ("zip" : Str) = some .globalImplicit)
    (q : wA X [e, e2] σ H fun vs H1 => ∃ (a b : Addr) (xs ys : List V), vs = [.ref a, .ref b] ∧ SqL m.K H1 a xs ∧ SqL m.K H1 b ys ∧ xs.length = ys.length ∧ ∃ Pv : Nat → L2.St → Hp → Prop, Pv 0 σ H1 ∧ (∀ i σ H, Pv i σ H → SqL m.K H a xs ∧ SqL m.K H b ys) ∧
      (∀ (i : Nat) (x y : V) (T : Addr) (σ : L2.St) (H : Hp), xs[i]? = some x → ys[i]? = some y → Pv i σ H → H T = none → g (.ref T) σ (upd H T (.tup [x, y])) fun σ2 H2 => wB X body ⟨Pv (i + 1), rt, nx, Pv (i + 1)⟩ σ2 H2) ∧ ∀ σ H, Pv xs.length σ H → nx σ H)
    (hs : starEach [e, e2] X.env = (false, eval e X.env) :: starEach [e2] X.env := by with_unfolding_all rfl) (hpl : (backTo p2 (starEach [e2] X.env)).any (·.1) = false := by with_unfolding_all rfl)
    (hf : ∀ x, foldedSetIterable (.Call (.Name "zip" p1) [e, e2] [] p2) X.env x = pure x := by with_unfolding_all (intro _; rfl)) : wS X (.For (.Tuple elts kk tpos) (.Call (.Name "zip" p1) [e, e2] [] p2) body [] po) ⟨nx, rt, bk, ct⟩ σ H := by
  refine toS (ps_for h.pass h.calm (pi_zip (h.gl hgl) (by rw [h.mm]; exact hm) (cA (es := [e, e2])) hs hpl) hg cB hf) ?_
  unfold wA at q ⊢
  refine fun pos pins s I => wpAny_mono (q pos pins s I) (fun v s' z => ?_) fun _ _ z => z
  obtain ⟨vs, H1, I1, r1, a, b, xs, ys, ev, ha, hb, hl, Pv, p0, hq, turn, fin⟩ := z
  exact ⟨vs, H1, I1, r1, a, b, xs, ys, ev, by rw [h.kk]; exact ha, by rw [h.kk]; exact hb, RZ.for_zipL (K := X.K) hl Pv p0 (fun i σ H z => by rw [h.kk]; exact hq i σ H z) turn fin⟩
/-- e[::-1] of a list -/
theorem w_rev {k1 : Nat} (h : At m N sc k X) (q : wE X e σ H fun x H1 => ∃ (a : Addr) (xs : List V), x = .ref a ∧ SqL m.K H1 a xs ∧ ∀ p, H1 p = none → Q (.ref p) (upd H1 p (.lst xs.reverse))) :
    wE X (.Subscript e (.Slice none none (some (.UnaryOp .USub (.Constant (.int 1) k1 p1) p2)) p3) pos) σ H Q := by
  refine toE (pe_revL cE) ?_
  exact wE.mono q fun x H1 ⟨a, xs, ea, hs, q1⟩ => ⟨a, xs, ea, by rw [h.kk]; exact hs, q1⟩
/-- [elt for x in range(a, b)] -/
theorem w_lcR2 (h : At m N sc k X) (hm : m.mg "range" = none) (hgl : sc.names.lookup ("range" : Str) = some .globalImplicit) (ok : blkC N sc scope [(x, i)] = true) (n : NL N (relS scope sc) i x)
    (q : wA X [a, b] σ H fun vs H1 => ∃ z w : Int, vs = [.int z, .int w] ∧ (-(2 ^ 62) ≤ z ∧ z < 2 ^ 62 ∧ -(2 ^ 62) ≤ w ∧ w < 2 ^ 62) ∧ ∀ D, H1 D = none → ∃ Pv : Nat → Hp → Prop, Pv 0 (upd H1 D (.lst [])) ∧
      (∀ j H, j < (w - z).toNat → Pv j H → ∀ X', At m N (relS scope sc) k X' → wE X' elt (σ.set i (some (.int (z + j)))) H (App D (Pv (j + 1)))) ∧ ∀ H, Pv (w - z).toNat H → Q (.ref D) H)
    (hst : starEach [a, b] X.env = [(false, eval a X.env), (false, eval b X.env)] := by with_unfolding_all rfl) (hst2 : starEach [b] X.env = [(false, eval b X.env)] := by with_unfolding_all rfl) (hs : ∀ x, foldedSetIterable (.Call (.Name "range" p2) [a, b] [] p3) X.env x = pure x := by with_unfolding_all (intro _; rfl)) : wE X (.ListComp elt [⟨.Name x p1, .Call (.Name "range" p2) [a, b] [] p3, [], 0⟩] scope pos) σ H Q := by
  refine toE (pe_lc (own := [(x, i)]) (g := gName i) (tt := tYes) (te := inBlk m N (relS scope sc) k elt) h.calm (by rw [h.nn]; exact h.nd) (pi_range2 (h.gl hgl) (by rw [h.mm]; exact hm) (cA (es := [a, b])) hst hst2) (by rw [h.nn, h.ss]; exact blkOk_by ok) (fun s H C cl fp => pg_nl (blk_at h s H C cl fp) n) (fun _ _ _ _ _ => pts_nil) (fun s H C cl fp => blk_pe h s H C cl fp) hs) ?_
  unfold wA at q ⊢
  refine fun pos pins s I => wpAny_mono (q pos pins s I) (fun v s' z => ?_) fun _ _ z => z
  obtain ⟨vs, H1, I1, r1, z, w, ev, hb, go⟩ := z
  refine ⟨vs, H1, I1, r1, z, w, ev, hb, fun D hD => ?_⟩
  obtain ⟨Pv, p0, turn, fin⟩ := go D hD
  refine lc_range (lo := z) (n := (w - z).toNat) (g := gName i) (tt := tYes) (te := inBlk m N (relS scope sc) k elt) (vs := [i]) (σ := σ) Pv p0 (fun j H hj hp => ?_) fin
  refine ⟨by rw [wipe1]; simp [wipe, List.set_set], ?_⟩
  unfold tYes
  refine iteT fun X' hX' => ?_
  rw [set_wipe]
  exact turn j H hj hp X' hX'
/-- e.f, a property whose getter keeps sp -/
theorem w_prop {f : Str} {C q g : Addr} {fd : FuncData} {ps : List Str} {sp : Sp} (h : At m N sc k X) (c : Cls m.K C) (hp : PropOf m.K C f q g) (F : FnG m C8.CX0 j g fd ps sp) (hb : L2.Binds m.K fd ps []) (hk : j + 1 ≤ k)
    (z : wE X e σ H fun x H1 => ∃ a dx fs, x = .ref a ∧ H1 a = some (.ins C dx fs) ∧ sp [.ref a] H1 Q C8.E0)
    (hab : attributeBase e f X.env (eval e X.env) = eval e X.env := by with_unfolding_all rfl) : wE X (.Attribute e f pos) σ H Q := by
  unfold wE
  intro pins s I
  refine attr_of hab (thn ((cE (X := X) (e := e)).run pins s σ H _ I z) fun u s1 ⟨x, H1, I1, rx, a, dx, fs, ex, ea, q1⟩ => ?_)
  subst ex
  obtain rfl : u = Value.ref a := rx
  obtain ⟨mA, O, _, _, _, _⟩ := ins_get I1.hok ea
  obtain ⟨od, J, _⟩ := O.look
  obtain ⟨rest, hrec⟩ := hp.rec_
  have I2 := I1.tok (s1.toks + 1)
  have c' : Cls X.K C := by rw [h.kk]; exact c
  have hc : (PySem.W.clsIn X.K C).isSome = true := by
    obtain ⟨cd, hc, _⟩ := PySem.W.any_some c'.hd
    rw [hc]; rfl
  refine PySem.W.get_bind I1.kIn J (PySem.W.plainGet_of (c'.get f)).1 (PySem.W.findObj_data hc (by rw [h.kk]; exact hp.at_) (by rw [h.kk]; exact hp.get) (by rw [h.kk]; exact hp.tak)) (PySem.W.plainGet_of (c'.get f)).2 (wpAny_call (PySem.W.prop_get (s := { s1 with toks := s1.toks + 1 }) I1.kIn (by rw [h.kk]; exact hrec) ?_))
  have e0 := I2.env0.in1
  rw [h.pp, h.ww, h.kk, h.mm, h.bb] at e0
  have hl : [Value.ref a].length = ps.length := by
    rw [← F.len _ _ _ _ q1]; rfl
  have rc := F.run X.A.in1 X.stack { s1 with toks := s1.toks + 1 } H1 ⟨[.ref a], []⟩ [.ref a] [.ref a] Q C8.E0 (by exact h.gd) ((h.room.mono hk).in1) e0 (by have := hb { s1 with toks := s1.toks + 1 } [.ref a] (by rw [← h.kk]; exact I2.kIn) (by simpa using hl); simpa using this) (.cons rfl .nil) q1
  rw [← h.pp, ← h.ww] at rc
  refine codeAny_mono rc fun r s' hq => ?_
  match r, hq with
  | .error er, hq => exact hq.elim
  | .ok (.ret u), hq =>
    obtain ⟨v, H', I3, rv, q3⟩ := I2.after hq
    show wpAny _ _ (handedOut u) _ _ _
    rw [PySem.W.handedOut_of (handed_of rv)]
    exact wpAny_pure ⟨v, H', I3, rv, q3⟩
end
end Vf
namespace Vf
open PySem PySem.Spec PyProof.Rows L2 LamX
local macro_rules | `(tactic| walk_at "v") => `(tactic| first
  | ((with_reducible show wE _ _ _ _ _); first
      | with_reducible refine w_int ?_
      | with_reducible refine w_str ?_
      | with_reducible refine w_bl ?_
      | with_reducible refine w_non ?_
      | ((with_reducible refine' w_nl ?h ?n ?s ?q); (case h => with_reducible assumption); (case n => with_reducible assumption); (case s => rfl))
      | ((with_reducible refine' w_nc ?h ?n ?s ?q); (case h => with_reducible assumption); (case n => with_reducible assumption); (case s => rfl))
      | ((with_reducible refine' w_nf ?h ?n ?s ?q); (case h => with_reducible assumption); (case n => with_reducible assumption); (case s => rfl))
      | with_reducible refine g_bin ?_
      | with_reducible refine g_ix ?_
      | with_reducible refine w_lst ?_
      | with_reducible refine w_tup ?_
      | with_reducible refine g_cmp ?_
      | with_reducible refine w_if ?_
      | with_reducible refine w_not ?_
      | with_reducible refine w_and ?_
      | with_reducible refine w_or ?_
      | with_reducible refine w_one ?_
      | with_reducible refine w_neg ?_)
  | ((with_reducible show wA _ _ _ _ _); first
      | with_reducible refine w_nil ?_
      | with_reducible refine w_cons ?_)
  | ((with_reducible show gOp _ _ _ _ _ _); first
      | with_reducible refine g_addI ?_
      | with_reducible refine g_subI ?_
      | with_reducible refine g_gtI ?_
      | with_reducible refine g_ltI ?_
      | with_reducible refine g_leI ?_
      | with_reducible refine g_geI ?_
      | with_reducible refine g_eqI ?_
      | with_reducible refine g_neI ?_
      | with_reducible refine g_isN ?_
      | with_reducible refine g_notN ?_
      | with_reducible refine g_eqS ?_
      | with_reducible refine g_neS ?_)
  | ((with_reducible show wS _ _ _ _ _); first
      | with_reducible refine s_ret ?_
      | with_reducible refine s_if ?_
      | with_reducible refine s_expr ?_
      | ((with_reducible refine' s_nl ?h ?n ?q); (case h => with_reducible assumption); (case n => with_reducible assumption))
      | with_reducible refine s_subL ?_
      | with_reducible refine s_retN ?_)
  | ((with_reducible show wB _ _ _ _ _); first
      | with_reducible refine b_nil ?_
      | with_reducible refine b_one ?_
      | with_reducible refine b_cons ?_)
  | ((with_reducible show wT _ _ _ _ _); first
      | with_reducible refine gt_cmp ?_
      | with_reducible refine t_not ?_
      | with_reducible refine t_and ?_
      | with_reducible refine t_or ?_
      | with_reducible refine gt_tru ?_)
  | ((with_reducible show gTru _ _ _ _); first
      | with_reducible refine g_truB ?_)
  | ((with_reducible show wW _ _ _ _ _); first
      | with_reducible refine k_and ?_
      | with_reducible refine k_or ?_
      | with_reducible refine k_and1 ?_
      | with_reducible refine k_or1 ?_)
  | with_reducible refine ⟨_, rfl, ?_⟩)
local macro_rules | `(tactic| walk_at "e") => `(tactic| first
  | ((with_reducible show wE _ _ _ _ _); first
      | with_reducible refine w_int ?_
      | with_reducible refine w_str ?_
      | with_reducible refine w_bl ?_
      | with_reducible refine w_non ?_
      | ((with_reducible refine' w_nl ?h ?n ?s ?q); (case h => with_reducible assumption); (case n => with_reducible assumption); (case s => rfl))
      | ((with_reducible refine' w_nc ?h ?n ?s ?q); (case h => with_reducible assumption); (case n => with_reducible assumption); (case s => rfl))
      | ((with_reducible refine' w_nf ?h ?n ?s ?q); (case h => with_reducible assumption); (case n => with_reducible assumption); (case s => rfl))
      | with_reducible refine g_bin ?_
      | with_reducible refine g_ix ?_
      | with_reducible refine w_lst ?_
      | with_reducible refine w_tup ?_
      | with_reducible refine g_cmp ?_
      | with_reducible refine w_if ?_
      | with_reducible refine w_not ?_
      | with_reducible refine w_and ?_
      | with_reducible refine w_or ?_
      | with_reducible refine w_one ?_
      | with_reducible refine w_neg ?_)
  | ((with_reducible show wA _ _ _ _ _); first
      | with_reducible refine w_nil ?_
      | with_reducible refine w_cons ?_)
  | ((with_reducible show gOp _ _ _ _ _ _); first
      | with_reducible refine g_addI ?_
      | with_reducible refine g_subI ?_
      | with_reducible refine g_gtI ?_
      | with_reducible refine g_ltI ?_
      | with_reducible refine g_leI ?_
      | with_reducible refine g_geI ?_
      | with_reducible refine g_eqI ?_
      | with_reducible refine g_neI ?_
      | with_reducible refine g_isN ?_
      | with_reducible refine g_notN ?_
      | with_reducible refine g_eqS ?_
      | with_reducible refine g_neS ?_)
  | ((with_reducible show wT _ _ _ _ _); first
      | with_reducible refine gt_cmp ?_
      | with_reducible refine t_not ?_
      | with_reducible refine t_and ?_
      | with_reducible refine t_or ?_
      | with_reducible refine gt_tru ?_)
  | ((with_reducible show gTru _ _ _ _); first
      | with_reducible refine g_truB ?_)
  | ((with_reducible show wW _ _ _ _ _); first
      | with_reducible refine k_and ?_
      | with_reducible refine k_or ?_
      | with_reducible refine k_and1 ?_
      | with_reducible refine k_or1 ?_)
  | with_reducible refine ⟨_, rfl, ?_⟩)
local macro_rules | `(tactic| walk_at "E") => `(tactic| repeat (walk_at "e"))
local macro_rules | `(tactic| walk_at "V") => `(tactic| repeat (walk_at "v"))
local macro_rules | `(tactic| walk_at "B") => `(tactic| first | refine b_cons ?_ | refine b_one ?_)
local macro_rules | `(tactic| walk_at "S") => `(tactic| (simp only [List.length_cons, List.length_nil, List.length_append, List.length_map, sizeLine_eq] <;> omega))
def top (i : Nat) : Stmt := PySem.Challenge.pw_leafwaits_k94_whole_texts_of_all_small_t.main.body.getD i (.Pass ⟨0, 0, 0, 0⟩)
abbrev st_InvalidTerm_init : Stmt := inClass (top 2) 0
abbrev nl_InvalidTerm_init : List Str := ["self", "value"]
abbrev ps_InvalidTerm_init : List Str := ["self", "value"]
theorem sc_InvalidTerm_init : FnScope nl_InvalidTerm_init ps_InvalidTerm_init (C8.fnScope st_InvalidTerm_init) := ⟨rfl, rfl, rfl, by decide +kernel, rfl, by decide +kernel, by decide +kernel⟩
-- 0:self 1:value
theorem nv_InvalidTerm_init : NL nl_InvalidTerm_init (C8.fnScope st_InvalidTerm_init) 0 "self" ∧ NL nl_InvalidTerm_init (C8.fnScope st_InvalidTerm_init) 1 "value" := ⟨⟨rfl, rfl⟩, ⟨rfl, rfl⟩⟩
abbrev st_InvalidRule_init : Stmt := inClass (top 3) 0
abbrev nl_InvalidRule_init : List Str := ["self", "value"]
abbrev ps_InvalidRule_init : List Str := ["self", "value"]
theorem sc_InvalidRule_init : FnScope nl_InvalidRule_init ps_InvalidRule_init (C8.fnScope st_InvalidRule_init) := ⟨rfl, rfl, rfl, by decide +kernel, rfl, by decide +kernel, by decide +kernel⟩
-- 0:self 1:value
theorem nv_InvalidRule_init : NL nl_InvalidRule_init (C8.fnScope st_InvalidRule_init) 0 "self" ∧ NL nl_InvalidRule_init (C8.fnScope st_InvalidRule_init) 1 "value" := ⟨⟨rfl, rfl⟩, ⟨rfl, rfl⟩⟩
abbrev st_InvalidText_init : Stmt := inClass (top 4) 0
abbrev nl_InvalidText_init : List Str := ["self", "value"]
abbrev ps_InvalidText_init : List Str := ["self", "value"]
theorem sc_InvalidText_init : FnScope nl_InvalidText_init ps_InvalidText_init (C8.fnScope st_InvalidText_init) := ⟨rfl, rfl, rfl, by decide +kernel, rfl, by decide +kernel, by decide +kernel⟩
-- 0:self 1:value
theorem nv_InvalidText_init : NL nl_InvalidText_init (C8.fnScope st_InvalidText_init) 0 "self" ∧ NL nl_InvalidText_init (C8.fnScope st_InvalidText_init) 1 "value" := ⟨⟨rfl, rfl⟩, ⟨rfl, rfl⟩⟩
abbrev st_is_whole : Stmt := top 7
abbrev nl_is_whole : List Str := ["value"]
abbrev ps_is_whole : List Str := ["value"]
theorem sc_is_whole : FnScope nl_is_whole ps_is_whole (C8.fnScope st_is_whole) := ⟨rfl, rfl, rfl, by decide +kernel, rfl, by decide +kernel, by decide +kernel⟩
-- 0:value
theorem nv_is_whole : NL nl_is_whole (C8.fnScope st_is_whole) 0 "value" := ⟨rfl, rfl⟩
abbrev st_is_name : Stmt := top 8
abbrev nl_is_name : List Str := ["value", "sign"]
abbrev ps_is_name : List Str := ["value"]
theorem sc_is_name : FnScope nl_is_name ps_is_name (C8.fnScope st_is_name) := ⟨rfl, rfl, rfl, by decide +kernel, rfl, by decide +kernel, by decide +kernel⟩
-- 0:value
theorem nv_is_name : NL nl_is_name (C8.fnScope st_is_name) 0 "value" := ⟨rfl, rfl⟩
abbrev st_is_term : Stmt := top 10
abbrev nl_is_term : List Str := ["value", "word"]
abbrev ps_is_term : List Str := ["value"]
theorem sc_is_term : FnScope nl_is_term ps_is_term (C8.fnScope st_is_term) := ⟨rfl, rfl, rfl, by decide +kernel, rfl, by decide +kernel, by decide +kernel⟩
-- 0:value 1:word
theorem nv_is_term : NL nl_is_term (C8.fnScope st_is_term) 0 "value" ∧ NL nl_is_term (C8.fnScope st_is_term) 1 "word" := ⟨⟨rfl, rfl⟩, ⟨rfl, rfl⟩⟩
abbrev st_x_is_term_list : Stmt := top 11
abbrev nl_x_is_term_list : List Str := ["value", "term"]
abbrev ps_x_is_term_list : List Str := ["value"]
theorem sc_x_is_term_list : FnScope nl_x_is_term_list ps_x_is_term_list (C8.fnScope st_x_is_term_list) := ⟨rfl, rfl, rfl, by decide +kernel, rfl, by decide +kernel, by decide +kernel⟩
-- 0:value
theorem nv_x_is_term_list : NL nl_x_is_term_list (C8.fnScope st_x_is_term_list) 0 "value" := ⟨rfl, rfl⟩
abbrev st_is_part : Stmt := top 12
abbrev nl_is_part : List Str := ["term"]
abbrev ps_is_part : List Str := ["term"]
theorem sc_is_part : FnScope nl_is_part ps_is_part (C8.fnScope st_is_part) := ⟨rfl, rfl, rfl, by decide +kernel, rfl, by decide +kernel, by decide +kernel⟩
-- 0:term
theorem nv_is_part : NL nl_is_part (C8.fnScope st_is_part) 0 "term" := ⟨rfl, rfl⟩
abbrev st_with_terms : Stmt := top 13
abbrev nl_with_terms : List Str := ["term", "terms"]
abbrev ps_with_terms : List Str := ["term", "terms"]
theorem sc_with_terms : FnScope nl_with_terms ps_with_terms (C8.fnScope st_with_terms) := ⟨rfl, rfl, rfl, by decide +kernel, rfl, by decide +kernel, by decide +kernel⟩
-- 0:term 1:terms
theorem nv_with_terms : NL nl_with_terms (C8.fnScope st_with_terms) 0 "term" ∧ NL nl_with_terms (C8.fnScope st_with_terms) 1 "terms" := ⟨⟨rfl, rfl⟩, ⟨rfl, rfl⟩⟩
abbrev st_rebuilt : Stmt := top 14
abbrev nl_rebuilt : List Str := ["term", "change", "inner"]
abbrev ps_rebuilt : List Str := ["term", "change"]
theorem sc_rebuilt : FnScope nl_rebuilt ps_rebuilt (C8.fnScope st_rebuilt) := ⟨rfl, rfl, rfl, by decide +kernel, rfl, by decide +kernel, by decide +kernel⟩
-- 0:term 1:change*
theorem nv_rebuilt : NL nl_rebuilt (C8.fnScope st_rebuilt) 0 "term" ∧ NC nl_rebuilt (C8.fnScope st_rebuilt) 1 "change" := ⟨⟨rfl, rfl⟩, ⟨rfl, rfl⟩⟩
abbrev st_copied : Stmt := top 15
abbrev nl_copied : List Str := ["term"]
abbrev ps_copied : List Str := ["term"]
theorem sc_copied : FnScope nl_copied ps_copied (C8.fnScope st_copied) := ⟨rfl, rfl, rfl, by decide +kernel, rfl, by decide +kernel, by decide +kernel⟩
-- 0:term
theorem nv_copied : NL nl_copied (C8.fnScope st_copied) 0 "term" := ⟨rfl, rfl⟩
abbrev st_Rule_init : Stmt := inClass (top 17) 0
abbrev nl_Rule_init : List Str := ["self", "term"]
abbrev ps_Rule_init : List Str := ["self", "term"]
theorem sc_Rule_init : FnScope nl_Rule_init ps_Rule_init (C8.fnScope st_Rule_init) := ⟨rfl, rfl, rfl, by decide +kernel, rfl, by decide +kernel, by decide +kernel⟩
-- 0:self 1:term
theorem nv_Rule_init : NL nl_Rule_init (C8.fnScope st_Rule_init) 0 "self" ∧ NL nl_Rule_init (C8.fnScope st_Rule_init) 1 "term" := ⟨⟨rfl, rfl⟩, ⟨rfl, rfl⟩⟩
abbrev st_Rule_term : Stmt := inClass (top 17) 1
abbrev nl_Rule_term : List Str := ["self"]
abbrev ps_Rule_term : List Str := ["self"]
theorem sc_Rule_term : FnScope nl_Rule_term ps_Rule_term (C8.fnScope st_Rule_term) := ⟨rfl, rfl, rfl, by decide +kernel, rfl, by decide +kernel, by decide +kernel⟩
-- 0:self
theorem nv_Rule_term : NL nl_Rule_term (C8.fnScope st_Rule_term) 0 "self" := ⟨rfl, rfl⟩
abbrev st_Rule_eq : Stmt := inClass (top 17) 2
abbrev nl_Rule_eq : List Str := ["self", "other"]
abbrev ps_Rule_eq : List Str := ["self", "other"]
theorem sc_Rule_eq : FnScope nl_Rule_eq ps_Rule_eq (C8.fnScope st_Rule_eq) := ⟨rfl, rfl, rfl, by decide +kernel, rfl, by decide +kernel, by decide +kernel⟩
-- 0:self 1:other
theorem nv_Rule_eq : NL nl_Rule_eq (C8.fnScope st_Rule_eq) 0 "self" ∧ NL nl_Rule_eq (C8.fnScope st_Rule_eq) 1 "other" := ⟨⟨rfl, rfl⟩, ⟨rfl, rfl⟩⟩
abbrev st_need_rule : Stmt := top 18
abbrev nl_need_rule : List Str := ["rule"]
abbrev ps_need_rule : List Str := ["rule"]
theorem sc_need_rule : FnScope nl_need_rule ps_need_rule (C8.fnScope st_need_rule) := ⟨rfl, rfl, rfl, by decide +kernel, rfl, by decide +kernel, by decide +kernel⟩
-- 0:rule
theorem nv_need_rule : NL nl_need_rule (C8.fnScope st_need_rule) 0 "rule" := ⟨rfl, rfl⟩
abbrev st_whole_in : Stmt := top 20
abbrev nl_whole_in : List Str := ["text", "digits"]
abbrev ps_whole_in : List Str := ["text"]
theorem sc_whole_in : FnScope nl_whole_in ps_whole_in (C8.fnScope st_whole_in) := ⟨rfl, rfl, rfl, by decide +kernel, rfl, by decide +kernel, by decide +kernel⟩
-- 0:text 1:digits
theorem nv_whole_in : NL nl_whole_in (C8.fnScope st_whole_in) 0 "text" ∧ NL nl_whole_in (C8.fnScope st_whole_in) 1 "digits" := ⟨⟨rfl, rfl⟩, ⟨rfl, rfl⟩⟩
abbrev st_term_in : Stmt := top 21
abbrev nl_term_in : List Str := ["text", "found"]
abbrev ps_term_in : List Str := ["text"]
theorem sc_term_in : FnScope nl_term_in ps_term_in (C8.fnScope st_term_in) := ⟨rfl, rfl, rfl, by decide +kernel, rfl, by decide +kernel, by decide +kernel⟩
-- 0:text 1:found
theorem nv_term_in : NL nl_term_in (C8.fnScope st_term_in) 0 "text" ∧ NL nl_term_in (C8.fnScope st_term_in) 1 "found" := ⟨⟨rfl, rfl⟩, ⟨rfl, rfl⟩⟩
abbrev st_x_term_at : Stmt := top 22
abbrev nl_x_term_at : List Str := ["text", "at", "word", "behind", "name", "found"]
abbrev ps_x_term_at : List Str := ["text", "at"]
theorem sc_x_term_at : FnScope nl_x_term_at ps_x_term_at (C8.fnScope st_x_term_at) := ⟨rfl, rfl, rfl, by decide +kernel, rfl, by decide +kernel, by decide +kernel⟩
-- 0:text 1:at 2:word 3:behind 4:name 5:found
theorem nv_x_term_at : NL nl_x_term_at (C8.fnScope st_x_term_at) 0 "text" ∧ NL nl_x_term_at (C8.fnScope st_x_term_at) 1 "at" ∧ NL nl_x_term_at (C8.fnScope st_x_term_at) 2 "word" ∧ NL nl_x_term_at (C8.fnScope st_x_term_at) 3 "behind" ∧ NL nl_x_term_at (C8.fnScope st_x_term_at) 4 "name" ∧ NL nl_x_term_at (C8.fnScope st_x_term_at) 5 "found" := ⟨⟨rfl, rfl⟩, ⟨rfl, rfl⟩, ⟨rfl, rfl⟩, ⟨rfl, rfl⟩, ⟨rfl, rfl⟩, ⟨rfl, rfl⟩⟩
abbrev st_x_letters_at : Stmt := top 23
abbrev nl_x_letters_at : List Str := ["text", "at", "behind"]
abbrev ps_x_letters_at : List Str := ["text", "at"]
theorem sc_x_letters_at : FnScope nl_x_letters_at ps_x_letters_at (C8.fnScope st_x_letters_at) := ⟨rfl, rfl, rfl, by decide +kernel, rfl, by decide +kernel, by decide +kernel⟩
-- 0:text 1:at 2:behind
theorem nv_x_letters_at : NL nl_x_letters_at (C8.fnScope st_x_letters_at) 0 "text" ∧ NL nl_x_letters_at (C8.fnScope st_x_letters_at) 1 "at" ∧ NL nl_x_letters_at (C8.fnScope st_x_letters_at) 2 "behind" := ⟨⟨rfl, rfl⟩, ⟨rfl, rfl⟩, ⟨rfl, rfl⟩⟩
abbrev st_x_part_at : Stmt := top 24
abbrev nl_x_part_at : List Str := ["text", "at", "begin", "behind", "wait"]
abbrev ps_x_part_at : List Str := ["text", "at", "begin"]
theorem sc_x_part_at : FnScope nl_x_part_at ps_x_part_at (C8.fnScope st_x_part_at) := ⟨rfl, rfl, rfl, by decide +kernel, rfl, by decide +kernel, by decide +kernel⟩
-- 0:text 1:at 2:begin 3:behind 4:wait
theorem nv_x_part_at : NL nl_x_part_at (C8.fnScope st_x_part_at) 0 "text" ∧ NL nl_x_part_at (C8.fnScope st_x_part_at) 1 "at" ∧ NL nl_x_part_at (C8.fnScope st_x_part_at) 2 "begin" ∧ NL nl_x_part_at (C8.fnScope st_x_part_at) 3 "behind" ∧ NL nl_x_part_at (C8.fnScope st_x_part_at) 4 "wait" := ⟨⟨rfl, rfl⟩, ⟨rfl, rfl⟩, ⟨rfl, rfl⟩, ⟨rfl, rfl⟩, ⟨rfl, rfl⟩⟩
abbrev st_x_terms_at : Stmt := top 25
abbrev nl_x_terms_at : List Str := ["text", "at", "begin", "terms", "found"]
abbrev ps_x_terms_at : List Str := ["text", "at", "begin"]
theorem sc_x_terms_at : FnScope nl_x_terms_at ps_x_terms_at (C8.fnScope st_x_terms_at) := ⟨rfl, rfl, rfl, by decide +kernel, rfl, by decide +kernel, by decide +kernel⟩
-- 0:text 1:at 2:begin 3:terms 4:found
theorem nv_x_terms_at : NL nl_x_terms_at (C8.fnScope st_x_terms_at) 0 "text" ∧ NL nl_x_terms_at (C8.fnScope st_x_terms_at) 1 "at" ∧ NL nl_x_terms_at (C8.fnScope st_x_terms_at) 2 "begin" ∧ NL nl_x_terms_at (C8.fnScope st_x_terms_at) 3 "terms" ∧ NL nl_x_terms_at (C8.fnScope st_x_terms_at) 4 "found" := ⟨⟨rfl, rfl⟩, ⟨rfl, rfl⟩, ⟨rfl, rfl⟩, ⟨rfl, rfl⟩, ⟨rfl, rfl⟩⟩
abbrev st_rule_text : Stmt := top 27
abbrev nl_rule_text : List Str := ["rule"]
abbrev ps_rule_text : List Str := ["rule"]
theorem sc_rule_text : FnScope nl_rule_text ps_rule_text (C8.fnScope st_rule_text) := ⟨rfl, rfl, rfl, by decide +kernel, rfl, by decide +kernel, by decide +kernel⟩
-- 0:rule
theorem nv_rule_text : NL nl_rule_text (C8.fnScope st_rule_text) 0 "rule" := ⟨rfl, rfl⟩
abbrev st_x_term_text : Stmt := top 28
abbrev nl_x_term_text : List Str := ["term", "word", "name", "wait", "terms", "inner"]
abbrev ps_x_term_text : List Str := ["term"]
theorem sc_x_term_text : FnScope nl_x_term_text ps_x_term_text (C8.fnScope st_x_term_text) := ⟨rfl, rfl, rfl, by decide +kernel, rfl, by decide +kernel, by decide +kernel⟩
-- 0:term 1:word 2:name 3:wait 4:terms
theorem nv_x_term_text : NL nl_x_term_text (C8.fnScope st_x_term_text) 0 "term" ∧ NL nl_x_term_text (C8.fnScope st_x_term_text) 1 "word" ∧ NL nl_x_term_text (C8.fnScope st_x_term_text) 2 "name" ∧ NL nl_x_term_text (C8.fnScope st_x_term_text) 3 "wait" ∧ NL nl_x_term_text (C8.fnScope st_x_term_text) 4 "terms" := ⟨⟨rfl, rfl⟩, ⟨rfl, rfl⟩, ⟨rfl, rfl⟩, ⟨rfl, rfl⟩, ⟨rfl, rfl⟩⟩
abbrev st_read_rule : Stmt := top 29
abbrev nl_read_rule : List Str := ["text", "rule"]
abbrev ps_read_rule : List Str := ["text"]
theorem sc_read_rule : FnScope nl_read_rule ps_read_rule (C8.fnScope st_read_rule) := ⟨rfl, rfl, rfl, by decide +kernel, rfl, by decide +kernel, by decide +kernel⟩
-- 0:text 1:rule
theorem nv_read_rule : NL nl_read_rule (C8.fnScope st_read_rule) 0 "text" ∧ NL nl_read_rule (C8.fnScope st_read_rule) 1 "rule" := ⟨⟨rfl, rfl⟩, ⟨rfl, rfl⟩⟩
abbrev st_rule_in : Stmt := top 30
abbrev nl_rule_in : List Str := ["text", "term"]
abbrev ps_rule_in : List Str := ["text"]
theorem sc_rule_in : FnScope nl_rule_in ps_rule_in (C8.fnScope st_rule_in) := ⟨rfl, rfl, rfl, by decide +kernel, rfl, by decide +kernel, by decide +kernel⟩
-- 0:text 1:term
theorem nv_rule_in : NL nl_rule_in (C8.fnScope st_rule_in) 0 "text" ∧ NL nl_rule_in (C8.fnScope st_rule_in) 1 "term" := ⟨⟨rfl, rfl⟩, ⟨rfl, rfl⟩⟩
abbrev st_purse : Stmt := top 32
abbrev nl_purse : List Str := ["_law_script", "_law_at", "_law_seed"]
abbrev ps_purse : List Str := ["_law_script", "_law_at"]
theorem sc_purse : FnScope nl_purse ps_purse (C8.fnScope st_purse) := ⟨rfl, rfl, rfl, by decide +kernel, rfl, by decide +kernel, by decide +kernel⟩
-- 0:_law_script 1:_law_at 2:_law_seed
theorem nv_purse : NL nl_purse (C8.fnScope st_purse) 0 "_law_script" ∧ NL nl_purse (C8.fnScope st_purse) 1 "_law_at" ∧ NL nl_purse (C8.fnScope st_purse) 2 "_law_seed" := ⟨⟨rfl, rfl⟩, ⟨rfl, rfl⟩, ⟨rfl, rfl⟩⟩
abbrev st_mixed : Stmt := top 33
abbrev nl_mixed : List Str := ["_law_seed", "_law_turn", "_law_at", "_law_mixed_here"]
abbrev ps_mixed : List Str := ["_law_seed", "_law_turn", "_law_at"]
theorem sc_mixed : FnScope nl_mixed ps_mixed (C8.fnScope st_mixed) := ⟨rfl, rfl, rfl, by decide +kernel, rfl, by decide +kernel, by decide +kernel⟩
-- 0:_law_seed 1:_law_turn 2:_law_at 3:_law_mixed_here
theorem nv_mixed : NL nl_mixed (C8.fnScope st_mixed) 0 "_law_seed" ∧ NL nl_mixed (C8.fnScope st_mixed) 1 "_law_turn" ∧ NL nl_mixed (C8.fnScope st_mixed) 2 "_law_at" ∧ NL nl_mixed (C8.fnScope st_mixed) 3 "_law_mixed_here" := ⟨⟨rfl, rfl⟩, ⟨rfl, rfl⟩, ⟨rfl, rfl⟩, ⟨rfl, rfl⟩⟩
abbrev st_draw : Stmt := top 34
abbrev nl_draw : List Str := ["_law_purse_here", "_law_many", "_law_drawn", "_law_found", "_law_piece"]
abbrev ps_draw : List Str := ["_law_purse_here", "_law_many"]
theorem sc_draw : FnScope nl_draw ps_draw (C8.fnScope st_draw) := ⟨rfl, rfl, rfl, by decide +kernel, rfl, by decide +kernel, by decide +kernel⟩
-- 0:_law_purse_here 1:_law_many 2:_law_drawn 3:_law_found 4:_law_piece
theorem nv_draw : NL nl_draw (C8.fnScope st_draw) 0 "_law_purse_here" ∧ NL nl_draw (C8.fnScope st_draw) 1 "_law_many" ∧ NL nl_draw (C8.fnScope st_draw) 2 "_law_drawn" ∧ NL nl_draw (C8.fnScope st_draw) 3 "_law_found" ∧ NL nl_draw (C8.fnScope st_draw) 4 "_law_piece" := ⟨⟨rfl, rfl⟩, ⟨rfl, rfl⟩, ⟨rfl, rfl⟩, ⟨rfl, rfl⟩, ⟨rfl, rfl⟩⟩
abbrev st_purses : Stmt := top 35
abbrev nl_purses : List Str := ["_law_script", "_law_few", "_law_at"]
abbrev ps_purses : List Str := ["_law_script", "_law_few"]
theorem sc_purses : FnScope nl_purses ps_purses (C8.fnScope st_purses) := ⟨rfl, rfl, rfl, by decide +kernel, rfl, by decide +kernel, by decide +kernel⟩
-- 1:_law_few 0:_law_script*
theorem nv_purses : NL nl_purses (C8.fnScope st_purses) 1 "_law_few" ∧ NC nl_purses (C8.fnScope st_purses) 0 "_law_script" := ⟨⟨rfl, rfl⟩, ⟨rfl, rfl⟩⟩
abbrev st_one_of : Stmt := top 36
abbrev nl_one_of : List Str := ["_law_purse_here", "_law_some"]
abbrev ps_one_of : List Str := ["_law_purse_here", "_law_some"]
theorem sc_one_of : FnScope nl_one_of ps_one_of (C8.fnScope st_one_of) := ⟨rfl, rfl, rfl, by decide +kernel, rfl, by decide +kernel, by decide +kernel⟩
-- 0:_law_purse_here 1:_law_some
theorem nv_one_of : NL nl_one_of (C8.fnScope st_one_of) 0 "_law_purse_here" ∧ NL nl_one_of (C8.fnScope st_one_of) 1 "_law_some" := ⟨⟨rfl, rfl⟩, ⟨rfl, rfl⟩⟩
abbrev st_shuffled : Stmt := top 37
abbrev nl_shuffled : List Str := ["_law_purse_here", "_law_some", "_law_found", "_law_item"]
abbrev ps_shuffled : List Str := ["_law_purse_here", "_law_some"]
theorem sc_shuffled : FnScope nl_shuffled ps_shuffled (C8.fnScope st_shuffled) := ⟨rfl, rfl, rfl, by decide +kernel, rfl, by decide +kernel, by decide +kernel⟩
-- 0:_law_purse_here 1:_law_some 2:_law_found 3:_law_item
theorem nv_shuffled : NL nl_shuffled (C8.fnScope st_shuffled) 0 "_law_purse_here" ∧ NL nl_shuffled (C8.fnScope st_shuffled) 1 "_law_some" ∧ NL nl_shuffled (C8.fnScope st_shuffled) 2 "_law_found" ∧ NL nl_shuffled (C8.fnScope st_shuffled) 3 "_law_item" := ⟨⟨rfl, rfl⟩, ⟨rfl, rfl⟩, ⟨rfl, rfl⟩, ⟨rfl, rfl⟩⟩
abbrev st_word : Stmt := top 38
abbrev nl_word : List Str := ["_law_purse_here", "_law_found", "_law_turn"]
abbrev ps_word : List Str := ["_law_purse_here"]
theorem sc_word : FnScope nl_word ps_word (C8.fnScope st_word) := ⟨rfl, rfl, rfl, by decide +kernel, rfl, by decide +kernel, by decide +kernel⟩
-- 0:_law_purse_here 1:_law_found 2:_law_turn
theorem nv_word : NL nl_word (C8.fnScope st_word) 0 "_law_purse_here" ∧ NL nl_word (C8.fnScope st_word) 1 "_law_found" ∧ NL nl_word (C8.fnScope st_word) 2 "_law_turn" := ⟨⟨rfl, rfl⟩, ⟨rfl, rfl⟩, ⟨rfl, rfl⟩⟩
abbrev st_wait : Stmt := top 39
abbrev nl_wait : List Str := ["_law_purse_here", "_law_some"]
abbrev ps_wait : List Str := ["_law_purse_here"]
theorem sc_wait : FnScope nl_wait ps_wait (C8.fnScope st_wait) := ⟨rfl, rfl, rfl, by decide +kernel, rfl, by decide +kernel, by decide +kernel⟩
-- 0:_law_purse_here 1:_law_some
theorem nv_wait : NL nl_wait (C8.fnScope st_wait) 0 "_law_purse_here" ∧ NL nl_wait (C8.fnScope st_wait) 1 "_law_some" := ⟨⟨rfl, rfl⟩, ⟨rfl, rfl⟩⟩
abbrev st_number_text : Stmt := top 40
abbrev nl_number_text : List Str := ["_law_number", "_law_digits", "_law_left"]
abbrev ps_number_text : List Str := ["_law_number"]
theorem sc_number_text : FnScope nl_number_text ps_number_text (C8.fnScope st_number_text) := ⟨rfl, rfl, rfl, by decide +kernel, rfl, by decide +kernel, by decide +kernel⟩
-- 0:_law_number 1:_law_digits 2:_law_left
theorem nv_number_text : NL nl_number_text (C8.fnScope st_number_text) 0 "_law_number" ∧ NL nl_number_text (C8.fnScope st_number_text) 1 "_law_digits" ∧ NL nl_number_text (C8.fnScope st_number_text) 2 "_law_left" := ⟨⟨rfl, rfl⟩, ⟨rfl, rfl⟩, ⟨rfl, rfl⟩⟩
abbrev st_term_text : Stmt := top 41
abbrev nl_term_text : List Str := ["_law_term", "_law_word_here", "_law_one"]
abbrev ps_term_text : List Str := ["_law_term"]
theorem sc_term_text : FnScope nl_term_text ps_term_text (C8.fnScope st_term_text) := ⟨rfl, rfl, rfl, by decide +kernel, rfl, by decide +kernel, by decide +kernel⟩
-- 0:_law_term 1:_law_word_here
theorem nv_term_text : NL nl_term_text (C8.fnScope st_term_text) 0 "_law_term" ∧ NL nl_term_text (C8.fnScope st_term_text) 1 "_law_word_here" := ⟨⟨rfl, rfl⟩, ⟨rfl, rfl⟩⟩
abbrev st_over : Stmt := top 42
abbrev nl_over : List Str := ["_law_inner", "_law_found", "_law_at"]
abbrev ps_over : List Str := ["_law_inner"]
theorem sc_over : FnScope nl_over ps_over (C8.fnScope st_over) := ⟨rfl, rfl, rfl, by decide +kernel, rfl, by decide +kernel, by decide +kernel⟩
-- 1:_law_found 0:_law_inner*
theorem nv_over : NL nl_over (C8.fnScope st_over) 1 "_law_found" ∧ NC nl_over (C8.fnScope st_over) 0 "_law_inner" := ⟨⟨rfl, rfl⟩, ⟨rfl, rfl⟩⟩
abbrev st_terms : Stmt := top 43
abbrev nl_terms : List Str := ["_law_purse_here", "_law_names", "_law_waits", "_law_parts_here", "_law_found", "_law_one", "_law_other", "_law_inner", "_law_kind", "_law_name", "_law_wait_here"]
abbrev ps_terms : List Str := ["_law_purse_here"]
theorem sc_terms : FnScope nl_terms ps_terms (C8.fnScope st_terms) := ⟨rfl, rfl, rfl, by decide +kernel, rfl, by decide +kernel, by decide +kernel⟩
-- 0:_law_purse_here 1:_law_names 2:_law_waits 3:_law_parts_here 4:_law_found 5:_law_one 6:_law_other 7:_law_inner 8:_law_kind* 9:_law_name*
theorem nv_terms : NL nl_terms (C8.fnScope st_terms) 0 "_law_purse_here" ∧ NL nl_terms (C8.fnScope st_terms) 1 "_law_names" ∧ NL nl_terms (C8.fnScope st_terms) 2 "_law_waits" ∧ NL nl_terms (C8.fnScope st_terms) 3 "_law_parts_here" ∧ NL nl_terms (C8.fnScope st_terms) 4 "_law_found" ∧ NL nl_terms (C8.fnScope st_terms) 5 "_law_one" ∧ NL nl_terms (C8.fnScope st_terms) 6 "_law_other" ∧ NL nl_terms (C8.fnScope st_terms) 7 "_law_inner" ∧ NC nl_terms (C8.fnScope st_terms) 8 "_law_kind" ∧ NC nl_terms (C8.fnScope st_terms) 9 "_law_name" := ⟨⟨rfl, rfl⟩, ⟨rfl, rfl⟩, ⟨rfl, rfl⟩, ⟨rfl, rfl⟩, ⟨rfl, rfl⟩, ⟨rfl, rfl⟩, ⟨rfl, rfl⟩, ⟨rfl, rfl⟩, ⟨rfl, rfl⟩, ⟨rfl, rfl⟩⟩
abbrev st_law : Stmt := top 44
abbrev nl_law : List Str := ["_law_script", "_law_purse_here", "_law_terms_here", "_law_unlike", "_law_term", "_law_text", "_law_one", "_law_other", "_law_texts"]
abbrev ps_law : List Str := ["_law_script"]
theorem sc_law : FnScope nl_law ps_law (C8.fnScope st_law) := ⟨rfl, rfl, rfl, by decide +kernel, rfl, by decide +kernel, by decide +kernel⟩
-- 0:_law_script 1:_law_purse_here 2:_law_terms_here 3:_law_unlike 4:_law_term 5:_law_text 6:_law_one 7:_law_other 8:_law_texts*
theorem nv_law : NL nl_law (C8.fnScope st_law) 0 "_law_script" ∧ NL nl_law (C8.fnScope st_law) 1 "_law_purse_here" ∧ NL nl_law (C8.fnScope st_law) 2 "_law_terms_here" ∧ NL nl_law (C8.fnScope st_law) 3 "_law_unlike" ∧ NL nl_law (C8.fnScope st_law) 4 "_law_term" ∧ NL nl_law (C8.fnScope st_law) 5 "_law_text" ∧ NL nl_law (C8.fnScope st_law) 6 "_law_one" ∧ NL nl_law (C8.fnScope st_law) 7 "_law_other" ∧ NC nl_law (C8.fnScope st_law) 8 "_law_texts" := ⟨⟨rfl, rfl⟩, ⟨rfl, rfl⟩, ⟨rfl, rfl⟩, ⟨rfl, rfl⟩, ⟨rfl, rfl⟩, ⟨rfl, rfl⟩, ⟨rfl, rfl⟩, ⟨rfl, rfl⟩, ⟨rfl, rfl⟩⟩
/-! ### the law's purse -/
/-- a purse at p that has been drawn from at most n times -/
def Purse (H : Hp) (p : Addr) (n : Nat) : Prop := ∃ a b c d : Int, H p = some (.lst [.int a, .int b, .int c, .int d]) ∧ 0 ≤ a ∧ a.natAbs < 2 ^ 1600 ∧ (0 ≤ b ∧ b < 2147483629) ∧ (0 ≤ c ∧ c ≤ n) ∧ (0 ≤ d ∧ d < 1000)
def sp_mixed : Sp := fun vs H Q _ => ∃ s t a : Int, vs = [.int s, .int t, .int a] ∧ (0 ≤ s ∧ s < 2147483629) ∧ (0 ≤ t ∧ t < 2 ^ 40) ∧ (0 ≤ a ∧ a < 1000) ∧ ∀ r : Int, 0 ≤ r → r < 2147483587 → Q (.int r) H
theorem c_mixed {m : Md} {f : Addr} {fd : FuncData} (F : C8.Def m.K m.mg "_law_mixed" st_mixed f fd) (b : L2.Binds m.K fd ps_mixed []) : Cal m 1 "_law_mixed" sp_mixed := by
  refine cal_of F b sc_mixed (fun vs H Q E h => by obtain ⟨_, _, _, rfl, _⟩ := h; rfl) fun X vs H Q E hA h => ?_
  obtain ⟨s, t, a, rfl, hs, ht, ha, k⟩ := h
  obtain ⟨n0, n1, n2, n3⟩ := nv_mixed
  walk_at "B"
  walk_at "V"
  refine g_mulI (.inl (by omega)) ?_
  walk_at "V"
  refine g_mulI (.inl (by omega)) ?_
  walk_at "V"
  refine g_mulI (.inl (by omega)) ?_
  walk_at "V"
  refine g_mulI (.inl (by omega)) ?_
  walk_at "V"
  refine g_modB (by omega) fun r1 h1 h1' => ?_
  walk_at "V"
  refine g_mulI (.inl (by omega)) ?_
  walk_at "V"
  refine g_modB (by omega) fun r2 h2 h2' => ?_
  walk_at "V"
  refine g_mulI (.inl (by omega)) ?_
  walk_at "V"
  refine g_modB (by omega) fun r3 h3 h3' => ?_
  exact k r3 h3 h3'
/-- the purse at p alone has changed: it was drawn from at most j times -/
structure Drew (m : Md) (p : Addr) (n j : Nat) (H H' : Hp) : Prop where
  grow : GrowX m.T (· = p) H H'
  purse : Purse H' p (n + j)
theorem Purse.mono {H : Hp} {p : Addr} {n j : Nat} (h : Purse H p n) (l : n ≤ j) : Purse H p j := by
  obtain ⟨a, b, c, d, h1, h2, h3, h4, h5, h6⟩ := h
  exact ⟨a, b, c, d, h1, h2, h3, h4, ⟨h5.1, by omega⟩, h6⟩
theorem Drew.trans {m : Md} {p : Addr} {n i j : Nat} {H H1 H2 : Hp} (a : Drew m p n i H H1) (b : Drew m p (n + i) j H1 H2) : Drew m p n (i + j) H H2 := ⟨a.grow.trans b.grow, by rw [← Nat.add_assoc]; exact b.purse⟩
theorem Drew.mono {m : Md} {p : Addr} {n i j : Nat} {H H1 : Hp} (a : Drew m p n i H H1) (l : i ≤ j) : Drew m p n j H H1 := ⟨a.grow, a.purse.mono (by omega)⟩
theorem Purse.new {m : Md} {H H' : Hp} {p : Addr} {n : Nat} (h : Purse H p n) (g : Grow m.T H H') : Purse H' p n := by
  obtain ⟨a, b, c, d, h1, r⟩ := h
  exact ⟨a, b, c, d, g.ext _ _ (fun z => z) h1 (fun _ z => by cases z), r⟩
theorem Purse.drew {m : Md} {H H' : Hp} {p : Addr} {n : Nat} (h : Purse H p n) (g : Grow m.T H H') : Drew m p n 0 H H' := ⟨g.to, h.new g⟩
def sp_draw (m : Md) : Sp := fun vs H Q _ => ∃ (p : Addr) (n : Nat) (z : Int), vs = [.ref p, .int z] ∧ Purse H p n ∧ n ≤ 2 ^ 39 ∧ 0 < z ∧ z < 2 ^ 200 ∧
  ∀ (r : Int) (H' : Hp), 0 ≤ r → r < z → Drew m p n 8 H H' → Q (.int r) H'
theorem Purse.at_ {H : Hp} {p : Addr} {n : Nat} (h : Purse H p n) : ∃ xs, H p = some (.lst xs) := ⟨_, h.choose_spec.choose_spec.choose_spec.choose_spec.1⟩
theorem Purse.x {m : Md} {S : Addr → Prop} {H H' : Hp} {p : Addr} {n : Nat} (h : Purse H p n) (g : GrowX m.T S H H') (hs : ¬ S p) : Purse H' p n := by
  obtain ⟨a, b, c, d, h1, r⟩ := h
  exact ⟨a, b, c, d, g.ext _ _ hs h1 (fun _ z => by cases z), r⟩
theorem Drew.pre {m : Md} {H H1 H2 : Hp} {p : Addr} {n j : Nat} (g : Grow m.T H H1) (d : Drew m p n j H1 H2) : Drew m p n j H H2 := ⟨g.to.trans d.grow, d.purse⟩
theorem Drew.post {m : Md} {H H1 H2 : Hp} {p : Addr} {n j : Nat} (d : Drew m p n j H H1) (g : Grow m.T H1 H2) : Drew m p n j H H2 := ⟨d.grow.trans g.to, d.purse.new g⟩
theorem c_draw {m : Md} {f : Addr} {fd : FuncData} (F : C8.Def m.K m.mg "_law_draw" st_draw f fd) (b : L2.Binds m.K fd ps_draw []) (hr : m.mg "range" = none) (M : Cal m 1 "_law_mixed" sp_mixed) : Cal m 2 "_law_draw" (sp_draw m) := by
  refine cal_of F b sc_draw (fun vs H Q E h => by obtain ⟨_, _, _, rfl, _⟩ := h; rfl) fun X vs H Q E hA h => ?_
  obtain ⟨p, n, mm, rfl, ⟨a, bb, c, d, hp, ha, ha2, hb, hc, hd⟩, hn, hm, hm2, k⟩ := h
  obtain ⟨n0, n1, n2, n3, n4⟩ := nv_draw
  walk_at "B"
  walk_at "V"
  refine g_ixL hA (SqL.of hp) (atI_at (j := 0) rfl) ?_
  walk_at "V"
  refine ite2 (fun h0 => ?_) fun h0 => ?_
  · simp only [decide_eq_true_eq] at h0
    walk_at "V"
    refine g_ixL hA (SqL.of hp) (atI_at (j := 0) rfl) ?_
    walk_at "V"
    refine g_modB hm fun r h1 h2 => ?_
    walk_at "V"
    refine g_ixL hA (SqL.of hp) (atI_at (j := 0) rfl) ?_
    walk_at "V"
    refine g_divW (wide_div (b := 200) hm (by omega) (by omega) (by omega)) ?_
    walk_at "V"
    refine ⟨p, _, _, 0, rfl, rfl, hp, rfl, ?_⟩
    walk_at "V"
    refine k r _ h1 h2 ⟨GrowX.set rfl hp (fun _ z => by cases z) (fun _ z => by unfold CodeO at z; cases z) (fun _ z => by cases z) (fun _ _ z => by cases z), a / mm, bb, c, d, by rw [upd_same]; rfl, Int.ediv_nonneg ha (by omega), ?_, hb, by omega, hd⟩
    have q1 : 0 ≤ a / mm := Int.ediv_nonneg ha (by omega)
    have q2 : a / mm ≤ a := Int.ediv_le_self _ ha
    omega
  · walk_at "V"
    have hbits : Builtin.Int.intBits mm ≤ 200 := PyProof.Rows.intBits_le (by omega)
    refine s_forR hA (pg_nl hA n4) hr rfl ?_
    walk_at "V"
    refine g_bits ?_
    walk_at "V"
    refine g_divI (by omega) ?_
    walk_at "V"
    have e : (0 : Int) ≤ (Builtin.Int.intBits mm : Int) / 28 ∧ (Builtin.Int.intBits mm : Int) / 28 ≤ 7 := by omega
    refine ⟨by omega, by omega, fun i σ H' => ∃ c' g : Int, σ = [some (.ref p), some (.int mm), none, some (.int g), σ.getD 4 none] ∧ H' = upd H p (.lst [.int a, .int bb, .int c', .int d]) ∧ 0 ≤ g ∧ 0 ≤ c' ∧ c' ≤ n + i, ?_, ?_, ?_⟩
    · refine ⟨c, 0, rfl, ?_, by omega, by omega, by omega⟩
      funext q
      by_cases z : q = p
      · rw [z, upd_same, hp]
      · rw [upd_ne z]
    · rintro i σ H' hi ⟨c', g, es, rfl, g0, c0, c1⟩
      rw [es]
      walk_at "B"
      walk_at "V"
      refine g_ixL hA (SqL.of upd_same) (atI_at (j := 2) rfl) ?_
      walk_at "V"
      refine ⟨p, _, _, 2, rfl, rfl, upd_same, rfl, ?_⟩
      rw [upd_upd]
      walk_at "V"
      refine g_mulI (.inr (by omega)) ?_
      walk_at "V"
      refine w_call hA M (by omega) rfl ?_
      walk_at "V"
      refine g_ixL hA (SqL.of upd_same) (atI_at (j := 1) rfl) ?_
      walk_at "V"
      refine g_ixL hA (SqL.of upd_same) (atI_at (j := 2) rfl) ?_
      walk_at "V"
      refine g_ixL hA (SqL.of upd_same) (atI_at (j := 3) rfl) ?_
      walk_at "V"
      refine ⟨bb, c' + 1, d, rfl, hb, by omega, by omega, fun r r0 r1 => ?_⟩
      walk_at "V"
      exact ⟨c' + 1, g * 2147483587 + r, rfl, rfl, by omega, by omega, by omega⟩
    · rintro σ H' ⟨c', g, es, rfl, g0, c0, c1⟩
      rw [es]
      walk_at "B"
      walk_at "V"
      refine g_modB hm fun r r0 r1 => ?_
      refine k r _ r0 r1 ⟨GrowX.set rfl hp (fun _ z => by cases z) (fun _ z => by unfold CodeO at z; cases z) (fun _ z => by cases z) (fun _ _ z => by cases z), a, bb, c', d, upd_same, ha, ha2, hb, by omega, hd⟩
def sp_purse (m : Md) : Sp := fun vs H Q _ => ∃ (a : Addr) (ns : List Int) (i : Int), vs = [.ref a, .int i] ∧ SqL m.K H a (ns.map V.int) ∧ 0 ≤ i ∧ i < 1000 ∧ ∀ p H', Grow m.T H H' → New H p → Purse H' p 0 → Q (.ref p) H'
theorem big_mod (z : Int) : 0 ≤ z % ((10 : Int) ^ (60 : Int).toNat) ^ (8 : Int).toNat ∧ (z % ((10 : Int) ^ (60 : Int).toNat) ^ (8 : Int).toNat).natAbs < 2 ^ 1600 := by
  have hp : (0 : Int) < ((10 : Int) ^ (60 : Int).toNat) ^ (8 : Int).toNat := by decide +kernel
  have h1 := Int.emod_nonneg z (show ((10 : Int) ^ (60 : Int).toNat) ^ (8 : Int).toNat ≠ 0 by omega)
  have h2 := Int.emod_lt_of_pos z hp
  have h3 : ((10 : Int) ^ (60 : Int).toNat) ^ (8 : Int).toNat < 2 ^ 1600 := by decide +kernel
  refine ⟨h1, ?_⟩
  have h4 : z % ((10 : Int) ^ (60 : Int).toNat) ^ (8 : Int).toNat < 2 ^ 1600 := Int.lt_trans h2 h3
  omega
theorem c_purse {m : Md} {f : Addr} {fd : FuncData} (F : C8.Def m.K m.mg "_law_purse" st_purse f fd) (b : L2.Binds m.K fd ps_purse []) (hsum : m.mg "sum" = none) (hmax : m.mg "max" = none) : Cal m 1 "_law_purse" (sp_purse m) := by
  refine cal_of F b sc_purse (fun vs H Q E h => by obtain ⟨_, _, _, rfl, _⟩ := h; rfl) fun X vs H Q E hA h => ?_
  obtain ⟨a, ns, i, rfl, hs, hi, hi2, k⟩ := h
  obtain ⟨n0, n1, n2⟩ := nv_purse
  walk_at "B"
  walk_at "V"
  refine g_blt hA hsum rfl bt_sum ?_
  walk_at "V"
  refine w_slice hA ?_
  walk_at "V"
  refine ⟨a, _, rfl, hs, fun p hp => ?_⟩
  walk_at "V"
  obtain ⟨ys, ey, _⟩ := cutV_map V.int ns (some i) (some (i + 1))
  refine g_sum (ns := ys) hA (SqL.of (by rw [← ey]; exact upd_same)) ?_
  generalize ys.sum = z
  walk_at "V"
  refine g_blt hA hmax rfl bt_max ?_
  walk_at "V"
  refine g_powI ⟨by omega, by omega, by omega⟩ ?_
  walk_at "V"
  refine g_max2 hA ?_
  walk_at "V"
  refine g_powI ⟨by omega, by omega, by omega⟩ ?_
  walk_at "V"
  refine g_powW (by omega) (by have := PyProof.Rows.intBits_le (show ((10 : Int) ^ (60 : Int).toNat).natAbs < 2 ^ 200 by decide +kernel); omega) ?_
  walk_at "V"
  refine g_modI (by decide +kernel) ?_
  walk_at "V"
  refine g_modB (by omega) fun r h1 h2 => ?_
  walk_at "V"
  refine ⟨by show 4 ≤ sizeLine; decide, fun d hd => ?_⟩
  obtain ⟨g1, g2⟩ := big_mod (if 0 > z - 10 ^ (18 : Int).toNat then 0 else z - 10 ^ (18 : Int).toNat)
  refine k d _ ((Grow.new hp).trans (Grow.new hd)) (NdefX.upd_none hd) ⟨_, r, 0, i, upd_same, g1, g2, ⟨h1, h2⟩, by omega, ⟨hi, hi2⟩⟩
def sp_one_of (m : Md) : Sp := fun vs H Q _ => ∃ (p : Addr) (n : Nat) (a : Addr) (xs : List V), vs = [.ref p, .ref a] ∧ Purse H p n ∧ n ≤ 2 ^ 39 ∧ SqL m.K H a xs ∧ a ≠ p ∧ 0 < xs.length ∧ xs.length < 1000000 ∧
  ∀ (j : Nat) (v : V) (H' : Hp), xs[j]? = some v → Drew m p n 8 H H' → Q v H'
theorem c_one_of {m : Md} {f : Addr} {fd : FuncData} (F : C8.Def m.K m.mg "_law_one_of" st_one_of f fd) (b : L2.Binds m.K fd ps_one_of []) (hlen : m.mg "len" = none) (D : Cal m 2 "_law_draw" (sp_draw m)) : Cal m 3 "_law_one_of" (sp_one_of m) := by
  refine cal_of F b sc_one_of (fun vs H Q E h => by obtain ⟨_, _, _, _, rfl, _⟩ := h; rfl) fun X vs H Q E hA h => ?_
  obtain ⟨p, n, a, xs, rfl, hp, hn, hs, hne, hl, hl2, k⟩ := h
  obtain ⟨n0, n1⟩ := nv_one_of
  walk_at "B"
  walk_at "V"
  refine w_call hA D (by omega) rfl ?_
  walk_at "V"
  refine g_blt hA hlen rfl bt_len ?_
  walk_at "V"
  refine g_lenL hA hs ?_
  walk_at "V"
  refine ⟨p, n, _, rfl, hp, hn, by omega, by omega, fun r H' r0 r1 dr => ?_⟩
  walk_at "V"
  have hr : (r.toNat : Int) = r := by omega
  rw [← hr]
  refine g_ixL hA (dr.grow.seqL hs hne) (atI_at (List.getElem?_eq_getElem (show r.toNat < xs.length by omega))) ?_
  exact k r.toNat _ H' (List.getElem?_eq_getElem (by omega)) dr
def sp_word (m : Md) : Sp := fun vs H Q _ => ∃ (p : Addr) (n : Nat), vs = [.ref p] ∧ Purse H p n ∧ n ≤ 2 ^ 38 ∧ ∀ (z : Str) (H' : Hp), IsName z → Drew m p n 72 H H' → Q (.str z) H'
theorem abc_at (r : Nat) (h : r < 26) : (("abcdefghijklmnopqrstuvwxyz" : Str).cps.toList)[r]? = some (97 + r) := by
  have e : ("abcdefghijklmnopqrstuvwxyz" : Str).cps.toList = (List.range 26).map (97 + ·) := by decide +kernel
  rw [e, List.getElem?_map, List.getElem?_range h]
  rfl
theorem c_word {m : Md} {f : Addr} {fd : FuncData} (F : C8.Def m.K m.mg "_law_word" st_word f fd) (b : L2.Binds m.K fd ps_word []) (hr : m.mg "range" = none) (D : Cal m 2 "_law_draw" (sp_draw m)) : Cal m 3 "_law_word" (sp_word m) := by
  refine cal_of F b sc_word (fun vs H Q E h => by obtain ⟨_, _, rfl, _⟩ := h; rfl) fun X vs H Q E hA h => ?_
  obtain ⟨p, n, rfl, hp, hn, k⟩ := h
  obtain ⟨n0, n1, n2⟩ := nv_word
  walk_at "B"
  walk_at "V"
  refine s_forR hA (pg_nl hA n2) hr rfl ?_
  walk_at "V"
  refine w_call hA D (by omega) rfl ?_
  walk_at "V"
  refine ⟨p, n, _, rfl, hp, by omega, by omega, by omega, fun r H1 r0 r1 d1 => ?_⟩
  walk_at "V"
  refine ⟨by omega, by omega, fun i σ H' => ∃ z : Str, σ = [some (.ref p), some (.str z), σ.getD 2 none] ∧ Drew m p n (8 + 8 * i) H H' ∧ z.length = i ∧ ∀ c ∈ z.cps.toList, 97 ≤ c ∧ c ≤ 122, ?_, ?_, ?_⟩
  · exact ⟨"", rfl, d1, rfl, fun c hc => by rw [show ("" : Str).cps.toList = [] from by decide +kernel] at hc; cases hc⟩
  · rintro i σ H' hi ⟨z, es, dr, zl, zc⟩
    rw [es]
    walk_at "B"
    walk_at "V"
    refine w_call hA D (by omega) rfl ?_
    walk_at "V"
    refine ⟨p, _, _, rfl, dr.purse, by omega, by omega, by omega, fun r2 H2 q0 q1 d2 => ?_⟩
    have hr2 : (r2.toNat : Int) = r2 := by omega
    rw [← hr2]
    refine g_ixS (by decide) (atI_at (abc_at r2.toNat (by omega))) ?_
    refine g_addS (by rw [zl]; show i + 1 ≤ sizeLine; rw [sizeLine_eq]; omega) ?_
    walk_at "V"
    refine ⟨(dr.trans d2), ?_, fun c hc => ?_⟩
    · rw [Str.length_append, zl]; rfl
    · rcases List.mem_append.1 ((show (z ++ (⟨#[97 + r2.toNat]⟩ : Str)).cps.toList = z.cps.toList ++ [97 + r2.toNat] from by show (z.cps ++ #[97 + r2.toNat]).toList = _; simp) ▸ hc) with h | h
      · exact zc c h
      · have := List.mem_singleton.1 h; omega
  · rintro σ H' ⟨z, es, dr, zl, zc⟩
    rw [es]
    walk_at "B"
    walk_at "V"
    exact k z H' ⟨by omega, by omega, zc⟩ (dr.mono (by omega))
/-- the purses of a list: apart, all new, each fresh -/
structure Purses (m : Md) (H H' : Hp) (r : Addr) (ps : List Addr) : Prop where
  grow : Grow m.T H H'
  isn : New H r
  seq : SqL m.K H' r (ps.map V.ref)
  nd : (r :: ps).Nodup
  new : ∀ p ∈ ps, New H p
  purse : ∀ p ∈ ps, Purse H' p 0
def sp_purses (m : Md) : Sp := fun vs H Q _ => ∃ (a : Addr) (ns : List Int) (few : Int), vs = [.ref a, .int few] ∧ SqL m.K H a (ns.map V.int) ∧ ns.length < 1000 ∧ 0 ≤ few ∧ few < 1000 ∧
  ∀ r ps H', Purses m H H' r ps → (ps.length : Int) = max 1 (min few ns.length) → Q (.ref r) H'
theorem c_purses {m : Md} {f : Addr} {fd : FuncData} (F : C8.Def m.K m.mg "_law_purses" st_purses f fd) (b : L2.Binds m.K fd ps_purses []) (hr : m.mg "range" = none) (hmax : m.mg "max" = none) (hmin : m.mg "min" = none) (hlen : m.mg "len" = none) (D1 : Cal m 1 "_law_purse" (sp_purse m)) : Cal m 2 "_law_purses" (sp_purses m) := by
  refine cal_of F b sc_purses (fun vs H Q E h => by obtain ⟨_, _, _, rfl, _⟩ := h; rfl) fun X vs H Q E hA h => ?_
  obtain ⟨a, ns, few, rfl, hs, hn, hf, hf2, k⟩ := h
  obtain ⟨n1, n0⟩ := nv_purses
  walk_at "B"
  walk_at "V"
  refine w_lcR hA hr rfl (by decide +kernel) (i := 2) ⟨rfl, rfl⟩ ?_
  refine g_blt hA hmax rfl bt_max ?_
  walk_at "V"
  refine g_blt hA hmin rfl bt_min ?_
  walk_at "V"
  refine g_blt hA hlen rfl bt_len ?_
  walk_at "V"
  refine g_lenL hA hs ?_
  walk_at "V"
  refine g_min2 hA ?_
  walk_at "V"
  refine g_max2 hA ?_
  rw [List.length_map]
  have e : (if (if (ns.length : Int) < few then (ns.length : Int) else few) > 1 then (if (ns.length : Int) < few then (ns.length : Int) else few) else 1) = max 1 (min few ns.length) := by omega
  rw [e]
  walk_at "V"
  refine ⟨by omega, by omega, fun D hD => ⟨fun i H' => ∃ ps : List Addr, ps.length = i ∧ Purses m H H' D ps ∧ H' D = some (.lst (ps.map V.ref)), ?_, ?_, ?_⟩⟩
  · exact ⟨[], rfl, ⟨Grow.new hD, hD, SqL.of upd_same, by simp, by simp, by simp⟩, upd_same⟩
  · rintro j H' hj ⟨ps, el, P, hl⟩ X' hX'
    have c0 := nc_of hX' 0 "_law_script"
    have c2 := nl_of hX' 2 "_law_at"
    refine w_call hX' D1 (by omega) rfl ?_
    walk_at "V"
    refine ⟨a, ns, j, rfl, P.grow.seqL hs (fun z => z), by omega, by omega, fun p H2 g np pp => ?_⟩
    have hD2 := g.extN D _ hl (fun _ z => by cases z)
    have hne : D ≠ p := (New.ne np hl).symm
    refine ⟨_, hD2, by rw [List.length_map, sizeLine_eq]; omega, ps ++ [p], by simp [el], ?_, by rw [upd_same]; simp⟩
    have gX := GrowX.lst (T := m.T) (ys := ps.map V.ref ++ [V.ref p]) hD2
    have gr := P.grow.intoNew (g.to.trans gX) (fun c z => by rw [z]; exact P.isn)
    refine ⟨gr, P.isn, by rw [List.map_append]; exact SqL.of upd_same, ?_, ?_, ?_⟩
    · have := P.nd
      have hp : p ∉ ps := fun z => by
        obtain ⟨_, e⟩ := (P.purse p z).at_
        rw [np] at e; cases e
      rw [List.nodup_cons] at this ⊢
      refine ⟨fun z => ?_, List.nodup_append.2 ⟨this.2, by simp, fun x hx y hy => ?_⟩⟩
      · rcases List.mem_append.1 z with z | z
        · exact this.1 z
        · exact hne (List.mem_singleton.1 z)
      · rw [List.mem_singleton.1 hy]; exact fun z => hp (z ▸ hx)
    · intro x hx
      rcases List.mem_append.1 hx with z | z
      · exact P.new x z
      · rw [List.mem_singleton.1 z]; exact P.grow.keep _ np
    · intro x hx
      rcases List.mem_append.1 hx with z | z
      · have nx : x ≠ D := fun w => (List.nodup_cons.1 P.nd).1 (w ▸ z)
        exact ((P.purse x z).new g).x gX nx
      · rw [List.mem_singleton.1 z]; exact pp.x gX hne.symm
  · rintro H' ⟨ps, el, P, hl⟩
    exact k D ps H' P (by omega)
def sp_shuffled (m : Md) : Sp := fun vs H Q _ => ∃ (p : Addr) (n : Nat) (a : Addr) (xs : List V), vs = [.ref p, .ref a] ∧ Purse H p n ∧ n ≤ 2 ^ 38 ∧ SqL m.K H a xs ∧ a ≠ p ∧ xs.length < 1000 ∧
  ∀ (r : Addr) (ys : List V) (H' : Hp), ys.Perm xs → Drew m p n (8 * xs.length) H H' → New H r → H' r = some (.lst ys) → Q (.ref r) H'
theorem c_shuffled {m : Md} {f : Addr} {fd : FuncData} (F : C8.Def m.K m.mg "_law_shuffled" st_shuffled f fd) (b : L2.Binds m.K fd ps_shuffled []) (hlen : m.mg "len" = none) (D : Cal m 2 "_law_draw" (sp_draw m)) : Cal m 3 "_law_shuffled" (sp_shuffled m) := by
  refine cal_of F b sc_shuffled (fun vs H Q E h => by obtain ⟨_, _, _, _, rfl, _⟩ := h; rfl) fun X vs H Q E hA h => ?_
  obtain ⟨p, n, a, xs, rfl, hp, hn, hs, hne, hl, k⟩ := h
  obtain ⟨n0, n1, n2, n3⟩ := nv_shuffled
  walk_at "B"
  walk_at "V"
  refine ⟨by decide, fun r hr => ?_⟩
  walk_at "V"
  refine s_forL hA (pg_nl hA n3) ?_
  walk_at "V"
  have hrp : r ≠ p := fun z => by obtain ⟨_, e⟩ := hp.at_; rw [← z, hr] at e; cases e
  refine ⟨a, xs, rfl, GrowX.seqL (Grow.new (T := m.T) hr) hs (fun z => z), fun i σ H' => ∃ ys, σ = [some (.ref p), some (.ref a), some (.ref r), σ.getD 3 none] ∧ ys.Perm (xs.take i) ∧ Drew m p n (8 * i) H H' ∧ H' r = some (.lst ys), ?_, ?_, ?_, ?_⟩
  · exact ⟨[], rfl, by simp, ⟨(Grow.new hr).to, hp.new (Grow.new (T := m.T) hr)⟩, upd_same⟩
  · rintro i σ H' hi ⟨ys, es, pm, dr, hy⟩
    exact dr.grow.seqL hs hne
  · rintro i x σ H' hx ⟨ys, es, pm, dr, hy⟩
    have hi : i < xs.length := (List.getElem?_eq_some_iff.1 hx).1
    have hyl : ys.length = i := by rw [pm.length_eq, List.length_take]; omega
    rw [es]
    walk_at "B"
    walk_at "V"
    refine g_insert ?_
    walk_at "V"
    refine ⟨tyL hy, ?_⟩
    walk_at "V"
    refine w_call hA D (by omega) rfl ?_
    walk_at "V"
    refine g_blt hA hlen rfl bt_len ?_
    walk_at "V"
    refine g_lenL hA (SqL.of hy) ?_
    walk_at "V"
    refine ⟨p, _, _, rfl, dr.purse, by omega, by omega, by omega, fun z H2 z0 z1 d2 => ?_⟩
    walk_at "V"
    have hy2 : H2 r = some (.lst ys) := d2.grow.ext _ _ hrp hy (fun _ z => by cases z)
    refine ⟨r, ys, z, x, rfl, rfl, hy2, by rw [sizeLine_eq]; omega, z0, by omega, ?_⟩
    walk_at "V"
    refine ⟨_, rfl, ?_, ?_, upd_same⟩
    · have e1 : xs.take (i + 1) = xs.take i ++ [x] := by rw [List.take_add_one, hx]; rfl
      rw [e1, List.append_assoc]
      show (ys.take z.toNat ++ (x :: ys.drop z.toNat)).Perm _
      refine (List.perm_middle).trans ?_
      rw [List.take_append_drop]
      exact (List.Perm.cons x pm).trans (List.perm_append_singleton x _).symm
    · have g := GrowX.lst (T := m.T) (ys := ys.take z.toNat ++ [x] ++ ys.drop z.toNat) hy2
      have d3 := dr.trans d2
      exact ⟨d3.grow.into g fun c w => .inl (by rw [w]; exact hr), d3.purse.x g (fun w => hrp w.symm)⟩
  · rintro σ H' ⟨ys, es, pm, dr, hy⟩
    rw [es]
    walk_at "B"
    walk_at "V"
    rw [List.take_length] at pm
    exact k r ys H' pm dr hr hy
theorem cut_to {xs : List V} {k : Nat} (h : (k : Int) < 1000000) : cutV xs none (some (k : Int)) = xs.take k := by
  unfold cutV
  rw [HT.sIx_none, HT.sIx_nat, List.drop_zero, Nat.sub_zero]
  exact PySem.W.kmk_take_min _ _
def sp_wait (m : Md) : Sp := fun vs H Q _ => ∃ (p : Addr) (n : Nat), vs = [.ref p] ∧ Purse H p n ∧ n ≤ 2 ^ 38 ∧ ∀ (w : Int) (H' : Hp), -100000000000 ≤ w → w ≤ 200000000000 → Drew m p n 40 H H' → Q (.int w) H'
theorem c_wait {m : Md} {f : Addr} {fd : FuncData} (F : C8.Def m.K m.mg "_law_wait" st_wait f fd) (b : L2.Binds m.K fd ps_wait []) (D : Cal m 2 "_law_draw" (sp_draw m)) (O : Cal m 3 "_law_one_of" (sp_one_of m)) : Cal m 4 "_law_wait" (sp_wait m) := by
  refine cal_of F b sc_wait (fun vs H Q E h => by obtain ⟨_, _, rfl, _⟩ := h; rfl) fun X vs H Q E hA h => ?_
  obtain ⟨p, n, rfl, hp, hn, k⟩ := h
  obtain ⟨n0, n1⟩ := nv_wait
  walk_at "B"
  walk_at "V"
  refine w_call hA D (by omega) rfl ?_
  walk_at "V"
  refine ⟨p, n, _, rfl, hp, by omega, by omega, by omega, fun r1 H1 q1 q2 d1 => ?_⟩
  walk_at "V"
  refine ⟨by walk_at "S", fun l1 hl1 => ?_⟩
  have e1 := d1.post (Grow.new (o := .lst [.int 0, .int 0, .int 1, .int 2, .int 3, .int (-1), .int (-2), .int (r1 - 9)]) hl1)
  walk_at "V"
  refine w_call hA D (by omega) rfl ?_
  walk_at "V"
  refine g_powI ⟨by omega, by omega, by omega⟩ ?_
  rw [show ((10 : Int) ^ (9 : Int).toNat) = 1000000000 from by decide +kernel]
  walk_at "V"
  have hlp : l1 ≠ p := fun w => by obtain ⟨_, e⟩ := d1.purse.at_; rw [← w, hl1] at e; cases e
  refine ⟨p, _, _, rfl, e1.purse, by omega, by omega, by omega, fun r2 H2 q3 q4 d2 => ?_⟩
  walk_at "V"
  refine g_powI ⟨by omega, by omega, by omega⟩ ?_
  rw [show ((10 : Int) ^ (8 : Int).toNat) = 100000000 from by decide +kernel]
  walk_at "V"
  refine g_powI ⟨by omega, by omega, by omega⟩ ?_
  rw [show ((10 : Int) ^ (11 : Int).toNat) = 100000000000 from by decide +kernel]
  walk_at "V"
  refine w_call hA D (by omega) rfl ?_
  walk_at "V"
  refine ⟨p, _, _, rfl, d2.purse, by omega, by omega, by omega, fun r3 H3 q5 q6 d3 => ?_⟩
  walk_at "V"
  have t3 := (e1.trans d2).trans d3
  have hl3 : H3 l1 = some (.lst [.int 0, .int 0, .int 1, .int 2, .int 3, .int (-1), .int (-2), .int (r1 - 9)]) := d3.grow.ext _ _ hlp (d2.grow.ext _ _ hlp upd_same (fun _ w => by cases w)) (fun _ w => by cases w)
  refine ⟨by walk_at "S", fun l2 hl2 => ?_⟩
  refine g_cat (by rw [upd_ne (New.ne hl2 hl3).symm]; exact hl3) upd_same (by walk_at "S") fun l3 hl4 => ?_
  generalize hvs : [V.int 0, .int 0, .int 1, .int 2, .int 3, .int (-1), .int (-2), .int (r1 - 9)] ++ [.int (r2 - 100000000), .int (100000000000 + r3)] = vs
  have t4 := (t3.post (Grow.new (o := .lst [.int (r2 - 100000000), .int (100000000000 + r3)]) hl2)).post (Grow.new (o := .lst vs) hl4)
  walk_at "V"
  refine w_call hA O (by omega) rfl ?_
  walk_at "V"
  refine w_sliceTo hA ?_
  walk_at "V"
  refine w_call hA D (by omega) rfl ?_
  walk_at "V"
  have hl3p : l3 ≠ p := fun w => by obtain ⟨_, e⟩ := (t3.post (Grow.new (o := .lst [.int (r2 - 100000000), .int (100000000000 + r3)]) hl2)).purse.at_; rw [← w, hl4] at e; cases e
  refine ⟨p, _, _, rfl, t4.purse, by omega, by omega, by omega, fun r4 H4 q7 q8 d4 => ?_⟩
  walk_at "V"
  refine ⟨l3, vs, rfl, SqL.of (d4.grow.ext _ _ hl3p upd_same (fun _ w => by cases w)), fun l5 hl5 => ?_⟩
  have hvl : vs.length = 10 := by rw [← hvs]; rfl
  have e4 : (7 + r4 : Int) = ((7 + r4).toNat : Nat) := by omega
  rw [e4, cut_to (by omega)]
  generalize (7 + r4).toNat = c4 at e4
  have t5 := (t4.trans d4).post (Grow.new (o := .lst (vs.take c4)) hl5)
  walk_at "V"
  have hl5p : l5 ≠ p := fun w => by obtain ⟨_, e⟩ := (t4.trans d4).purse.at_; rw [← w, hl5] at e; cases e
  refine ⟨p, _, l5, _, rfl, t5.purse, by omega, SqL.of upd_same, hl5p, by rw [List.length_take]; omega, by rw [List.length_take]; omega, fun j v H6 hv d6 => ?_⟩
  obtain ⟨w, rfl, w1, w2⟩ : ∃ w : Int, v = .int w ∧ -100000000000 ≤ w ∧ w ≤ 200000000000 := by
    have hm := List.mem_of_mem_take (List.mem_of_getElem? hv)
    rw [← hvs] at hm
    simp only [List.cons_append, List.nil_append, List.mem_cons, List.not_mem_nil, or_false] at hm
    rcases hm with h | h | h | h | h | h | h | h | h | h <;> exact ⟨_, h, by omega, by omega⟩
  exact k w H6 w1 w2 ((t5.trans d6).mono (by omega))
def kw (t : Tm) : Str := match t with
  | .part n _ _ => if n then "now" else "of"
  | .all f _ => if f then "first" else "last"
  | .rank _ _ => "rank"
def Tm.isPart : Tm → Bool
  | .part _ _ _ => true
  | _ => false
section
variable {K : PySem.W.Frag} {A : Addr → Prop} {H : Hp} {v : V}
theorem da_tup {ds : List PyData} (h : Da K A H v (.tuple ds)) : ∃ a xs, v = .ref a ∧ SqT K H a xs ∧ DaAll K A H xs ds := by
  cases h with | tup s r => exact ⟨_, _, rfl, s, r⟩
theorem da_lst {ds : List PyData} (h : Da K A H v (.list ds)) : ∃ a xs, v = .ref a ∧ A a ∧ SqL K H a xs ∧ DaAll K A H xs ds := by
  cases h with | lst a s r => exact ⟨_, _, rfl, a, s, r⟩
theorem da_part {n : Bool} {z : Str} {w : Int} (h : Da K A H v (Tm.part n z w).py) : ∃ a, v = .ref a ∧ SqT K H a [.str (if n then "now" else "of"), .str z, .int w] := by
  obtain ⟨a, xs, e, hs, r⟩ := da_tup h
  cases r with | cons p1 r => cases r with | cons p2 r => cases r with | cons p3 r =>
  cases r; cases p1; cases p2; cases p3
  exact ⟨a, e, hs⟩
theorem da_all {f : Bool} {ts : List Tm} (h : Da K A H v (Tm.all f ts).py) : ∃ a l xs, v = .ref a ∧ A l ∧ SqT K H a [.str (if f then "first" else "last"), .ref l] ∧ SqL K H l xs ∧ DaAll K A H xs (Tm.pys ts) := by
  obtain ⟨a, xs, e, hs, r⟩ := da_tup h
  cases r with | cons p1 r => cases r with | cons p2 r =>
  cases r; cases p1
  obtain ⟨l, ys, e2, hl, hs2, r2⟩ := da_lst p2
  subst e2
  exact ⟨a, l, ys, e, hl, hs, hs2, r2⟩
theorem da_rank {r : Int} {ts : List Tm} (h : Da K A H v (Tm.rank r ts).py) : ∃ a l xs, v = .ref a ∧ A l ∧ SqT K H a [.str "rank", .int r, .ref l] ∧ SqL K H l xs ∧ DaAll K A H xs (Tm.pys ts) := by
  obtain ⟨a, xs, e, hs, r⟩ := da_tup h
  cases r with | cons p1 r => cases r with | cons p2 r => cases r with | cons p3 r =>
  cases r; cases p1; cases p2
  obtain ⟨l, ys, e2, hl, hs2, r2⟩ := da_lst p3
  subst e2
  exact ⟨a, l, ys, e, hl, hs, hs2, r2⟩
/-- the tuple that a term is: its first is its word -/
theorem da_word {t : Tm} (h : Da K A H v t.py) : ∃ a xs, v = .ref a ∧ SqT K H a xs ∧ xs[0]? = some (.str (kw t)) := by
  cases t with
  | part n z w => obtain ⟨a, e, hs⟩ := da_part h; exact ⟨a, _, e, hs, rfl⟩
  | all f ts => obtain ⟨a, l, xs, e, hl, hs, _⟩ := da_all h; exact ⟨a, _, e, hs, rfl⟩
  | rank r ts => obtain ⟨a, l, xs, e, hl, hs, _⟩ := da_rank h; exact ⟨a, _, e, hs, rfl⟩
end
theorem kw_part (t : Tm) : inV (.str (kw t)) [.str "of", .str "now"] = t.isPart := by
  cases t with
  | part n z w =>
    cases n
    · exact (by decide +kernel : inV (.str "of") [.str "of", .str "now"] = true)
    · exact (by decide +kernel : inV (.str "now") [.str "of", .str "now"] = true)
  | all f ts =>
    cases f
    · exact (by decide +kernel : inV (.str "last") [.str "of", .str "now"] = false)
    · exact (by decide +kernel : inV (.str "first") [.str "of", .str "now"] = false)
  | rank r ts => exact (by decide +kernel : inV (.str "rank") [.str "of", .str "now"] = false)
def sp_is_part (m : Md) : Sp := fun vs H Q _ => ∃ (v : V) (t : Tm) (A : Addr → Prop), vs = [v] ∧ Da m.K A H v t.py ∧ ∀ H', Grow m.T H H' → Q (.bl t.isPart) H'
theorem c_is_part {m : Md} {f : Addr} {fd : FuncData} (F : C8.Def m.K m.mg "is_part" st_is_part f fd) (b : L2.Binds m.K fd ps_is_part []) : Cal m 1 "is_part" (sp_is_part m) := by
  refine cal_of F b sc_is_part (fun vs H Q E h => by obtain ⟨_, _, _, rfl, _⟩ := h; rfl) fun X vs H Q E hA h => ?_
  obtain ⟨v, t, A, rfl, d, k⟩ := h
  have n0 := nv_is_part
  obtain ⟨a, xs, rfl, hs, hx⟩ := da_word d
  walk_at "B"
  walk_at "V"
  refine g_ixT hA hs (atI_at (j := 0) hx) ?_
  walk_at "V"
  refine ⟨by walk_at "S", fun p hp => ?_⟩
  refine g_inF hA (.inr (SqT.of upd_same)) rfl rfl ?_
  rw [kw_part]
  exact k _ (Grow.new hp)
/-- with_terms of a term of two or three kinds over as many terms: the same kind over them -/
def sp_with_terms (m : Md) : Sp := fun vs H Q _ => ∃ (v : V) (l : Addr) (xs : List V) (t : Tm) (ts us : List Tm) (A : Addr → Prop) (L : List Addr), vs = [v, .ref l] ∧ Da m.K A H v t.py ∧ H l = some (.lst xs) ∧ DnAll m.K H xs (Tm.pys us) L ∧ us ≠ [] ∧ us.length < 1000 ∧
  ((∃ f, t = .all f ts) ∨ (∃ r, t = .rank r ts ∧ 1 ≤ r)) ∧
  ∀ (u : V) (t' : Tm) (H' : Hp), (∀ f, t = .all f ts → t' = .all f us) → (∀ r, t = .rank r ts → t' = .rank (min r us.length) us) → Grow m.T H H' → Dn m.K H' u t'.py (l :: L) → Q u H'
theorem c_with_terms {m : Md} {f : Addr} {fd : FuncData} (F : C8.Def m.K m.mg "with_terms" st_with_terms f fd) (b : L2.Binds m.K fd ps_with_terms []) (hmin : m.mg "min" = none) (hlen : m.mg "len" = none) : Cal m 1 "with_terms" (sp_with_terms m) := by
  refine cal_of F b sc_with_terms (fun vs H Q E h => by obtain ⟨_, _, _, _, _, _, _, _, rfl, _⟩ := h; rfl) fun X vs H Q E hA h => ?_
  obtain ⟨v, l, xs, t, ts, us, A, L, rfl, d, hl, da, une, ul, ht, k⟩ := h
  obtain ⟨n0, n1⟩ := nv_with_terms
  have hxl : xs.length = us.length := by rw [da.length, Tm.pys_length]
  rcases ht with ⟨f, rfl⟩ | ⟨r, rfl, hr⟩
  · obtain ⟨a, l0, ys, rfl, hl0, hs, _⟩ := da_all d
    walk_at "B"
    walk_at "V"
    refine g_ixT hA hs (atI_at (j := 0) rfl) ?_
    walk_at "V"
    rw [if_neg (by cases f <;> decide +kernel)]
    walk_at "V"
    refine g_ixT hA hs (atI_at (j := 0) rfl) ?_
    walk_at "V"
    refine ⟨by walk_at "S", fun p hp => ?_⟩
    have g := Grow.new (T := m.T) (o := .tup [.str (if f = true then ("first" : Str) else "last"), .ref l]) hp
    exact k (.ref p) (.all f us) _ (fun f' e => by cases e; rfl) (fun r e => by cases e) g (by simpa [Tm.py] using Dn.tup (SqT.of upd_same) (.cons (.str _) (.cons (.lst (g.extN _ _ hl (fun _ z => by cases z)) (GrowX.dnAll g da fun _ _ z => z)) .nil)))
  · obtain ⟨a, l0, ys, rfl, hl0, hs, _⟩ := da_rank d
    walk_at "B"
    walk_at "V"
    refine g_ixT hA hs (atI_at (j := 0) rfl) ?_
    walk_at "V"
    rw [if_pos (by decide +kernel)]
    walk_at "V"
    refine g_blt hA hmin rfl bt_min ?_
    walk_at "V"
    refine g_ixT hA hs (atI_at (j := 1) rfl) ?_
    walk_at "V"
    refine g_blt hA hlen rfl bt_len ?_
    walk_at "V"
    refine g_lenL hA (SqL.of hl) ?_
    walk_at "V"
    refine g_min2 hA ?_
    rw [hxl]
    have e : (if (us.length : Int) < r then (us.length : Int) else r) = min r us.length := by omega
    rw [e]
    walk_at "V"
    refine ⟨by walk_at "S", fun p hp => ?_⟩
    have g := Grow.new (T := m.T) (o := .tup [.str ("rank" : Str), .int (min r us.length), .ref l]) hp
    exact k (.ref p) (.rank (min r us.length) us) _ (fun f' e => by cases e) (fun r e => by cases e; rfl) g (by simpa [Tm.py] using Dn.tup (SqT.of upd_same) (.cons (.str _) (.cons (.int _) (.cons (.lst (g.extN _ _ hl (fun _ z => by cases z)) (GrowX.dnAll g da fun _ _ z => z)) .nil))))
theorem da_parts {K : PySem.W.Frag} {A B : Addr → Prop} {H : Hp} {v : V} {n : Bool} {z : Str} {w : Int} (h : Da K A H v (Tm.part n z w).py) : Da K B H v (Tm.part n z w).py := by
  obtain ⟨a, rfl, s⟩ := da_part h
  exact .tup s (.cons (.str _) (.cons (.str _) (.cons (.int _) .nil)))
theorem dn_parts {K : PySem.W.Frag} {A : Addr → Prop} {H : Hp} {v : V} {n : Bool} {z : Str} {w : Int} (h : Da K A H v (Tm.part n z w).py) : Dn K H v (Tm.part n z w).py [] := by
  obtain ⟨a, rfl, s⟩ := da_part h
  simpa [Tm.py] using Dn.tup s (.cons (.str (if n = true then "now" else "of")) (.cons (.str z) (.cons (.int w) .nil)))
/-- what is handed as change -/
def spCh (m : Md) (g : Tm → Tm) : Sp := fun vs H Q _ => ∃ (v : V) (n : Bool) (z : Str) (w : Int), vs = [v] ∧ Tabs m.T H ∧ Da m.K Any H v (Tm.part n z w).py ∧ ∀ (u : V) (H' : Hp), Grow m.T H H' → Fr m.K H H' u (g (Tm.part n z w)).py → Q u H'
def sp_rebuilt (m : Md) (kc : Nat) (N : Nat) : Sp := fun vs H Q _ => ∃ (v : V) (c : Addr) (t : Tm) (g : Tm → Tm), vs = [v, .ref c] ∧ Tabs m.T H ∧ Da m.K Any H v t.py ∧ t.dep ≤ N ∧ t.wf ∧ Callable m kc c (spCh m g) H ∧
  ∀ (u : V) (H' : Hp), Grow m.T H H' → Fr m.K H H' u (t.reb g).py → Q u H'
theorem rebuilt_step {m : Md} {f : Addr} {fd : FuncData} (F : C8.Def m.K m.mg "rebuilt" st_rebuilt f fd) (b : L2.Binds m.K fd ps_rebuilt []) (kc : Nat) (hkc : 1 ≤ kc) (P : Cal m 1 "is_part" (sp_is_part m)) (W : Cal m 1 "with_terms" (sp_with_terms m)) (N : Nat) (ih : ∀ M, M + 1 = N → Cal m (kc + N) "rebuilt" (sp_rebuilt m kc M)) : Cal m (kc + N + 1) "rebuilt" (sp_rebuilt m kc N) := by
  refine cal_ofM F b sc_rebuilt (fun vs H Q E h => by obtain ⟨_, _, _, _, rfl, _⟩ := h; rfl) fun X vs H Q E hA hM h => ?_
  obtain ⟨v, c, t, g, rfl, hT, d, hd, hw, hc, k⟩ := h
  replace hA : At m nl_rebuilt (C8.fnScope st_rebuilt) (kc + N) X := hA
  obtain ⟨n0, n1⟩ := nv_rebuilt
  walk_at "B"
  walk_at "V"
  refine w_call hA P (by omega) rfl ?_
  walk_at "V"
  refine ⟨v, t, Any, rfl, d, fun H1 g1 => ?_⟩
  walk_at "V"
  refine ite2 (fun h0 => ?_) fun h0 => ?_
  · walk_at "V"
    refine w_callv hA (i := 1) rfl rfl rfl (hc.ext g1.extN) (by omega) ?_
    walk_at "V"
    cases t with
    | part n z w =>
      exact ⟨fun _ _ e _ => e, v, n, z, w, rfl, g1.tab hT, g1.da d, fun u H2 g2 da => k u H2 (g1.trans g2) (Fr.pre g1 da)⟩
    | all _ _ => simp [Tm.isPart] at h0
    | rank _ _ => simp [Tm.isPart] at h0
  · refine b_nil ?_
    walk_at "B"
    walk_at "V"
    refine w_call hA W (by omega) rfl ?_
    walk_at "V"
    have one : ∃ (a l : Addr) (ys xs : List V) (ts : List Tm), v = .ref a ∧ SqT m.K H1 a ys ∧ atI ys (-1) = some (.ref l) ∧ SqL m.K H1 l xs ∧ DaAll m.K Any H1 xs (Tm.pys ts) ∧ ((∃ f, t = .all f ts) ∨ ∃ r, t = .rank r ts ∧ 1 ≤ r) ∧ ts ≠ [] ∧ ts.length < 1000 ∧ Tm.wfs ts ∧ Tm.deps ts + 1 ≤ N ∧ (∀ f, t = .all f ts → t.reb g = .all f (Tm.rebs g ts)) ∧ (∀ r, t = .rank r ts → t.reb g = .rank (min r (Tm.rebs g ts).length) (Tm.rebs g ts)) := by
      cases t with
      | part n z w => simp [Tm.isPart] at h0
      | all f ts =>
        obtain ⟨a, l, xs, rfl, _, hs, hl, da⟩ := da_all (g1.da d)
        exact ⟨a, l, _, xs, ts, rfl, hs, rfl, hl, da, .inl ⟨f, rfl⟩, hw.1, hw.2.1, hw.2.2, hd, fun _ e => (by cases e; rfl), fun _ e => (by cases e)⟩
      | rank r ts =>
        obtain ⟨a, l, xs, rfl, _, hs, hl, da⟩ := da_rank (g1.da d)
        obtain ⟨w1, w2, w3, w4, w5⟩ := hw
        refine ⟨a, l, _, xs, ts, rfl, hs, rfl, hl, da, .inr ⟨r, rfl, w3⟩, w1, w2, w5, hd, fun _ e => (by cases e), fun _ e => ?_⟩
        cases e
        have : min r ((Tm.rebs g ts).length : Int) = r := by rw [Tm.rebs_map, List.length_map]; omega
        rw [this]; rfl
    obtain ⟨a, l, ys, xs, ts, rfl, hs, hat, hl, da, kind, tne, tlen, twf, tdep, e1, e2⟩ := one
    refine w_lcL hA (by decide +kernel) (i := 2) ⟨rfl, rfl⟩ ?_
    walk_at "V"
    refine g_ixT hA hs hat ?_
    refine ⟨l, xs, rfl, hl, fun D1 hD1 => ?_⟩
    obtain ⟨M, rfl⟩ : ∃ M, M + 1 = N := ⟨N - 1, by omega⟩
    have hxl : xs.length = ts.length := by rw [da.length, Tm.pys_length]
    have hD0 : New H D1 := g1.keep _ hD1
    refine ⟨fun j H4 => ∃ (us : List V) (L : List Addr), us.length = j ∧ H4 D1 = some (.lst us) ∧ DnAll m.K H4 us (Tm.pys (Tm.rebs g (ts.take j))) L ∧ L.Nodup ∧ (∀ a ∈ L, New H a ∧ a ≠ D1) ∧ Grow m.T H1 H4, ?_, ?_, ?_, ?_⟩
    · exact ⟨[], [], rfl, upd_same, .nil, by simp, by simp, Grow.new hD1⟩
    · rintro j H4 _ ⟨_, _, _, _, _, _, _, g4⟩
      exact GrowX.seqL g4 hl fun z => z
    · rintro j x H4 hx ⟨us, L, ul, hu, du, nd, nw, g4⟩ X' hX'
      have c1 := nc_of hX' 1 "change"
      have c2 := nl_of hX' 2 "inner"
      have hj : j < ts.length := by rw [← hxl]; exact (List.getElem?_eq_some_iff.1 hx).1
      obtain ⟨pd, hpd, dx⟩ := da.getV hx
      rw [Tm.pys_map, List.getElem?_map] at hpd
      obtain ⟨tj, htj, rfl⟩ := Option.map_eq_some_iff.1 hpd
      have htm := List.mem_of_getElem? htj
      refine w_call hX' (ih M rfl) (by omega) rfl ?_
      walk_at "V"
      refine ⟨x, c, tj, g, rfl, g4.tab (g1.tab hT), g4.da dx, by have := Tm.dep_mem htm; omega, Tm.wfs_iff.1 twf tj htm, hc.ext (Grow.extN (g1.trans g4)), fun u H5 g5 du5 => ?_⟩
      have hu5 : H5 D1 = some (.lst us) := g5.extN _ _ hu (fun _ w => by cases w)
      have gX := GrowX.lst (T := m.T) (ys := us ++ [u]) hu5
      obtain ⟨L5, d5, nd5, nw5⟩ := du5
      have hL : ∀ a ∈ L, ∃ xs, H4 a = some (.lst xs) := du.some
      refine ⟨us, hu5, by rw [ul, sizeLine_eq]; omega, us ++ [u], L ++ L5, by simp [ul], upd_same, ?_, ?_, ?_, Grow.intoNew (g4.trans g5) gX fun c w => by rw [w]; exact hD1⟩
      · have et : Tm.pys (Tm.rebs g (ts.take (j + 1))) = Tm.pys (Tm.rebs g (ts.take j)) ++ [(tj.reb g).py] := by
          rw [List.take_add_one, htj]
          simp [Tm.rebs_map, Tm.pys_map]
        rw [et]
        have both : DnAll m.K H5 (us ++ [u]) (Tm.pys (Tm.rebs g (ts.take j)) ++ [(tj.reb g).py]) (L ++ L5) := by simpa using (GrowX.dnAll g5 du fun _ _ z => z).append (.cons d5 .nil)
        refine gX.dnAll both fun a ha => ?_
        rcases List.mem_append.1 ha with z | z
        · exact (nw a z).2
        · exact fun w => by rw [w] at z; rw [show H4 D1 = none from nw5 _ z] at hu; cases hu
      · refine List.nodup_append.2 ⟨nd, nd5, fun a ha b hb e => ?_⟩
        obtain ⟨_, w⟩ := hL a ha
        rw [e, show H4 b = none from nw5 b hb] at w; cases w
      · intro a ha
        rcases List.mem_append.1 ha with z | z
        · exact nw a z
        · exact ⟨g1.keep _ (g4.keep _ (nw5 a z)), fun w => by rw [w] at z; rw [show H4 D1 = none from nw5 _ z] at hu; cases hu⟩
    · rintro H4 ⟨us, L, ul, hu, du, nd, nw, g4⟩
      rw [hxl, List.take_length] at du
      walk_at "V"
      refine ⟨.ref a, D1, us, t, ts, Tm.rebs g ts, Any, L, rfl, g4.da (g1.da d), hu, du, ?_, ?_, kind, fun u t' H5 k1 k2 g5 du5 => ?_⟩
      · intro w
        rw [Tm.rebs_map] at w
        exact tne (List.map_eq_nil_iff.1 w)
      · rw [Tm.rebs_map, List.length_map]; exact tlen
      · have et : t' = t.reb g := by
          rcases kind with ⟨f, e⟩ | ⟨r, e, _⟩
          · rw [k1 f e, e1 f e]
          · rw [k2 r e, e2 r e]
        rw [et] at du5
        exact k u H5 ((g1.trans g4).trans g5) ⟨_, du5, List.nodup_cons.2 ⟨fun z => (nw _ z).2 rfl, nd⟩, fun b hb => by
          rcases List.mem_cons.1 hb with e | e
          · rw [e]; exact hD0
          · exact (nw b e).1⟩
theorem c_rebuilt {m : Md} {f : Addr} {fd : FuncData} (F : C8.Def m.K m.mg "rebuilt" st_rebuilt f fd) (b : L2.Binds m.K fd ps_rebuilt []) (kc : Nat) (hkc : 1 ≤ kc) (P : Cal m 1 "is_part" (sp_is_part m)) (W : Cal m 1 "with_terms" (sp_with_terms m)) : ∀ N, Cal m (kc + N + 1) "rebuilt" (sp_rebuilt m kc N) := by
  intro N
  induction N with
  | zero => exact rebuilt_step F b kc hkc P W 0 fun M e => by omega
  | succ N ih =>
    refine rebuilt_step F b kc hkc P W (N + 1) fun M e => ?_
    have e2 : M = N := by omega
    rw [e2]
    exact ih
/-- the table in which the one lambda of a def is looked up -/
structure Tab1 (m : Md) (cd : Value) (qual : Str) : Prop where
  ex : ∃ c P, cd = .ref c ∧ TabB m.base m.mg c P ∧ (P, qual) ∈ m.T ∧ ∀ p ∈ m.T, p.1 = P → p.2 = qual
def sp_copied (m : Md) (N : Nat) : Sp := fun vs H Q _ => ∃ (v : V) (t : Tm), vs = [v] ∧ Tabs m.T H ∧ Da m.K Any H v t.py ∧ t.dep ≤ N ∧ t.wf ∧ ∀ (u : V) (H' : Hp), Grow m.T H H' → Fr m.K H H' u t.py → Q u H'
theorem c_copied {m : Md} {f : Addr} {fd : FuncData} (F : C8.Def m.K m.mg "copied" st_copied f fd) (b : L2.Binds m.K fd ps_copied []) (L : Tab1 m fd.code ("copied" ++ ".<locals>." ++ "<lambda>")) (N : Nat) (R : Cal m (1 + N + 1) "rebuilt" (sp_rebuilt m 1 N)) : Cal m (N + 3) "copied" (sp_copied m N) := by
  refine cal_ofM F b sc_copied (fun vs H Q E h => by obtain ⟨_, _, rfl, _⟩ := h; rfl) fun X vs H Q E hA hM h => ?_
  obtain ⟨v, t, rfl, hT, d, hd, hw, k⟩ := h
  replace hA : At m nl_copied (C8.fnScope st_copied) (N + 2) X := hA
  have n0 := nv_copied
  obtain ⟨c, P, ec, TB, hm, hu⟩ := L.ex
  walk_at "B"
  walk_at "V"
  refine w_call hA R (by omega) rfl ?_
  walk_at "V"
  refine w_lam0 (k := 0) (ps := ["part"]) (NL := ["part"]) (sp := spCh m fun x => x) hA TB (by rw [hM.code]; exact ec) (by rw [hM.qual]) hm hu ?_ ?_ ?_ ?_ hT ?_
  · exact ⟨rfl, rfl, rfl, by decide, rfl, by decide +kernel, by decide +kernel, by decide +kernel, by decide +kernel⟩
  · intro c' cl pm ctv us hl
    match us, hl with
    | [_], _ => rfl
  · intro vs H Q E z
    obtain ⟨_, _, _, _, rfl, _⟩ := z
    rfl
  · intro X' vs H1 Q1 hX z
    obtain ⟨u, n, zz, w, rfl, _, du, kk⟩ := z
    have n1 := nl_of hX 0 "part"
    walk_at "V"
    exact kk u H1 GrowX.refl ⟨[], dn_parts du, by simp, by simp⟩
  · intro fl H1 ext tab keep cal
    have g : Grow m.T H H1 := Grow.of ext (fun _ => tab) keep
    walk_at "V"
    refine ⟨v, fl, t, fun x => x, rfl, tab, g.da d, hd, hw, cal, fun u H2 g2 du => ?_⟩
    rw [Tm.reb_id] at du
    exact k u H2 (g.trans g2) (Fr.pre g du)
def sp_is_whole (m : Md) : Sp := fun vs H Q _ => ∃ (v : V) (d : PyData) (A : Addr → Prop), vs = [v] ∧ Ob m.K A H v d ∧ Q (.bl (isWh d)) H
theorem c_is_whole {m : Md} {f : Addr} {fd : FuncData} (F : C8.Def m.K m.mg "is_whole" st_is_whole f fd) (b : L2.Binds m.K fd ps_is_whole []) (hi : m.mg "isinstance" = none) (h1 : m.mg "int" = none) (h2 : m.mg "bool" = none) : Cal m 1 "is_whole" (sp_is_whole m) := by
  refine cal_of F b sc_is_whole (fun vs H Q E h => by obtain ⟨_, _, _, rfl, _⟩ := h; rfl) fun X vs H Q E hA h => ?_
  obtain ⟨v, d, A, rfl, o, k⟩ := h
  have n0 := nv_is_whole
  walk_at "B"
  walk_at "V"
  refine g_blt hA hi rfl bt_isinstance ?_
  walk_at "V"
  refine w_tyn hA h1 rfl bt_int ?_
  walk_at "V"
  refine g_isi hA (.ty "int") o.ty (kit_ty (kit_all "int" (by decide) d)) ?_
  walk_at "V"
  rw [isWh_eq] at k
  refine ite2 (fun h0 => ?_) fun h0 => ?_
  · walk_at "V"
    refine g_blt hA hi rfl bt_isinstance ?_
    walk_at "V"
    refine w_tyn hA h2 rfl bt_bool ?_
    walk_at "V"
    refine g_isi hA (.ty "bool") o.ty (kit_ty (kit_all "bool" (by decide) d)) ?_
    walk_at "V"
    rw [h0] at k
    simpa using k
  · have e : isIn "int" d = false := by simpa using h0
    rw [e] at k
    exact k
theorem le_chr (c d : Nat) : (!decide ([d] < [c])) = decide (c ≤ d) := by
  rw [Bool.eq_iff_iff]
  simp [List.cons_lt_cons_iff]
def sp_is_name (m : Md) : Sp := fun vs H Q _ => ∃ (v : V) (d : PyData) (A : Addr → Prop), vs = [v] ∧ Ob m.K A H v d ∧ ∀ H', Grow m.T H H' → Q (.bl (isNm d)) H'
theorem c_is_name {m : Md} {f : Addr} {fd : FuncData} (F : C8.Def m.K m.mg "is_name" st_is_name f fd) (b : L2.Binds m.K fd ps_is_name []) (hi : m.mg "isinstance" = none) (h1 : m.mg "str" = none) (hlen : m.mg "len" = none) (hall : m.mg "all" = none) {tk : Tok} (hL : m.mg "LONGEST_NAME" = some (.int 8 tk)) : Cal m 1 "is_name" (sp_is_name m) := by
  refine cal_of F b sc_is_name (fun vs H Q E h => by obtain ⟨_, _, _, rfl, _⟩ := h; rfl) fun X vs H Q E hA h => ?_
  obtain ⟨v, d, A, rfl, o, k⟩ := h
  have n0 := nv_is_name
  walk_at "B"
  walk_at "V"
  refine g_blt hA hi rfl bt_isinstance ?_
  walk_at "V"
  refine w_tyn hA h1 rfl bt_str ?_
  walk_at "V"
  refine g_isi hA (.ty "str") o.ty (kit_ty (kit_all "str" (by decide) d)) ?_
  walk_at "V"
  refine ite2 (fun h0 => ?_) fun h0 => ?_
  · walk_at "V"
    have e : isNm d = false := by cases d <;> first | rfl | simp [isIn, tyD] at h0
    rw [e] at k
    refine iteT ?_
    walk_at "V"
    exact k H GrowX.refl
  · obtain ⟨z, rfl⟩ : ∃ z, d = .str z := by
      cases d <;> first | exact ⟨_, rfl⟩ | simp [isIn, tyD] at h0
    obtain ⟨zl, rfl⟩ : z.length ≤ sizeLine ∧ v = .str z := by cases o with | str _ l => exact ⟨l, rfl⟩
    walk_at "V"
    refine t_chain ?_
    walk_at "V"
    refine g_blt hA hlen rfl bt_len ?_
    walk_at "V"
    refine g_lenS zl ?_
    walk_at "V"
    refine ite2 (fun h2 => ?_) fun h2 => ?_
    · refine w_glb (v := .int 8) hA hL ⟨_, rfl⟩ rfl ?_
      walk_at "V"
      refine ite2 (fun h3 => ?_) fun h3 => ?_
      · walk_at "V"
        have e : isNm (.str z) = false := by simp [isNm, nmB] at h3 ⊢; omega
        rw [e] at k
        exact k H GrowX.refl
      · refine b_nil ?_
        walk_at "B"
        walk_at "V"
        refine g_blt hA hall rfl bt_all ?_
        refine w_cons (w_lcS hA (by decide +kernel) (i := 1) ⟨rfl, rfl⟩ ?_)
        walk_at "V"
        refine fun D hD => ⟨fun j H' => Grow m.T H H' ∧ H' D = some (.lst (((z.cps.toList.take j).map fun c => decide (97 ≤ c) && decide (c ≤ 122)).map V.bl)), ?_, ?_, ?_⟩
        · exact ⟨Grow.new hD, upd_same⟩
        · rintro j c H' hc ⟨g, hv⟩ X' hX'
          have c1 := nl_of hX' 1 "sign"
          refine w_chain ?_
          walk_at "V"
          refine g_leT ?_
          rw [show ("a" : Str).cps.toList = [97] from by decide +kernel, show (⟨#[c]⟩ : Str).cps.toList = [c] from rfl, le_chr]
          walk_at "V"
          have eD : ∀ r : Bool, (decide (97 ≤ c) && decide (c ≤ 122)) = r → App D (fun H' => Grow m.T H H' ∧ H' D = some (.lst (((z.cps.toList.take (j + 1)).map fun c => decide (97 ≤ c) && decide (c ≤ 122)).map V.bl))) (.bl r) H' := by
            intro r er
            have hz9 : z.cps.size ≤ 8 := by
              have : z.length ≤ 8 := by simp at h3; omega
              exact this
            have ht : z.cps.toList[j]? = some c := by rw [Array.getElem?_toList]; exact hc
            refine ⟨_, hv, by rw [List.length_map, List.length_map, List.length_take, sizeLine_eq, Array.length_toList]; omega, g.intoNew (GrowX.lst hv) (fun _ w => by rw [w]; exact hD), ?_⟩
            rw [upd_same, List.take_add_one, ht, ← er]
            simp
          refine ite2 (fun h4 => ?_) fun h4 => ?_
          · walk_at "V"
            refine g_leT ?_
            rw [show ("z" : Str).cps.toList = [122] from by decide +kernel, show (⟨#[c]⟩ : Str).cps.toList = [c] from rfl, le_chr]
            exact eD _ (by rw [h4]; rfl)
          · exact eD false (by simp at h4 ⊢; omega)
        · rintro H' ⟨g, hv⟩
          walk_at "V"
          refine g_all hA (SqL.of hv) ?_
          have e : isNm (.str z) = (List.map (fun c => decide (97 ≤ c) && decide (c ≤ 122)) (List.take z.cps.size z.cps.toList)).all id := by
            have a1 : 1 ≤ z.length := by simp at h2; omega
            have a2 : z.length ≤ 8 := by simp at h3; omega
            rw [← Array.length_toList, List.take_length, List.all_map]
            simp [isNm, nmB, a1, a2]
          rw [e] at k
          exact k H' g
    · walk_at "V"
      refine iteT ?_
      walk_at "V"
      have e : isNm (.str z) = false := by simp [isNm, nmB] at h2 ⊢; omega
      rw [e] at k
      exact k H GrowX.refl
/-- what is asked of a def that tells whether an object is of a kind -/
def sp_is (m : Md) (p : PyData → Bool) (N : Nat) : Sp := fun vs H Q _ => ∃ (v : V) (d : PyData), vs = [v] ∧ Ob m.K Any H v d ∧ d.depth ≤ N ∧ ∀ H', Grow m.T H H' → Q (.bl (p d)) H'
theorem Grow.ob {T : List (Addr × Str)} {K : PySem.W.Frag} {A : Addr → Prop} {H H1 : Hp} {v : V} {d : PyData} (g : Grow T H H1) (h : Ob K A H v d) : Ob K A H1 v d :=
  Ob.mono (fun _ z => z) (fun a xs _ e => GrowX.seqL g e fun z => z) (fun a xs e => GrowX.seqT g e) (fun a kvs _ e => g.extN _ _ e (fun _ z => by cases z)) d v h
theorem Grow.obAll {T : List (Addr × Str)} {K : PySem.W.Frag} {A : Addr → Prop} {H H1 : Hp} {v : List V} {d : List PyData} (g : Grow T H H1) (h : ObAll K A H v d) : ObAll K A H1 v d :=
  ObAll.mono (fun _ z => z) (fun a xs _ e => GrowX.seqL g e fun z => z) (fun a xs e => GrowX.seqT g e) (fun a kvs _ e => g.extN _ _ e (fun _ z => by cases z)) d v h
theorem depth_mem : ∀ {ds : List PyData} {i : Nat} {d : PyData}, ds[i]? = some d → d.depth ≤ PyData.depthAll ds
  | [], _, _, h => by simp at h
  | a :: ds, 0, d, h => by
    have : a = d := by simpa using h
    subst this
    simp only [PyData.depthAll]; omega
  | a :: ds, i + 1, d, h => by
    have := depth_mem (ds := ds) (i := i) (d := d) (by simpa using h)
    simp only [PyData.depthAll]; omega
theorem isTms_all : ∀ ds : List PyData, isTms ds = ds.all isTm
  | [] => rfl
  | d :: ds => by rw [isTms, isTms_all ds]; rfl
theorem itl_step {m : Md} {f : Addr} {fd : FuncData} (F : C8.Def m.K m.mg "_is_term_list" st_x_is_term_list f fd) (b : L2.Binds m.K fd ps_x_is_term_list []) (hi : m.mg "isinstance" = none) (h1 : m.mg "list" = none) (hlen : m.mg "len" = none) (hall : m.mg "all" = none) (N k : Nat) (ih : ∀ M, M + 1 = N → Cal m k "is_term" (sp_is m isTm M)) : Cal m (k + 1) "_is_term_list" (sp_is m isTl N) := by
  refine cal_ofM F b sc_x_is_term_list (fun vs H Q E h => by obtain ⟨_, _, rfl, _⟩ := h; rfl) fun X vs H Q E hA hM h => ?_
  obtain ⟨v, d, rfl, o, hd, q⟩ := h
  have n0 := nv_x_is_term_list
  walk_at "B"
  walk_at "V"
  refine g_blt hA hi rfl bt_isinstance ?_
  walk_at "V"
  refine w_tyn hA h1 rfl bt_list ?_
  walk_at "V"
  refine g_isi hA (.ty "list") o.ty (kit_ty (kit_all "list" (by decide) d)) ?_
  walk_at "V"
  refine ite2 (fun h0 => ?_) fun h0 => ?_
  · obtain ⟨ds, rfl⟩ : ∃ ds, d = .list ds := by
      cases d <;> first | exact ⟨_, rfl⟩ | simp [isIn, tyD] at h0
    obtain ⟨a, xs, rfl, hs, da, hl⟩ : ∃ a xs, v = .ref a ∧ SqL m.K H a xs ∧ ObAll m.K Any H xs ds ∧ xs.length < 1000000 := by
      cases o with | lst _ s r l => exact ⟨_, _, rfl, s, r, l⟩
    walk_at "V"
    refine g_blt hA hlen rfl bt_len ?_
    walk_at "V"
    refine g_lenL hA hs ?_
    walk_at "V"
    refine ite2 (fun h2 => ?_) fun h2 => ?_
    · walk_at "V"
      refine g_blt hA hall rfl bt_all ?_
      refine w_cons (w_lcL hA (by decide +kernel) (i := 1) ⟨rfl, rfl⟩ ?_)
      walk_at "V"
      refine ⟨a, xs, rfl, hs, fun D hD => ⟨fun j H' => Grow m.T H H' ∧ H' D = some (.lst (((ds.take j).map isTm).map V.bl)), ?_, ?_, ?_, ?_⟩⟩
      · exact ⟨Grow.new hD, upd_same⟩
      · rintro j H' _ ⟨g, _⟩
        exact GrowX.seqL g hs fun z => z
      · rintro j x H' hx ⟨g, hv⟩ X' hX'
        have c1 := nl_of hX' 1 "term"
        obtain ⟨dj, hdj, oj⟩ := da.getV hx
        have hjd := depth_mem hdj
        have hd' : PyData.depthAll ds + 1 ≤ N := hd
        refine w_call hX' (ih (N - 1) (by omega)) (by omega) rfl ?_
        walk_at "V"
        refine ⟨x, dj, rfl, g.ob oj, by omega, fun H5 g5 => ?_⟩
        have hv5 := g5.extN _ _ hv (fun _ w => by cases w)
        have hjl := (List.getElem?_eq_some_iff.1 hx).1
        refine ⟨_, hv5, by rw [List.length_map, List.length_map, List.length_take, sizeLine_eq]; omega, Grow.intoNew (g.trans g5) (GrowX.lst hv5) (fun _ w => by rw [w]; exact hD), ?_⟩
        rw [upd_same, List.take_add_one, hdj]
        simp
      · rintro H' ⟨g, hv⟩
        rw [da.length, List.take_length] at hv
        walk_at "V"
        refine g_all hA (SqL.of hv) ?_
        have e : isTl (.list ds) = (ds.map isTm).all id := by
          have : ds ≠ [] := by
            intro w
            rw [w] at da
            cases da
            simp at h2
          rw [isTl, isTms_all, List.all_map]
          simp [this]
        rw [e] at q
        exact q H' g
    · have e : isTl (.list ds) = false := by
        have : ds = [] := by
          cases ds with
          | nil => rfl
          | cons _ _ => cases da; simp at h2
        subst this
        rfl
      rw [e] at q
      exact q H GrowX.refl
  · have e : isTl d = false := by
      cases d <;> first | rfl | simp [isIn, tyD] at h0
    rw [e] at q
    exact q H GrowX.refl
theorem isTm3_short {ds : List PyData} (h : ds.length < 2) : isTm3 ds = false := by
  match ds, h with
  | [], _ => rfl
  | [_], _ => rfl
theorem isTm3_long {ds : List PyData} (h : 3 < ds.length) : isTm3 ds = false := by
  match ds, h with
  | _ :: _ :: _ :: _ :: _, _ => rfl
theorem isS_two {z w : Str} (h : z ≠ w) (d : PyData) : (isS z d && isS w d) = false := by
  cases d <;> simp [isS]
  rename_i y
  intro e; rw [e]; exact h
theorem term_step {m : Md} {f : Addr} {fd : FuncData} (F : C8.Def m.K m.mg "is_term" st_is_term f fd) (b : L2.Binds m.K fd ps_is_term []) (hi : m.mg "isinstance" = none) (h1 : m.mg "tuple" = none) (hlen : m.mg "len" = none) (Nm : Cal m 1 "is_name" (sp_is_name m)) (Wh : Cal m 1 "is_whole" (sp_is_whole m)) (N k : Nat) (hk : 1 ≤ k) (ih : ∀ M, M + 1 = N → Cal m k "_is_term_list" (sp_is m isTl M)) : Cal m (k + 1) "is_term" (sp_is m isTm N) := by
  refine cal_of F b sc_is_term (fun vs H Q E h => by obtain ⟨_, _, rfl, _⟩ := h; rfl) fun X vs H Q E hA h => ?_
  obtain ⟨v, d, rfl, o, hd, q⟩ := h
  obtain ⟨n0, n1⟩ := nv_is_term
  walk_at "B"
  walk_at "V"
  refine g_blt hA hi rfl bt_isinstance ?_
  walk_at "V"
  refine w_tyn hA h1 rfl bt_tuple ?_
  walk_at "V"
  refine g_isi hA (.ty "tuple") o.ty (kit_ty (kit_all "tuple" (by decide) d)) ?_
  walk_at "V"
  refine ite2 (fun h0 => ?_) fun h0 => ?_
  · have e : isTm d = false := by cases d <;> first | rfl | simp [isIn, tyD] at h0
    rw [e] at q
    refine iteT ?_
    walk_at "V"
    exact q H GrowX.refl
  obtain ⟨ds, rfl⟩ : ∃ ds, d = .tuple ds := by
    cases d <;> first | exact ⟨_, rfl⟩ | simp [isIn, tyD] at h0
  obtain ⟨a, xs, rfl, hs, da⟩ : ∃ a xs, v = .ref a ∧ SqT m.K H a xs ∧ ObAll m.K Any H xs ds := by
    cases o with | tup s r => exact ⟨_, _, rfl, s, r⟩
  have hxl := da.length
  have hdd : PyData.depthAll ds + 1 ≤ N := hd
  walk_at "V"
  refine g_blt hA hlen rfl bt_len ?_
  walk_at "V"
  refine g_lenT hA hs ?_
  walk_at "V"
  refine ite2 (fun h2 => ?_) fun h2 => ?_
  · walk_at "V"
    have e : isTm (.tuple ds) = false := isTm3_short (by simp at h2; omega)
    rw [e] at q
    exact q H GrowX.refl
  refine b_nil (b_cons ?_)
  have h2' : 2 ≤ ds.length := by simp at h2; omega
  walk_at "V"
  obtain ⟨d0, d1, ds2, rfl⟩ : ∃ d0 d1 ds2, ds = d0 :: d1 :: ds2 := by
    match ds, h2' with
    | d0 :: d1 :: ds2, _ => exact ⟨d0, d1, ds2, rfl⟩
  cases da with | cons o0 da => cases da with | cons o1 da =>
  rename_i x0 x1 xs2
  refine g_ixT hA hs (atI_at (j := 0) rfl) ?_
  walk_at "V"
  refine ⟨by walk_at "S", fun p2 hp2 => ?_⟩
  have g1 := Grow.new (T := m.T) (o := .tup [.str ("of" : Str), .str ("now" : Str)]) hp2
  refine g_inOb hA (g1.ob o0) upd_same ?_
  walk_at "V"
  refine ite2 (fun hw => ?_) fun hw => ?_
  · -- a part
    have hnr : isS "rank" d0 = false := by
      cases d0 <;> simp [isS] at hw ⊢
      rename_i y
      rcases hw with e | e <;> subst e <;> decide +kernel
    have hnf : (isS "first" d0 || isS "last" d0) = false := by
      cases d0 <;> simp [isS] at hw ⊢
      rename_i y
      rcases hw with e | e <;> subst e <;> decide +kernel
    walk_at "V"
    refine g_blt hA hlen rfl bt_len ?_
    walk_at "V"
    refine g_lenT hA (GrowX.seqT g1 hs) ?_
    walk_at "V"
    refine ite2 (fun h3 => ?_) fun h3 => ?_
    · obtain ⟨d2, rfl⟩ : ∃ d2, ds2 = [d2] := by
        have : ds2.length = 1 := by simp at h3 hxl; omega
        match ds2, this with
        | [d2], _ => exact ⟨d2, rfl⟩
      cases da with | cons o2 da =>
      cases da
      rename_i x2
      have eT : isTm (.tuple [d0, d1, d2]) = (isNm d1 && isWh d2) := by
        show (((isS "of" d0 || isS "now" d0) && isNm d1 && isWh d2) || (isS "rank" d0 && isTl d2 && rkOk d1 d2)) = _
        rw [hw, hnr]; simp
      rw [eT] at q
      walk_at "V"
      refine w_call hA Nm (by omega) rfl ?_
      walk_at "V"
      refine g_ixT hA (GrowX.seqT g1 hs) (atI_at (j := 1) rfl) ?_
      walk_at "V"
      refine ⟨x1, d1, Any, rfl, g1.ob o1, fun H2 g2 => ?_⟩
      walk_at "V"
      refine ite2 (fun h4 => ?_) fun h4 => ?_
      · walk_at "V"
        refine w_call hA Wh (by omega) rfl ?_
        walk_at "V"
        refine g_ixT hA (GrowX.seqT g2 (GrowX.seqT g1 hs)) (atI_at (j := 2) rfl) ?_
        walk_at "V"
        refine ⟨x2, d2, Any, rfl, g2.ob (g1.ob o2), ?_⟩
        rw [h4] at q
        exact q H2 (g1.trans g2)
      · have e : isNm d1 = false := by simpa using h4
        rw [e] at q
        exact q H2 (g1.trans g2)
    · have eT : isTm (.tuple (d0 :: d1 :: ds2)) = false := by
        match ds2, h3, hxl with
        | [], _, _ => show ((isS "first" d0 || isS "last" d0) && isTl d1) = false; rw [hnf]; rfl
        | [d2], h3, hxl => simp at h3 hxl; omega
        | _ :: _ :: _, _, _ => exact isTm3_long (by simp)
      rw [eT] at q
      exact q _ g1
  · refine b_nil (b_cons ?_)
    walk_at "V"
    refine ⟨by walk_at "S", fun p3 hp3 => ?_⟩
    have g2 := Grow.new (T := m.T) (o := .tup [.str ("first" : Str), .str ("last" : Str)]) hp3
    have g12 := g1.trans g2
    refine g_inOb hA (Grow.ob g12 o0) upd_same ?_
    walk_at "V"
    have hnp : (isS "of" d0 || isS "now" d0) = false := by simpa using hw
    refine ite2 (fun hw2 => ?_) fun hw2 => ?_
    · have hnr : isS "rank" d0 = false := by
        cases d0 <;> simp [isS] at hw2 ⊢
        rename_i y
        rcases hw2 with e | e <;> subst e <;> decide +kernel
      walk_at "V"
      refine g_blt hA hlen rfl bt_len ?_
      walk_at "V"
      refine g_lenT hA (GrowX.seqT g12 hs) ?_
      walk_at "V"
      refine ite2 (fun h3 => ?_) fun h3 => ?_
      · obtain rfl : ds2 = [] := by
          have : ds2.length = 0 := by simp at h3 hxl; omega
          exact List.length_eq_zero_iff.1 this
        have eT : isTm (.tuple [d0, d1]) = isTl d1 := by
          show ((isS "first" d0 || isS "last" d0) && isTl d1) = _
          rw [hw2]; rfl
        rw [eT] at q
        walk_at "V"
        refine w_call hA (ih (N - 1) (by omega)) (by omega) rfl ?_
        walk_at "V"
        refine g_ixT hA (GrowX.seqT g12 hs) (atI_at (j := 1) rfl) ?_
        walk_at "V"
        have hdep : d1.depth ≤ N - 1 := by
          have := depth_mem (ds := [d0, d1]) (i := 1) (d := d1) rfl
          omega
        exact ⟨x1, d1, rfl, Grow.ob g12 o1, hdep, fun H3 g3 => q H3 (g12.trans g3)⟩
      · have eT : isTm (.tuple (d0 :: d1 :: ds2)) = false := by
          match ds2, h3, hxl with
          | [], h3, hxl => simp only [decide_eq_true_eq, List.length_cons, List.length_nil] at h3 hxl; omega
          | [d2], _, _ =>
            show (((isS "of" d0 || isS "now" d0) && isNm d1 && isWh d2) || (isS "rank" d0 && isTl d2 && rkOk d1 d2)) = false
            rw [hnp, hnr]; rfl
          | _ :: _ :: _, _, _ => exact isTm3_long (by simp)
        rw [eT] at q
        exact q _ g12
    · have hnf : (isS "first" d0 || isS "last" d0) = false := by simpa using hw2
      refine b_nil (b_cons ?_)
      walk_at "v"
      walk_at "E"
      refine g_eqOb hA (Grow.ob g12 o0) ?_
      walk_at "E"
      -- what is left behind the if
      have last : ∀ H3, Grow m.T H H3 → isTm (.tuple (d0 :: d1 :: ds2)) = false → wB X (C8.fnBody st_is_term).tail.tail.tail.tail.tail { nx := fun _ H' => Q .non H', rt := Q } [some (.ref a), some x0] H3 := by
        intro H3 g3 e
        walk_at "B"
        walk_at "V"
        rw [e] at q
        exact q H3 g3
      have no3 : isS "rank" d0 = false ∨ ds2.length ≠ 1 → isTm (.tuple (d0 :: d1 :: ds2)) = false := by
        intro z
        match ds2, z with
        | [], _ => show ((isS "first" d0 || isS "last" d0) && isTl d1) = false; rw [hnf]; rfl
        | [d2], z =>
          have z' : isS "rank" d0 = false := by
            rcases z with z | z
            · exact z
            · exact absurd rfl z
          show (((isS "of" d0 || isS "now" d0) && isNm d1 && isWh d2) || (isS "rank" d0 && isTl d2 && rkOk d1 d2)) = false
          rw [hnp, z']; rfl
        | _ :: _ :: _, _ => exact isTm3_long (by simp)
      refine ite2 (fun hr => ?_) fun hr => ?_
      · walk_at "E"
        refine g_blt hA hlen rfl bt_len ?_
        walk_at "E"
        refine g_lenT hA (GrowX.seqT g12 hs) ?_
        walk_at "E"
        refine ite2 (fun h3 => ?_) fun h3 => ?_
        · obtain ⟨d2, rfl⟩ : ∃ d2, ds2 = [d2] := by
            have : ds2.length = 1 := by simp at h3 hxl; omega
            match ds2, this with
            | [d2], _ => exact ⟨d2, rfl⟩
          cases da with | cons o2 da =>
          cases da
          rename_i x2
          have eT : isTm (.tuple [d0, d1, d2]) = (isTl d2 && rkOk d1 d2) := by
            show (((isS "of" d0 || isS "now" d0) && isNm d1 && isWh d2) || (isS "rank" d0 && isTl d2 && rkOk d1 d2)) = _
            rw [hnp, hr]; rfl
          walk_at "E"
          refine w_call hA (ih (N - 1) (by omega)) (by omega) rfl ?_
          walk_at "E"
          refine g_ixT hA (GrowX.seqT g12 hs) (atI_at (j := 2) rfl) ?_
          walk_at "E"
          have hdep : d2.depth ≤ N - 1 := by
            have := depth_mem (ds := [d0, d1, d2]) (i := 2) (d := d2) rfl
            omega
          refine ⟨x2, d2, rfl, Grow.ob g12 o2, hdep, fun H3 g3 => ?_⟩
          have g13 := g12.trans g3
          walk_at "E"
          refine ite2 (fun h4 => ?_) fun h4 => ?_
          · rw [eT, h4] at q
            walk_at "V"
            refine w_call hA Wh (by omega) rfl ?_
            walk_at "V"
            refine g_ixT hA (GrowX.seqT g13 hs) (atI_at (j := 1) rfl) ?_
            walk_at "V"
            refine ⟨x1, d1, Any, rfl, Grow.ob g13 o1, ?_⟩
            walk_at "V"
            refine ite2 (fun h5 => ?_) fun h5 => ?_
            · obtain ⟨r, rfl⟩ : ∃ r, d1 = .int r := by
                cases d1 <;> first | exact ⟨_, rfl⟩ | simp [isWh] at h5
              obtain ⟨es, rfl⟩ : ∃ es, d2 = .list es := by
                cases d2 <;> first | exact ⟨_, rfl⟩ | simp [isTl] at h4
              obtain rfl : x1 = .int r := by cases o1; rfl
              obtain ⟨l, ys, rfl, hl, dl⟩ : ∃ l ys, x2 = .ref l ∧ SqL m.K H l ys ∧ ObAll m.K Any H ys es := by
                cases o2 with | lst _ s r _ => exact ⟨_, _, rfl, s, r⟩
              walk_at "V"
              refine w_chain ?_
              walk_at "V"
              refine g_ixT hA (GrowX.seqT g13 hs) (atI_at (j := 1) rfl) ?_
              walk_at "V"
              have eR : rkOk (.int r) (.list es) = (decide (1 ≤ r) && decide (r ≤ es.length)) := rfl
              rw [eR] at q
              refine ite2 (fun h6 => ?_) fun h6 => ?_
              · refine g_blt hA hlen rfl bt_len ?_
                walk_at "V"
                refine g_ixT hA (GrowX.seqT g13 hs) (atI_at (j := 2) rfl) ?_
                walk_at "V"
                refine g_lenL hA (GrowX.seqL g13 hl fun z => z) ?_
                rw [dl.length]
                walk_at "V"
                rw [h6] at q
                exact q H3 g13
              · have e : decide (1 ≤ r) = false := by simpa using h6
                rw [e] at q
                exact q H3 g13
            · have e : rkOk d1 d2 = false := by cases d1 <;> first | rfl | simp [isWh] at h5
              rw [e] at q
              exact q H3 g13
          · refine b_nil (last H3 g13 ?_)
            rw [eT]
            simp at h4
            rw [h4]; rfl
        · exact b_nil (last _ g12 (no3 (.inr (by simp at h3 hxl; omega))))
      · exact b_nil (last _ g12 (no3 (.inl (by simpa using hr))))
/-- is_term and _is_term_list, by the depth of what is asked -/
theorem c_is_term {m : Md} {f f2 : Addr} {fd fd2 : FuncData} (F : C8.Def m.K m.mg "is_term" st_is_term f fd) (b : L2.Binds m.K fd ps_is_term []) (F2 : C8.Def m.K m.mg "_is_term_list" st_x_is_term_list f2 fd2) (b2 : L2.Binds m.K fd2 ps_x_is_term_list [])
    (hi : m.mg "isinstance" = none) (h1 : m.mg "tuple" = none) (h2 : m.mg "list" = none) (hlen : m.mg "len" = none) (hall : m.mg "all" = none) (Nm : Cal m 1 "is_name" (sp_is_name m)) (Wh : Cal m 1 "is_whole" (sp_is_whole m)) : ∀ N, Cal m (N + 2) "is_term" (sp_is m isTm N) ∧ Cal m (N + 2) "_is_term_list" (sp_is m isTl N) := by
  intro N
  induction N with
  | zero => exact ⟨term_step F b hi h1 hlen Nm Wh 0 1 (by omega) fun M e => by omega, itl_step F2 b2 hi h2 hlen hall 0 1 fun M e => by omega⟩
  | succ N ih =>
    refine ⟨term_step F b hi h1 hlen Nm Wh (N + 1) (N + 2) (by omega) fun M e => ?_, itl_step F2 b2 hi h2 hlen hall (N + 1) (N + 2) fun M e => ?_⟩
    · obtain rfl : M = N := by omega
      exact ih.2
    · obtain rfl : M = N := by omega
      exact ih.1
/-- what is known of the class of rules -/
structure RuleC (m : Md) (C : Addr) : Prop where
  cl : Cls m.K C
  no : NoAttr m.K C "_term"
  gR : m.mg "Rule" = some (.ref C)
  ha : PySem.W.findIn m.K (.ref C) "__class__" = some (some (.builtin "object.__class__"))
  hn : PySem.W.specialIn m.K (.builtin "object.__class__") "__get__" = some (some (.builtin "getset_descriptor.__get__"))
  ht : PySem.W.takesIn m.K (.builtin "object.__class__") = some true
  hm : PySem.W.mroIn m.K C (.type "object") = some true
  own : PySem.W.kitOne m.K (.ref C) (.ref C) = some true
  oth : ∀ T ∈ ["NoneType", "bool", "int", "str", "list", "tuple", "dict"], PySem.W.kitOne m.K (.type T) (.ref C) = some false
/-- the rule of the term t stands at i; the lists of its term lie at addresses of A -/
def RuleAt (m : Md) (C : Addr) (A : Addr → Prop) (H : Hp) (i : Addr) (t : Tm) : Prop := ∃ dx u, H i = some (.ins C dx [("_term", u)]) ∧ Da m.K A H u t.py
def sp_rterm (m : Md) (C : Addr) (N : Nat) : Sp := fun vs H Q _ => ∃ (i : Addr) (t : Tm), vs = [.ref i] ∧ RuleAt m C Any H i t ∧ Tabs m.T H ∧ t.dep ≤ N ∧ t.wf ∧ ∀ (u : V) (H' : Hp), Grow m.T H H' → Fr m.K H H' u t.py → Q u H'
theorem m_term {m : Md} {C f : Addr} {fd : FuncData} (R : RuleC m C) (F : C8.Fun m.K "term" "Rule.term" st_Rule_term f fd) (b : L2.Binds m.K fd ps_Rule_term []) (me : Meth m.K C "term" f) (N : Nat) (Cp : Cal m (N + 3) "copied" (sp_copied m N)) : MetX m C8.CX0 (N + 4) C "term" (sp_rterm m C N) [] := by
  refine ⟨f, fd, ps_Rule_term, [], fnG_of F sc_Rule_term (fun vs H Q E h => by obtain ⟨_, _, rfl, _⟩ := h; rfl) fun X vs H Q E hA hM h => ?_, R.cl, me, b, .nil⟩
  obtain ⟨i, t, rfl, ⟨dx, u, hi, d⟩, hT, hd, hw, k⟩ := h
  have n0 := nv_Rule_term
  walk_at "B"
  walk_at "V"
  refine w_call hA Cp (by omega) rfl ?_
  walk_at "V"
  refine w_fld hA R.cl R.no ?_
  walk_at "V"
  refine ⟨i, dx, _, u, rfl, hi, rfl, ?_⟩
  walk_at "V"
  exact ⟨u, t, rfl, hT, d.sub fun _ _ => trivial, hd, hw, k⟩
def sp_req (m : Md) (C : Addr) : Sp := fun vs H Q _ => ∃ (i : Addr) (y : V) (t : Tm), vs = [.ref i, y] ∧ RuleAt m C Any H i t ∧ SeqAt.shaped t.py = true ∧
  ((∃ (j : Addr) (t' : Tm), y = .ref j ∧ RuleAt m C Any H j t' ∧ SeqAt.shaped t'.py = true ∧ Q (.bl (PyData.eqv t.py t'.py)) H) ∨ ∃ T, T ∈ ["NoneType", "bool", "int", "str", "list", "tuple", "dict"] ∧ TyX m.K H y (.type T) ∧ Q (.bl false) H)
theorem m_eq {m : Md} {C f : Addr} {fd : FuncData} (R : RuleC m C) (F : C8.Fun m.K "__eq__" "Rule.__eq__" st_Rule_eq f fd) (b : L2.Binds m.K fd ps_Rule_eq []) (me : Meth m.K C "__eq__" f) (hi : m.mg "isinstance" = none) : MetX m C8.CX0 1 C "__eq__" (sp_req m C) [] := by
  refine ⟨f, fd, ps_Rule_eq, [], fnG_of F sc_Rule_eq (fun vs H Q E h => by obtain ⟨_, _, _, rfl, _⟩ := h; rfl) fun X vs H Q E hA hM h => ?_, R.cl, me, b, .nil⟩
  obtain ⟨i, y, t, rfl, ⟨dx, u, hi1, d⟩, sh, k⟩ := h
  obtain ⟨n0, n1⟩ := nv_Rule_eq
  walk_at "B"
  walk_at "V"
  refine g_blt hA hi rfl bt_isinstance ?_
  walk_at "V"
  refine w_glb (v := .ref C) hA R.gR rfl rfl ?_
  walk_at "V"
  rcases k with ⟨j, t', rfl, ⟨dx', u', hj, d'⟩, sh', k⟩ | ⟨T, hT, ty, k⟩
  · refine g_isi hA (.own C) (.base (.ins hj R.cl R.ha R.hn R.ht R.hm)) R.own ?_
    walk_at "V"
    refine iteT ?_
    walk_at "V"
    refine w_fld hA R.cl R.no ?_
    walk_at "V"
    refine ⟨i, dx, _, u, rfl, hi1, rfl, ?_⟩
    refine w_fld hA R.cl R.no ?_
    walk_at "V"
    refine ⟨j, dx', _, u', rfl, hj, rfl, ?_⟩
    exact g_eqD hA (Da.dp _ _ d) (Da.dp _ _ d') sh sh' k
  · refine g_isi hA (.own C) ty (R.oth T hT) ?_
    walk_at "V"
    exact iteF k
/-- what making a rule of v asks: v is a term, or an object that is none -/
def sp_rinit (m : Md) (C CT : Addr) (N : Nat) : Sp := fun vs H Q E => ∃ (i dx : Addr) (v : V), vs = [.ref i, v] ∧ H i = some (.ins C dx []) ∧ Tabs m.T H ∧
  ((∃ t : Tm, Da m.K Any H v t.py ∧ txOk t.py ∧ isTm t.py = true ∧ t.py.depth ≤ N ∧ t.dep ≤ N ∧ t.wf ∧ ∀ (u : V) (H' : Hp), GrowX m.T (· = i) H H' → H' i = some (.ins C dx [("_term", u)]) → Da m.K (New H) H' u t.py → Q .non H') ∨
    ∃ d : PyData, Ob m.K Any H v d ∧ isTm d = false ∧ d.depth ≤ N ∧ ∀ (H' : Hp) (dE : Addr), Grow m.T H H' → H' dE = none → E (.ref CT) (some dE) (upd H' dE (.xd [("value", v)])))
theorem f_rinit {m : Md} {C CT f : Addr} {fd : FuncData} (R : RuleC m C) (F : C8.Fun m.K "__init__" "Rule.__init__" st_Rule_init f fd) (N : Nat) (I : Cal m (N + 2) "is_term" (sp_is m isTm N)) (Cp : Cal m (N + 3) "copied" (sp_copied m N)) (Er : ErrC m "InvalidTerm" CT "value") : FnG m (L2.CX m.P m.w) (N + 4) f fd ps_Rule_init (sp_rinit m C CT N) := by
  refine fnG_ofX F sc_Rule_init (fun vs H Q E h => by obtain ⟨_, _, _, rfl, _⟩ := h; rfl) fun X vs H Q E hA hM hF tk h => ?_
  obtain ⟨i, dx, v, rfl, hi, hT, h⟩ := h
  obtain ⟨n0, n1⟩ := nv_Rule_init
  walk_at "B"
  walk_at "V"
  refine w_call hA I (by omega) rfl ?_
  walk_at "V"
  rcases h with ⟨t, d, tx, ist, hdp, hdd, hw, k⟩ | ⟨d, o, ist, hdp, k⟩
  · refine ⟨v, t.py, rfl, Da.ob _ _ d tx, hdp, fun H1 g1 => ?_⟩
    rw [ist]
    walk_at "V"
    refine iteF (b_nil (b_one ?_))
    refine s_fld hA R.cl R.no ?_
    refine w_call hA Cp (by omega) rfl ?_
    walk_at "V"
    refine ⟨v, t, rfl, g1.tab hT, g1.da d, hdd, hw, fun u H2 g2 du => ?_⟩
    walk_at "V"
    have hi2 := g2.extN _ _ (g1.extN _ _ hi (fun _ z => by cases z)) (fun _ z => by cases z)
    refine ⟨i, dx, [], rfl, hi2, by decide, ?_⟩
    have gX : GrowX m.T (· = i) H2 (upd H2 i (.ins C dx (putF "_term" u []))) := GrowX.set rfl hi2 (fun _ z => by cases z) (fun _ z => by unfold CodeO at z; cases z) (fun _ z => by cases z) (fun _ _ z => by cases z)
    refine k u _ ((Grow.to (g1.trans g2)).trans gX) upd_same (gX.da (du.da.sub fun _ z => g1.keep _ z) fun a z w => ?_)
    rw [w] at z
    rw [show H i = none from z] at hi; cases hi
  · refine ⟨v, d, rfl, o, hdp, fun H1 g1 => ?_⟩
    rw [ist]
    walk_at "V"
    refine iteT (b_one ?_)
    refine s_raise hA tk Er (by omega) rfl ?_
    walk_at "V"
    exact fun dE hE => k H1 dE g1 hE
namespace Tm
def kids : Tm → List Tm
  | .part _ _ _ => []
  | .all _ ts => ts
  | .rank _ ts => ts
def over : Tm → List Tm → Tm
  | .part n z w, _ => .part n z w
  | .all f _, us => .all f us
  | .rank r _, us => .rank r us
theorem over_kids : ∀ t : Tm, t.over t.kids = t
  | .part _ _ _ => rfl
  | .all _ _ => rfl
  | .rank _ _ => rfl
theorem kids_wf {t : Tm} (h : t.wf) (hp : t.isPart = false) : t.kids ≠ [] ∧ t.kids.length < 1000 ∧ wfs t.kids := by
  cases t with
  | part _ _ _ => simp [isPart] at hp
  | all f ts => exact h
  | rank r ts => exact ⟨h.1, h.2.1, h.2.2.2.2⟩
theorem kids_dep {t : Tm} (hp : t.isPart = false) : t.dep = deps t.kids + 1 := by
  cases t with
  | part _ _ _ => simp [isPart] at hp
  | all f ts => rfl
  | rank r ts => rfl
theorem kids_cnt {t : Tm} (hp : t.isPart = false) : t.cnt = cnts t.kids := by
  cases t with
  | part _ _ _ => simp [isPart] at hp
  | all f ts => rfl
  | rank r ts => rfl
end Tm
/-- a term that is no part, taken apart: what stands ahead of its list, its list -/
theorem da_kids {K : PySem.W.Frag} {A : Addr → Prop} {H : Hp} {v : V} {t : Tm} (h : Da K A H v t.py) (hp : t.isPart = false) : ∃ (a l : Addr) (hd xs : List V), v = .ref a ∧ A l ∧ SqT K H a (hd ++ [.ref l]) ∧ hd ≠ [] ∧ hd.length ≤ 2 ∧ (∃ r, hd = .str (kw t) :: r) ∧ SqL K H l xs ∧ DaAll K A H xs (Tm.pys t.kids) ∧
    (∀ (A' : Addr → Prop) (H' : Hp) (a' l' : Addr) (us : List V) (ts : List Tm), SqT K H' a' (hd ++ [.ref l']) → A' l' → SqL K H' l' us → DaAll K A' H' us (Tm.pys ts) → Da K A' H' (.ref a') (t.over ts).py) ∧
    ∀ (H' : Hp) (a' l' : Addr) (us : List V) (ts : List Tm) (L : List Addr), SqT K H' a' (hd ++ [.ref l']) → H' l' = some (.lst us) → DnAll K H' us (Tm.pys ts) L → Dn K H' (.ref a') (t.over ts).py (l' :: L) := by
  cases t with
  | part _ _ _ => simp [Tm.isPart] at hp
  | all f ts =>
    obtain ⟨a, l, xs, rfl, hl, hs, hx, da⟩ := da_all h
    exact ⟨a, l, [.str (if f then "first" else "last")], xs, rfl, hl, hs, by simp, by simp, ⟨[], rfl⟩, hx, da, fun A' H' a' l' us ts s1 s2 s3 s4 => .tup s1 (.cons (.str _) (.cons (.lst s2 s3 s4) .nil)), fun H' a' l' us ts L s1 s2 s3 => by simpa [Tm.py, Tm.over] using Dn.tup s1 (.cons (.str (if f = true then "first" else "last")) (.cons (.lst s2 s3) .nil))⟩
  | rank r ts =>
    obtain ⟨a, l, xs, rfl, hl, hs, hx, da⟩ := da_rank h
    exact ⟨a, l, [.str "rank", .int r], xs, rfl, hl, hs, by simp, by simp, ⟨_, rfl⟩, hx, da, fun A' H' a' l' us ts s1 s2 s3 s4 => .tup s1 (.cons (.str _) (.cons (.int _) (.cons (.lst s2 s3 s4) .nil))), fun H' a' l' us ts L s1 s2 s3 => by simpa [Tm.py, Tm.over] using Dn.tup s1 (.cons (.str "rank") (.cons (.int r) (.cons (.lst s2 s3) .nil)))⟩
namespace Tm
mutual
/-- all names are names -/
def nms : Tm → Prop
  | .part _ z _ => IsName z
  | .all _ ts => nmss ts
  | .rank _ ts => nmss ts
def nmss : List Tm → Prop
  | [] => True
  | t :: ts => nms t ∧ nmss ts
end
theorem nmss_iff : ∀ {ts : List Tm}, nmss ts ↔ ∀ t ∈ ts, nms t
  | [] => by simp [nmss]
  | t :: ts => by rw [nmss, nmss_iff]; simp
mutual
theorem ok_nms {W : Int} {zs ns : List Str} (hz : ∀ z ∈ zs, IsName z) (hn : ∀ z ∈ ns, IsName z) : ∀ t : Tm, ok W zs ns t → nms t
  | .part n z w, h => part_name hz hn h.1
  | .all f ts, h => oks_nms hz hn ts h.2
  | .rank r ts, h => oks_nms hz hn ts h.2.2.2
theorem oks_nms {W : Int} {zs ns : List Str} (hz : ∀ z ∈ zs, IsName z) (hn : ∀ z ∈ ns, IsName z) : ∀ ts : List Tm, oks W zs ns ts → nmss ts
  | [], _ => trivial
  | t :: ts, h => ⟨ok_nms hz hn t h.1, oks_nms hz hn ts h.2⟩
end
mutual
theorem nms_isTm : ∀ t : Tm, wf t → nms t → isTm (py t) = true
  | .part n z w, _, h => by
    have e : nmB z = true := nmB_iff.2 h
    show ((isS "of" (.str (if n then "now" else "of")) || isS "now" (.str (if n then "now" else "of"))) && nmB z && true || (isS "rank" (.str (if n then "now" else "of")) && false && false)) = true
    rw [e]
    cases n <;> decide +kernel
  | .all f ts, w, h => by
    have e := nmss_isTm ts w.2.2 h
    have ne : (pys ts).isEmpty = false := by
      cases ts with
      | nil => exact absurd rfl w.1
      | cons _ _ => rfl
    show ((isS "first" (.str (if f then "first" else "last")) || isS "last" (.str (if f then "first" else "last"))) && (!(pys ts).isEmpty && isTms (pys ts))) = true
    rw [e, ne]
    cases f <;> decide +kernel
  | .rank r ts, w, h => by
    have e := nmss_isTm ts w.2.2.2.2 h
    have ne : (pys ts).isEmpty = false := by
      cases ts with
      | nil => exact absurd rfl w.1
      | cons _ _ => rfl
    have b : (decide (1 ≤ r) && decide (r ≤ (pys ts).length)) = true := by
      rw [pys_length, Bool.and_eq_true, decide_eq_true_eq, decide_eq_true_eq]
      exact ⟨w.2.2.1, w.2.2.2.1⟩
    show (((isS "of" (.str "rank") || isS "now" (.str "rank")) && false && false) || (isS "rank" (.str "rank") && (!(pys ts).isEmpty && isTms (pys ts)) && (decide (1 ≤ r) && decide (r ≤ (pys ts).length)))) = true
    rw [e, ne, b]
    decide +kernel
theorem nmss_isTm : ∀ ts : List Tm, wfs ts → nmss ts → isTms (pys ts) = true
  | [], _, _ => rfl
  | t :: ts, w, h => by
    rw [pys, isTms, nms_isTm t w.1 h.1, nmss_isTm ts w.2 h.2]; rfl
end
mutual
theorem nms_tx : ∀ t : Tm, wf t → nms t → txOk (py t)
  | .part n z w, _, h => by
    refine ⟨?_, ?_, trivial, trivial⟩
    · cases n <;> (show Str.length _ ≤ sizeLine; decide +kernel)
    · show z.length ≤ sizeLine
      have := h.2.1
      rw [sizeLine_eq]; omega
  | .all f ts, w, h => by
    refine ⟨?_, ⟨?_, nmss_tx ts w.2.2 h⟩, trivial⟩
    · cases f <;> (show Str.length _ ≤ sizeLine; decide +kernel)
    · rw [pys_length]; have := w.2.1; omega
  | .rank r ts, w, h => by
    refine ⟨?_, trivial, ⟨?_, nmss_tx ts w.2.2.2.2 h⟩, trivial⟩
    · show Str.length _ ≤ sizeLine; decide +kernel
    · rw [pys_length]; have := w.2.1; omega
theorem nmss_tx : ∀ ts : List Tm, wfs ts → nmss ts → txOks (pys ts)
  | [], _, _ => trivial
  | t :: ts, w, h => ⟨nms_tx t w.1 h.1, nmss_tx ts w.2 h.2⟩
end
mutual
theorem nms_lay : ∀ t : Tm, nms t → (py t).canLay0 = true
  | .part n z w, h => by
    have e1 : PyData.strOk z = true := by
      unfold PyData.strOk
      rw [Array.all_eq_true']
      intro c hc
      have := h.2.2 c (by simpa using hc)
      simp; omega
    have e2 : PyData.strOk (if n = true then "now" else "of") = true := by cases n <;> decide +kernel
    simp [py, PyData.canLay0, PyData.canLayAll0, e1, e2]
  | .all f ts, h => by
    have e2 : PyData.strOk (if f = true then "first" else "last") = true := by cases f <;> decide +kernel
    simp [py, PyData.canLay0, PyData.canLayAll0, e2, nmss_lay ts h]
  | .rank r ts, h => by
    have e2 : PyData.strOk "rank" = true := by decide +kernel
    simp [py, PyData.canLay0, PyData.canLayAll0, e2, nmss_lay ts h]
theorem nmss_lay : ∀ ts : List Tm, nmss ts → PyData.canLayAll0 (pys ts) = true
  | [], _ => rfl
  | t :: ts, h => by
    rw [pys, PyData.canLayAll0, nms_lay t h.1, nmss_lay ts h.2]; rfl
end
mutual
theorem no_dict : ∀ t : Tm, (py t).hasDict = false
  | .part n z w => rfl
  | .all f ts => by
    show (false || (PyData.hasDictAll (pys ts) || false)) = false
    rw [no_dicts ts]; rfl
  | .rank r ts => by
    show (false || (false || (PyData.hasDictAll (pys ts) || false))) = false
    rw [no_dicts ts]; rfl
theorem no_dicts : ∀ ts : List Tm, PyData.hasDictAll (pys ts) = false
  | [] => rfl
  | t :: ts => by
    show ((py t).hasDict || PyData.hasDictAll (pys ts)) = false
    rw [no_dict t, no_dicts ts]; rfl
end
/-- a term of at most N lists above each part -/
structure Gd (N : Nat) (t : Tm) : Prop where
  wf : t.wf
  nms : t.nms
  dep : t.dep ≤ N
theorem Gd.up {N M : Nat} {t : Tm} (h : Gd N t) (l : N ≤ M) : Gd M t := ⟨h.wf, h.nms, Nat.le_trans h.dep l⟩
theorem Gd.isTm {N : Nat} {t : Tm} (h : Gd N t) : isTm t.py = true := nms_isTm t h.wf h.nms
theorem Gd.tx {N : Nat} {t : Tm} (h : Gd N t) : txOk t.py := nms_tx t h.wf h.nms
theorem Gd.shaped {N : Nat} {t : Tm} (h : Gd N t) (hN : N ≤ 31) : SeqAt.shaped t.py = true := by
  unfold SeqAt.shaped
  have := depth_le t
  have := h.dep
  rw [nms_lay t h.nms, Bool.true_and, decide_eq_true_eq]
  omega
theorem Gd.depth {N : Nat} {t : Tm} (h : Gd N t) : t.py.depth ≤ 2 * N + 1 := by
  have := depth_le t
  have := h.dep
  omega
theorem deps_le_iff {N : Nat} : ∀ {ts : List Tm}, deps ts ≤ N ↔ ∀ t ∈ ts, dep t ≤ N
  | [] => by simp [deps]
  | t :: ts => by rw [deps, Nat.max_le, deps_le_iff]; simp
theorem Gd.all {N : Nat} {f : Bool} {ts : List Tm} (h : ∀ t ∈ ts, Gd N t) (ne : ts ≠ []) (l : ts.length < 1000) : Gd (N + 1) (.all f ts) :=
  ⟨⟨ne, l, wfs_iff.2 fun t z => (h t z).wf⟩, nmss_iff.2 fun t z => (h t z).nms, by show deps ts + 1 ≤ N + 1; have := deps_le_iff.2 fun t z => (h t z).dep; omega⟩
theorem Gd.rank {N : Nat} {r : Int} {ts : List Tm} (h : ∀ t ∈ ts, Gd N t) (ne : ts ≠ []) (l : ts.length < 1000) (r1 : 1 ≤ r) (r2 : r ≤ ts.length) : Gd (N + 1) (.rank r ts) :=
  ⟨⟨ne, l, r1, r2, wfs_iff.2 fun t z => (h t z).wf⟩, nmss_iff.2 fun t z => (h t z).nms, by show deps ts + 1 ≤ N + 1; have := deps_le_iff.2 fun t z => (h t z).dep; omega⟩
theorem Gd.kids {N : Nat} {t : Tm} (h : Gd (N + 1) t) : ∀ k ∈ t.kids, Gd N k := by
  cases t with
  | part _ _ _ => intro k hk; simp [Tm.kids] at hk
  | all f ts =>
    intro k hk
    refine ⟨wfs_iff.1 h.wf.2.2 k hk, nmss_iff.1 h.nms k hk, ?_⟩
    have h1 : k.dep ≤ deps ts := dep_mem hk
    have h2 : deps ts + 1 ≤ N + 1 := h.dep
    omega
  | rank r ts =>
    intro k hk
    refine ⟨wfs_iff.1 h.wf.2.2.2.2 k hk, nmss_iff.1 h.nms k hk, ?_⟩
    have h1 : k.dep ≤ deps ts := dep_mem hk
    have h2 : deps ts + 1 ≤ N + 1 := h.dep
    omega
end Tm
/-- a def that lets nothing out, by its body, with its frame -/
theorem fnG_ofF {m : Md} {N ps : List Str} {k : Nat} {x qual : Str} {st : Stmt} {f : Addr} {fd : FuncData} {sp : Sp} (F : C8.Fun m.K x qual st f fd) (S : FnScope N ps (C8.fnScope st)) (len : ∀ vs H Q E, sp vs H Q E → vs.length = ps.length)
    (hb : ∀ (X : Cx) (vs : List V) (H : Hp) (Q : VK) (E : XK), At m N (C8.fnScope st) k X → AtM X qual fd.code → Frm X → sp vs H Q E → wB X (C8.fnBody st) { nx := fun _ H' => Q .non H', rt := Q } (start N vs) H) : FnG m C8.CX0 (k + 1) f fd ps sp := by
  obtain ⟨oc, od, dV, kV, doc, pm, an, cdv, ct, osl, rfl, lk, hc⟩ := F.ex
  refine ⟨len, fun A outer s H args us vs Q E hg hr e0 bt r q => ?_⟩
  refine LamX.run_ofS (CX := C8.CX0) (N := N) lk hc S hr e0 bt r (len _ _ _ _ q) fun hr' => ⟨_, PSs.nox cB, ?_⟩
  exact hb (cxOf C8.CX0 m.P m.w m.K m.mg m.base N qual (C8.fnScope st) f cdv A outer s H E).nox vs H Q E ⟨rfl, rfl, rfl, rfl, rfl, rfl, rfl, rfl, hr', PassesOwn.never, S.nd, hg⟩ ⟨rfl, rfl, fun _ => rfl, rfl⟩ ⟨rfl, rfl⟩ q
theorem pass_at {m : Md} {N : List Str} {sc : Scope} {k : Nat} {X : Cx} {W : WX} {E : XK} {σ : L2.St} (h : At m N sc k X) (tk : L2.Takes X W) (hW : ∀ cls d H, E cls d H → W cls d σ H) : L2.PassesAt (L2.CX m.P m.w) X σ E := by
  rw [← h.pp, ← h.ww]
  exact fun _ _ _ e s' I c => tk e s' (XE.of_call I (fun cls d H' z => hW cls d H' z) c)
section
variable {X : Cx} {pins : List (Addr × Obj)} {σ : L2.St} {H : Hp} {s : Shared} {A : Addr → Prop} {v : V} {d : PyData} {u u' : Value}
theorem same_eq {A0 : Around} (I : Inv X pins σ H s) (o : Ob X.K A H v d) (r : L2.RelV v u) (r' : L2.RelV v u') (hu : A0.units < cLine) : SeqAt.EqAt A0 s u u' true := by
  cases o with
  | non => cases r; cases r'; exact SeqAt.EqAt.same _
  | bl b => cases r; cases r'; exact SeqAt.EqAt.same _
  | int i =>
    obtain ⟨t, rfl⟩ := r
    obtain ⟨t', rfl⟩ := r'
    have h := SeqAt.EqAt.int_int (A := A0) (s := s) i t i t'
    simpa using h
  | str y _ =>
    obtain ⟨t, rfl⟩ := r
    obtain ⟨t', rfl⟩ := r'
    have h := SeqAt.EqAt.str_str (A := A0) (s := s) y t y t'
    simpa using h
  | lst _ hs _ _ => cases r; cases r'; exact SeqAt.EqAt.same _
  | tup hs _ => cases r; cases r'; exact SeqAt.EqAt.same _
  | dct _ e => cases r; cases r'; exact SeqAt.EqAt.same _
end
/-- [x] != [x] -/
theorem g_neOne {m : Md} {N : List Str} {sc : Scope} {k : Nat} {X : Cx} {H : Hp} {Q : VK} {A : Addr → Prop} {v : V} {d : PyData} (h : At m N sc k X) {a b : Addr} (o : Ob m.K A H v d) (ha : H a = some (.lst [v])) (hb : H b = some (.lst [v])) (q : Q (.bl false) H) : gOp X (compareOp .NotEq) (.ref a) (.ref b) H Q := fun pins s σ u w I r rz => by
  cases r
  cases rz
  have hu := h.hu
  have o' : Ob X.K A H v d := by rw [h.kk]; exact o
  obtain ⟨its, rv, pl, hz⟩ := I.list (SqL.of ha)
  obtain ⟨its2, rv2, pl2, hz2⟩ := I.list (SqL.of hb)
  cases rv with | @cons _ w1 _ _ r1 rv =>
  cases rv
  cases rv2 with | @cons _ w2 _ _ r2 rv2 =>
  cases rv2
  have key := SeqAt.RcNeAt.lists (A := X.A) (e := fun _ => true) pl.isList pl2.isList rfl (by omega) (fun j h1 h2 => by
    have hj : j = 0 := by simp at h1; omega
    subst hj
    exact same_eq I o' r1 r2 (by show X.A.units + 1 < cLine; omega))
  exact key X.prog X.w X.xe _ ⟨.bl false, H, I, rfl, q⟩
/-- what == and != of rules ask of the class besides -/
structure RuleE (m : Md) (C : Addr) : Prop where
  nfS : PySem.W.notFirst m.K C (.ref C) = true
  nfO : ∀ T ∈ ["NoneType", "bool", "int", "str", "list", "tuple", "dict"], PySem.W.notFirst m.K C (.type T) = true
  ne : PySem.W.findIn m.K (.ref C) "__ne__" = some (some (.builtin "object.__ne__"))
section
variable {m : Md} {N : List Str} {sc : Scope} {k M : Nat} {X : Cx} {e : Expr} {σ : L2.St} {H : Hp} {Q : VK} {C CT : Addr} {pos p : Pos}
/-- Rule(e) of a term, where nothing is let out -/
theorem w_rule (h : At m N sc k X) (Mk : MakX m (L2.CX m.P m.w) (M + 4) "Rule" C (sp_rinit m C CT M) []) (hk : M + 5 ≤ k) (hg : sc.names.lookup ("Rule" : Str) = some .globalImplicit)
    (q : wE X e σ H fun v H1 => ∃ (t : Tm) (G : Nat), Da m.K Any H1 v t.py ∧ Tm.Gd G t ∧ 2 * G + 1 ≤ M ∧ Tabs m.T H1 ∧ ∀ (i : Addr) (H2 : Hp), Grow m.T H1 H2 → New H1 i → RuleAt m C (New H1) H2 i t → Q (.ref i) H2)
    (he : starEach [e] X.env = (false, eval e X.env) :: starEach [] X.env := by with_unfolding_all rfl) (hpl : (backTo pos (starEach [] X.env)).any (·.1) = false := by with_unfolding_all rfl) : wE X (.Call (.Name "Rule" p) [e] [] pos) σ H Q := by
  refine w_makX (E := fun _ _ _ => False) h Mk (by omega) hg (pass_at h L2.takes0 fun _ _ _ z => z) ?_ (by with_unfolding_all decide) he hpl
  refine w_cons (wE.mono q fun v H1 ⟨t, G, d, gd, hG, hT, k⟩ => ?_) he
  refine w_nil fun i dx hi hdx hne => ?_
  have g0 : Grow m.T H1 (upd (upd H1 dx (.own i)) i (.ins C dx [])) := (Grow.new hdx).trans (Grow.new (by rw [upd_ne (Ne.symm hne)]; exact hi))
  refine ⟨i, dx, v, rfl, upd_same, g0.tab hT, .inl ⟨t, g0.da d, gd.tx, gd.isTm, by have := gd.depth; omega, by have := gd.dep; omega, gd.wf, fun u H' g hi' du => ⟨rfl, ?_⟩⟩⟩
  have gAll : Grow m.T H1 H' := Grow.intoNew g0 g fun c z => by rw [z]; exact hi
  exact k i H' gAll hi ⟨dx, u, hi', du.sub fun a z => g0.keep _ z⟩
/-- x == y of two rules -/
theorem g_eqRule {j : Nat} (h : At m N sc k X) (R : RuleC m C) (E2 : RuleE m C) (me : MetX m C8.CX0 j C "__eq__" (sp_req m C) []) (hk : j ≤ k) {i i' : Addr} {t t' : Tm} (r : RuleAt m C Any H i t) (r' : RuleAt m C Any H i' t') (s : SeqAt.shaped t.py = true) (s' : SeqAt.shaped t'.py = true) (q : Q (.bl (PyData.eqv t.py t'.py)) H) : gOp X (compareOp .Eq) (.ref i) (.ref i') H Q := by
  have r0 := r
  obtain ⟨dx, u, hi, _⟩ := r0
  have r0' := r'
  obtain ⟨dx', u', hi', _⟩ := r0'
  refine g_eqIns (E := C8.E0) h me hk C8.pass0 hi (.base (.ins hi' R.cl R.ha R.hn R.ht R.hm)) E2.nfS ⟨i, .ref i', t, rfl, r, s, .inl ⟨i', t', rfl, r', s', _, rfl, q⟩⟩
theorem g_neRule {j : Nat} (h : At m N sc k X) (R : RuleC m C) (E2 : RuleE m C) (me : MetX m C8.CX0 j C "__eq__" (sp_req m C) []) (hk : j + 1 ≤ k) {i i' : Addr} {t t' : Tm} (r : RuleAt m C Any H i t) (r' : RuleAt m C Any H i' t') (s : SeqAt.shaped t.py = true) (s' : SeqAt.shaped t'.py = true) (q : Q (.bl (!PyData.eqv t.py t'.py)) H) : gOp X (compareOp .NotEq) (.ref i) (.ref i') H Q := by
  have r0 := r
  obtain ⟨dx, u, hi, _⟩ := r0
  have r0' := r'
  obtain ⟨dx', u', hi', _⟩ := r0'
  refine g_neIns (E := C8.E0) h me E2.ne R.hm hk C8.pass0 hi (.base (.ins hi' R.cl R.ha R.hn R.ht R.hm)) E2.nfS ⟨i, .ref i', t, rfl, r, s, .inl ⟨i', t', rfl, r', s', _, rfl, q⟩⟩
/-- x == y of a rule and something else -/
theorem g_eqRuleO {j : Nat} (h : At m N sc k X) (E2 : RuleE m C) (me : MetX m C8.CX0 j C "__eq__" (sp_req m C) []) (hk : j ≤ k) {i : Addr} {t : Tm} {y : V} {T : String} (hT : T ∈ ["NoneType", "bool", "int", "str", "list", "tuple", "dict"]) (ty : TyX m.K H y (.type T)) (r : RuleAt m C Any H i t) (s : SeqAt.shaped t.py = true) (q : Q (.bl false) H) : gOp X (compareOp .Eq) (.ref i) y H Q := by
  have r0 := r
  obtain ⟨dx, u, hi, _⟩ := r0
  exact g_eqIns (E := C8.E0) h me hk C8.pass0 hi ty (E2.nfO T hT) ⟨i, y, t, rfl, r, s, .inr ⟨T, hT, ty, _, rfl, q⟩⟩
theorem RuleAt.grow {T : List (Addr × Str)} {A : Addr → Prop} {S : Addr → Prop} {H' : Hp} {i : Addr} {t : Tm} (r : RuleAt m C A H i t) (g : GrowX m.T S H H') (n : ∀ a, A a → ¬ S a) (ni : ¬ S i) : RuleAt m C A H' i t := by
  obtain ⟨dx, u, hi, d⟩ := r
  exact ⟨dx, u, g.ext _ _ ni hi (fun _ z => by cases z), g.da d n⟩
theorem RuleAt.sub {A A' : Addr → Prop} {i : Addr} {t : Tm} (r : RuleAt m C A H i t) (h : ∀ a, A a → A' a) : RuleAt m C A' H i t := by
  obtain ⟨dx, u, hi, d⟩ := r
  exact ⟨dx, u, hi, d.sub h⟩
theorem RuleAt.any {A : Addr → Prop} {i : Addr} {t : Tm} (r : RuleAt m C A H i t) : RuleAt m C Any H i t := by
  obtain ⟨dx, u, hi, d⟩ := r
  exact ⟨dx, u, hi, d.sub fun _ _ => trivial⟩
end
/-! ### texts as lists of signs -/
abbrev ls (z : Str) : List Nat := z.cps.toList
def mkS (l : List Nat) : Str := ⟨l.toArray⟩
theorem mkS_ls (z : Str) : mkS (ls z) = z := rfl
theorem ls_mkS (l : List Nat) : ls (mkS l) = l := rfl
theorem str_ext {a b : Str} (h : ls a = ls b) : a = b := by rw [← mkS_ls a, ← mkS_ls b, h]
theorem ls_app (a b : Str) : ls (a ++ b) = ls a ++ ls b := by show (a.cps ++ b.cps).toList = _; simp
theorem mkS_app (a b : List Nat) : mkS a ++ mkS b = mkS (a ++ b) := str_ext (by rw [ls_app]; rfl)
theorem mkS_len (l : List Nat) : (mkS l).length = l.length := by show l.toArray.size = _; simp
theorem ls_len (z : Str) : (ls z).length = z.length := Array.length_toList
/-- a number's signs -/
def numT (i : Int) : List Nat := if i < 0 then 45 :: TL.numL i.natAbs else TL.numL i.natAbs
theorem ls_ofNat (n : Nat) : ls (Str.ofString (toString ((n : Nat) : Int))) = TL.numL n := TL.tl_num n
theorem ts_num (i : Int) : (toString i : Str) = mkS (numT i) := by
  refine str_ext ?_
  rw [ls_mkS]
  unfold numT
  rcases Int.lt_or_le i 0 with h | h
  · rw [if_pos h]
    obtain ⟨n, rfl⟩ : ∃ n : Nat, i = Int.negSucc n := by
      cases i with
      | ofNat n => exact absurd h (by simp)
      | negSucc n => exact ⟨n, rfl⟩
    have e := ls_ofNat (n + 1)
    have e1 : toString (Int.negSucc n) = "-" ++ toString (((n + 1 : Nat)) : Int) := rfl
    have e2 : ∀ x : String, ls (Str.ofString ("-" ++ x)) = 45 :: ls (Str.ofString x) := fun x => by
      show (Str.ofString ("-" ++ x)).cps.toList = 45 :: (Str.ofString x).cps.toList
      rw [signs_ofString, signs_ofString, String.toList_append, List.map_append]
      rfl
    show ls (Str.ofString (toString (Int.negSucc n))) = _
    rw [e1, e2, e]
    rfl
  · rw [if_neg (by omega)]
    obtain ⟨n, rfl⟩ := Int.eq_ofNat_of_zero_le h
    exact ls_ofNat n
theorem numT_ne (i : Int) : numT i ≠ [] := by unfold numT; split <;> simp [TL.numL_ne]
abbrev isL (c : Nat) : Prop := 97 ≤ c ∧ c ≤ 122
abbrev isN (c : Nat) : Prop := c = 45 ∨ (48 ≤ c ∧ c ≤ 57)
theorem numT_n (i : Int) : ∀ c ∈ numT i, isN c := by
  intro c hc
  unfold numT at hc
  split at hc
  · rcases List.mem_cons.1 hc with e | e
    · exact .inl e
    · exact .inr (TL.numL_digits _ c e)
  · exact .inr (TL.numL_digits _ c hc)
theorem numT_len {i : Int} (h : i.natAbs < 10 ^ 12) : (numT i).length ≤ 13 := by
  have := TL.numL_len (n := i.natAbs) (k := 12) (by decide) h
  unfold numT
  split
  · simp; omega
  · omega
theorem numT_inj {i j : Int} (h : numT i = numT j) : i = j := by
  unfold numT at h
  have nd : ∀ (m n : Nat) (l : List Nat), 45 :: l = TL.numL n → False := fun m n l e => by
    have := TL.numL_digits n 45 (by rw [← e]; simp)
    omega
  split at h <;> split at h
  · have := TL.numL_inj (List.cons.inj h).2; omega
  · exact (nd 0 _ _ h).elim
  · exact (nd 0 _ _ h.symm).elim
  · have := TL.numL_inj h; omega
theorem int_numT {i : Int} (h : i.natAbs < 10 ^ 12) : PySem.intText? (mkS (numT i)) = some i := by
  have hl := numT_len h
  by_cases c : i < 0
  · have e : numT i = 45 :: TL.numL i.natAbs := by unfold numT; rw [if_pos c]
    have := intText_neg (x := mkS (numT i)) (cs := TL.numL i.natAbs) e (TL.numL_digits _) (TL.numL_ne _) (by rw [mkS_len]; omega)
    rw [this, TL.numL_val]
    congr 1
    omega
  · have e : numT i = TL.numL i.natAbs := by unfold numT; rw [if_neg c]
    have := intText_digits (x := mkS (numT i)) (by rw [show (mkS (numT i)).cps.toList = numT i from rfl, e]; exact TL.numL_digits _) (by rw [show (mkS (numT i)).cps.toList = numT i from rfl, e]; exact TL.numL_ne _) (by rw [mkS_len]; omega)
    rw [this, show (mkS (numT i)).cps.toList = numT i from rfl, e, TL.numL_val]
    congr 1
    omega
/-! a list's beginning is unique -/
theorem run_uniq {P : Nat → Prop} : ∀ {a b r s : List Nat}, (∀ c ∈ a, P c) → (∀ c ∈ b, P c) → (∀ c t, r = c :: t → ¬ P c) → (∀ c t, s = c :: t → ¬ P c) → a ++ r = b ++ s → a = b ∧ r = s
  | [], [], _, _, _, _, _, _, e => ⟨rfl, e⟩
  | x :: a, [], r, s, ha, _, _, hs, e => (hs x (a ++ r) e.symm (ha x (by simp))).elim
  | [], y :: b, r, s, _, hb, hr, _, e => (hr y (b ++ s) e (hb y (by simp))).elim
  | x :: a, y :: b, r, s, ha, hb, hr, hs, e => by
    obtain ⟨e1, e2⟩ := List.cons.inj e
    obtain ⟨e3, e4⟩ := run_uniq (fun c h => ha c (by simp [h])) (fun c h => hb c (by simp [h])) hr hs e2
    exact ⟨by rw [e1, e3], e4⟩
/-! ### the text of a term -/
def lNow : List Nat := [110, 111, 119]
def lFirst : List Nat := [102, 105, 114, 115, 116]
def lLast : List Nat := [108, 97, 115, 116]
def lRank : List Nat := [114, 97, 110, 107]
theorem ls_now : ls "now" = lNow := by decide +kernel
theorem ls_first : ls "first" = lFirst := by decide +kernel
theorem ls_last : ls "last" = lLast := by decide +kernel
theorem ls_rank : ls "rank" = lRank := by decide +kernel
mutual
def txl : Tm → List Nat
  | .part n z w => (if n then lNow ++ [32] else []) ++ (ls z ++ (32 :: numT w))
  | .all f ts => (if f then lFirst else lLast) ++ (40 :: (txls ts ++ [41]))
  | .rank r ts => lRank ++ (32 :: (numT r ++ (40 :: (txls ts ++ [41]))))
/-- joined by a comma and a blank -/
def txls : List Tm → List Nat
  | [] => []
  | t :: ts => txl t ++ txr ts
def txr : List Tm → List Nat
  | [] => []
  | t :: ts => 44 :: 32 :: (txl t ++ txr ts)
end
/-- what may stand behind a term -/
def Dlm (l : List Nat) : Prop := ∀ c t, l = c :: t → c = 44 ∨ c = 41
theorem dlm_nil : Dlm [] := fun _ _ e => by cases e
theorem dlm_r (ts : List Tm) (post : List Nat) : Dlm (txr ts ++ (41 :: post)) := by
  intro c t e
  cases ts with
  | nil => rw [txr] at e; cases e; exact .inr rfl
  | cons t ts => rw [txr] at e; cases e; exact .inl rfl
/-! ### a text tells its term -/
theorem nL32 : ∀ c (t r : List Nat), (32 :: r) = c :: t → ¬ isL c := fun c t r e => by cases e; decide
theorem nL40 : ∀ c (t r : List Nat), (40 :: r) = c :: t → ¬ isL c := fun c t r e => by cases e; decide
theorem nN40 : ∀ c (t r : List Nat), (40 :: r) = c :: t → ¬ isN c := fun c t r e => by cases e; decide
theorem nN_dlm {p : List Nat} (h : Dlm p) : ∀ c t, p = c :: t → ¬ isN c := fun c t e z => by
  rcases h c t e with w | w <;> rw [w] at z <;> revert z <;> decide
theorem lNow_l : ∀ c ∈ lNow, isL c := by decide
theorem lFirst_l : ∀ c ∈ lFirst, isL c := by decide
theorem lLast_l : ∀ c ∈ lLast, isL c := by decide
theorem lRank_l : ∀ c ∈ lRank, isL c := by decide
theorem lAll_l (f : Bool) : ∀ c ∈ (if f then lFirst else lLast), isL c := by cases f <;> decide
theorem lAll_inj {f g : Bool} (h : (if f then lFirst else lLast) = (if g then lFirst else lLast)) : f = g := by revert h; cases f <;> cases g <;> decide
theorem nm_l {z : Str} (h : IsName z) : ∀ c ∈ ls z, isL c := h.2.2
theorem nm_ne {z : Str} (h : IsName z) : ls z ≠ [] := fun e => by have := h.1; rw [← ls_len, e] at this; simp at this
theorem num_not_name {i : Int} {z : Str} (h : IsName z) (p q : List Nat) : numT i ++ p ≠ ls z ++ q := fun e => by
  cases hi : numT i with
  | nil => exact numT_ne i hi
  | cons c t =>
    cases hz : ls z with
    | nil => exact nm_ne h hz
    | cons d u =>
      rw [hi, hz] at e
      have h1 := numT_n i c (by rw [hi]; simp)
      have h2 := nm_l h d (by rw [hz]; simp)
      have h3 : c = d := (List.cons.inj e).1
      rw [h3] at h1
      rcases h1 with w | w <;> omega
theorem txl_head : ∀ t : Tm, t.nms → ∃ c r, txl t = c :: r ∧ isL c := by
  intro t h
  cases t with
  | part n z w =>
    cases n with
    | true => exact ⟨110, _, rfl, by decide⟩
    | false =>
      cases hz : ls z with
      | nil => exact (nm_ne h hz).elim
      | cons d u => exact ⟨d, u ++ (32 :: numT w), by simp [txl, hz], nm_l h d (by rw [hz]; simp)⟩
  | all f ts => cases f <;> exact ⟨_, _, rfl, by decide⟩
  | rank r ts => exact ⟨114, _, rfl, by decide⟩
mutual
theorem txl_inj : ∀ (t : Tm) (t' : Tm) (p p' : List Nat), t.nms → t'.nms → Dlm p → Dlm p' → txl t ++ p = txl t' ++ p' → t = t' ∧ p = p'
  | .part false z w, t', p, p', h, h', d, d', e => by
    cases t' with
    | part n' z' w' =>
      cases n' with
      | false =>
        simp only [txl, List.append_assoc, List.cons_append, List.nil_append, Bool.false_eq_true, if_false] at e
        obtain ⟨e1, e2⟩ := run_uniq (P := isL) (nm_l h) (nm_l h') (nL32 · · _) (nL32 · · _) e
        obtain ⟨e3, e4⟩ := run_uniq (P := isN) (numT_n w) (numT_n w') (nN_dlm d) (nN_dlm d') (List.cons.inj e2).2
        rw [str_ext e1, numT_inj e3]
        exact ⟨rfl, e4⟩
      | true =>
        simp only [txl, List.append_assoc, List.cons_append, List.nil_append, Bool.false_eq_true, if_false, if_true] at e
        obtain ⟨_, e2⟩ := run_uniq (P := isL) (nm_l h) lNow_l (nL32 · · _) (nL32 · · _) e
        exact (num_not_name h' _ _ (List.cons.inj e2).2).elim
    | all f ts =>
      simp only [txl, List.append_assoc, List.cons_append, List.nil_append, Bool.false_eq_true, if_false] at e
      obtain ⟨_, e2⟩ := run_uniq (P := isL) (nm_l h) (lAll_l f) (nL32 · · _) (nL40 · · _) e
      cases e2
    | rank r ts =>
      simp only [txl, List.append_assoc, List.cons_append, List.nil_append, Bool.false_eq_true, if_false] at e
      obtain ⟨_, e2⟩ := run_uniq (P := isL) (nm_l h) lRank_l (nL32 · · _) (nL32 · · _) e
      obtain ⟨_, e4⟩ := run_uniq (P := isN) (numT_n w) (numT_n r) (nN_dlm d) (nN40 · · _) (List.cons.inj e2).2
      have := d 40 _ e4
      omega
  | .part true z w, t', p, p', h, h', d, d', e => by
    cases t' with
    | part n' z' w' =>
      cases n' with
      | false =>
        simp only [txl, List.append_assoc, List.cons_append, List.nil_append, Bool.false_eq_true, if_false, if_true] at e
        obtain ⟨_, e2⟩ := run_uniq (P := isL) lNow_l (nm_l h') (nL32 · · _) (nL32 · · _) e
        exact (num_not_name h _ _ (List.cons.inj e2).2.symm).elim
      | true =>
        simp only [txl, List.append_assoc, List.cons_append, List.nil_append, if_true] at e
        obtain ⟨_, e2⟩ := run_uniq (P := isL) lNow_l lNow_l (nL32 · · _) (nL32 · · _) e
        obtain ⟨e1, e2⟩ := run_uniq (P := isL) (nm_l h) (nm_l h') (nL32 · · _) (nL32 · · _) (List.cons.inj e2).2
        obtain ⟨e3, e4⟩ := run_uniq (P := isN) (numT_n w) (numT_n w') (nN_dlm d) (nN_dlm d') (List.cons.inj e2).2
        rw [str_ext e1, numT_inj e3]
        exact ⟨rfl, e4⟩
    | all f ts =>
      simp only [txl, List.append_assoc, List.cons_append, List.nil_append, if_true] at e
      obtain ⟨_, e2⟩ := run_uniq (P := isL) lNow_l (lAll_l f) (nL32 · · _) (nL40 · · _) e
      cases e2
    | rank r ts =>
      simp only [txl, List.append_assoc, List.cons_append, List.nil_append, if_true] at e
      obtain ⟨e1, _⟩ := run_uniq (P := isL) lNow_l lRank_l (nL32 · · _) (nL32 · · _) e
      exact absurd e1 (by decide)
  | .all f ts, t', p, p', h, h', d, d', e => by
    cases t' with
    | part n' z' w' =>
      cases n' with
      | false =>
        simp only [txl, List.append_assoc, List.cons_append, List.nil_append, Bool.false_eq_true, if_false] at e
        obtain ⟨_, e2⟩ := run_uniq (P := isL) (lAll_l f) (nm_l h') (nL40 · · _) (nL32 · · _) e
        cases e2
      | true =>
        simp only [txl, List.append_assoc, List.cons_append, List.nil_append, if_true] at e
        obtain ⟨_, e2⟩ := run_uniq (P := isL) (lAll_l f) lNow_l (nL40 · · _) (nL32 · · _) e
        cases e2
    | all f' ts' =>
      simp only [txl, List.append_assoc, List.cons_append, List.nil_append] at e
      obtain ⟨e1, e2⟩ := run_uniq (P := isL) (lAll_l f) (lAll_l f') (nL40 · · _) (nL40 · · _) e
      obtain ⟨e3, e4⟩ := txls_inj ts ts' p p' h h' (List.cons.inj e2).2
      rw [lAll_inj e1, e3]
      exact ⟨rfl, e4⟩
    | rank r ts' =>
      simp only [txl, List.append_assoc, List.cons_append, List.nil_append] at e
      obtain ⟨_, e2⟩ := run_uniq (P := isL) (lAll_l f) lRank_l (nL40 · · _) (nL32 · · _) e
      cases e2
  | .rank r ts, t', p, p', h, h', d, d', e => by
    cases t' with
    | part n' z' w' =>
      cases n' with
      | false =>
        simp only [txl, List.append_assoc, List.cons_append, List.nil_append, Bool.false_eq_true, if_false] at e
        obtain ⟨_, e2⟩ := run_uniq (P := isL) lRank_l (nm_l h') (nL32 · · _) (nL32 · · _) e
        obtain ⟨_, e4⟩ := run_uniq (P := isN) (numT_n r) (numT_n w') (nN40 · · _) (nN_dlm d') (List.cons.inj e2).2
        have := d' 40 _ e4.symm
        omega
      | true =>
        simp only [txl, List.append_assoc, List.cons_append, List.nil_append, if_true] at e
        obtain ⟨e1, _⟩ := run_uniq (P := isL) lRank_l lNow_l (nL32 · · _) (nL32 · · _) e
        exact absurd e1 (by decide)
    | all f' ts' =>
      simp only [txl, List.append_assoc, List.cons_append, List.nil_append] at e
      obtain ⟨_, e2⟩ := run_uniq (P := isL) lRank_l (lAll_l f') (nL32 · · _) (nL40 · · _) e
      cases e2
    | rank r' ts' =>
      simp only [txl, List.append_assoc, List.cons_append, List.nil_append] at e
      obtain ⟨_, e2⟩ := run_uniq (P := isL) lRank_l lRank_l (nL32 · · _) (nL32 · · _) e
      obtain ⟨e1, e4⟩ := run_uniq (P := isN) (numT_n r) (numT_n r') (nN40 · · _) (nN40 · · _) (List.cons.inj e2).2
      obtain ⟨e5, e6⟩ := txls_inj ts ts' p p' h h' (List.cons.inj e4).2
      rw [numT_inj e1, e5]
      exact ⟨rfl, e6⟩
theorem txls_inj : ∀ (ts ts' : List Tm) (p p' : List Nat), Tm.nmss ts → Tm.nmss ts' → txls ts ++ (41 :: p) = txls ts' ++ (41 :: p') → ts = ts' ∧ p = p'
  | [], [], p, p', _, _, e => ⟨rfl, (List.cons.inj e).2⟩
  | [], t' :: ts', p, p', _, h', e => by
    obtain ⟨c, r, e1, e2⟩ := txl_head t' h'.1
    simp only [txls, e1, List.nil_append, List.cons_append] at e
    have := (List.cons.inj e).1
    omega
  | t :: ts, [], p, p', h, _, e => by
    obtain ⟨c, r, e1, e2⟩ := txl_head t h.1
    simp only [txls, e1, List.nil_append, List.cons_append] at e
    have := (List.cons.inj e).1
    omega
  | t :: ts, t' :: ts', p, p', h, h', e => by
    simp only [txls, List.append_assoc] at e
    obtain ⟨e1, e2⟩ := txl_inj t t' _ _ h.1 h'.1 (dlm_r ts p) (dlm_r ts' p') e
    obtain ⟨e3, e4⟩ := txr_inj ts ts' p p' h.2 h'.2 e2
    exact ⟨by rw [e1, e3], e4⟩
theorem txr_inj : ∀ (ts ts' : List Tm) (p p' : List Nat), Tm.nmss ts → Tm.nmss ts' → txr ts ++ (41 :: p) = txr ts' ++ (41 :: p') → ts = ts' ∧ p = p'
  | [], [], p, p', _, _, e => ⟨rfl, (List.cons.inj e).2⟩
  | [], t' :: ts', p, p', _, h', e => by
    simp only [txr, List.nil_append, List.cons_append] at e
    cases (List.cons.inj e).1
  | t :: ts, [], p, p', h, _, e => by
    simp only [txr, List.nil_append, List.cons_append] at e
    cases (List.cons.inj e).1
  | t :: ts, t' :: ts', p, p', h, h', e => by
    simp only [txr, List.append_assoc, List.cons_append] at e
    obtain ⟨e1, e2⟩ := txl_inj t t' _ _ h.1 h'.1 (dlm_r ts p) (dlm_r ts' p') (List.cons.inj (List.cons.inj e).2).2
    obtain ⟨e3, e4⟩ := txr_inj ts ts' p p' h.2 h'.2 e2
    exact ⟨by rw [e1, e3], e4⟩
end
theorem tx_inj {t t' : Tm} (h : t.nms) (h' : t'.nms) (e : mkS (txl t) = mkS (txl t')) : t = t' := by
  have e1 : txl t = txl t' := by rw [← ls_mkS (txl t), e, ls_mkS]
  exact (txl_inj t t' [] [] h h' dlm_nil dlm_nil (by rw [e1])).1
/-! ### rules for texts -/
section
variable {m : Md} {N : List Str} {sc : Scope} {k : Nat} {X : Cx} {a b c e o lo hi : Expr} {es : List Expr} {σ : L2.St} {H : Hp} {Q : VK} {pos p1 p2 apos : Pos}
theorem w_sliceS (q : wE X e σ H fun x H1 => wE X lo σ H1 fun l H2 => ∃ i : Int, l = .int i ∧ wE X hi σ H2 fun u H3 => ∃ j : Int, u = .int j ∧ ∃ z, x = .str z ∧ z.length ≤ sizeLine ∧ Q (.str (cutS z (some i) (some j))) H3) :
    wE X (.Subscript e (.Slice (some lo) (some hi) none p2) pos) σ H Q := by
  refine toE (pe_slice sl_str cE (po_some cE) (po_some cE)) ?_
  exact wE.mono q fun x H1 q1 => wE.mono q1 fun l H2 ⟨i, ei, q2⟩ => ⟨i, ei, wE.mono q2 fun u H3 ⟨j, ej, z, ez, hz, q3⟩ => ⟨j, ej, z, ez, hz, q3⟩⟩
theorem w_sliceFromS (q : wE X e σ H fun x H1 => wE X lo σ H1 fun l H2 => ∃ i : Int, l = .int i ∧ ∃ z, x = .str z ∧ z.length ≤ sizeLine ∧ Q (.str (cutS z (some i) none)) H2) :
    wE X (.Subscript e (.Slice (some lo) none none p2) pos) σ H Q := by
  refine toE (pe_slice sl_str cE (po_some cE) po_none) ?_
  exact wE.mono q fun x H1 q1 => wE.mono q1 fun l H2 ⟨i, ei, z, ez, hz, q3⟩ => ⟨i, ei, z, ez, hz, q3⟩
theorem g_inC {c : Nat} {z : Str} (q : Q (.bl (decide (c ∈ z.cps.toList))) H) : gOp X (compareOp .In) (.str ⟨#[c]⟩) (.str z) H Q := gOp.of op_in_sign ⟨c, z, rfl, rfl, q⟩
theorem w_starts (q : wE X o σ H fun x H1 => (∃ a, x = .str a) ∧ wE X e σ H1 fun y H2 => ∃ a b, x = .str a ∧ y = .str b ∧ Q (.bl (Txt.startswith a b)) H2)
    (hs : starEach [e] X.env = [(false, eval e X.env)] := by with_unfolding_all rfl) (hbase : attributeBase o "startswith" X.env (eval o X.env) = eval o X.env := by with_unfolding_all rfl) (hline : (apos.endLine == pos.line) = true := by with_unfolding_all rfl) :
    wE X (.Call (.Attribute o "startswith" apos) [e] [] pos) σ H Q := by
  refine toE (pe_m1 PySem.F.slot_str_startswith PySem.F.type_str_startswith mt_startswith cE cE hs hbase hline) ?_
  exact wE.mono q fun x H1 ⟨a, q1⟩ => ⟨a, wE.mono q1 fun y H2 ⟨a, b, ex, ey, q2⟩ => ⟨a, b, ex, by rw [ey], q2⟩⟩
theorem w_starts3 {e2 : Expr} (q : wE X o σ H fun x H1 => (∃ a, x = .str a) ∧ wA X [e, e2] σ H1 fun ys H2 => ∃ (a b : Str) (i : Int), x = .str a ∧ ys = [.str b, .int i] ∧ Q (.bl (Txt.startswith3 a b i)) H2)
    (hbase : attributeBase o "startswith" X.env (eval o X.env) = eval o X.env := by with_unfolding_all rfl)
    (hfew : ((backTo pos (starEach [e, e2] X.env)).all (fun x => !x.1) && (backToKw pos (keywordEach [] X.env)).all (fun x => x.1.isSome) && decide ([e, e2].length + ([] : List Keyword).length + (if ([] : List Keyword).isEmpty then 0 else 1) < 30)) = true := by with_unfolding_all rfl)
    (hline : (apos.endLine == pos.line) = true := by with_unfolding_all rfl) (hs : starEach [e, e2] X.env = (false, eval e X.env) :: starEach [e2] X.env := by with_unfolding_all rfl) (hplain : (backTo pos (starEach [e2] X.env)).any (·.1) = false := by with_unfolding_all rfl) :
    wE X (.Call (.Attribute o "startswith" apos) [e, e2] [] pos) σ H Q := by
  refine toE (pe_bm PySem.F.plainAttrs_str PySem.F.slot_str_startswith PySem.F.type_str_startswith mt_startswith3 cE cA hbase hfew hline hs hplain) ?_
  exact wE.mono q fun x H1 ⟨⟨a, ea⟩, q1⟩ => ⟨by rw [ea]; rfl, q1⟩
theorem w_ascii (q : wE X o σ H fun x H1 => ∃ a, x = .str a ∧ Q (.bl (Txt.isascii a)) H1)
    (hbase : attributeBase o "isascii" X.env (eval o X.env) = eval o X.env := by with_unfolding_all rfl) (hline : (apos.endLine == pos.line) = true := by with_unfolding_all rfl) : wE X (.Call (.Attribute o "isascii" apos) [] [] pos) σ H Q := by
  refine toE (pe_m0 PySem.F.slot_str_isascii PySem.F.type_str_isascii mt_isascii cE hbase hline) ?_
  exact wE.mono q fun x H1 ⟨a, ex, q1⟩ => ⟨⟨a, ex⟩, a, ex, rfl, trivial, q1⟩
theorem w_digit (q : wE X o σ H fun x H1 => ∃ a, x = .str a ∧ Q (.bl (Txt.isdigit a)) H1)
    (hbase : attributeBase o "isdigit" X.env (eval o X.env) = eval o X.env := by with_unfolding_all rfl) (hline : (apos.endLine == pos.line) = true := by with_unfolding_all rfl) : wE X (.Call (.Attribute o "isdigit" apos) [] [] pos) σ H Q := by
  refine toE (pe_m0 PySem.F.slot_str_isdigit PySem.F.type_str_isdigit mt_isdigit cE hbase hline) ?_
  exact wE.mono q fun x H1 ⟨a, ex, q1⟩ => ⟨⟨a, ex⟩, a, ex, rfl, trivial, q1⟩
theorem g_intS {z : Str} {n : Int} (hn : PySem.intText? z = some n) (hl : z.length ≤ 640) (q : Q (.int n) H) : gCall X (.type "int") [.str z] H Q := ⟨_, call_int_str, z, n, rfl, hn, hl, q⟩
end
/-! what they tell, by lists -/
theorem cut_at {z : Str} {i j : Nat} (hi : i ≤ j) (hj : j ≤ (ls z).length) : cutS z (some (i : Int)) (some (j : Int)) = mkS (((ls z).drop i).take (j - i)) := by
  unfold cutS mkS
  have hz := ls_len z
  rw [HT.sIx_nat, HT.sIx_nat, Nat.min_eq_left (by omega), Nat.min_eq_left (by omega)]
theorem cut_1 (z : Str) : cutS z (some 1) none = mkS ((ls z).drop 1) := by
  unfold cutS mkS
  have hz := ls_len z
  rw [show (1 : Int) = ((1 : Nat) : Int) from rfl, HT.sIx_nat, HT.sIx_none]
  congr 2
  have e : (z.cps.toList).length = z.length := ls_len z
  rcases Nat.eq_zero_or_pos z.length with h | h
  · rw [h]
    have : z.cps.toList = [] := List.eq_nil_of_length_eq_zero (by omega)
    show List.take _ (List.drop _ z.cps.toList) = List.drop 1 z.cps.toList
    rw [this]
    rfl
  · rw [Nat.min_eq_left (by omega)]
    exact List.take_of_length_le (by rw [List.length_drop]; omega)
theorem subAt_ls (x y : Str) (i : Nat) : Builtin.Str.subAt x y i = decide (((ls x).drop i).take (ls y).length = ls y) := by
  unfold Builtin.Str.subAt
  rw [Bool.eq_iff_iff, beq_iff_eq, decide_eq_true_eq]
  have e : (x.cps.extract i (i + y.length)).toList = ((ls x).drop i).take (ls y).length := by
    rw [Array.toList_extract, ls_len]
    show ((x.cps.toList).drop i).take (i + y.length - i) = _
    rw [Nat.add_sub_cancel_left]
  rw [← e]
  exact ⟨fun w => by rw [w], fun w => Array.toList_inj.1 w⟩
theorem starts3_ls {x y : Str} {i : Nat} (h : i ≤ (ls x).length) (hy : ls y ≠ []) : Txt.startswith3 x y (i : Int) = decide (((ls x).drop i).take (ls y).length = ls y) := by
  have hx := ls_len x
  have e : PySem.fromIndex x.length (i : Int) = i := by unfold PySem.fromIndex; rw [if_neg (by omega)]; omega
  unfold Txt.startswith3
  rw [e, subAt_ls]
  by_cases c : i + y.length ≤ x.length
  · rw [decide_eq_true c, Bool.true_and]
  · rw [decide_eq_false c, Bool.false_and]
    symm
    rw [decide_eq_false_iff_not]
    intro w
    have := congrArg List.length w
    rw [List.length_take, List.length_drop, ls_len, ls_len] at this
    omega
theorem starts_ls (x y : Str) : Txt.startswith x y = decide ((ls x).take (ls y).length = ls y) := by
  have hx := ls_len x
  unfold Txt.startswith
  rw [subAt_ls, List.drop_zero]
  by_cases c : 0 + y.length ≤ x.length
  · rw [decide_eq_true c, Bool.true_and]
  · rw [decide_eq_false c, Bool.false_and]
    symm
    rw [decide_eq_false_iff_not]
    intro w
    have := congrArg List.length w
    rw [List.length_take, ls_len, ls_len] at this
    omega
/-! ### scanning -/
/-- T reads w ++ r from at on -/
def At2 (T : Str) (at_ : Nat) (l : List Nat) : Prop := at_ ≤ (ls T).length ∧ (ls T).drop at_ = l
theorem At2.get {T : Str} {p : Nat} {l : List Nat} (h : At2 T p l) (j : Nat) : (ls T)[p + j]? = l[j]? := by rw [← h.2, List.getElem?_drop]
theorem At2.len {T : Str} {p : Nat} {l : List Nat} (h : At2 T p l) : (ls T).length = p + l.length := by
  have := congrArg List.length h.2
  rw [List.length_drop] at this
  have := h.1
  omega
theorem At2.shift {T : Str} {p : Nat} {a b : List Nat} (h : At2 T p (a ++ b)) : At2 T (p + a.length) b := by
  have l := h.len
  rw [List.length_append] at l
  refine ⟨by omega, ?_⟩
  rw [← List.drop_drop, h.2, List.drop_left]
theorem At2.one {T : Str} {p c : Nat} {b : List Nat} (h : At2 T p (c :: b)) : At2 T (p + 1) b := At2.shift (a := [c]) h
theorem At2.cut {T : Str} {p : Nat} {a b : List Nat} (h : At2 T p (a ++ b)) : cutS T (some (p : Int)) (some ((p + a.length : Nat) : Int)) = mkS a := by
  have l := h.len
  rw [List.length_append] at l
  rw [cut_at (by omega) (by omega), h.2, Nat.add_sub_cancel_left, List.take_left]
theorem At2.st1 {T : Str} {p c : Nat} {l : List Nat} (h : At2 T p l) (y : Str) (hy : ls y = [c]) : Txt.startswith3 T y (p : Int) = decide (l.head? = some c) := by
  rw [starts3_ls h.1 (by rw [hy]; simp), h.2, hy]
  cases l with
  | nil => simp
  | cons d t => simp
theorem At2.st2 {T : Str} {p c d : Nat} {l : List Nat} (h : At2 T p l) (y : Str) (hy : ls y = [c, d]) : Txt.startswith3 T y (p : Int) = decide (l.take 2 = [c, d]) := by
  rw [starts3_ls h.1 (by rw [hy]; simp), h.2, hy]
  rfl
theorem ls_sp : ls " " = [32] := by decide +kernel
theorem ls_op : ls "(" = [40] := by decide +kernel
theorem ls_cl : ls ")" = [41] := by decide +kernel
theorem ls_cs : ls ", " = [44, 32] := by decide +kernel
theorem ls_mi : ls "-" = [45] := by decide +kernel
theorem dig_in (c : Nat) : decide (c ∈ ("-0123456789" : Str).cps.toList) = decide (isN c) := by
  rw [show ("-0123456789" : Str).cps.toList = [45, 48, 49, 50, 51, 52, 53, 54, 55, 56, 57] from by decide +kernel, decide_eq_decide]
  simp only [List.mem_cons, List.not_mem_nil, or_false]
  constructor <;> intro h <;> omega
def sp_letters (m : Md) : Sp := fun vs H Q _ => ∃ (T : Str) (p : Nat) (w r : List Nat), vs = [.str T, .int p] ∧ T.length ≤ 100000 ∧ At2 T p (w ++ r) ∧ (∀ c ∈ w, isL c) ∧ (∀ c t, r = c :: t → ¬ isL c) ∧ Q (.str (mkS w)) H
theorem c_letters {m : Md} {f : Addr} {fd : FuncData} (F : C8.Def m.K m.mg "_letters_at" st_x_letters_at f fd) (b : L2.Binds m.K fd ps_x_letters_at []) (hlen : m.mg "len" = none) : Cal m 1 "_letters_at" (sp_letters m) := by
  refine cal_of F b sc_x_letters_at (fun vs H Q E h => by obtain ⟨_, _, _, _, rfl, _⟩ := h; rfl) fun X vs H Q E hA h => ?_
  obtain ⟨T, p, w, r, rfl, hT, at2, hw, hr, k⟩ := h
  obtain ⟨n0, n1, n2⟩ := nv_x_letters_at
  have hTs : T.length ≤ sizeLine := by rw [sizeLine_eq]; omega
  have hlT := ls_len T
  have hl := at2.len
  rw [List.length_append] at hl
  walk_at "B"
  walk_at "V"
  refine s_while hA ⟨fun σ' H' => ∃ j : Nat, j ≤ w.length ∧ σ' = [some (.str T), some (.int p), some (.int (p + j : Nat))] ∧ H' = H, fun σ' _ => (ls T).length - (match σ'.getD 2 none with | some (.int i) => i.toNat | _ => 0), ⟨0, by omega, rfl, rfl⟩, ?_⟩
  rintro σ' H' ⟨j, hj, rfl, rfl⟩
  have hg := at2.get j
  walk_at "V"
  refine g_blt hA hlen rfl bt_len ?_
  walk_at "V"
  refine g_lenS hTs ?_
  walk_at "V"
  have stop : (∀ c, (w ++ r)[j]? = some c → ¬ isL c) → j = w.length := by
    intro hn
    rcases Nat.lt_or_ge j w.length with hlt | hge
    · exfalso
      have e : (w ++ r)[j]? = some w[j] := by rw [List.getElem?_append_left hlt]; exact List.getElem?_eq_getElem hlt
      exact hn _ e (hw _ (List.getElem_mem hlt))
    · omega
  refine ite2 (fun h0 => ?_) fun h0 => ?_
  · have h0 : p + j < T.length := by have := of_decide_eq_true h0; omega
    obtain ⟨c, hc⟩ : ∃ c, (ls T)[p + j]? = some c := ⟨_, List.getElem?_eq_getElem (show p + j < (ls T).length by omega)⟩
    have hc' := hc
    rw [hg] at hc'
    walk_at "V"
    refine t_chain ?_
    walk_at "V"
    refine g_ixS hTs (atI_at hc) ?_
    refine g_leT ?_
    rw [show ("a" : Str).cps.toList = [97] from by decide +kernel, show (⟨#[c]⟩ : Str).cps.toList = [c] from rfl, le_chr]
    walk_at "V"
    refine ite2 (fun h1 => ?_) fun h1 => ?_
    · walk_at "V"
      refine g_leT ?_
      rw [show ("z" : Str).cps.toList = [122] from by decide +kernel, show (⟨#[c]⟩ : Str).cps.toList = [c] from rfl, le_chr]
      walk_at "V"
      refine ite2 (fun h2 => ?_) fun h2 => ?_
      · have hL : isL c := ⟨of_decide_eq_true h1, of_decide_eq_true h2⟩
        have hjw : j < w.length := by
          rcases Nat.lt_or_ge j w.length with hlt | hge
          · exact hlt
          · exfalso
            rw [List.getElem?_append_right hge, show j - w.length = 0 from by omega] at hc'
            cases r with
            | nil => simp at hc'
            | cons d t => simp at hc'; subst hc'; exact hr d t rfl hL
        walk_at "B"
        walk_at "V"
        refine ⟨⟨j + 1, by omega, by simp; omega, rfl⟩, ?_⟩
        show (ls T).length - ((p + j : Nat) + 1 : Int).toNat < (ls T).length - ((p + j : Nat) : Int).toNat
        omega
      · have ej := stop fun c' e => by
          rw [hc'] at e
          cases e
          have : ¬ c ≤ 122 := by simpa using h2
          omega
        subst ej
        walk_at "B"
        walk_at "V"
        refine w_sliceS ?_
        walk_at "V"
        refine ⟨hTs, ?_⟩
        rw [at2.cut]
        exact k
    · have ej := stop fun c' e => by
        rw [hc'] at e
        cases e
        have : ¬ 97 ≤ c := by simpa using h1
        omega
      subst ej
      walk_at "B"
      walk_at "V"
      refine w_sliceS ?_
      walk_at "V"
      refine ⟨hTs, ?_⟩
      rw [at2.cut]
      exact k
  · have h0 : ¬ p + j < T.length := by
      have : ¬ (((p + j : Nat) : Int) < (T.length : Int)) := by simpa using h0
      omega
    have ej := stop fun c' e => by
      rw [← hg] at e
      have := (List.getElem?_eq_some_iff.1 e).1
      omega
    subst ej
    walk_at "B"
    walk_at "V"
    refine w_sliceS ?_
    walk_at "V"
    refine ⟨hTs, ?_⟩
    rw [at2.cut]
    exact k
/-- a number, written -/
theorem uni_digit : ∀ c, 48 ≤ c → c ≤ 57 → Unicode.isDigit c = true := by
  intro c h1 h2
  have key : ∀ d, d < 10 → Unicode.isDigit (48 + d) = true := by decide +kernel
  have := key (c - 48) (by omega)
  rwa [show 48 + (c - 48) = c from by omega] at this
theorem dig_ok {n : Nat} : Txt.isascii (mkS (TL.numL n)) = true ∧ Txt.isdigit (mkS (TL.numL n)) = true := by
  have hd := TL.numL_digits n
  have hne := TL.numL_ne n
  constructor
  · unfold Txt.isascii mkS
    rw [← Array.all_toList, List.all_eq_true]
    intro c hc
    have := hd c hc
    exact decide_eq_true (by omega)
  · unfold Txt.isdigit
    rw [mkS_len, Bool.and_eq_true]
    refine ⟨decide_eq_true (List.length_pos_iff.2 hne), ?_⟩
    unfold mkS
    rw [← Array.all_toList, List.all_eq_true]
    intro c hc
    have := hd c hc
    exact uni_digit c this.1 this.2
def sp_whole_in (m : Md) : Sp := fun vs H Q _ => ∃ (i : Int), vs = [.str (mkS (numT i))] ∧ i.natAbs < 10 ^ 12 ∧ Q (.int i) H
theorem c_whole_in {m : Md} {f : Addr} {fd : FuncData} (F : C8.Def m.K m.mg "whole_in" st_whole_in f fd) (b : L2.Binds m.K fd ps_whole_in []) (hint : m.mg "int" = none) : Cal m 1 "whole_in" (sp_whole_in m) := by
  refine cal_of F b sc_whole_in (fun vs H Q E h => by obtain ⟨_, rfl, _⟩ := h; rfl) fun X vs H Q E hA h => ?_
  obtain ⟨i, rfl, hi, k⟩ := h
  obtain ⟨n0, n1⟩ := nv_whole_in
  have hl := numT_len hi
  have hz : (mkS (numT i)).length ≤ sizeLine := by rw [mkS_len, sizeLine_eq]; omega
  walk_at "B"
  walk_at "V"
  refine w_starts ?_
  walk_at "V"
  refine ⟨⟨_, rfl⟩, ?_⟩
  walk_at "V"
  refine ⟨_, _, rfl, rfl, ?_⟩
  rw [starts_ls, ls_mi, ls_mkS]
  by_cases c : i < 0
  · have e : numT i = 45 :: TL.numL i.natAbs := by unfold numT; rw [if_pos c]
    rw [show decide ((numT i).take ([45] : List Nat).length = [45]) = true from by rw [e]; rfl]
    walk_at "V"
    refine iteT ?_
    refine w_sliceFromS ?_
    walk_at "V"
    refine ⟨hz, ?_⟩
    rw [cut_1, ls_mkS, show (numT i).drop 1 = TL.numL i.natAbs from by rw [e]; rfl]
    walk_at "V"
    refine w_ascii ?_
    walk_at "V"
    rw [(dig_ok (n := i.natAbs)).1]
    walk_at "V"
    refine iteT ?_
    walk_at "V"
    refine w_digit ?_
    walk_at "V"
    rw [(dig_ok (n := i.natAbs)).2]
    walk_at "V"
    refine iteT ?_
    walk_at "V"
    refine g_typ hA hint rfl bt_int ?_
    walk_at "V"
    refine g_intS (int_numT hi) (by rw [mkS_len]; omega) k
  · have e : numT i = TL.numL i.natAbs := by unfold numT; rw [if_neg c]
    have ne : decide ((numT i).take ([45] : List Nat).length = [45]) = false := by
      rw [decide_eq_false_iff_not]
      intro w
      have h45 : (45 : Nat) ∈ numT i := List.mem_of_mem_take (by rw [w]; simp)
      rw [e] at h45
      have := TL.numL_digits _ 45 h45
      omega
    rw [ne]
    walk_at "V"
    refine iteF ?_
    rw [e]
    walk_at "V"
    refine w_ascii ?_
    walk_at "V"
    rw [(dig_ok (n := i.natAbs)).1]
    walk_at "V"
    refine iteT ?_
    walk_at "V"
    refine w_digit ?_
    walk_at "V"
    rw [(dig_ok (n := i.natAbs)).2]
    walk_at "V"
    refine iteT ?_
    walk_at "V"
    refine g_typ hA hint rfl bt_int ?_
    walk_at "V"
    refine g_intS (by rw [← e]; exact int_numT hi) (by rw [mkS_len, ← e]; omega) k
theorem wT_mono {X : Cx} {c : Expr} {σ : L2.St} {H : Hp} {Q1 Q2 : Bool → Hp → Prop} (h : wT X c σ H Q1) (k : ∀ v H', Q1 v H' → Q2 v H') : wT X c σ H Q2 := by
  unfold wT at h ⊢
  exact fun pins s I => thn (h pins s I) fun _ _ ⟨H', I', q⟩ => ⟨H', I', k _ H' q⟩
def sp_part_at (m : Md) : Sp := fun vs H Q _ => ∃ (T : Str) (p : Nat) (q : Addr) (ys : List V) (i : Int) (r : List Nat), vs = [.str T, .int p, .ref q] ∧ T.length ≤ 100000 ∧ SqT m.K H q ys ∧ ys ≠ [] ∧ ys.length < 10 ∧ At2 T p (32 :: (numT i ++ r)) ∧ (∀ c t, r = c :: t → ¬ isN c) ∧ i.natAbs < 10 ^ 12 ∧
  ∀ (a b : Addr) (H' : Hp), Grow m.T H H' → H' a = some (.tup (ys ++ [.int i])) → H' b = some (.tup [.ref a, .int (p + (1 + (numT i).length) : Nat)]) → Q (.ref b) H'
theorem c_part_at {m : Md} {f : Addr} {fd : FuncData} (F : C8.Def m.K m.mg "_part_at" st_x_part_at f fd) (b : L2.Binds m.K fd ps_x_part_at []) (hlen : m.mg "len" = none) (Wi : Cal m 1 "whole_in" (sp_whole_in m)) : Cal m 2 "_part_at" (sp_part_at m) := by
  refine cal_of F b sc_x_part_at (fun vs H Q E h => by obtain ⟨_, _, _, _, _, _, rfl, _⟩ := h; rfl) fun X vs H Q E hA h => ?_
  obtain ⟨T, p, q, ys, i, r, rfl, hT, hq, yne, yl, at2, hr, hi, k⟩ := h
  obtain ⟨n0, n1, n2, n3, n4⟩ := nv_x_part_at
  have hTs : T.length ≤ sizeLine := by rw [sizeLine_eq]; omega
  have hlT := ls_len T
  have a1 := at2.one
  have hl := a1.len
  rw [List.length_append] at hl
  walk_at "B"
  walk_at "V"
  refine s_while hA ⟨fun σ' H' => ∃ j : Nat, j ≤ (numT i).length ∧ σ' = [some (.str T), some (.int p), some (.ref q), some (.int (p + 1 + j : Nat)), none] ∧ H' = H, fun σ' _ => (ls T).length - (match σ'.getD 3 none with | some (.int i) => i.toNat | _ => 0), ⟨0, by omega, by rfl, rfl⟩, ?_⟩
  rintro σ' H' ⟨j, hj, rfl, rfl⟩
  have hg := a1.get j
  have st : Txt.startswith3 T " " (p : Int) = true := by rw [At2.st1 at2 " " ls_sp]; rfl
  refine wT_mono (Q1 := fun b H1 => H1 = H' ∧ b = decide (j < (numT i).length)) ?_ ?_
  · walk_at "V"
    refine g_blt hA hlen rfl bt_len ?_
    walk_at "V"
    refine g_lenS hTs ?_
    walk_at "V"
    refine ite2 (fun h0 => ?_) fun h0 => ?_
    · have h0 : p + 1 + j < T.length := by have := of_decide_eq_true h0; omega
      obtain ⟨c, hc⟩ : ∃ c, (ls T)[p + 1 + j]? = some c := ⟨_, List.getElem?_eq_getElem (show p + 1 + j < (ls T).length by omega)⟩
      have hc' := hc
      rw [hg] at hc'
      walk_at "V"
      refine g_ixS hTs (atI_at hc) ?_
      walk_at "V"
      refine g_inC ?_
      rw [dig_in]
      refine ⟨_, rfl, rfl, ?_⟩
      rw [decide_eq_decide]
      refine ⟨fun hN => ?_, fun hlt => ?_⟩
      · rcases Nat.lt_or_ge j (numT i).length with hlt | hge
        · exact hlt
        · exfalso
          rw [List.getElem?_append_right hge, show j - (numT i).length = 0 from by omega] at hc'
          cases r with
          | nil => simp at hc'
          | cons d t => simp at hc'; subst hc'; exact hr d t rfl hN
      · rw [List.getElem?_append_left hlt, List.getElem?_eq_getElem hlt] at hc'
        cases hc'
        exact numT_n i _ (List.getElem_mem hlt)
    · refine ⟨rfl, (decide_eq_false fun hlt => ?_).symm⟩
      have : ¬ (((p + 1 + j : Nat) : Int) < (T.length : Int)) := by simpa using h0
      omega
  rintro _ _ ⟨rfl, rfl⟩
  refine ite2 (fun h0 => ?_) fun h0 => ?_
  · have hjw : j < (numT i).length := of_decide_eq_true h0
    walk_at "B"
    walk_at "V"
    refine ⟨⟨j + 1, by omega, by simp; omega, rfl⟩, ?_⟩
    show (ls T).length - ((p + 1 + j : Nat) + 1 : Int).toNat < (ls T).length - ((p + 1 + j : Nat) : Int).toNat
    omega
  · have ej : j = (numT i).length := by
      have : ¬ j < (numT i).length := by simpa using h0
      omega
    subst ej
    walk_at "B"
    walk_at "V"
    refine w_call hA Wi (by omega) rfl ?_
    walk_at "V"
    refine w_sliceS ?_
    walk_at "V"
    refine ⟨hTs, ?_⟩
    rw [show ((p : Int) + 1) = ((p + 1 : Nat) : Int) from by omega, a1.cut]
    walk_at "V"
    refine ⟨i, rfl, hi, ?_⟩
    walk_at "V"
    refine w_starts3 ?_
    walk_at "V"
    refine ⟨⟨_, rfl⟩, ?_⟩
    walk_at "V"
    refine ⟨T, " ", p, rfl, rfl, ?_⟩
    rw [st]
    walk_at "V"
    refine iteF ?_
    walk_at "V"
    refine iteF (b_nil ?_)
    walk_at "B"
    walk_at "V"
    refine ⟨by walk_at "S", fun t1 ht1 => ?_⟩
    have g1 := Grow.new (T := m.T) (o := .tup [.int i]) ht1
    refine g_catT hA (GrowX.seqT g1 hq) (SqT.of upd_same) yne (by simp) (by rw [sizeLine_eq]; simp; omega) fun t2 ht2 => ?_
    have g2 := Grow.new (T := m.T) (o := .tup (ys ++ [.int i])) ht2
    walk_at "V"
    refine ⟨by walk_at "S", fun t3 ht3 => ?_⟩
    have g3 := Grow.new (T := m.T) (o := .tup [.ref t2, .int ((p + 1 + (numT i).length : Nat))]) ht3
    refine k t2 t3 _ ((g1.trans g2).trans g3) (g3.extN _ _ upd_same (fun _ z => by cases z)) ?_
    rw [upd_same, show p + 1 + (numT i).length = p + (1 + (numT i).length) from by omega]
namespace Tm
mutual
/-- waits of a size that the texts are written with -/
def sml : Tm → Prop
  | .part _ _ w => w.natAbs < 10 ^ 12
  | .all _ ts => smls ts
  | .rank _ ts => smls ts
def smls : List Tm → Prop
  | [] => True
  | t :: ts => sml t ∧ smls ts
end
theorem smls_iff : ∀ {ts : List Tm}, smls ts ↔ ∀ t ∈ ts, sml t
  | [] => by simp [smls]
  | t :: ts => by rw [smls, smls_iff]; simp
end Tm
/-- what is asked of a term whose text is read -/
structure Rd (d : Nat) (t : Tm) : Prop where
  n : t.nms
  w : t.wf
  s : t.sml
  d : t.dep ≤ d
def sp_term_at (m : Md) (d : Nat) : Sp := fun vs H Q _ => ∃ (T : Str) (p : Nat) (t : Tm) (post : List Nat), vs = [.str T, .int p] ∧ T.length ≤ 100000 ∧ At2 T p (txl t ++ post) ∧ Dlm post ∧ Rd d t ∧
  ∀ (v : V) (b : Addr) (H' : Hp), Grow m.T H H' → Da m.K (New H) H' v t.py → H' b = some (.tup [v, .int (p + (txl t).length : Nat)]) → Q (.ref b) H'
def sp_terms_at (m : Md) (d : Nat) : Sp := fun vs H Q _ => ∃ (T : Str) (p : Nat) (q : Addr) (ys : List V) (ts : List Tm) (post : List Nat), vs = [.str T, .int p, .ref q] ∧ T.length ≤ 100000 ∧ SqT m.K H q ys ∧ ys ≠ [] ∧ ys.length < 10 ∧ ts ≠ [] ∧ ts.length < 1000 ∧
  At2 T p (40 :: (txls ts ++ (41 :: post))) ∧ (∀ t ∈ ts, Rd d t) ∧
  ∀ (l a b : Addr) (xs : List V) (H' : Hp), Grow m.T H H' → New H l → H' l = some (.lst xs) → DaAll m.K (New H) H' xs (Tm.pys ts) → H' a = some (.tup (ys ++ [.ref l])) → H' b = some (.tup [.ref a, .int (p + ((txls ts).length + 2) : Nat)]) → Q (.ref b) H'
theorem nat_add (a b : Nat) : ((a : Int) + (b : Int)) = ((a + b : Nat) : Int) := by omega
theorem nat_add1 (a : Nat) : ((a : Int) + 1) = ((a + 1 : Nat) : Int) := by omega
theorem s_now : mkS lNow = "now" := str_ext (by rw [ls_mkS, ls_now])
theorem s_first : mkS lFirst = "first" := str_ext (by rw [ls_mkS, ls_first])
theorem s_last : mkS lLast = "last" := str_ext (by rw [ls_mkS, ls_last])
theorem s_rank : mkS lRank = "rank" := str_ext (by rw [ls_mkS, ls_rank])
theorem s_all (f : Bool) : mkS (if f then lFirst else lLast) = if f then ("first" : Str) else ("last" : Str) := by cases f <;> simp [s_first, s_last]
theorem len_now : ("now" : Str).length = 3 := by decide +kernel
theorem len_rank : ("rank" : Str).length = 4 := by decide +kernel
theorem len_all (f : Bool) : (if f then ("first" : Str) else "last").length = (if f then lFirst else lLast).length := by cases f <;> decide +kernel
theorem ta_step {m : Md} {f : Addr} {fd : FuncData} (F : C8.Def m.K m.mg "_term_at" st_x_term_at f fd) (b : L2.Binds m.K fd ps_x_term_at []) (hlen : m.mg "len" = none) (Le : Cal m 1 "_letters_at" (sp_letters m)) (Pa : Cal m 2 "_part_at" (sp_part_at m)) (d : Nat)
    (Ts : ∀ e, d = e + 1 → Cal m (2 * e + 4) "_terms_at" (sp_terms_at m e)) : Cal m (2 * d + 3) "_term_at" (sp_term_at m d) := by
  refine cal_of F b sc_x_term_at (fun vs H Q E h => by obtain ⟨_, _, _, _, rfl, _⟩ := h; rfl) fun X vs H Q E hA h => ?_
  obtain ⟨T, p, t, post, rfl, hT, at2, hd, rd, k⟩ := h
  obtain ⟨n0, n1, n2, n3, n4, n5⟩ := nv_x_term_at
  have hTs : T.length ≤ sizeLine := by rw [sizeLine_eq]; omega
  cases t with
  | part n z w =>
    have hz : IsName z := rd.n
    have hzs : z.length ≤ sizeLine := by rw [sizeLine_eq]; have := hz.2.1; omega
    have hw12 : w.natAbs < 10 ^ 12 := rd.s
    cases n with
    | false =>
      have e : txl (.part false z w) ++ post = ls z ++ (32 :: (numT w ++ post)) := by simp [txl]
      rw [e] at at2
      have a1 := at2.shift
      rw [ls_len] at a1
      have a2 := a1.one
      walk_at "B"
      walk_at "V"
      refine w_call hA Le (by omega) rfl ?_
      walk_at "V"
      refine ⟨T, p, ls z, _, rfl, hT, at2, nm_l hz, (nL32 · · _), ?_⟩
      rw [mkS_ls]
      walk_at "V"
      refine g_blt hA hlen rfl bt_len ?_
      walk_at "V"
      refine g_lenS hzs ?_
      walk_at "V"
      rw [nat_add]
      refine w_starts3 ?_
      walk_at "V"
      refine ⟨⟨_, rfl⟩, ?_⟩
      walk_at "V"
      refine ⟨T, "(", _, rfl, rfl, ?_⟩
      rw [show Txt.startswith3 T "(" ((p + z.length : Nat) : Int) = false from by rw [At2.st1 a1 "(" ls_op]; rfl]
      walk_at "V"
      refine iteF (b_nil ?_)
      walk_at "B"
      walk_at "V"
      refine w_starts3 ?_
      walk_at "V"
      refine ⟨⟨_, rfl⟩, ?_⟩
      walk_at "V"
      refine ⟨T, " ", _, rfl, rfl, ?_⟩
      rw [show Txt.startswith3 T " " ((p + z.length : Nat) : Int) = true from by rw [At2.st1 a1 " " ls_sp]; rfl]
      walk_at "V"
      refine iteF (b_nil ?_)
      walk_at "B"
      walk_at "V"
      refine w_call hA Le (by omega) rfl ?_
      walk_at "V"
      rw [nat_add1]
      refine ⟨T, _, [], _, rfl, hT, a2, by simp, fun c t e => ?_, ?_⟩
      · cases hn : numT w with
        | nil => exact (numT_ne w hn).elim
        | cons x u =>
          rw [hn] at e
          cases e
          have := numT_n w c (by rw [hn]; simp)
          intro hl
          rcases this with q | q <;> omega
      rw [show mkS [] = Str.empty from rfl]
      walk_at "V"
      refine ⟨_, ⟨Nat.zero_le _, rfl⟩, ?_⟩
      refine iteF (b_nil ?_)
      walk_at "B"
      walk_at "V"
      refine w_call hA Pa (by omega) rfl ?_
      walk_at "V"
      refine ⟨by walk_at "S", fun q1 hq1 => ?_⟩
      have g1 := Grow.new (T := m.T) (o := .tup [.str ("of" : Str), .str z]) hq1
      walk_at "V"
      refine ⟨T, _, q1, _, w, post, rfl, hT, SqT.of upd_same, by simp, by simp, a1, nN_dlm hd, hw12, fun a1' b1 H2 g2 ha hb => ?_⟩
      have fin : Q (.ref b1) H2 := by
        refine k (.ref a1') b1 H2 (g1.trans g2) (.tup (SqT.of ha) (.cons (.str _) (.cons (.str _) (.cons (.int _) .nil)))) ?_
        rw [hb, show p + z.length + (1 + (numT w).length) = p + (txl (.part false z w)).length from by have hzl : z.cps.size = z.length := rfl; simp [txl]; omega]
      walk_at "V"
      refine ite2 (fun h0 => ?_) fun h0 => ?_
      · walk_at "V"
        refine iteT ?_
        walk_at "V"
        refine w_starts3 ?_
        walk_at "V"
        refine ⟨⟨_, rfl⟩, ?_⟩
        walk_at "V"
        refine g_ixT hA (SqT.of hb) (atI_at (j := 1) rfl) ?_
        walk_at "V"
        have a3 : At2 T (p + z.length + (1 + (numT w).length)) post := by
          have := a2.shift
          rwa [show p + z.length + 1 + (numT w).length = p + z.length + (1 + (numT w).length) from by omega] at this
        refine ⟨T, "(", _, rfl, rfl, ?_⟩
        rw [At2.st1 a3 "(" ls_op, show decide (post.head? = some 40) = false from by
          rw [decide_eq_false_iff_not]
          intro e
          cases post with
          | nil => cases e
          | cons c t => cases e; rcases hd 40 t rfl with q | q <;> omega]
        walk_at "V"
        refine iteF (b_nil ?_)
        walk_at "B"
        walk_at "V"
        exact fin
      · refine iteF (b_nil ?_)
        walk_at "B"
        walk_at "V"
        exact fin
    | true =>
      have e : txl (.part true z w) ++ post = lNow ++ (32 :: (ls z ++ (32 :: (numT w ++ post)))) := by simp [txl]
      rw [e] at at2
      have a1 := at2.shift
      have a2 := a1.one
      have a3 := a2.shift
      walk_at "B"
      walk_at "V"
      refine w_call hA Le (by omega) rfl ?_
      walk_at "V"
      refine ⟨T, p, lNow, _, rfl, hT, at2, lNow_l, (nL32 · · _), ?_⟩
      rw [s_now]
      walk_at "V"
      refine g_blt hA hlen rfl bt_len ?_
      walk_at "V"
      refine g_lenS (by rw [len_now, sizeLine_eq]; decide) ?_
      walk_at "V"
      rw [len_now, nat_add, show (3 : Nat) = lNow.length from rfl]
      refine w_starts3 ?_
      walk_at "V"
      refine ⟨⟨_, rfl⟩, ?_⟩
      walk_at "V"
      refine ⟨T, "(", _, rfl, rfl, ?_⟩
      rw [show Txt.startswith3 T "(" ((p + lNow.length : Nat) : Int) = false from by rw [At2.st1 a1 "(" ls_op]; rfl]
      walk_at "V"
      refine iteF (b_nil ?_)
      walk_at "B"
      walk_at "V"
      refine w_starts3 ?_
      walk_at "V"
      refine ⟨⟨_, rfl⟩, ?_⟩
      walk_at "V"
      refine ⟨T, " ", _, rfl, rfl, ?_⟩
      rw [show Txt.startswith3 T " " ((p + lNow.length : Nat) : Int) = true from by rw [At2.st1 a1 " " ls_sp]; rfl]
      walk_at "V"
      refine iteF (b_nil ?_)
      walk_at "B"
      walk_at "V"
      refine w_call hA Le (by omega) rfl ?_
      walk_at "V"
      rw [nat_add1]
      refine ⟨T, _, ls z, _, rfl, hT, a2, nm_l hz, (nL32 · · _), ?_⟩
      rw [mkS_ls]
      walk_at "V"
      refine ⟨_, ⟨hzs, rfl⟩, ?_⟩
      rw [show (((z.length : Nat) : Int) != 0) = true from by have := hz.1; rw [bne_iff_ne]; omega]
      refine iteT ?_
      walk_at "V"
      refine w_call hA Pa (by omega) rfl ?_
      walk_at "V"
      refine g_blt hA hlen rfl bt_len ?_
      walk_at "V"
      refine g_lenS hzs ?_
      walk_at "V"
      rw [nat_add1, nat_add]
      refine ⟨by walk_at "S", fun q1 hq1 => ?_⟩
      have g1 := Grow.new (T := m.T) (o := .tup [.str ("now" : Str), .str z]) hq1
      walk_at "V"
      rw [ls_len] at a3
      refine ⟨T, _, q1, _, w, post, rfl, hT, SqT.of upd_same, by simp, by simp, a3, nN_dlm hd, hw12, fun a1' b1 H2 g2 ha hb => ?_⟩
      refine k (.ref a1') b1 H2 (g1.trans g2) (.tup (SqT.of ha) (.cons (.str _) (.cons (.str _) (.cons (.int _) .nil)))) ?_
      rw [hb, show p + lNow.length + 1 + z.length + (1 + (numT w).length) = p + (txl (.part true z w)).length from by have hzl : z.cps.size = z.length := rfl; simp [txl]; omega]
  | all fi ts =>
    obtain ⟨e, hde⟩ : ∃ e, d = e + 1 := ⟨d - 1, by have := rd.d; have h2 : Tm.deps ts + 1 ≤ d := this; omega⟩
    have hw : ts ≠ [] ∧ ts.length < 1000 ∧ Tm.wfs ts := rd.w
    have kids : ∀ t ∈ ts, Rd e t := fun t ht => ⟨Tm.nmss_iff.1 rd.n t ht, Tm.wfs_iff.1 hw.2.2 t ht, Tm.smls_iff.1 rd.s t ht, by have h1 := Tm.dep_mem ht; have h2 : Tm.deps ts + 1 ≤ d := rd.d; omega⟩
    have e0 : txl (.all fi ts) ++ post = (if fi then lFirst else lLast) ++ (40 :: (txls ts ++ (41 :: post))) := by simp [txl]
    rw [e0] at at2
    have a1 := at2.shift
    have hws : (if fi = true then ("first" : Str) else "last").length ≤ sizeLine := by rw [len_all, sizeLine_eq]; cases fi <;> decide
    walk_at "B"
    walk_at "V"
    refine w_call hA Le (by omega) rfl ?_
    walk_at "V"
    refine ⟨T, p, _, _, rfl, hT, at2, lAll_l fi, (nL40 · · _), ?_⟩
    rw [s_all]
    walk_at "V"
    refine g_blt hA hlen rfl bt_len ?_
    walk_at "V"
    refine g_lenS hws ?_
    walk_at "V"
    rw [len_all, nat_add]
    refine w_starts3 ?_
    walk_at "V"
    refine ⟨⟨_, rfl⟩, ?_⟩
    walk_at "V"
    refine ⟨T, "(", _, rfl, rfl, ?_⟩
    rw [show Txt.startswith3 T "(" ((p + (if fi = true then lFirst else lLast).length : Nat) : Int) = true from by rw [At2.st1 a1 "(" ls_op]; rfl]
    walk_at "V"
    refine iteT ?_
    walk_at "V"
    refine ⟨by walk_at "S", fun q0 hq0 => ?_⟩
    have g0 := Grow.new (T := m.T) (o := .tup [.str ("first" : Str), .str "last"]) hq0
    refine g_inF hA (.inr (SqT.of upd_same)) rfl rfl ?_
    rw [show inV (.str (if fi = true then ("first" : Str) else "last")) [.str "first", .str "last"] = true from by cases fi <;> decide +kernel]
    walk_at "V"
    refine iteT ?_
    walk_at "V"
    refine w_call hA (Ts e hde) (by omega) rfl ?_
    walk_at "V"
    refine ⟨by walk_at "S", fun q1 hq1 => ?_⟩
    have g1 := g0.trans (Grow.new (T := m.T) (o := .tup [.str (if fi = true then ("first" : Str) else "last")]) hq1)
    walk_at "V"
    refine ⟨T, _, q1, _, ts, post, rfl, hT, SqT.of upd_same, by simp, by simp, hw.1, hw.2.1, a1, kids, fun l a' b' xs H2 g2 nl hl dx ha hb => ?_⟩
    refine k (.ref a') b' H2 (g1.trans g2) ?_ ?_
    · have : Da m.K (New H) H2 (.ref a') (.tuple [.str (if fi = true then ("first" : Str) else "last"), .list (Tm.pys ts)]) := .tup (SqT.of ha) (.cons (.str _) (.cons (.lst (g1.keep _ nl) (SqL.of hl) (dx.sub fun b z => g1.keep _ z)) .nil))
      exact this
    · rw [hb, show p + (if fi = true then lFirst else lLast).length + ((txls ts).length + 2) = p + (txl (.all fi ts)).length from by simp [txl]; omega]
  | rank rr ts =>
    obtain ⟨e, hde⟩ : ∃ e, d = e + 1 := ⟨d - 1, by have := rd.d; have h2 : Tm.deps ts + 1 ≤ d := this; omega⟩
    have hw : ts ≠ [] ∧ ts.length < 1000 ∧ 1 ≤ rr ∧ rr ≤ ts.length ∧ Tm.wfs ts := rd.w
    have kids : ∀ t ∈ ts, Rd e t := fun t ht => ⟨Tm.nmss_iff.1 rd.n t ht, Tm.wfs_iff.1 hw.2.2.2.2 t ht, Tm.smls_iff.1 rd.s t ht, by have h1 := Tm.dep_mem ht; have h2 : Tm.deps ts + 1 ≤ d := rd.d; omega⟩
    have e0 : txl (.rank rr ts) ++ post = lRank ++ (32 :: (numT rr ++ (40 :: (txls ts ++ (41 :: post))))) := by simp [txl]
    rw [e0] at at2
    have a1 := at2.shift
    have a2 := a1.one
    have a3 := a2.shift
    walk_at "B"
    walk_at "V"
    refine w_call hA Le (by omega) rfl ?_
    walk_at "V"
    refine ⟨T, p, lRank, _, rfl, hT, at2, lRank_l, (nL32 · · _), ?_⟩
    rw [s_rank]
    walk_at "V"
    refine g_blt hA hlen rfl bt_len ?_
    walk_at "V"
    refine g_lenS (by rw [len_rank, sizeLine_eq]; decide) ?_
    walk_at "V"
    rw [len_rank, nat_add, show (4 : Nat) = lRank.length from rfl]
    refine w_starts3 ?_
    walk_at "V"
    refine ⟨⟨_, rfl⟩, ?_⟩
    walk_at "V"
    refine ⟨T, "(", _, rfl, rfl, ?_⟩
    rw [show Txt.startswith3 T "(" ((p + lRank.length : Nat) : Int) = false from by rw [At2.st1 a1 "(" ls_op]; rfl]
    walk_at "V"
    refine iteF (b_nil ?_)
    walk_at "B"
    walk_at "V"
    refine w_starts3 ?_
    walk_at "V"
    refine ⟨⟨_, rfl⟩, ?_⟩
    walk_at "V"
    refine ⟨T, " ", _, rfl, rfl, ?_⟩
    rw [show Txt.startswith3 T " " ((p + lRank.length : Nat) : Int) = true from by rw [At2.st1 a1 " " ls_sp]; rfl]
    walk_at "V"
    refine iteF (b_nil ?_)
    walk_at "B"
    walk_at "V"
    refine w_call hA Le (by omega) rfl ?_
    walk_at "V"
    rw [nat_add1]
    refine ⟨T, _, [], _, rfl, hT, a2, by simp, fun c t e => ?_, ?_⟩
    · cases hn : numT rr with
      | nil => exact (numT_ne rr hn).elim
      | cons x u =>
        rw [hn] at e
        cases e
        have := numT_n rr c (by rw [hn]; simp)
        intro hl
        rcases this with q | q <;> omega
    rw [show mkS [] = Str.empty from rfl]
    walk_at "V"
    refine ⟨_, ⟨Nat.zero_le _, rfl⟩, ?_⟩
    refine iteF (b_nil ?_)
    walk_at "B"
    walk_at "V"
    refine w_call hA Pa (by omega) rfl ?_
    walk_at "V"
    refine ⟨by walk_at "S", fun q1 hq1 => ?_⟩
    have g1 := Grow.new (T := m.T) (o := .tup [.str ("of" : Str), .str "rank"]) hq1
    walk_at "V"
    refine ⟨T, _, q1, _, rr, _, rfl, hT, SqT.of upd_same, by simp, by simp, a1, (nN40 · · _), by omega, fun a1' b1 H2 g2 ha hb => ?_⟩
    have a4 : At2 T (p + lRank.length + (1 + (numT rr).length)) (40 :: (txls ts ++ (41 :: post))) := by
      rwa [show p + lRank.length + 1 + (numT rr).length = p + lRank.length + (1 + (numT rr).length) from by omega] at a3
    walk_at "V"
    refine iteT ?_
    walk_at "V"
    refine iteT ?_
    walk_at "V"
    refine w_starts3 ?_
    walk_at "V"
    refine ⟨⟨_, rfl⟩, ?_⟩
    walk_at "V"
    refine g_ixT hA (SqT.of hb) (atI_at (j := 1) rfl) ?_
    walk_at "V"
    refine ⟨T, "(", _, rfl, rfl, ?_⟩
    rw [At2.st1 a4 "(" ls_op, show decide ((40 :: (txls ts ++ (41 :: post))).head? = some 40) = true from by simp]
    walk_at "V"
    refine iteT ?_
    walk_at "V"
    refine w_call hA (Ts e hde) (by omega) rfl ?_
    walk_at "V"
    refine g_ixT hA (SqT.of hb) (atI_at (j := 1) rfl) ?_
    walk_at "V"
    refine g_ixT hA (SqT.of hb) (atI_at (j := 0) rfl) ?_
    walk_at "V"
    refine g_ixT hA (SqT.of ha) (atI_at (j := 2) rfl) ?_
    walk_at "V"
    refine ⟨by walk_at "S", fun q2 hq2 => ?_⟩
    have g3 := (g1.trans g2).trans (Grow.new (T := m.T) (o := .tup [.str ("rank" : Str), .int rr]) hq2)
    walk_at "V"
    refine ⟨T, _, q2, _, ts, post, rfl, hT, SqT.of upd_same, by simp, by simp, hw.1, hw.2.1, a4, kids, fun l a' b' xs H4 g4 nl hl dx ha' hb' => ?_⟩
    refine k (.ref a') b' H4 (g3.trans g4) (.tup (SqT.of ha') (.cons (.str _) (.cons (.int _) (.cons (.lst (g3.keep _ nl) (SqL.of hl) (dx.sub fun b z => g3.keep _ z)) .nil)))) ?_
    rw [hb', show p + lRank.length + (1 + (numT rr).length) + ((txls ts).length + 2) = p + (txl (.rank rr ts)).length from by simp [txl]; omega]
theorem txr_take2 (ts : List Tm) (post : List Nat) : decide ((txr ts ++ (41 :: post)).take 2 = [44, 32]) = decide (ts ≠ []) := by
  rw [decide_eq_decide]
  cases ts with
  | nil => simp [txr]
  | cons t ts => simp [txr]
theorem ts_step {m : Md} {f : Addr} {fd : FuncData} (F : C8.Def m.K m.mg "_terms_at" st_x_terms_at f fd) (b : L2.Binds m.K fd ps_x_terms_at []) (d : Nat) (Ta : Cal m (2 * d + 3) "_term_at" (sp_term_at m d)) : Cal m (2 * d + 4) "_terms_at" (sp_terms_at m d) := by
  refine cal_of F b sc_x_terms_at (fun vs H Q E h => by obtain ⟨_, _, _, _, _, _, rfl, _⟩ := h; rfl) fun X vs H Q E hA h => ?_
  obtain ⟨T, p, q, ys, ts, post, rfl, hT, hq, yne, yl, tne, tl, at2, kids, k⟩ := h
  obtain ⟨n0, n1, n2, n3, n4⟩ := nv_x_terms_at
  have hTs : T.length ≤ sizeLine := by rw [sizeLine_eq]; omega
  have a1 := at2.one
  have hl1 := a1.len
  rw [List.length_append] at hl1
  walk_at "B"
  walk_at "V"
  refine ⟨by walk_at "S", fun D hD => ?_⟩
  have gD := Grow.new (T := m.T) (o := .lst []) hD
  walk_at "V"
  refine s_while hA ⟨fun σ' H' => ∃ (j at_ : Nat) (xs : List V) (s4 : Option V), j ≤ ts.length ∧ σ' = [some (.str T), some (.int at_), some (.ref q), some (.ref D), s4] ∧ Grow m.T H H' ∧ H' D = some (.lst xs) ∧ xs.length = j ∧ DaAll m.K (fun b => New H b ∧ b ≠ D) H' xs (Tm.pys (ts.take j)) ∧ (j = 0 → at_ = p) ∧ (0 < j → At2 T at_ (txr (ts.drop j) ++ (41 :: post))),
    fun σ' _ => (ls T).length - (match σ'.getD 1 none with | some (.int i) => i.toNat | _ => 0), ⟨0, p, [], none, by omega, rfl, gD, upd_same, rfl, .nil, fun _ => rfl, fun h => by omega⟩, ?_⟩
  rintro σ' H' ⟨j, at_, xs, s4, hj, rfl, gg, hDx, hx, dx, h0, hp⟩
  have eE : xs.isEmpty = decide (j = 0) := by
    cases xs with
    | nil => simp at hx; simp [← hx]
    | cons x xs => simp at hx; simp; omega
  refine wT_mono (Q1 := fun b H1 => H1 = H' ∧ b = decide (j < ts.length)) ?_ ?_
  · walk_at "V"
    refine ⟨_, .inl ⟨xs, SqL.of hDx, rfl⟩, ?_⟩
    rw [eE]
    by_cases c : j = 0
    · rw [decide_eq_true c]
      refine ⟨rfl, (decide_eq_true ?_).symm⟩
      rw [c]
      exact List.length_pos_iff.2 tne
    · rw [decide_eq_false c]
      show wW _ _ _ _ _
      walk_at "V"
      refine w_starts3 ?_
      walk_at "V"
      refine ⟨⟨_, rfl⟩, ?_⟩
      walk_at "V"
      refine ⟨T, ", ", _, rfl, rfl, ?_⟩
      rw [At2.st2 (hp (by omega)) ", " ls_cs, txr_take2]
      refine ⟨_, rfl, rfl, ?_⟩
      rw [decide_eq_decide]
      constructor
      · intro w
        rcases Nat.lt_or_ge j ts.length with hlt | hge
        · exact hlt
        · exact (w (List.drop_of_length_le hge)).elim
      · intro w e
        have := congrArg List.length e
        rw [List.length_drop] at this
        simp at this
        omega
  rintro _ _ ⟨rfl, rfl⟩
  refine ite2 (fun hb => ?_) fun hb => ?_
  · have hjt : j < ts.length := of_decide_eq_true hb
    have ed : ts.drop j = ts[j] :: ts.drop (j + 1) := List.drop_eq_getElem_cons hjt
    have htm : ts[j] ∈ ts := List.getElem_mem hjt
    obtain ⟨st, hst, hs2, hge⟩ : ∃ st : Nat, (at_ : Int) + (if j = 0 then 1 else 2) = (st : Int) ∧ At2 T st (txl ts[j] ++ (txr (ts.drop (j + 1)) ++ (41 :: post))) ∧ at_ < st := by
      by_cases c : j = 0
      · refine ⟨p + 1, by rw [if_pos c, h0 c]; omega, ?_, by rw [h0 c]; omega⟩
        have e : txls ts = txl ts[j] ++ txr (ts.drop (j + 1)) := by
          have := congrArg txls (show ts = ts[j] :: ts.drop (j + 1) from by rw [← ed, c]; rfl)
          rw [txls] at this
          exact this
        have := a1
        rwa [e, List.append_assoc] at this
      · refine ⟨at_ + 2, by rw [if_neg c]; omega, ?_, by omega⟩
        have := hp (by omega)
        rw [ed, txr] at this
        have := (At2.one (At2.one (by simpa using this)))
        exact this
    walk_at "B"
    walk_at "V"
    refine w_call hA Ta (by omega) rfl ?_
    walk_at "V"
    refine ⟨_, .inl ⟨xs, SqL.of hDx, rfl⟩, ?_⟩
    rw [eE]
    have hxl : xs.length ≤ sizeLine := by rw [sizeLine_eq]; omega
    by_cases c : j = 0
    all_goals
      first
        | (rw [decide_eq_true c]; rw [if_pos c] at hst; show wE _ _ _ _ _)
        | (rw [decide_eq_false c]; rw [if_neg c] at hst; show wE _ _ _ _ _)
      walk_at "V"
      rw [hst]
      refine ⟨T, st, ts[j], _, rfl, hT, hs2, dlm_r _ _, kids _ htm, fun v b1 H2 g2 dv hb1 => ?_⟩
      have hD2 := g2.extN _ _ hDx (fun _ z => by cases z)
      have dx2 := Grow.daAll g2 dx
      walk_at "V"
      refine iteF (b_nil ?_)
      walk_at "B"
      walk_at "V"
      refine g_append ?_
      walk_at "V"
      refine ⟨tyL hD2, ?_⟩
      walk_at "V"
      refine g_ixT hA (SqT.of hb1) (atI_at (j := 0) rfl) ?_
      walk_at "V"
      refine ⟨D, xs, v, rfl, rfl, hD2, by rw [sizeLine_eq]; omega, ?_⟩
      have gl := GrowX.lst (T := m.T) (ys := xs ++ [v]) hD2
      have hbD : b1 ≠ D := fun w => by rw [w, hD2] at hb1; cases hb1
      have hb2 := gl.ext b1 _ hbD hb1 (fun _ z => by cases z)
      walk_at "V"
      refine g_ixT hA (SqT.of hb2) (atI_at (j := 1) rfl) ?_
      walk_at "V"
      have hpos : 0 < (txl ts[j]).length := by
        obtain ⟨c', r', e, _⟩ := txl_head ts[j] (kids _ htm).n
        rw [e]; simp
      refine ⟨⟨j + 1, st + (txl ts[j]).length, xs ++ [v], some (.ref b1), by omega, rfl, ?_, upd_same, by simp; omega, ?_, fun z => by omega, fun _ => hs2.shift⟩, ?_⟩
      · exact Grow.intoNew (gg.trans g2) gl fun c w => by rw [w]; exact hD
      · rw [List.take_add_one, List.getElem?_eq_getElem hjt]
        show DaAll m.K _ _ (xs ++ [v]) (Tm.pys (ts.take j ++ [ts[j]]))
        rw [show Tm.pys (ts.take j ++ [ts[j]]) = Tm.pys (ts.take j) ++ [ts[j].py] from by rw [Tm.pys_map, Tm.pys_map, List.map_append]; rfl]
        refine DaAll.append (gl.daAll dx2 fun b hb => hb.2) (.cons (gl.da (dv.sub (A' := fun b => New H b ∧ b ≠ D) fun b hb => ⟨gg.keep _ hb, fun w => by have z : _ = none := hb; rw [w, hDx] at z; cases z⟩) fun b hb => hb.2) .nil)
      · show (ls T).length - (((st + (txl ts[j]).length : Nat) : Int)).toNat < (ls T).length - ((at_ : Nat) : Int).toNat
        have := hs2.len
        rw [List.length_append] at this
        omega
  · have hjt : j = ts.length := by
      have : ¬ j < ts.length := by simpa using hb
      omega
    have hj0 : 0 < j := by rw [hjt]; exact List.length_pos_iff.2 tne
    have hpp := hp hj0
    rw [List.drop_of_length_le (by omega), txr, List.nil_append] at hpp
    have hat : at_ = p + (1 + (txls ts).length) := by
      have h1 := hpp.len
      rw [List.length_cons] at h1 hl1
      omega
    rw [List.take_of_length_le (by omega)] at dx
    walk_at "B"
    walk_at "V"
    refine w_starts3 ?_
    walk_at "V"
    refine ⟨⟨_, rfl⟩, ?_⟩
    walk_at "V"
    refine ⟨T, ")", _, rfl, rfl, ?_⟩
    rw [show Txt.startswith3 T ")" (at_ : Int) = true from by rw [At2.st1 hpp ")" ls_cl]; rfl]
    walk_at "V"
    refine iteT ?_
    walk_at "V"
    refine ⟨by walk_at "S", fun t1 ht1 => ?_⟩
    have g1 := Grow.new (T := m.T) (o := .tup [.ref D]) ht1
    refine g_catT hA (GrowX.seqT (gg.trans g1) hq) (SqT.of upd_same) yne (by simp) (by rw [sizeLine_eq]; simp; omega) fun t2 ht2 => ?_
    have g2 := Grow.new (T := m.T) (o := .tup (ys ++ [.ref D])) ht2
    walk_at "V"
    refine ⟨by walk_at "S", fun t3 ht3 => ?_⟩
    have g3 := Grow.new (T := m.T) (o := .tup [.ref t2, .int ((at_ : Int) + 1)]) ht3
    have g13 := (g1.trans g2).trans g3
    refine k D t2 t3 xs _ (gg.trans g13) hD (Grow.extN g13 _ _ hDx (fun _ z => by cases z)) (Grow.daAll g13 (dx.sub fun b z => z.1)) (g3.extN _ _ upd_same (fun _ z => by cases z)) ?_
    rw [upd_same, nat_add1, show at_ + 1 = p + ((txls ts).length + 2) from by omega]
theorem c_term_at {m : Md} {f f2 : Addr} {fd fd2 : FuncData} (F : C8.Def m.K m.mg "_term_at" st_x_term_at f fd) (b : L2.Binds m.K fd ps_x_term_at []) (F2 : C8.Def m.K m.mg "_terms_at" st_x_terms_at f2 fd2) (b2 : L2.Binds m.K fd2 ps_x_terms_at []) (hlen : m.mg "len" = none) (Le : Cal m 1 "_letters_at" (sp_letters m)) (Pa : Cal m 2 "_part_at" (sp_part_at m)) :
    ∀ d, Cal m (2 * d + 3) "_term_at" (sp_term_at m d) := by
  intro d
  induction d with
  | zero => exact ta_step F b hlen Le Pa 0 fun e h => by omega
  | succ d ih =>
    refine ta_step F b hlen Le Pa (d + 1) fun e h => ?_
    obtain rfl : d = e := by omega
    exact ts_step F2 b2 d ih
def sp_term_in (m : Md) (d : Nat) : Sp := fun vs H Q _ => ∃ (t : Tm), vs = [.str (mkS (txl t))] ∧ (txl t).length ≤ 100000 ∧ Rd d t ∧ ∀ (v : V) (H' : Hp), Grow m.T H H' → Da m.K (New H) H' v t.py → Q v H'
theorem c_term_in {m : Md} {f : Addr} {fd : FuncData} (F : C8.Def m.K m.mg "term_in" st_term_in f fd) (b : L2.Binds m.K fd ps_term_in []) (hlen : m.mg "len" = none) (d : Nat) (Ta : Cal m (2 * d + 3) "_term_at" (sp_term_at m d)) : Cal m (2 * d + 4) "term_in" (sp_term_in m d) := by
  refine cal_of F b sc_term_in (fun vs H Q E h => by obtain ⟨_, rfl, _⟩ := h; rfl) fun X vs H Q E hA h => ?_
  obtain ⟨t, rfl, hl, rd, k⟩ := h
  obtain ⟨n0, n1⟩ := nv_term_in
  have hTl : (mkS (txl t)).length = (txl t).length := mkS_len _
  walk_at "B"
  walk_at "V"
  refine w_call hA Ta (by omega) rfl ?_
  walk_at "V"
  refine ⟨_, 0, t, [], rfl, by omega, ⟨Nat.zero_le _, by rw [ls_mkS]; simp⟩, dlm_nil, rd, fun v b1 H1 g1 dv hb => ?_⟩
  walk_at "V"
  refine iteT ?_
  walk_at "V"
  refine g_ixT hA (SqT.of hb) (atI_at (j := 1) rfl) ?_
  walk_at "V"
  refine g_blt hA hlen rfl bt_len ?_
  walk_at "V"
  refine g_lenS (by rw [hTl, sizeLine_eq]; omega) ?_
  walk_at "V"
  rw [hTl, show decide (((0 + (txl t).length : Nat) : Int) = ((txl t).length : Int)) = true from by simp]
  refine iteT ?_
  walk_at "V"
  refine g_ixT hA (SqT.of hb) (atI_at (j := 0) rfl) ?_
  exact k v H1 g1 dv
def sp_rule_in (m : Md) (C : Addr) (d : Nat) : Sp := fun vs H Q _ => ∃ (t : Tm), vs = [.str (mkS (txl t))] ∧ (txl t).length ≤ 100000 ∧ Rd d t ∧ Tabs m.T H ∧ ∀ (i : Addr) (H' : Hp), Grow m.T H H' → New H i → RuleAt m C (New H) H' i t → Q (.ref i) H'
theorem c_rule_in {m : Md} {C CT : Addr} {f : Addr} {fd : FuncData} (F : C8.Def m.K m.mg "rule_in" st_rule_in f fd) (b : L2.Binds m.K fd ps_rule_in []) (d M k0 : Nat) (hM : 2 * d + 1 ≤ M) (hk : M + 5 ≤ k0) (hk2 : 2 * d + 4 ≤ k0) (Ti : Cal m (2 * d + 4) "term_in" (sp_term_in m d)) (It : Cal m (M + 2) "is_term" (sp_is m isTm M))
    (Mk : MakX m (L2.CX m.P m.w) (M + 4) "Rule" C (sp_rinit m C CT M) []) : Cal m (k0 + 1) "rule_in" (sp_rule_in m C d) := by
  refine cal_of F b sc_rule_in (fun vs H Q E h => by obtain ⟨_, rfl, _⟩ := h; rfl) fun X vs H Q E hA h => ?_
  obtain ⟨t, rfl, hl, rd, hT, k⟩ := h
  obtain ⟨n0, n1⟩ := nv_rule_in
  have gd : Tm.Gd d t := ⟨rd.w, rd.n, rd.d⟩
  walk_at "B"
  walk_at "V"
  refine w_call hA Ti (by omega) rfl ?_
  walk_at "V"
  refine ⟨t, rfl, hl, rd, fun v H1 g1 dv => ?_⟩
  have nn : decide (v = .non) = false := by
    rw [decide_eq_false_iff_not]
    intro e
    rw [e] at dv
    cases t <;> (rw [Tm.py] at dv; cases dv)
  walk_at "V"
  rw [nn]
  refine iteT ?_
  walk_at "V"
  refine w_call hA It (by omega) rfl ?_
  walk_at "V"
  refine ⟨v, t.py, rfl, Da.ob _ _ (dv.sub fun _ _ => trivial) gd.tx, by have := gd.depth; omega, fun H2 g2 => ?_⟩
  rw [gd.isTm]
  walk_at "V"
  refine iteT ?_
  refine w_rule hA Mk (by omega) rfl ?_
  walk_at "V"
  refine ⟨t, d, (Grow.da g2 dv).sub fun _ _ => trivial, gd, hM, (g1.trans g2).tab hT, fun i H3 g3 ni r3 => ?_⟩
  exact k i H3 ((g1.trans g2).trans g3) ((g1.trans g2).keep _ ni) (r3.sub fun b hb => (g1.trans g2).keep _ hb)
/-- x, y, z = e: what e gives is taken apart -/
theorem s_three {m : Md} {N : List Str} {sc : Scope} {i j l k : Nat} {X : Cx} {t1 t2 t3 e : Expr} {σ : L2.St} {H : Hp} {nx : L2.St → Hp → Prop} {rt : VK} {bk ct : L2.St → Hp → Prop} {k1 : Nat} {p3 pos : Pos} (h : At m N sc k X) (hg1 : PG X t1 (gName i)) (hg2 : PG X t2 (gName j)) (hg3 : PG X t3 (gName l))
    (q : wE X e σ H fun v H1 => ∃ (p : Addr) (v1 v2 v3 : V), v = .ref p ∧ SqT m.K H1 p [v1, v2, v3] ∧ nx (((σ.set i (some v1)).set j (some v2)).set l (some v3)) H1)
    (hw : ∀ env : Env, swappedStores [.Tuple [t1, t2, t3] k1 p3] e { env with scope := sc } = pure none := by with_unfolding_all (intro _; rfl))
    (hs : swapsWithSole [.Tuple [t1, t2, t3] k1 p3] e pos.line X.env = pure false := by with_unfolding_all rfl)
    (hz : (assignEach [t1, t2, t3] X.env).map (·.2) = assign t1 X.env :: (assignEach [t2, t3] X.env).map (·.2) := by with_unfolding_all rfl) (hz2 : (assignEach [t2, t3] X.env).map (·.2) = assign t2 X.env :: (assignEach [t3] X.env).map (·.2) := by with_unfolding_all rfl)
    (hz3 : (assignEach [t3] X.env).map (·.2) = assign t3 X.env :: (assignEach [] X.env).map (·.2) := by with_unfolding_all rfl)
    (hn : (assignEach [t1, t2, t3] X.env).length = 3 := by with_unfolding_all rfl) (hst : (assignEach [t1, t2, t3] X.env).findIdx? (·.1) = none := by with_unfolding_all rfl)
    (ho : (assignEach [.Tuple [t1, t2, t3] k1 p3] X.env).map (·.2) = [assign (.Tuple [t1, t2, t3] k1 p3) X.env] := by with_unfolding_all rfl) : wS X (.Assign [.Tuple [t1, t2, t3] k1 p3] e pos) ⟨nx, rt, bk, ct⟩ σ H := by
  refine toS (ps_asg cE (pg_tup h.calm (pgs_cons hg1 (pgs_cons hg2 (pgs_cons hg3 pgs_nil hz3) hz2) hz) hn hst) hs (by have := hw X.env; rw [env_sc h.ss] at this; exact this) ho) ?_
  exact wE.mono q fun v H1 ⟨p, v1, v2, v3, ev, hp, q1⟩ => ⟨p, [v1, v2, v3], ev, by rw [h.kk]; exact hp, rfl, v1, [v2, v3], rfl, v2, [v3], rfl, v3, [], rfl, rfl, q1⟩
/-- sep.join(e) -/
theorem w_join {X : Cx} {o e : Expr} {σ : L2.St} {H : Hp} {Q : VK} {pos apos : Pos} (q : wE X o σ H fun x H1 => (∃ a, x = .str a) ∧ wE X e σ H1 fun y H2 => ∃ (a : Str) (p : Addr) (ys : List Str), x = .str a ∧ y = .ref p ∧ (SqL X.K H2 p (ys.map V.str) ∨ SqT X.K H2 p (ys.map V.str)) ∧ (ys.map (·.length)).sum + ys.length * a.length ≤ 16777216 ∧ Q (.str (Txt.join a ys)) H2)
    (hs : starEach [e] X.env = [(false, eval e X.env)] := by with_unfolding_all rfl) (hbase : attributeBase o "join" X.env (eval o X.env) = eval o X.env := by with_unfolding_all rfl) (hline : (apos.endLine == pos.line) = true := by with_unfolding_all rfl) :
    wE X (.Call (.Attribute o "join" apos) [e] [] pos) σ H Q := by
  refine toE (pe_join cE cE hs hbase hline) ?_
  exact wE.mono q fun x H1 ⟨a, q1⟩ => ⟨a, wE.mono q1 fun y H2 ⟨a, p, ys, ex, ey, z, hz, q2⟩ => ⟨a, p, ys, ex, by rw [ey], z, hz, q2⟩⟩
/-! f-strings: a part is a written text, or {e} -/
inductive FP | c (e : Expr) | f (e : Expr) (p : Pos)
def FP.x : FP → Expr
  | .c e => e
  | .f e p => .FormattedValue e (-1) none p
def FP.t (X : Cx) : FP → TE
  | .c e => wE X e
  | .f e _ => tFmt (wE X e)
theorem pj_of (X : Cx) : ∀ ps : List FP, PJ X (ps.map FP.x) (ps.map (FP.t X))
  | [] => .nil
  | .c e :: ps => .cons cE (pj_of X ps)
  | .f e p :: ps => .cons (pe_fmt cE) (pj_of X ps)
theorem w_fstr {X : Cx} {σ : L2.St} {H : Hp} {Q : VK} {pos : Pos} (a b : FP) (ps : List FP) (q : tJs ((a :: b :: ps).map (FP.t X)) Str.empty σ H fun out H1 => Q (.str out) H1) : wE X (.JoinedStr ((a :: b :: ps).map FP.x) pos) σ H Q :=
  toE (pe_joined (pj_of X (a :: b :: ps))) q
theorem ls_empty : ls Str.empty = [] := rfl
/-- joined by a comma and a blank -/
theorem join_txs : ∀ ts : List Tm, ls (Txt.join ", " (ts.map fun t => mkS (txl t))) = txls ts := by
  have key : ∀ (ts : List Tm) (t : Tm), ls (Str.join ", " ((t :: ts).map fun t => mkS (txl t))) = txl t ++ txr ts := by
    intro ts
    induction ts with
    | nil => intro t; simp [Str.join, txr, ls_mkS]
    | cons t2 ts ih =>
      intro t
      show ls (mkS (txl t) ++ ", " ++ Str.join ", " ((t2 :: ts).map fun t => mkS (txl t))) = _
      rw [ls_app, ls_app, ih t2, ls_mkS, ls_cs, txr]
      simp
  intro ts
  show ls (Builtin.Str.glued ", " _) = _
  rw [StrLaws.glued_eq_join]
  cases ts with
  | nil => rfl
  | cons t ts => exact key ts t
theorem txr_sum : ∀ ts : List Tm, (ts.map fun t => (txl t).length).sum + 2 * ts.length = (txr ts).length
  | [] => rfl
  | t :: ts => by
    have := txr_sum ts
    simp only [List.map_cons, List.sum_cons, List.length_cons, txr, List.length_append]
    omega
theorem txls_sum (ts : List Tm) : (ts.map fun t => (txl t).length).sum + 2 * ts.length ≤ (txls ts).length + 2 := by
  cases ts with
  | nil => simp [txls]
  | cons t ts =>
    have := txr_sum ts
    simp only [List.map_cons, List.sum_cons, List.length_cons, txls, List.length_append]
    omega
theorem txl_mem {ts : List Tm} {t : Tm} (h : t ∈ ts) : (txl t).length ≤ (txls ts).length := by
  have key : ∀ (us : List Tm), t ∈ us → (txl t).length + 2 ≤ (txr us).length := by
    intro us
    induction us with
    | nil => intro h; cases h
    | cons u us ih =>
      intro h
      rw [txr]
      rcases List.mem_cons.1 h with e | e
      · subst e; simp only [List.length_cons, List.length_append]; omega
      · have := ih e; simp only [List.length_cons, List.length_append]; omega
  cases ts with
  | nil => cases h
  | cons u us =>
    rw [txls, List.length_append]
    rcases List.mem_cons.1 h with e | e
    · subst e; omega
    · have := key us e; omega
def sp_term_text (m : Md) (d : Nat) : Sp := fun vs H Q _ => ∃ (v : V) (t : Tm) (A : Addr → Prop), vs = [v] ∧ Da m.K A H v t.py ∧ Rd d t ∧ (txl t).length ≤ 100000 ∧ ∀ H', Grow m.T H H' → Q (.str (mkS (txl t))) H'
theorem log2_ok {w : Int} (h : w.natAbs < 10 ^ 12) : w.natAbs.log2 < 1920 := by
  rcases Nat.eq_zero_or_pos w.natAbs with e | e
  · rw [e]; decide
  · have : (10 : Nat) ^ 12 ≤ 2 ^ 1920 := by decide +kernel
    exact (Nat.log2_lt (by omega)).2 (Nat.lt_of_lt_of_le h this)
theorem tt_step {m : Md} {f : Addr} {fd : FuncData} (F : C8.Def m.K m.mg "_term_text" st_x_term_text f fd) (b : L2.Binds m.K fd ps_x_term_text []) (Ip : Cal m 1 "is_part" (sp_is_part m)) (d : Nat) (ih : ∀ e, d = e + 1 → Cal m (e + 2) "_term_text" (sp_term_text m e)) : Cal m (d + 2) "_term_text" (sp_term_text m d) := by
  refine cal_of F b sc_x_term_text (fun vs H Q E h => by obtain ⟨_, _, _, rfl, _⟩ := h; rfl) fun X vs H Q E hA h => ?_
  obtain ⟨v, t, A, rfl, dv, rd, hl, k⟩ := h
  obtain ⟨n0, n1, n2, n3, n4⟩ := nv_x_term_text
  have fit : ∀ {l : List Nat}, l.length ≤ 200000 → (mkS l).length ≤ sizeLine := fun h => by rw [mkS_len, sizeLine_eq]; omega
  walk_at "B"
  walk_at "V"
  refine w_call hA Ip (by omega) rfl ?_
  walk_at "V"
  refine ⟨v, t, A, rfl, dv, fun H1 g1 => ?_⟩
  have dv1 := Grow.da g1 dv
  walk_at "V"
  cases t with
  | part n z w =>
    have hz : IsName z := rd.n
    have hw12 : w.natAbs < 10 ^ 12 := rd.s
    have hzl : z.length ≤ 8 := hz.2.1
    have hnl := numT_len hw12
    have hlog := log2_ok hw12
    obtain ⟨a, rfl, hs⟩ := da_part dv1
    refine iteT ?_
    walk_at "B"
    refine s_three hA (pg_nl hA n1) (pg_nl hA n2) (pg_nl hA n3) ?_
    walk_at "V"
    refine ⟨a, _, _, _, rfl, hs, ?_⟩
    walk_at "B"
    walk_at "V"
    have hk := k H1 g1
    have le1 : ∀ {x : Str} {l : List Nat}, ls x = l → l.length ≤ 200000 → x.length ≤ sizeLine := fun {x l} e hl => by rw [← ls_len, e, sizeLine_eq]; omega
    have hzl' : (ls z).length ≤ 8 := by rw [ls_len]; exact hzl
    cases n with
    | false =>
      have eT : (((Str.empty ++ z) ++ (" " : Str)) ++ (toString w : Str)) = mkS (txl (.part false z w)) := str_ext (by rw [ls_app, ls_app, ls_app, ls_empty, ls_sp, ts_num, ls_mkS, ls_mkS]; simp [txl])
      rw [← eT] at hk
      refine iteT ?_
      refine w_fstr (.f _ _) (.c _) [.f _ _] ?_
      show wE _ _ _ _ _
      walk_at "V"
      refine .inl ⟨z, rfl, by rw [sizeLine_eq]; omega, z, rfl, le1 (l := ls z) (by rw [ls_app, ls_empty]; rfl) (by omega), ?_⟩
      show wE _ _ _ _ _
      walk_at "V"
      refine ⟨le1 (l := ls z ++ [32]) (by rw [ls_app, ls_app, ls_empty, ls_sp]; rfl) (by simp only [List.length_append, List.length_cons, List.length_nil]; omega), ?_⟩
      show wE _ _ _ _ _
      walk_at "V"
      exact .inr ⟨w, rfl, hlog, _, rfl, le1 (l := txl (.part false z w)) (by rw [eT, ls_mkS]) (by omega), hk⟩
    | true =>
      have eT : (((((Str.empty ++ ("now " : Str)) ++ z) ++ (" " : Str))) ++ (toString w : Str)) = mkS (txl (.part true z w)) := str_ext (by rw [ls_app, ls_app, ls_app, ls_app, ls_empty, ls_sp, ts_num, ls_mkS, ls_mkS, show ls ("now " : Str) = lNow ++ [32] from by decide +kernel]; simp [txl])
      rw [← eT] at hk
      refine iteF ?_
      refine w_fstr (.c _) (.f _ _) [.c _, .f _ _] ?_
      show wE _ _ _ _ _
      walk_at "V"
      refine ⟨le1 (l := lNow ++ [32]) (by rw [ls_app, ls_empty]; decide +kernel) (by decide), ?_⟩
      show wE _ _ _ _ _
      walk_at "V"
      refine .inl ⟨z, rfl, by rw [sizeLine_eq]; omega, z, rfl, le1 (l := lNow ++ [32] ++ ls z) (by rw [ls_app, ls_app, ls_empty, show ls ("now " : Str) = lNow ++ [32] from by decide +kernel]; rfl) (by simp only [List.length_append, List.length_cons, List.length_nil]; have : lNow.length = 3 := rfl; omega), ?_⟩
      show wE _ _ _ _ _
      walk_at "V"
      refine ⟨le1 (l := lNow ++ [32] ++ ls z ++ [32]) (by rw [ls_app, ls_app, ls_app, ls_empty, ls_sp, show ls ("now " : Str) = lNow ++ [32] from by decide +kernel]; rfl) (by simp only [List.length_append, List.length_cons, List.length_nil]; have : lNow.length = 3 := rfl; omega), ?_⟩
      show wE _ _ _ _ _
      walk_at "V"
      exact .inr ⟨w, rfl, hlog, _, rfl, le1 (l := txl (.part true z w)) (by rw [eT, ls_mkS]) (by omega), hk⟩
  | all fi ts =>
    obtain ⟨e, hde⟩ : ∃ e, d = e + 1 := ⟨d - 1, by have := rd.d; have h2 : Tm.deps ts + 1 ≤ d := this; omega⟩
    have hw : ts ≠ [] ∧ ts.length < 1000 ∧ Tm.wfs ts := rd.w
    have kids : ∀ t ∈ ts, Rd e t := fun t ht => ⟨Tm.nmss_iff.1 rd.n t ht, Tm.wfs_iff.1 hw.2.2 t ht, Tm.smls_iff.1 rd.s t ht, by have h1 := Tm.dep_mem ht; have h2 : Tm.deps ts + 1 ≤ d := rd.d; omega⟩
    obtain ⟨a, l, xs, rfl, hal, hs, hlx, dx⟩ := da_all dv1
    have hts : (txls ts).length ≤ 100000 := by
      have : (txl (.all fi ts)).length = (if fi = true then lFirst else lLast).length + ((txls ts).length + 2) := by simp [txl]
      omega
    refine iteF (b_nil ?_)
    walk_at "B"
    walk_at "V"
    refine w_join ?_
    walk_at "V"
    refine ⟨⟨_, rfl⟩, ?_⟩
    refine w_lcL hA (by decide +kernel) (i := 5) ⟨rfl, rfl⟩ ?_
    walk_at "V"
    refine g_ixT hA hs rfl ?_
    refine ⟨l, xs, rfl, hlx, fun D hD => ?_⟩
    have hxl : xs.length = ts.length := by rw [dx.length, Tm.pys_length]
    refine ⟨fun j H4 => Grow m.T H1 H4 ∧ H4 D = some (.lst (((ts.take j).map fun t => mkS (txl t)).map V.str)), ⟨Grow.new hD, upd_same⟩, ?_, ?_, ?_⟩
    · rintro j H4 _ ⟨g4, _⟩
      exact GrowX.seqL g4 hlx fun z => z
    · rintro j x H4 hx ⟨g4, hd4⟩ X' hX'
      have c5 := nl_of hX' 5 "inner"
      have hj : j < ts.length := by rw [← hxl]; exact (List.getElem?_eq_some_iff.1 hx).1
      obtain ⟨pd, hpd, dxj⟩ := dx.getV hx
      rw [Tm.pys_map, List.getElem?_map, List.getElem?_eq_getElem hj] at hpd
      cases hpd
      have htm : ts[j] ∈ ts := List.getElem_mem hj
      refine w_call hX' (ih e hde) (by omega) rfl ?_
      walk_at "V"
      refine ⟨x, ts[j], _, rfl, Grow.da g4 dxj, kids _ htm, by have := txl_mem htm; omega, fun H5 g5 => ?_⟩
      have hd5 := g5.extN _ _ hd4 (fun _ z => by cases z)
      refine ⟨_, hd5, by rw [List.length_map, List.length_map, List.length_take, sizeLine_eq]; omega, Grow.intoNew (g4.trans g5) (GrowX.lst hd5) fun c w => by rw [w]; exact hD, ?_⟩
      rw [upd_same, List.take_add_one, List.getElem?_eq_getElem hj, Option.toList_some, List.map_append, List.map_append]
      rfl
    rintro H4 ⟨g4, hd4⟩
    rw [hxl, List.take_length] at hd4
    walk_at "V"
    refine ⟨", ", D, _, rfl, rfl, .inl (SqL.of hd4), ?_, ?_⟩
    · rw [List.map_map, List.length_map, show (", " : Str).length = 2 from by decide +kernel, show ((fun x : Str => x.length) ∘ fun t : Tm => mkS (txl t)) = (fun t => (txl t).length) from by funext t; exact mkS_len _]
      have := txls_sum ts
      omega
    have eJ : Txt.join ", " (ts.map fun t => mkS (txl t)) = mkS (txls ts) := str_ext (by rw [join_txs, ls_mkS])
    rw [eJ]
    have hs4 := GrowX.seqT g4 hs
    have le1 : ∀ {x : Str} {l : List Nat}, ls x = l → l.length ≤ 200000 → x.length ≤ sizeLine := fun {x l} e hl => by rw [← ls_len, e, sizeLine_eq]; omega
    have hk := k H4 (g1.trans g4)
    have eT : ((((Str.empty ++ (if fi = true then ("first" : Str) else "last")) ++ ("(" : Str)) ++ mkS (txls ts)) ++ (")" : Str)) = mkS (txl (.all fi ts)) := str_ext (by rw [ls_app, ls_app, ls_app, ls_app, ls_empty, ls_op, ls_cl, ls_mkS, ls_mkS, show ls (if fi = true then ("first" : Str) else "last") = (if fi = true then lFirst else lLast) from by cases fi <;> decide +kernel]; simp [txl])
    rw [← eT] at hk
    have hw5 : ls (if fi = true then ("first" : Str) else "last") = (if fi = true then lFirst else lLast) := by cases fi <;> decide +kernel
    have hw6 : (if fi = true then lFirst else lLast).length ≤ 5 := by cases fi <;> decide
    walk_at "V"
    refine g_ixT hA hs4 (i := ((0 : Nat) : Int)) (atI_at rfl) ?_
    walk_at "V"
    rw [show decide ((if fi = true then ("first" : Str) else "last") = "rank") = false from by cases fi <;> decide +kernel]
    refine iteF ?_
    refine w_fstr (.f _ _) (.c _) [.f _ _, .c _] ?_
    show wE _ _ _ _ _
    walk_at "V"
    refine g_ixT hA hs4 (i := ((0 : Nat) : Int)) (atI_at rfl) ?_
    refine .inl ⟨_, rfl, le1 hw5 (by omega), _, rfl, le1 (l := if fi = true then lFirst else lLast) (by rw [ls_app, ls_empty, hw5]; rfl) (by omega), ?_⟩
    show wE _ _ _ _ _
    walk_at "V"
    refine ⟨le1 (l := (if fi = true then lFirst else lLast) ++ [40]) (by rw [ls_app, ls_app, ls_empty, hw5, ls_op]; rfl) (by rw [List.length_append]; simp only [List.length_cons, List.length_nil]; omega), ?_⟩
    show wE _ _ _ _ _
    walk_at "V"
    refine .inl ⟨_, rfl, le1 (ls_mkS _) (by omega), _, rfl, le1 (l := (if fi = true then lFirst else lLast) ++ [40] ++ txls ts) (by rw [ls_app, ls_app, ls_app, ls_empty, hw5, ls_op, ls_mkS]; rfl) (by rw [List.length_append, List.length_append]; simp only [List.length_cons, List.length_nil]; omega), ?_⟩
    show wE _ _ _ _ _
    walk_at "V"
    exact ⟨le1 (l := txl (.all fi ts)) (by rw [eT, ls_mkS]) (by omega), hk⟩
  | rank r ts =>
    obtain ⟨e, hde⟩ : ∃ e, d = e + 1 := ⟨d - 1, by have := rd.d; have h2 : Tm.deps ts + 1 ≤ d := this; omega⟩
    have hw : ts ≠ [] ∧ ts.length < 1000 ∧ 1 ≤ r ∧ r ≤ ts.length ∧ Tm.wfs ts := rd.w
    have kids : ∀ t ∈ ts, Rd e t := fun t ht => ⟨Tm.nmss_iff.1 rd.n t ht, Tm.wfs_iff.1 hw.2.2.2.2 t ht, Tm.smls_iff.1 rd.s t ht, by have h1 := Tm.dep_mem ht; have h2 : Tm.deps ts + 1 ≤ d := rd.d; omega⟩
    obtain ⟨a, l, xs, rfl, hal, hs, hlx, dx⟩ := da_rank dv1
    have hr12 : r.natAbs < 10 ^ 12 := by omega
    have hnl := numT_len hr12
    have hts : (txls ts).length ≤ 100000 := by
      have : (txl (.rank r ts)).length = lRank.length + ((numT r).length + ((txls ts).length + 3)) := by simp [txl]; omega
      omega
    refine iteF (b_nil ?_)
    walk_at "B"
    walk_at "V"
    refine w_join ?_
    walk_at "V"
    refine ⟨⟨_, rfl⟩, ?_⟩
    refine w_lcL hA (by decide +kernel) (i := 5) ⟨rfl, rfl⟩ ?_
    walk_at "V"
    refine g_ixT hA hs rfl ?_
    refine ⟨l, xs, rfl, hlx, fun D hD => ?_⟩
    have hxl : xs.length = ts.length := by rw [dx.length, Tm.pys_length]
    refine ⟨fun j H4 => Grow m.T H1 H4 ∧ H4 D = some (.lst (((ts.take j).map fun t => mkS (txl t)).map V.str)), ⟨Grow.new hD, upd_same⟩, ?_, ?_, ?_⟩
    · rintro j H4 _ ⟨g4, _⟩
      exact GrowX.seqL g4 hlx fun z => z
    · rintro j x H4 hx ⟨g4, hd4⟩ X' hX'
      have c5 := nl_of hX' 5 "inner"
      have hj : j < ts.length := by rw [← hxl]; exact (List.getElem?_eq_some_iff.1 hx).1
      obtain ⟨pd, hpd, dxj⟩ := dx.getV hx
      rw [Tm.pys_map, List.getElem?_map, List.getElem?_eq_getElem hj] at hpd
      cases hpd
      have htm : ts[j] ∈ ts := List.getElem_mem hj
      refine w_call hX' (ih e hde) (by omega) rfl ?_
      walk_at "V"
      refine ⟨x, ts[j], _, rfl, Grow.da g4 dxj, kids _ htm, by have := txl_mem htm; omega, fun H5 g5 => ?_⟩
      have hd5 := g5.extN _ _ hd4 (fun _ z => by cases z)
      refine ⟨_, hd5, by rw [List.length_map, List.length_map, List.length_take, sizeLine_eq]; omega, Grow.intoNew (g4.trans g5) (GrowX.lst hd5) fun c w => by rw [w]; exact hD, ?_⟩
      rw [upd_same, List.take_add_one, List.getElem?_eq_getElem hj, Option.toList_some, List.map_append, List.map_append]
      rfl
    rintro H4 ⟨g4, hd4⟩
    rw [hxl, List.take_length] at hd4
    walk_at "V"
    refine ⟨", ", D, _, rfl, rfl, .inl (SqL.of hd4), ?_, ?_⟩
    · rw [List.map_map, List.length_map, show (", " : Str).length = 2 from by decide +kernel, show ((fun x : Str => x.length) ∘ fun t : Tm => mkS (txl t)) = (fun t => (txl t).length) from by funext t; exact mkS_len _]
      have := txls_sum ts
      omega
    have eJ : Txt.join ", " (ts.map fun t => mkS (txl t)) = mkS (txls ts) := str_ext (by rw [join_txs, ls_mkS])
    rw [eJ]
    have hs4 := GrowX.seqT g4 hs
    have le1 : ∀ {x : Str} {l : List Nat}, ls x = l → l.length ≤ 200000 → x.length ≤ sizeLine := fun {x l} e hl => by rw [← ls_len, e, sizeLine_eq]; omega
    have hk := k H4 (g1.trans g4)
    have l4 : lRank.length = 4 := rfl
    have eR : ls ("rank " : Str) = lRank ++ [32] := by decide +kernel
    have eT : (((((Str.empty ++ ("rank " : Str)) ++ (toString r : Str)) ++ ("(" : Str)) ++ mkS (txls ts)) ++ (")" : Str)) = mkS (txl (.rank r ts)) := str_ext (by rw [ls_app, ls_app, ls_app, ls_app, ls_app, ls_empty, ls_op, ls_cl, ls_mkS, ls_mkS, ts_num, ls_mkS, eR]; simp [txl])
    rw [← eT] at hk
    walk_at "V"
    refine g_ixT hA hs4 (i := ((0 : Nat) : Int)) (atI_at rfl) ?_
    walk_at "V"
    refine iteT ?_
    refine w_fstr (.c _) (.f _ _) [.c _, .f _ _, .c _] ?_
    show wE _ _ _ _ _
    walk_at "V"
    refine ⟨le1 (l := lRank ++ [32]) (by rw [ls_app, ls_empty, eR]; rfl) (by decide), ?_⟩
    show wE _ _ _ _ _
    walk_at "V"
    refine g_ixT hA hs4 (i := ((1 : Nat) : Int)) (atI_at rfl) ?_
    refine .inr ⟨r, rfl, log2_ok hr12, _, rfl, le1 (l := lRank ++ [32] ++ numT r) (by rw [ls_app, ls_app, ls_empty, eR, ts_num, ls_mkS]; rfl) (by simp only [List.length_append, List.length_cons, List.length_nil]; omega), ?_⟩
    show wE _ _ _ _ _
    walk_at "V"
    refine ⟨le1 (l := lRank ++ [32] ++ numT r ++ [40]) (by rw [ls_app, ls_app, ls_app, ls_empty, eR, ts_num, ls_mkS, ls_op]; rfl) (by simp only [List.length_append, List.length_cons, List.length_nil]; omega), ?_⟩
    show wE _ _ _ _ _
    walk_at "V"
    refine .inl ⟨_, rfl, le1 (ls_mkS _) (by omega), _, rfl, le1 (l := lRank ++ [32] ++ numT r ++ [40] ++ txls ts) (by rw [ls_app, ls_app, ls_app, ls_app, ls_empty, eR, ts_num, ls_mkS, ls_mkS, ls_op]; rfl) (by simp only [List.length_append, List.length_cons, List.length_nil]; omega), ?_⟩
    show wE _ _ _ _ _
    walk_at "V"
    exact ⟨le1 (l := txl (.rank r ts)) (by rw [eT, ls_mkS]) (by omega), hk⟩
theorem c_term_text {m : Md} {f : Addr} {fd : FuncData} (F : C8.Def m.K m.mg "_term_text" st_x_term_text f fd) (b : L2.Binds m.K fd ps_x_term_text []) (Ip : Cal m 1 "is_part" (sp_is_part m)) : ∀ d, Cal m (d + 2) "_term_text" (sp_term_text m d) := by
  intro d
  induction d with
  | zero => exact tt_step F b Ip 0 fun e h => by omega
  | succ d ih =>
    refine tt_step F b Ip (d + 1) fun e h => ?_
    obtain rfl : d = e := by omega
    exact ih
def sp_need_rule (m : Md) (C : Addr) : Sp := fun vs H Q _ => ∃ (i : Addr) (t : Tm) (A : Addr → Prop), vs = [.ref i] ∧ RuleAt m C A H i t ∧ Q .non H
theorem c_need_rule {m : Md} {C : Addr} {f : Addr} {fd : FuncData} (R : RuleC m C) (F : C8.Def m.K m.mg "need_rule" st_need_rule f fd) (b : L2.Binds m.K fd ps_need_rule []) (hi : m.mg "isinstance" = none) : Cal m 1 "need_rule" (sp_need_rule m C) := by
  refine cal_of F b sc_need_rule (fun vs H Q E h => by obtain ⟨_, _, _, rfl, _⟩ := h; rfl) fun X vs H Q E hA h => ?_
  obtain ⟨i, t, A, rfl, ⟨dx, u, hi1, _⟩, k⟩ := h
  have n0 := nv_need_rule
  walk_at "B"
  walk_at "V"
  refine g_blt hA hi rfl bt_isinstance ?_
  walk_at "V"
  refine w_glb (v := .ref C) hA R.gR rfl rfl ?_
  walk_at "V"
  refine g_isi hA (.own C) (.base (.ins hi1 R.cl R.ha R.hn R.ht R.hm)) R.own ?_
  walk_at "V"
  refine iteF (b_nil ?_)
  exact b_nil k
def sp_rule_text (m : Md) (C : Addr) (d : Nat) : Sp := fun vs H Q _ => ∃ (i : Addr) (t : Tm), vs = [.ref i] ∧ RuleAt m C Any H i t ∧ Rd d t ∧ (txl t).length ≤ 100000 ∧ Tabs m.T H ∧ ∀ H', Grow m.T H H' → Q (.str (mkS (txl t))) H'
theorem c_rule_text {m : Md} {C : Addr} {f : Addr} {fd : FuncData} (F : C8.Def m.K m.mg "rule_text" st_rule_text f fd) (b : L2.Binds m.K fd ps_rule_text []) (d M k0 : Nat) (hd : d ≤ M) (hk : M + 5 ≤ k0) (Nr : Cal m 1 "need_rule" (sp_need_rule m C)) (Tt : Cal m (d + 2) "_term_text" (sp_term_text m d))
    (Me : MetX m C8.CX0 (M + 4) C "term" (sp_rterm m C M) []) : Cal m (k0 + 1) "rule_text" (sp_rule_text m C d) := by
  refine cal_of F b sc_rule_text (fun vs H Q E h => by obtain ⟨_, _, rfl, _⟩ := h; rfl) fun X vs H Q E hA h => ?_
  obtain ⟨i, t, rfl, r, rd, hl, hT, k⟩ := h
  have n0 := nv_rule_text
  have r' := r
  obtain ⟨dx, u, hi, du⟩ := r'
  walk_at "B"
  walk_at "V"
  refine w_call hA Nr (by omega) rfl ?_
  walk_at "V"
  refine ⟨i, t, _, rfl, r, ?_⟩
  walk_at "V"
  refine w_call hA Tt (by omega) rfl ?_
  refine w_cons (w_met0 (E := C8.E0) hA Me (by omega) C8.pass0 ?_)
  walk_at "V"
  refine ⟨i, dx, _, rfl, hi, rfl, i, t, rfl, r, hT, by have := rd.d; omega, rd.w, fun u' H1 g1 fr => ?_⟩
  walk_at "V"
  exact ⟨u', t, _, rfl, fr.da, rd, hl, fun H2 g2 => k H2 (g1.trans g2)⟩
def sp_read_rule (m : Md) (C : Addr) (d : Nat) : Sp := fun vs H Q _ => ∃ (t : Tm), vs = [.str (mkS (txl t))] ∧ (txl t).length ≤ 100000 ∧ Rd d t ∧ Tabs m.T H ∧ ∀ (i : Addr) (H' : Hp), Grow m.T H H' → New H i → RuleAt m C (New H) H' i t → Q (.ref i) H'
theorem c_read_rule {m : Md} {C : Addr} {f : Addr} {fd : FuncData} (F : C8.Def m.K m.mg "read_rule" st_read_rule f fd) (b : L2.Binds m.K fd ps_read_rule []) (d k0 : Nat) (hi : m.mg "isinstance" = none) (hs : m.mg "str" = none) (Ru : Cal m k0 "rule_in" (sp_rule_in m C d)) (Rt : Cal m k0 "rule_text" (sp_rule_text m C d)) : Cal m (k0 + 1) "read_rule" (sp_read_rule m C d) := by
  refine cal_of F b sc_read_rule (fun vs H Q E h => by obtain ⟨_, rfl, _⟩ := h; rfl) fun X vs H Q E hA h => ?_
  obtain ⟨t, rfl, hl, rd, hT, k⟩ := h
  obtain ⟨n0, n1⟩ := nv_read_rule
  walk_at "B"
  walk_at "V"
  refine g_blt hA hi rfl bt_isinstance ?_
  walk_at "V"
  refine w_tyn hA hs rfl bt_str ?_
  walk_at "V"
  refine g_isi hA (.ty "str") (.base (.str _)) (kit_ty (kit_all "str" (by decide) (.str (mkS (txl t))))) ?_
  walk_at "V"
  refine iteT ?_
  refine w_call hA Ru (by omega) rfl ?_
  walk_at "V"
  refine ⟨t, rfl, hl, rd, hT, fun i H1 g1 ni r1 => ?_⟩
  walk_at "V"
  refine iteF ?_
  walk_at "V"
  refine w_call hA Rt (by omega) rfl ?_
  walk_at "V"
  refine ⟨i, t, rfl, r1.any, rd, hl, g1.tab hT, fun H2 g2 => ?_⟩
  walk_at "V"
  rw [show (!decide (mkS (txl t) = mkS (txl t))) = false from by simp]
  refine iteF (b_nil ?_)
  walk_at "B"
  walk_at "V"
  have ne : i ≠ i → False := fun w => w rfl
  exact k i H2 (g1.trans g2) ni (r1.grow (T := m.T) g2 (fun _ _ z => z) (fun z => z))
/-! ### the law's own writing -/
theorem dig_at (r : Nat) (h : r < 10) : (("0123456789" : Str).cps.toList)[r]? = some (48 + r) := by
  have e : ("0123456789" : Str).cps.toList = (List.range 10).map (48 + ·) := by decide +kernel
  rw [e, List.getElem?_map, List.getElem?_range h]
  rfl
theorem mkS_eq_empty (l : List Nat) : decide (mkS l = ("" : Str)) = decide (l = []) := by
  rw [decide_eq_decide]
  constructor
  · intro e
    have := congrArg ls e
    rw [ls_mkS] at this
    rw [this]; decide +kernel
  · intro e
    rw [e]; exact str_ext (by decide +kernel)
def sp_num (m : Md) : Sp := fun vs H Q _ => ∃ (i : Int), vs = [.int i] ∧ i.natAbs < 10 ^ 12 ∧ Q (.str (mkS (numT i))) H
theorem c_num {m : Md} {f : Addr} {fd : FuncData} (F : C8.Def m.K m.mg "_law_number_text" st_number_text f fd) (b : L2.Binds m.K fd ps_number_text []) (habs : m.mg "abs" = none) : Cal m 1 "_law_number_text" (sp_num m) := by
  refine cal_of F b sc_number_text (fun vs H Q E h => by obtain ⟨_, rfl, _⟩ := h; rfl) fun X vs H Q E hA h => ?_
  obtain ⟨i, rfl, hi, k⟩ := h
  obtain ⟨n0, n1, n2⟩ := nv_number_text
  have hl := numT_len hi
  obtain ⟨n, hn⟩ : ∃ n : Nat, n = i.natAbs := ⟨_, rfl⟩
  walk_at "B"
  refine s_par hA n1 n2 ?_
  walk_at "V"
  refine g_blt hA habs rfl bt_abs ?_
  walk_at "V"
  refine ⟨_, call_abs, i, rfl, ?_⟩
  have eA : (if i < 0 then -i else i) = (n : Int) := by split <;> omega
  rw [eA]
  walk_at "V"
  refine ⟨_, _, rfl, ?_⟩
  have hnn : (TL.numL n).length ≤ 13 := by
    have := TL.numL_len (n := n) (k := 12) (by decide) (by omega)
    omega
  walk_at "B"
  refine s_while hA ⟨fun σ' H' => ∃ (dg : List Nat) (L : Nat), σ' = [some (.int i), some (.str (mkS dg)), some (.int L)] ∧ H' = H ∧ ((dg = [] ∧ L = n) ∨ (dg ≠ [] ∧ (if L = 0 then dg else TL.numL L ++ dg) = TL.numL n)),
    fun σ' _ => (match σ'.getD 2 none with | some (.int i) => i.toNat | _ => 0) + (match σ'.getD 1 none with | some (.str z) => if z.length = 0 then 1 else 0 | _ => 0), ⟨[], n, rfl, rfl, .inl ⟨rfl, rfl⟩⟩, ?_⟩
  rintro σ' H' ⟨dg, L, rfl, rfl, inv⟩
  refine wT_mono (Q1 := fun b H1 => H1 = H' ∧ b = decide (0 < L ∨ dg = [])) ?_ ?_
  · walk_at "V"
    refine ite2 (fun h0 => ?_) fun h0 => ?_
    · have h0 : (0 : Int) < L := of_decide_eq_true h0
      exact ⟨rfl, (decide_eq_true (.inl (by omega))).symm⟩
    · have h0 : ¬ (0 : Int) < L := by simpa using h0
      show wW _ _ _ _ _
      walk_at "V"
      rw [mkS_eq_empty]
      refine ⟨rfl, ?_⟩
      rw [decide_eq_decide]
      exact ⟨.inr, fun w => w.elim (fun w => absurd w (by omega)) id⟩
  rintro _ _ ⟨rfl, rfl⟩
  refine ite2 (fun hb => ?_) fun hb => ?_
  · have hb : 0 < L ∨ dg = [] := of_decide_eq_true hb
    have hdl : dg.length ≤ 13 := by
      rcases inv with ⟨e, _⟩ | ⟨ne, e⟩
      · rw [e]; simp
      · rcases hb with h | h
        · rw [if_neg (by omega)] at e
          have := congrArg List.length e
          rw [List.length_append] at this
          omega
        · exact absurd h ne
    walk_at "B"
    refine s_par hA n1 n2 ?_
    walk_at "V"
    refine g_modI (by omega) ?_
    rw [show ((L : Int) % 10) = ((L % 10 : Nat) : Int) from by omega]
    refine g_ixS (by decide +kernel) (atI_at (dig_at (L % 10) (by omega))) ?_
    walk_at "V"
    refine g_addS (by rw [mkS_len, sizeLine_eq]; show 1 + _ ≤ _; omega) ?_
    walk_at "V"
    refine g_divI (by omega) ?_
    rw [show ((L : Int) / 10) = ((L / 10 : Nat) : Int) from by omega]
    walk_at "V"
    refine ⟨_, _, rfl, ?_⟩
    have eS : (⟨#[48 + L % 10]⟩ : Str) ++ mkS dg = mkS ((48 + L % 10) :: dg) := mkS_app [48 + L % 10] dg
    rw [eS]
    refine b_nil ⟨⟨(48 + L % 10) :: dg, L / 10, rfl, rfl, .inr ⟨by simp, ?_⟩⟩, ?_⟩
    · have e1 : (if L = 0 ∧ dg ≠ [] then dg else TL.numL L ++ dg) = TL.numL n := by
        rcases inv with ⟨e, e2⟩ | ⟨ne, e⟩
        · rw [if_neg (fun w => w.2 e), e, e2, List.append_nil]
        · have hL0 : L ≠ 0 := by rcases hb with h | h
                                 · omega
                                 · exact absurd h ne
          rw [if_neg (fun w => hL0 w.1)]
          rwa [if_neg hL0] at e
      rw [if_neg (fun w => by rcases hb with h | h
                              · omega
                              · exact w.2 h)] at e1
      rw [← e1]
      by_cases c : L < 10
      · rw [if_pos (by omega), TL.numL_lt c, Nat.mod_eq_of_lt c]; rfl
      · rw [if_neg (by omega), TL.numL_step (n := L) (by omega)]; simp
    · show (((L / 10 : Nat) : Int).toNat) + (if (mkS ((48 + L % 10) :: dg)).length = 0 then 1 else 0) < ((L : Int).toNat) + (if (mkS dg).length = 0 then 1 else 0)
      rw [mkS_len, mkS_len, if_neg (by simp)]
      rcases hb with h | h
      · have : L / 10 < L := by omega
        split <;> omega
      · rw [h]; simp only [List.length_nil, if_true]; omega
  · have hb : ¬ (0 < L ∨ dg = []) := by simpa using hb
    have e : dg = TL.numL n := by
      rcases inv with ⟨e, _⟩ | ⟨ne, e⟩
      · exact absurd (.inr e) hb
      · rwa [if_pos (by omega)] at e
    subst e
    walk_at "B"
    walk_at "V"
    have k' := k
    unfold numT at k'
    rw [← hn] at k'
    refine ite2 (fun h0 => ?_) fun h0 => ?_
    · have h0 : i < 0 := of_decide_eq_true h0
      rw [if_pos h0] at k'
      walk_at "V"
      refine g_addS (by rw [mkS_len, sizeLine_eq]; show 1 + _ ≤ _; omega) ?_
      rw [show ("-" : Str) ++ mkS (TL.numL n) = mkS (45 :: TL.numL n) from str_ext (by rw [ls_app, ls_mi]; rfl)]
      exact k'
    · have h0 : ¬ i < 0 := by simpa using h0
      rw [if_neg h0] at k'
      walk_at "V"
      exact k'
def sp_ltext (m : Md) (d : Nat) : Sp := fun vs H Q _ => ∃ (v : V) (t : Tm) (A : Addr → Prop), vs = [v] ∧ Da m.K A H v t.py ∧ Rd d t ∧ (txl t).length ≤ 100000 ∧ ∀ H', Grow m.T H H' → Q (.str (mkS (txl t))) H'
theorem lt_step {m : Md} {f : Addr} {fd : FuncData} (F : C8.Def m.K m.mg "_law_term_text" st_term_text f fd) (b : L2.Binds m.K fd ps_term_text []) (Nu : Cal m 1 "_law_number_text" (sp_num m)) (d : Nat) (ih : ∀ e, d = e + 1 → Cal m (e + 2) "_law_term_text" (sp_ltext m e)) : Cal m (d + 2) "_law_term_text" (sp_ltext m d) := by
  refine cal_of F b sc_term_text (fun vs H Q E h => by obtain ⟨_, _, _, rfl, _⟩ := h; rfl) fun X vs H Q E hA h => ?_
  obtain ⟨v, t, A, rfl, dv, rd, hl, k⟩ := h
  obtain ⟨n0, n1⟩ := nv_term_text
  have le1 : ∀ {x : Str} {l : List Nat}, ls x = l → l.length ≤ 200000 → x.length ≤ 200000 := fun {x l} e hl => by rw [← ls_len, e]; omega
  have fit : ∀ {x y : Str} {l : List Nat}, ls x ++ ls y = l → l.length ≤ 200000 → x.length + y.length ≤ sizeLine := fun {x y l} e hl => by rw [← ls_len, ← ls_len, ← List.length_append, e, sizeLine_eq]; omega
  walk_at "B"
  walk_at "V"
  cases t with
  | part n z w =>
    have hz : IsName z := rd.n
    have hw12 : w.natAbs < 10 ^ 12 := rd.s
    have hnl := numT_len hw12
    have hzl : (ls z).length ≤ 8 := by rw [ls_len]; exact hz.2.1
    obtain ⟨a, rfl, hs⟩ := da_part dv
    have hk := k H GrowX.refl
    refine g_ixT hA hs (i := ((0 : Nat) : Int)) (atI_at rfl) ?_
    walk_at "V"
    cases n with
    | false =>
      have eT : ((z ++ (" " : Str)) ++ mkS (numT w)) = mkS (txl (.part false z w)) := str_ext (by rw [ls_app, ls_app, ls_sp, ls_mkS, ls_mkS]; simp [txl])
      rw [← eT] at hk
      refine iteT ?_
      walk_at "B"
      walk_at "V"
      refine g_ixT hA hs (i := ((1 : Nat) : Int)) (atI_at rfl) ?_
      walk_at "V"
      refine g_addS (fit (l := ls z ++ [32]) (by rw [ls_sp]) (by rw [List.length_append]; simp only [List.length_cons, List.length_nil]; omega)) ?_
      walk_at "V"
      refine w_call hA Nu (by omega) rfl ?_
      walk_at "V"
      refine g_ixT hA hs (i := ((2 : Nat) : Int)) (atI_at rfl) ?_
      walk_at "V"
      refine ⟨w, rfl, hw12, ?_⟩
      refine g_addS (fit (l := ls z ++ [32] ++ numT w) (by rw [ls_app, ls_sp, ls_mkS]) (by simp only [List.length_append, List.length_cons, List.length_nil]; omega)) ?_
      exact hk
    | true =>
      have eN : ls ("now " : Str) = lNow ++ [32] := by decide +kernel
      have l3 : lNow.length = 3 := rfl
      have eT : (((("now " : Str) ++ z) ++ (" " : Str)) ++ mkS (numT w)) = mkS (txl (.part true z w)) := str_ext (by rw [ls_app, ls_app, ls_app, ls_sp, ls_mkS, ls_mkS, eN]; simp [txl])
      rw [← eT] at hk
      refine iteF (b_nil ?_)
      walk_at "B"
      walk_at "V"
      refine g_ixT hA hs (i := ((0 : Nat) : Int)) (atI_at rfl) ?_
      walk_at "V"
      refine iteT ?_
      walk_at "B"
      walk_at "V"
      refine g_ixT hA hs (i := ((1 : Nat) : Int)) (atI_at rfl) ?_
      refine g_addS (fit (l := lNow ++ [32] ++ ls z) (by rw [eN]) (by simp only [List.length_append, List.length_cons, List.length_nil]; omega)) ?_
      walk_at "V"
      refine g_addS (fit (l := lNow ++ [32] ++ ls z ++ [32]) (by rw [ls_app, eN, ls_sp]) (by simp only [List.length_append, List.length_cons, List.length_nil]; omega)) ?_
      walk_at "V"
      refine w_call hA Nu (by omega) rfl ?_
      walk_at "V"
      refine g_ixT hA hs (i := ((2 : Nat) : Int)) (atI_at rfl) ?_
      walk_at "V"
      refine ⟨w, rfl, hw12, ?_⟩
      refine g_addS (fit (l := lNow ++ [32] ++ ls z ++ [32] ++ numT w) (by rw [ls_app, ls_app, eN, ls_sp, ls_mkS]) (by simp only [List.length_append, List.length_cons, List.length_nil]; omega)) ?_
      exact hk
  | all fi ts =>
    obtain ⟨e, hde⟩ : ∃ e, d = e + 1 := ⟨d - 1, by have := rd.d; have h2 : Tm.deps ts + 1 ≤ d := this; omega⟩
    have hw : ts ≠ [] ∧ ts.length < 1000 ∧ Tm.wfs ts := rd.w
    have kids : ∀ t ∈ ts, Rd e t := fun t ht => ⟨Tm.nmss_iff.1 rd.n t ht, Tm.wfs_iff.1 hw.2.2 t ht, Tm.smls_iff.1 rd.s t ht, by have h1 := Tm.dep_mem ht; have h2 : Tm.deps ts + 1 ≤ d := rd.d; omega⟩
    obtain ⟨a, l, xs, rfl, hal, hs, hlx, dx⟩ := da_all dv
    have hw5 : ls (if fi = true then ("first" : Str) else "last") = (if fi = true then lFirst else lLast) := by cases fi <;> decide +kernel
    have hw6 : (if fi = true then lFirst else lLast).length ≤ 5 := by cases fi <;> decide
    have hts : (txls ts).length ≤ 100000 := by
      have : (txl (.all fi ts)).length = (if fi = true then lFirst else lLast).length + ((txls ts).length + 2) := by simp [txl]
      omega
    have eT : ((((if fi = true then ("first" : Str) else "last") ++ ("(" : Str)) ++ mkS (txls ts)) ++ (")" : Str)) = mkS (txl (.all fi ts)) := str_ext (by rw [ls_app, ls_app, ls_app, ls_op, ls_cl, ls_mkS, ls_mkS, hw5]; simp [txl])
    refine g_ixT hA hs (i := ((0 : Nat) : Int)) (atI_at rfl) ?_
    walk_at "V"
    rw [show decide ((if fi = true then ("first" : Str) else "last") = "of") = false from by cases fi <;> decide +kernel]
    refine iteF (b_nil ?_)
    walk_at "B"
    walk_at "V"
    refine g_ixT hA hs (i := ((0 : Nat) : Int)) (atI_at rfl) ?_
    walk_at "V"
    rw [show decide ((if fi = true then ("first" : Str) else "last") = "now") = false from by cases fi <;> decide +kernel]
    refine iteF (b_nil ?_)
    walk_at "B"
    walk_at "V"
    refine g_ixT hA hs (i := ((0 : Nat) : Int)) (atI_at rfl) ?_
    walk_at "V"
    rw [show decide ((if fi = true then ("first" : Str) else "last") = "rank") = false from by cases fi <;> decide +kernel]
    refine iteF ?_
    walk_at "V"
    refine g_ixT hA hs (i := ((0 : Nat) : Int)) (atI_at rfl) ?_
    walk_at "V"
    refine g_addS (fit (l := (if fi = true then lFirst else lLast) ++ [40]) (by rw [hw5, ls_op]) (by simp only [List.length_append, List.length_cons, List.length_nil]; omega)) ?_
    refine w_join ?_
    walk_at "V"
    refine ⟨⟨_, rfl⟩, ?_⟩
    refine w_lcL hA (by decide +kernel) (i := 2) ⟨rfl, rfl⟩ ?_
    walk_at "V"
    refine g_ixT hA hs rfl ?_
    refine ⟨l, xs, rfl, hlx, fun D hD => ?_⟩
    have hxl : xs.length = ts.length := by rw [dx.length, Tm.pys_length]
    refine ⟨fun j H4 => Grow m.T H H4 ∧ H4 D = some (.lst (((ts.take j).map fun t => mkS (txl t)).map V.str)), ⟨Grow.new hD, upd_same⟩, ?_, ?_, ?_⟩
    · rintro j H4 _ ⟨g4, _⟩
      exact GrowX.seqL g4 hlx fun z => z
    · rintro j x H4 hx ⟨g4, hd4⟩ X' hX'
      have c2 := nl_of hX' 2 "_law_one"
      have hj : j < ts.length := by rw [← hxl]; exact (List.getElem?_eq_some_iff.1 hx).1
      obtain ⟨pd, hpd, dxj⟩ := dx.getV hx
      rw [Tm.pys_map, List.getElem?_map, List.getElem?_eq_getElem hj] at hpd
      cases hpd
      have htm : ts[j] ∈ ts := List.getElem_mem hj
      refine w_call hX' (ih e hde) (by omega) rfl ?_
      walk_at "V"
      refine ⟨x, ts[j], _, rfl, Grow.da g4 dxj, kids _ htm, by have := txl_mem htm; omega, fun H5 g5 => ?_⟩
      have hd5 := g5.extN _ _ hd4 (fun _ z => by cases z)
      refine ⟨_, hd5, by rw [List.length_map, List.length_map, List.length_take, sizeLine_eq]; omega, Grow.intoNew (g4.trans g5) (GrowX.lst hd5) fun c w => by rw [w]; exact hD, ?_⟩
      rw [upd_same, List.take_add_one, List.getElem?_eq_getElem hj, Option.toList_some, List.map_append, List.map_append]
      rfl
    rintro H4 ⟨g4, hd4⟩
    rw [hxl, List.take_length] at hd4
    walk_at "V"
    refine ⟨", ", D, _, rfl, rfl, .inl (SqL.of hd4), ?_, ?_⟩
    · rw [List.map_map, List.length_map, show (", " : Str).length = 2 from by decide +kernel, show ((fun x : Str => x.length) ∘ fun t : Tm => mkS (txl t)) = (fun t => (txl t).length) from by funext t; exact mkS_len _]
      have := txls_sum ts
      omega
    have eJ : Txt.join ", " (ts.map fun t => mkS (txl t)) = mkS (txls ts) := str_ext (by rw [join_txs, ls_mkS])
    rw [eJ]
    have hk := k H4 g4
    rw [← eT] at hk
    refine g_addS (fit (l := (if fi = true then lFirst else lLast) ++ [40] ++ txls ts) (by rw [ls_app, hw5, ls_op, ls_mkS]) (by simp only [List.length_append, List.length_cons, List.length_nil]; omega)) ?_
    walk_at "V"
    refine g_addS (fit (l := (if fi = true then lFirst else lLast) ++ [40] ++ txls ts ++ [41]) (by rw [ls_app, ls_app, hw5, ls_op, ls_cl, ls_mkS]) (by simp only [List.length_append, List.length_cons, List.length_nil]; omega)) ?_
    exact hk
  | rank r ts =>
    obtain ⟨e, hde⟩ : ∃ e, d = e + 1 := ⟨d - 1, by have := rd.d; have h2 : Tm.deps ts + 1 ≤ d := this; omega⟩
    have hw : ts ≠ [] ∧ ts.length < 1000 ∧ 1 ≤ r ∧ r ≤ ts.length ∧ Tm.wfs ts := rd.w
    have kids : ∀ t ∈ ts, Rd e t := fun t ht => ⟨Tm.nmss_iff.1 rd.n t ht, Tm.wfs_iff.1 hw.2.2.2.2 t ht, Tm.smls_iff.1 rd.s t ht, by have h1 := Tm.dep_mem ht; have h2 : Tm.deps ts + 1 ≤ d := rd.d; omega⟩
    obtain ⟨a, l, xs, rfl, hal, hs, hlx, dx⟩ := da_rank dv
    have hr12 : r.natAbs < 10 ^ 12 := by omega
    have hnl := numT_len hr12
    have l4 : lRank.length = 4 := rfl
    have hts : (txls ts).length ≤ 100000 := by
      have : (txl (.rank r ts)).length = lRank.length + ((numT r).length + ((txls ts).length + 3)) := by simp [txl]; omega
      omega
    have eT : (((((("rank" : Str) ++ (" " : Str)) ++ mkS (numT r)) ++ ("(" : Str)) ++ mkS (txls ts)) ++ (")" : Str)) = mkS (txl (.rank r ts)) := str_ext (by rw [ls_app, ls_app, ls_app, ls_app, ls_app, ls_op, ls_cl, ls_sp, ls_rank, ls_mkS, ls_mkS, ls_mkS]; simp [txl])
    refine g_ixT hA hs (i := ((0 : Nat) : Int)) (atI_at rfl) ?_
    walk_at "V"
    refine iteF (b_nil ?_)
    walk_at "B"
    walk_at "V"
    refine g_ixT hA hs (i := ((0 : Nat) : Int)) (atI_at rfl) ?_
    walk_at "V"
    refine iteF (b_nil ?_)
    walk_at "B"
    walk_at "V"
    refine g_ixT hA hs (i := ((0 : Nat) : Int)) (atI_at rfl) ?_
    walk_at "V"
    refine iteT ?_
    walk_at "V"
    refine g_ixT hA hs (i := ((0 : Nat) : Int)) (atI_at rfl) ?_
    walk_at "V"
    refine g_addS (fit (l := lRank ++ [32]) (by rw [ls_rank, ls_sp]) (by decide)) ?_
    walk_at "V"
    refine w_call hA Nu (by omega) rfl ?_
    walk_at "V"
    refine g_ixT hA hs (i := ((1 : Nat) : Int)) (atI_at rfl) ?_
    walk_at "V"
    refine ⟨r, rfl, hr12, ?_⟩
    refine g_addS (fit (l := lRank ++ [32] ++ numT r) (by rw [ls_app, ls_rank, ls_sp, ls_mkS]) (by simp only [List.length_append, List.length_cons, List.length_nil]; omega)) ?_
    walk_at "V"
    refine g_addS (fit (l := lRank ++ [32] ++ numT r ++ [40]) (by rw [ls_app, ls_app, ls_rank, ls_sp, ls_op, ls_mkS]) (by simp only [List.length_append, List.length_cons, List.length_nil]; omega)) ?_
    refine w_join ?_
    walk_at "V"
    refine ⟨⟨_, rfl⟩, ?_⟩
    refine w_lcL hA (by decide +kernel) (i := 2) ⟨rfl, rfl⟩ ?_
    walk_at "V"
    refine g_ixT hA hs rfl ?_
    refine ⟨l, xs, rfl, hlx, fun D hD => ?_⟩
    have hxl : xs.length = ts.length := by rw [dx.length, Tm.pys_length]
    refine ⟨fun j H4 => Grow m.T H H4 ∧ H4 D = some (.lst (((ts.take j).map fun t => mkS (txl t)).map V.str)), ⟨Grow.new hD, upd_same⟩, ?_, ?_, ?_⟩
    · rintro j H4 _ ⟨g4, _⟩
      exact GrowX.seqL g4 hlx fun z => z
    · rintro j x H4 hx ⟨g4, hd4⟩ X' hX'
      have c2 := nl_of hX' 2 "_law_one"
      have hj : j < ts.length := by rw [← hxl]; exact (List.getElem?_eq_some_iff.1 hx).1
      obtain ⟨pd, hpd, dxj⟩ := dx.getV hx
      rw [Tm.pys_map, List.getElem?_map, List.getElem?_eq_getElem hj] at hpd
      cases hpd
      have htm : ts[j] ∈ ts := List.getElem_mem hj
      refine w_call hX' (ih e hde) (by omega) rfl ?_
      walk_at "V"
      refine ⟨x, ts[j], _, rfl, Grow.da g4 dxj, kids _ htm, by have := txl_mem htm; omega, fun H5 g5 => ?_⟩
      have hd5 := g5.extN _ _ hd4 (fun _ z => by cases z)
      refine ⟨_, hd5, by rw [List.length_map, List.length_map, List.length_take, sizeLine_eq]; omega, Grow.intoNew (g4.trans g5) (GrowX.lst hd5) fun c w => by rw [w]; exact hD, ?_⟩
      rw [upd_same, List.take_add_one, List.getElem?_eq_getElem hj, Option.toList_some, List.map_append, List.map_append]
      rfl
    rintro H4 ⟨g4, hd4⟩
    rw [hxl, List.take_length] at hd4
    walk_at "V"
    refine ⟨", ", D, _, rfl, rfl, .inl (SqL.of hd4), ?_, ?_⟩
    · rw [List.map_map, List.length_map, show (", " : Str).length = 2 from by decide +kernel, show ((fun x : Str => x.length) ∘ fun t : Tm => mkS (txl t)) = (fun t => (txl t).length) from by funext t; exact mkS_len _]
      have := txls_sum ts
      omega
    have eJ : Txt.join ", " (ts.map fun t => mkS (txl t)) = mkS (txls ts) := str_ext (by rw [join_txs, ls_mkS])
    rw [eJ]
    have hk := k H4 g4
    rw [← eT] at hk
    refine g_addS (fit (l := lRank ++ [32] ++ numT r ++ [40] ++ txls ts) (by rw [ls_app, ls_app, ls_app, ls_rank, ls_sp, ls_op, ls_mkS, ls_mkS]) (by simp only [List.length_append, List.length_cons, List.length_nil]; omega)) ?_
    walk_at "V"
    refine g_addS (fit (l := lRank ++ [32] ++ numT r ++ [40] ++ txls ts ++ [41]) (by rw [ls_app, ls_app, ls_app, ls_app, ls_rank, ls_sp, ls_op, ls_cl, ls_mkS, ls_mkS]) (by simp only [List.length_append, List.length_cons, List.length_nil]; omega)) ?_
    exact hk
theorem c_ltext {m : Md} {f : Addr} {fd : FuncData} (F : C8.Def m.K m.mg "_law_term_text" st_term_text f fd) (b : L2.Binds m.K fd ps_term_text []) (Nu : Cal m 1 "_law_number_text" (sp_num m)) : ∀ d, Cal m (d + 2) "_law_term_text" (sp_ltext m d) := by
  intro d
  induction d with
  | zero => exact lt_step F b Nu 0 fun e h => by omega
  | succ d ih =>
    refine lt_step F b Nu (d + 1) fun e h => ?_
    obtain rfl : d = e := by omega
    exact ih
/-- what is made of a list of terms -/
def ovs (ts : List Tm) : List Tm := [.all true ts, .all false ts] ++ (List.range ts.length).map fun j : Nat => .rank ((j : Int) + 1) ts
theorem ovs_len (ts : List Tm) : (ovs ts).length = 2 + ts.length := by simp [ovs]; omega
def sp_over (m : Md) : Sp := fun vs H Q _ => ∃ (l : Addr) (xs : List V) (ts : List Tm) (A : Addr → Prop), vs = [.ref l] ∧ H l = some (.lst xs) ∧ A l ∧ (∀ b, A b → H b ≠ none) ∧ DaAll m.K A H xs (Tm.pys ts) ∧ xs.length ≤ 20 ∧
  ∀ (r : Addr) (us : List V) (H' : Hp), Grow m.T H H' → New H r → H' r = some (.lst us) → DaAll m.K A H' us (Tm.pys (ovs ts)) → Q (.ref r) H'
theorem c_over {m : Md} {f : Addr} {fd : FuncData} (F : C8.Def m.K m.mg "_law_over" st_over f fd) (b : L2.Binds m.K fd ps_over []) (hr : m.mg "range" = none) (hlen : m.mg "len" = none) : Cal m 1 "_law_over" (sp_over m) := by
  refine cal_ofM F b sc_over (fun vs H Q E h => by obtain ⟨_, _, _, _, rfl, _⟩ := h; rfl) fun X vs H Q E hA hM h => ?_
  obtain ⟨l, xs, ts, A, rfl, hl, al, ha, dx, hx, k⟩ := h
  obtain ⟨n1, n0⟩ := nv_over
  have hxl : xs.length = ts.length := by rw [dx.length, Tm.pys_length]
  walk_at "B"
  walk_at "V"
  refine ⟨by walk_at "S", fun p1 hp1 => ?_⟩
  have g1 := Grow.new (T := m.T) (o := .tup [.str ("first" : Str), .ref l]) hp1
  have i1 := upd_same (H := H) (a := p1) (o := .tup [.str ("first" : Str), .ref l])
  generalize upd H p1 (.tup [.str ("first" : Str), .ref l]) = H1 at g1 i1 ⊢
  walk_at "V"
  refine ⟨by walk_at "S", fun p2 hp2 => ?_⟩
  have g2 := Grow.new (T := m.T) (o := .tup [.str ("last" : Str), .ref l]) hp2
  have i2 := upd_same (H := H1) (a := p2) (o := .tup [.str ("last" : Str), .ref l])
  have i1' := g2.extN _ _ i1 (fun _ z => by cases z)
  generalize upd H1 p2 (.tup [.str ("last" : Str), .ref l]) = H2 at g2 i2 i1' ⊢
  walk_at "V"
  refine ⟨by walk_at "S", fun p3 hp3 => ?_⟩
  have g3 := Grow.new (T := m.T) (o := .lst [.ref p1, .ref p2]) hp3
  have i3 := upd_same (H := H2) (a := p3) (o := .lst [.ref p1, .ref p2])
  have i1'' := g3.extN _ _ i1' (fun _ z => by cases z)
  have i2'' := g3.extN _ _ i2 (fun _ z => by cases z)
  have g13 := (g1.trans g2).trans g3
  have hl3 := Grow.extN g13 _ _ hl (fun _ z => by cases z)
  have dx3 := Grow.daAll g13 dx
  have nw : ∀ {b : Addr}, H b = none → ¬ A b := fun hb z => ha _ z hb
  have d3 : DaAll m.K A (upd H2 p3 (.lst [.ref p1, .ref p2])) [.ref p1, .ref p2] (Tm.pys [.all true ts, .all false ts]) :=
    .cons (.tup (SqT.of i1'') (.cons (.str _) (.cons (.lst al (SqL.of hl3) dx3) .nil))) (.cons (.tup (SqT.of i2'') (.cons (.str _) (.cons (.lst al (SqL.of hl3) dx3) .nil))) .nil)
  generalize upd H2 p3 (.lst [.ref p1, .ref p2]) = H3 at g13 i3 hl3 dx3 d3 ⊢
  walk_at "V"
  refine w_lcR hA hr rfl (by decide +kernel) (i := 2) ⟨rfl, rfl⟩ ?_
  walk_at "V"
  refine g_blt hA hlen rfl bt_len ?_
  walk_at "V"
  refine g_lenL hA (SqL.of hl3) ?_
  walk_at "V"
  refine ⟨by omega, by omega, fun D hD => ?_⟩
  have hDn : New H D := g13.keep D hD
  have hDA : ∀ b, A b → b ≠ D := fun b z w => nw (w ▸ hDn) z
  refine ⟨fun j H4 => Grow m.T H3 H4 ∧ ∃ ys, H4 D = some (.lst ys) ∧ DaAll m.K A H4 ys (Tm.pys ((List.range j).map fun j : Nat => Tm.rank ((j : Int) + 1) ts)), ⟨Grow.new hD, [], upd_same, .nil⟩, ?_, ?_⟩
  · rintro j H4 hj ⟨g4, ys, hd4, dy⟩ X' hX'
    have c0 := nc_of hX' 0 "_law_inner"
    have c2 := nl_of hX' 2 "_law_at"
    walk_at "V"
    refine ⟨by walk_at "S", fun q hq => ?_⟩
    have g5 := Grow.new (T := m.T) (o := .tup [.str ("rank" : Str), .int ((j : Int) + 1), .ref l]) hq
    have hd5 := g5.extN _ _ hd4 (fun _ z => by cases z)
    have hqD : q ≠ D := fun w => by rw [w, hd4] at hq; cases hq
    have hly : ys.length = j := by rw [dy.length, Tm.pys_length, List.length_map, List.length_range]
    have hj' : j < xs.length := by simpa using hj
    refine ⟨ys, hd5, by rw [hly, sizeLine_eq]; omega, Grow.intoNew (g4.trans g5) (GrowX.lst hd5) fun c w => by rw [w]; exact hD, ys ++ [.ref q], upd_same, ?_⟩
    have gl := GrowX.lst (T := m.T) (ys := ys ++ [.ref q]) hd5
    rw [List.range_succ, List.map_append]
    rw [show ∀ a b : List Tm, Tm.pys (a ++ b) = Tm.pys a ++ Tm.pys b from fun a b => by rw [Tm.pys_map, Tm.pys_map, Tm.pys_map, List.map_append]]
    refine DaAll.append (gl.daAll (Grow.daAll g5 dy) fun b z => hDA b z) (.cons (.tup (SqT.of (gl.ext q _ hqD upd_same (fun _ z => by cases z))) (.cons (.str _) (.cons (.int _) (.cons (.lst al (gl.seqL (GrowX.seqL (g4.trans g5) (SqL.of hl3) fun z => z) (hDA l al)) (gl.daAll (Grow.daAll (g4.trans g5) dx3) fun b z => hDA b z)) .nil)))) .nil)
  · rintro H4 ⟨g4, ys, hd4, dy⟩
    have hly : ys.length = xs.length := by rw [dy.length, Tm.pys_length, List.length_map, List.length_range]; simp
    refine g_cat (g4.extN _ _ i3 (fun _ z => by cases z)) hd4 (by rw [sizeLine_eq]; simp; omega) fun r hr => ?_
    have g5 := Grow.new (T := m.T) (o := .lst ([.ref p1, .ref p2] ++ ys)) hr
    refine k r _ _ ((g13.trans g4).trans g5) ((g13.trans g4).keep r hr) upd_same ?_
    unfold ovs
    rw [show ∀ a b : List Tm, Tm.pys (a ++ b) = Tm.pys a ++ Tm.pys b from fun a b => by rw [Tm.pys_map, Tm.pys_map, Tm.pys_map, List.map_append]]
    have e : ((xs.length : Int)).toNat = ts.length := by rw [hxl]; rfl
    rw [e] at dy
    exact DaAll.append (Grow.daAll (g4.trans g5) d3) (Grow.daAll g5 dy)
theorem perm_str {ys : List V} {zs : List Str} (h : ys.Perm (zs.map V.str)) : ∃ ws : List Str, ys = ws.map V.str ∧ ws.Perm zs := by
  refine ⟨ys.map fun v => match v with | .str z => z | _ => "", ?_, ?_⟩
  · rw [List.map_map]
    refine (List.map_id ys).symm.trans (List.map_congr_left fun v hv => ?_)
    obtain ⟨z, _, e⟩ := List.mem_map.1 (h.mem_iff.1 hv)
    rw [← e]; rfl
  · have := h.map fun v => match v with | .str z => z | _ => ("" : Str)
    rw [List.map_map] at this
    refine this.trans ?_
    rw [show (fun v => match v with | .str z => z | _ => ("" : Str)) ∘ V.str = id from rfl, List.map_id]
theorem pys_app (a b : List Tm) : Tm.pys (a ++ b) = Tm.pys a ++ Tm.pys b := by rw [Tm.pys_map, Tm.pys_map, Tm.pys_map, List.map_append]
theorem cut_mid {xs : List V} {a b : Nat} : cutV xs (some (a : Int)) (some (b : Int)) = (xs.drop (min a xs.length)).take (min b xs.length - min a xs.length) := by
  unfold cutV
  rw [HT.sIx_nat, HT.sIx_nat]
theorem DaAll.drop {K : PySem.W.Frag} {A : Addr → Prop} {H : Hp} : ∀ (k : Nat) {vs : List V} {ds : List PyData}, DaAll K A H vs ds → DaAll K A H (vs.drop k) (ds.drop k)
  | 0, _, _, h => h
  | k + 1, _, _, .nil => .nil
  | k + 1, _, _, .cons _ r => DaAll.drop k r
theorem DaAll.take {K : PySem.W.Frag} {A : Addr → Prop} {H : Hp} : ∀ (k : Nat) {vs : List V} {ds : List PyData}, DaAll K A H vs ds → DaAll K A H (vs.take k) (ds.take k)
  | 0, _, _, _ => by simpa using DaAll.nil
  | k + 1, _, _, .nil => .nil
  | k + 1, _, _, .cons a r => .cons a (DaAll.take k r)
theorem pys_drop (k : Nat) (ts : List Tm) : Tm.pys (ts.drop k) = (Tm.pys ts).drop k := by rw [Tm.pys_map, Tm.pys_map, List.map_drop]
theorem pys_take (k : Nat) (ts : List Tm) : Tm.pys (ts.take k) = (Tm.pys ts).take k := by rw [Tm.pys_map, Tm.pys_map, List.map_take]
abbrev W11 : Int := 200000000000
/-- a term of the law -/
structure Gt (zs : List Str) (t : Tm) : Prop where
  ok : Tm.ok W11 zs zs t
  siz : t.siz ≤ 8
  dep : t.dep ≤ 2
/-- a part of the law -/
def Pt (zs : List Str) (t : Tm) : Prop := ∃ n z w, t = .part n z w ∧ z ∈ zs ∧ -W11 ≤ w ∧ w ≤ W11
theorem Pt.ok {zs : List Str} {t : Tm} (h : Pt zs t) : Tm.ok W11 zs zs t := by
  obtain ⟨n, z, w, rfl, hz, h1, h2⟩ := h
  refine ⟨?_, h1, h2⟩
  cases n <;> exact hz
theorem Pt.sz {zs : List Str} {t : Tm} (h : Pt zs t) : t.siz = 1 ∧ t.dep = 0 := by obtain ⟨n, z, w, rfl, _⟩ := h; exact ⟨rfl, rfl⟩
theorem Pt.gt {zs : List Str} {t : Tm} (h : Pt zs t) : Gt zs t := ⟨h.ok, by rw [h.sz.1]; omega, by rw [h.sz.2]; omega⟩
theorem oks_iff {W : Int} {zs ns : List Str} : ∀ {ts : List Tm}, Tm.oks W zs ns ts ↔ ∀ t ∈ ts, Tm.ok W zs ns t
  | [] => by simp [Tm.oks]
  | t :: ts => by rw [Tm.oks, oks_iff]; simp
theorem ovs_mem {ts : List Tm} {u : Tm} (h : u ∈ ovs ts) : (∃ f, u = .all f ts) ∨ ∃ r : Int, u = .rank r ts ∧ 1 ≤ r ∧ r ≤ ts.length := by
  unfold ovs at h
  rcases List.mem_append.1 h with h | h
  · rcases List.mem_cons.1 h with e | h
    · exact .inl ⟨_, e⟩
    · exact .inl ⟨_, List.mem_singleton.1 h⟩
  · obtain ⟨j, hj, rfl⟩ := List.mem_map.1 h
    have := List.mem_range.1 hj
    exact .inr ⟨_, rfl, by omega, by omega⟩
theorem ovs_ok {zs : List Str} {ts : List Tm} (ne : ts ≠ []) (h : ∀ t ∈ ts, Tm.ok W11 zs zs t) {u : Tm} (hu : u ∈ ovs ts) : Tm.ok W11 zs zs u ∧ u.siz = Tm.sizs ts + 1 ∧ u.dep = Tm.deps ts + 1 := by
  rcases ovs_mem hu with ⟨f, rfl⟩ | ⟨r, rfl, h1, h2⟩
  · exact ⟨⟨ne, oks_iff.2 h⟩, rfl, rfl⟩
  · exact ⟨⟨ne, h1, h2, oks_iff.2 h⟩, rfl, rfl⟩
theorem ovs_gt {zs : List Str} {ts : List Tm} (ne : ts ≠ []) (h : ∀ t ∈ ts, Tm.ok W11 zs zs t) (hs : Tm.sizs ts ≤ 7) (hd : Tm.deps ts ≤ 1) : ∀ u ∈ ovs ts, Gt zs u := fun u hu => by
  obtain ⟨a, b, c⟩ := ovs_ok ne h hu
  exact ⟨a, by omega, by omega⟩
theorem Nw.up {T : List (Addr × Str)} {H0 H H' : Hp} (g : Grow T H H') {b : Addr} (h : Nw H0 H b) : Nw H0 H' b := ⟨h.1, fun z => h.2 (g.keep _ z)⟩
theorem nwAll {K : PySem.W.Frag} {T : List (Addr × Str)} {H0 H H' : Hp} {vs : List V} {ds : List PyData} (g : Grow T H H') (h : DaAll K (Nw H0 H) H vs ds) : DaAll K (Nw H0 H') H' vs ds := (Grow.daAll g h).sub fun _ z => Nw.up g z
theorem wA_mono {X : Cx} {es : List Expr} {σ : L2.St} {H : Hp} {Q Q' : List V → Hp → Prop} (h : wA X es σ H Q) (k : ∀ vs H', Q vs H' → Q' vs H') : wA X es σ H Q' := by
  unfold wA at h ⊢
  exact fun po pins s I => thn (h po pins s I) fun us s1 ⟨vs, H', I', r, q⟩ => ⟨vs, H', I', r, k vs H' q⟩
/-- over([..]) -/
theorem w_ov {m : Md} {N : List Str} {sc : Scope} {k : Nat} {X : Cx} {es : List Expr} {σ : L2.St} {H0 H : Hp} {Q : VK} {p p2 pos : Pos} (hA : At m N sc k X) (Ov : Cal m 1 "_law_over" (sp_over m)) (hk : 1 ≤ k) (hg : sc.names.lookup ("_law_over" : Str) = some .globalImplicit)
    (q : wA X es σ H fun vs H1 => Grow m.T H0 H1 ∧ ∃ ts, DaAll m.K (Nw H0 H1) H1 vs (Tm.pys ts) ∧ vs.length ≤ 20 ∧ ∀ (r : Addr) (us : List V) (H2 : Hp), Grow m.T H1 H2 → New H0 r → H2 r = some (.lst us) → DaAll m.K (Nw H0 H2) H2 us (Tm.pys (ovs ts)) → Q (.ref r) H2)
    (hs : starEach [.List es p2] X.env = (false, eval (.List es p2) X.env) :: starEach [] X.env := by with_unfolding_all rfl) (hpl : (backTo pos (starEach [] X.env)).any (·.1) = false := by with_unfolding_all rfl) : wE X (.Call (.Name "_law_over" p) [.List es p2] [] pos) σ H Q := by
  refine w_call hA Ov hk hg (w_cons (w_lst ?_) hs) (by with_unfolding_all decide) hs hpl
  refine wA_mono q fun vs H1 ⟨g1, ts, dx, hl, k'⟩ => ⟨by rw [sizeLine_eq]; omega, fun l hl' => w_nil ?_⟩
  have g2 := Grow.new (T := m.T) (o := .lst vs) hl'
  have dx2 := Grow.daAll g2 dx
  refine ⟨l, vs, ts, fun b => b = l ∨ Nw H0 H1 b, rfl, upd_same, .inl rfl, ?_, dx2.sub fun b z => .inr z, hl, fun r us' H3 g3 nr hr d3 => ?_⟩
  · rintro b (rfl | z)
    · rw [upd_same]; simp
    · exact fun w => z.2 (g2.keep _ w)
  · refine k' r us' H3 (g2.trans g3) ((g1.trans g2).keep r nr) hr (d3.sub ?_)
    rintro b (rfl | z)
    · exact ⟨g1.keep _ hl', fun w => by have := g3.keep _ w; rw [upd_same] at this; cases this⟩
    · exact Nw.up (g2.trans g3) z
def sp_terms (m : Md) : Sp := fun vs H Q _ => ∃ (p : Addr) (n : Nat), vs = [.ref p] ∧ Purse H p n ∧ n ≤ 2 ^ 37 ∧ ∀ (r : Addr) (us : List V) (ts : List Tm) (zs : List Str) (H' : Hp), Drew m p n 200 H H' → New H r → H' r = some (.lst us) → DaAll m.K (Nw H H') H' us (Tm.pys ts) → (∀ z ∈ zs, IsName z) → (∀ t ∈ ts, Gt zs t) → ts ≠ [] → ts.length ≤ 1000 → Q (.ref r) H'
theorem nm_lit {z : Str} (h : nmB z = true) : IsName z := nmB_iff.1 h
theorem c_terms {m : Md} {f : Addr} {fd : FuncData} (F : C8.Def m.K m.mg "_law_terms" st_terms f fd) (b : L2.Binds m.K fd ps_terms []) (hlist : m.mg "list" = none) (Wo : Cal m 3 "_law_word" (sp_word m)) (Sh : Cal m 3 "_law_shuffled" (sp_shuffled m)) (Wa : Cal m 4 "_law_wait" (sp_wait m)) (Ov : Cal m 1 "_law_over" (sp_over m)) : Cal m 5 "_law_terms" (sp_terms m) := by
  refine cal_ofM F b sc_terms (fun vs H Q E h => by obtain ⟨_, _, rfl, _⟩ := h; rfl) fun X vs H Q E hA hM h => ?_
  obtain ⟨p, n, rfl, hp, hn, k⟩ := h
  obtain ⟨n0, n1, n2, n3, n4, n5, n6, n7, n8, n9⟩ := nv_terms
  walk_at "B"
  refine s_par hA n1 n2 ?_
  refine w_cons (w_sliceTo hA (w_call hA Sh (by omega) rfl ?_))
  walk_at "V"
  refine w_call hA Wo (by omega) rfl ?_
  walk_at "V"
  refine ⟨p, n, rfl, hp, by omega, fun z H1 nz d1 => ?_⟩
  walk_at "V"
  refine ⟨by walk_at "S", fun l1 hl1 => ?_⟩
  have g1 := Grow.new (T := m.T) (o := .lst [.str ("now" : Str), .str "rank", .str "first", .str "a", .str z]) hl1
  have d1' := d1.post g1
  have hl1p : l1 ≠ p := fun w => by obtain ⟨_, e⟩ := d1.purse.at_; rw [← w, hl1] at e; cases e
  walk_at "V"
  refine ⟨p, _, l1, _, rfl, d1'.purse, by omega, SqL.of upd_same, hl1p, by simp, fun r2 ys H2 pm d2 nr2 hr2 => ?_⟩
  obtain ⟨ws, rfl, pm'⟩ := perm_str (zs := ["now", "rank", "first", "a", z]) pm
  have d12 := d1'.trans d2
  have hwl : ws.length = 5 := by rw [pm'.length_eq]; rfl
  have hwn : ∀ x ∈ ws, IsName x := fun x hx => by
    have := pm'.mem_iff.1 hx
    simp only [List.mem_cons, List.not_mem_nil, or_false] at this
    rcases this with rfl | rfl | rfl | rfl | rfl
    · exact nm_lit (by decide +kernel)
    · exact nm_lit (by decide +kernel)
    · exact nm_lit (by decide +kernel)
    · exact nm_lit (by decide +kernel)
    · exact nz
  walk_at "V"
  refine ⟨r2, _, rfl, SqL.of hr2, fun l3 hl3 => ?_⟩
  rw [show ((2 : Int)) = ((2 : Nat) : Int) from rfl, cut_to (by decide), ← List.map_take]
  have g3 := Grow.new (T := m.T) (o := .lst ((ws.take 2).map V.str)) hl3
  have i3 := upd_same (H := H2) (a := l3) (o := .lst ((ws.take 2).map V.str))
  have d13 := d12.post g3
  have hl3p : l3 ≠ p := fun w => by obtain ⟨_, e⟩ := d12.purse.at_; rw [← w, hl3] at e; cases e
  have hz2 : ∀ x ∈ ws.take 2, IsName x := fun x hx => hwn x (List.mem_of_mem_take hx)
  have hz2l : (ws.take 2).length = 2 := by rw [List.length_take]; omega
  generalize ws.take 2 = zs at g3 i3 d13 hz2 hz2l ⊢
  generalize upd H2 l3 (.lst (zs.map V.str)) = H3 at g3 i3 d13 ⊢
  walk_at "V"
  refine w_call hA Wa (by omega) rfl ?_
  walk_at "V"
  refine ⟨p, _, rfl, d13.purse, by simp; omega, fun w H4 w0 w1 d4 => ?_⟩
  have i4 := d4.grow.ext _ _ hl3p i3 (fun _ z => by cases z)
  walk_at "V"
  refine ⟨by walk_at "S", fun l5 hl5 => ?_⟩
  have g5 := Grow.new (T := m.T) (o := .lst [.int 0, .int w]) hl5
  have i5 := upd_same (H := H4) (a := l5) (o := .lst [.int 0, .int w])
  have i4' := g5.extN _ _ i4 (fun _ z => by cases z)
  have d15 := ((d13.trans d4).post g5).mono (j := 200) (by simp)
  generalize upd H4 l5 (.lst [.int 0, .int w]) = Hs at i5 i4' d15 ⊢
  have nH : ∀ {b : Addr}, New Hs b → New H b := fun hb => d15.grow.keep _ hb
  clear d1 d1' d2 d12 d13 d4 i4 i3 g1 g3 g5 hr2 pm hwn pm' hwl
  walk_at "V"
  refine ⟨_, _, rfl, ?_⟩
  -- parts
  walk_at "B"
  walk_at "V"
  refine ⟨by walk_at "S", fun q0 hq0 => ?_⟩
  have gq0 := Grow.new (T := m.T) (o := .lst []) hq0
  have iq0 := upd_same (H := Hs) (a := q0) (o := .lst [])
  generalize upd Hs q0 (.lst []) = H5 at gq0 iq0 ⊢
  walk_at "V"
  refine s_forT hA (pg_nc hA n8 hM.fn) ?_
  walk_at "V"
  refine ⟨by walk_at "S", fun tk htk => ?_⟩
  have gtk := Grow.new (T := m.T) (o := .tup [.str ("of" : Str), .str "now"]) htk
  have itk := upd_same (H := H5) (a := tk) (o := .tup [.str ("of" : Str), .str "now"])
  refine ⟨tk, _, rfl, SqT.of itk, fun i (σ : L2.St) H' => ∃ (pl : Addr) (vs : List V) (us : List Tm) (s8 s9 : Option V), σ = [some (.ref p), some (.ref l3), some (.ref l5), some (.ref pl), none, none, none, none, s8, s9, none] ∧ Grow m.T Hs H' ∧ H' tk = some (.tup [.str ("of" : Str), .str "now"]) ∧ H' pl = some (.lst vs) ∧ DaAll m.K (Nw Hs H') H' vs (Tm.pys us) ∧ (∀ t ∈ us, Pt zs t) ∧ us.length = 4 * i, ?_, ?_, ?_, ?_⟩
  · exact ⟨q0, [], [], none, none, rfl, gq0.trans gtk, itk, gtk.extN _ _ iq0 (fun _ z => by cases z), .nil, by simp, rfl⟩
  · rintro i σ H' _ ⟨pl, vs, us, s8, s9, _, g, it, _⟩
    exact SqT.of it
  · rintro i x σ H' hx ⟨pl, vs, us, s8, s9, rfl, g, it, ipl, dv, hu, hul⟩
    have hi2 : i < 2 := by have := (List.getElem?_eq_some_iff.1 hx).1; simpa using this
    obtain ⟨nn, rfl⟩ : ∃ nn : Bool, x = .str (if nn then "now" else "of") := by
      match i, hx with
      | 0, hx => simp at hx; exact ⟨false, hx.symm⟩
      | 1, hx => simp at hx; exact ⟨true, hx.symm⟩
      | i + 2, hx => simp at hx
    walk_at "B"
    refine s_forL hA (pg_nc hA n9 hM.fn) ?_
    walk_at "V"
    refine ⟨l3, zs.map V.str, rfl, SqL.of (g.extN _ _ i4' (fun _ z => by cases z)), fun j (σ : L2.St) H'' => ∃ (pl : Addr) (vs : List V) (us : List Tm) (s9 : Option V), σ = [some (.ref p), some (.ref l3), some (.ref l5), some (.ref pl), none, none, none, none, some (.str (if nn then ("now" : Str) else "of")), s9, none] ∧ Grow m.T Hs H'' ∧ H'' tk = some (.tup [.str ("of" : Str), .str "now"]) ∧ H'' pl = some (.lst vs) ∧ DaAll m.K (Nw Hs H'') H'' vs (Tm.pys us) ∧ (∀ t ∈ us, Pt zs t) ∧ us.length = 4 * i + 2 * j, ?_, ?_, ?_, ?_⟩
    · exact ⟨pl, vs, us, s9, rfl, g, it, ipl, dv, hu, by omega⟩
    · rintro j σ H'' _ ⟨_, _, _, _, _, g, _⟩
      exact SqL.of (g.extN _ _ i4' (fun _ z => by cases z))
    · rintro j x σ H'' hx ⟨pl, vs, us, s9, rfl, g, it, ipl, dv, hu, hul⟩
      rw [List.getElem?_map] at hx
      obtain ⟨zz, hzz, rfl⟩ := Option.map_eq_some_iff.1 hx
      have hzm := List.mem_of_getElem? hzz
      have hj2 : j < 2 := by rw [← hz2l]; exact (List.getElem?_eq_some_iff.1 hzz).1
      walk_at "B"
      walk_at "V"
      refine w_lcL hA (by decide +kernel) (i := 10) ⟨rfl, rfl⟩ ?_
      walk_at "V"
      have i5'' := g.extN _ _ i5 (fun _ z => by cases z)
      refine ⟨l5, _, rfl, SqL.of i5'', fun D hD => ?_⟩
      refine ⟨fun jj H6 => Grow m.T H'' H6 ∧ ∃ ys us', H6 D = some (.lst ys) ∧ DaAll m.K (fun _ => False) H6 ys (Tm.pys us') ∧ (∀ t ∈ us', Pt zs t) ∧ us'.length = jj, ⟨Grow.new hD, [], [], upd_same, .nil, by simp, rfl⟩, ?_, ?_, ?_⟩
      · rintro jj H6 _ ⟨g6, _⟩
        exact SqL.of (g6.extN _ _ i5'' (fun _ z => by cases z))
      · rintro jj x H6 hx6 ⟨g6, ys, us', hd6, dy, hu', hul'⟩ X' hX'
        have c8 := nc_of hX' 8 "_law_kind"
        have c9 := nc_of hX' 9 "_law_name"
        have c10 := nl_of hX' 10 "_law_wait_here"
        obtain ⟨ww, rfl, hw1, hw2, hjj⟩ : ∃ ww : Int, x = .int ww ∧ -W11 ≤ ww ∧ ww ≤ W11 ∧ jj < 2 := by
          match jj, hx6 with
          | 0, hx6 => simp at hx6; exact ⟨0, hx6.symm, by decide, by decide, by decide⟩
          | 1, hx6 => simp at hx6; exact ⟨w, hx6.symm, by unfold W11; omega, by unfold W11; omega, by decide⟩
          | jj + 2, hx6 => simp at hx6
        walk_at "V"
        refine ⟨by walk_at "S", fun t7 ht7 => ?_⟩
        have g7 := Grow.new (T := m.T) (o := .tup [.str (if nn then ("now" : Str) else "of"), .str zz, .int ww]) ht7
        have hd7 := g7.extN _ _ hd6 (fun _ z => by cases z)
        have hqD : t7 ≠ D := fun w => by rw [w, hd6] at ht7; cases ht7
        have hly : ys.length = jj := by rw [dy.length, Tm.pys_length, hul']
        refine ⟨ys, hd7, by rw [hly, sizeLine_eq]; omega, Grow.intoNew (g6.trans g7) (GrowX.lst hd7) fun c w => by rw [w]; exact hD, ys ++ [.ref t7], us' ++ [.part nn zz ww], upd_same, ?_, ?_, by simp; omega⟩
        · have gl := GrowX.lst (T := m.T) (ys := ys ++ [.ref t7]) hd7
          rw [pys_app]
          exact DaAll.append (gl.daAll (Grow.daAll g7 dy) fun _ z => z.elim) (.cons (.tup (SqT.of (gl.ext t7 _ hqD upd_same (fun _ z => by cases z))) (.cons (.str _) (.cons (.str _) (.cons (.int _) .nil)))) .nil)
        · intro t ht
          rcases List.mem_append.1 ht with h | h
          · exact hu' t h
          · exact ⟨nn, zz, ww, List.mem_singleton.1 h, hzm, hw1, hw2⟩
      · rintro H6 ⟨g6, ys, us', hd6, dy, hu', hul'⟩
        have ipl6 := g6.extN _ _ ipl (fun _ z => by cases z)
        have hly : ys.length = 2 := by rw [dy.length, Tm.pys_length, hul']; rfl
        have hlv : vs.length = 4 * i + 2 * j := by rw [dv.length, Tm.pys_length, hul]
        refine g_cat ipl6 hd6 (by rw [hly, hlv, sizeLine_eq]; omega) fun r hr => ?_
        have g7 := Grow.new (T := m.T) (o := .lst (vs ++ ys)) hr
        have g67 := g6.trans g7
        walk_at "V"
        refine ⟨r, vs ++ ys, us ++ us', some (.str zz), rfl, g.trans g67, Grow.extN g67 _ _ it (fun _ z => by cases z), upd_same, ?_, ?_, by simp [hul, hul']; omega⟩
        · rw [pys_app]
          exact DaAll.append (nwAll g67 dv) ((Grow.daAll g7 dy).sub fun _ z => z.elim)
        · intro t ht
          rcases List.mem_append.1 ht with h | h
          · exact hu t h
          · exact hu' t h
    · rintro σ H'' ⟨pl, vs, us, s9, rfl, g, it, ipl, dv, hu, hul⟩
      exact b_nil ⟨pl, vs, us, _, s9, rfl, g, it, ipl, dv, hu, by rw [List.length_map, hz2l] at hul; omega⟩
  · rintro σ H' ⟨pl, vs, us, s8, s9, rfl, g, it, ipl, dv, hu, hul⟩
    have hu8 : us.length = 8 := by simpa using hul
    have hv8 : vs.length = 8 := by rw [dv.length, Tm.pys_length, hu8]
    clear hul it itk
    generalize s8 = s8 at *
    walk_at "B"
    walk_at "V"
    refine g_typ hA hlist rfl bt_list ?_
    walk_at "V"
    refine g_listOf hA (.inl (SqL.of ipl)) fun kl hkl => ?_
    have gk := Grow.new (T := m.T) (o := .lst vs) hkl
    have ik := upd_same (H := H') (a := kl) (o := .lst vs)
    have ipk := gk.extN _ _ ipl (fun _ z => by cases z)
    have dvk := nwAll gk dv
    have gHk := g.trans gk
    generalize upd H' kl (.lst vs) = Hp at gk ik ipk dvk gHk ⊢
    have ugt : ∀ t ∈ us, Gt zs t := fun t ht => (hu t ht).gt
    -- one by one
    walk_at "V"
    refine s_forL hA (pg_nl hA n5) ?_
    walk_at "V"
    refine ⟨pl, vs, rfl, SqL.of ipk, fun j (σ : L2.St) H'' => ∃ (fl : Addr) (fs : List V) (fu : List Tm) (s5 : Option V), σ = [some (.ref p), some (.ref l3), some (.ref l5), some (.ref pl), some (.ref fl), s5, none, none, s8, s9, none] ∧ Grow m.T Hp H'' ∧ H'' fl = some (.lst fs) ∧ New Hs fl ∧ DaAll m.K (Nw Hs H'') H'' fs (Tm.pys fu) ∧ (∀ t ∈ fu, Gt zs t) ∧ fu.length = 8 + 3 * j, ?_, ?_, ?_, ?_⟩
    · exact ⟨kl, vs, us, none, rfl, GrowX.refl, ik, g.keep _ hkl, dvk, ugt, by omega⟩
    · rintro j σ H'' _ ⟨_, _, _, _, _, g, _⟩
      exact SqL.of (g.extN _ _ ipk (fun _ z => by cases z))
    · rintro j x σ H'' hx ⟨fl, fs, fu, s5, rfl, gp, ifl, nfl, df, hf, hfl⟩
      obtain ⟨pd, hpd, dxj⟩ := dvk.getV hx
      have hj : j < us.length := by rw [hu8, ← hv8]; exact (List.getElem?_eq_some_iff.1 hx).1
      rw [Tm.pys_map, List.getElem?_map, List.getElem?_eq_getElem hj] at hpd
      cases hpd
      have htm : us[j] ∈ us := List.getElem_mem hj
      have hPt := hu _ htm
      walk_at "B"
      walk_at "V"
      refine w_ov (H0 := Hs) hA Ov (by omega) rfl ?_
      walk_at "V"
      refine ⟨gHk.trans gp, [us[j]], .cons ((Grow.da gp dxj).sub fun _ z => Nw.up gp z) .nil, by simp, fun r os H3 g3 nr hr dos => ?_⟩
      have ifl3 := g3.extN _ _ ifl (fun _ z => by cases z)
      have hos : os.length = 3 := by rw [dos.length, Tm.pys_length, ovs_len]; rfl
      have hfs : fs.length = 8 + 3 * j := by rw [df.length, Tm.pys_length, hfl]
      refine g_cat ifl3 hr (by rw [hos, hfs, sizeLine_eq]; omega) fun r2 hr2 => ?_
      have g4 := Grow.new (T := m.T) (o := .lst (fs ++ os)) hr2
      walk_at "V"
      refine ⟨r2, fs ++ os, fu ++ ovs [us[j]], _, rfl, (gp.trans g3).trans g4, upd_same, ((gHk.trans gp).trans g3).keep _ hr2, ?_, ?_, by rw [List.length_append, ovs_len, hfl]; simp; omega⟩
      · rw [pys_app]
        exact DaAll.append (nwAll (g3.trans g4) df) (nwAll g4 dos)
      · intro t ht
        rcases List.mem_append.1 ht with h | h
        · exact hf t h
        · exact ovs_gt (by simp) (fun t ht => by rw [List.mem_singleton.1 ht]; exact hPt.ok) (by show us[j].siz + 0 ≤ 7; rw [hPt.sz.1]; omega) (by show max us[j].dep 0 ≤ 1; rw [hPt.sz.2]; omega) t h
    rintro σ H'' ⟨fl, fs, fu, s5, rfl, gp, ifl, nfl, df, hf, hfl⟩
    rw [hv8] at hfl
    -- two by two
    walk_at "B"
    refine s_forL hA (pg_nl hA n5) ?_
    refine w_sliceTo hA ?_
    walk_at "V"
    refine ⟨pl, vs, rfl, SqL.of (gp.extN _ _ ipk (fun _ z => by cases z)), fun la hla => ?_⟩
    rw [show ((3 : Int)) = ((3 : Nat) : Int) from rfl, cut_to (by decide)]
    have ga := Grow.new (T := m.T) (o := .lst (vs.take 3)) hla
    have ia := upd_same (H := H'') (a := la) (o := .lst (vs.take 3))
    have gpa := gp.trans ga
    have ifl' := ga.extN _ _ ifl (fun _ z => by cases z)
    have df' := nwAll ga df
    generalize upd H'' la (.lst (vs.take 3)) = Ha at ia gpa ifl' df' ⊢
    refine ⟨la, _, rfl, SqL.of ia, fun j (σ : L2.St) H3 => ∃ (fl : Addr) (fs : List V) (fu : List Tm) (s5 s6 : Option V), σ = [some (.ref p), some (.ref l3), some (.ref l5), some (.ref pl), some (.ref fl), s5, s6, none, s8, s9, none] ∧ Grow m.T Ha H3 ∧ H3 fl = some (.lst fs) ∧ New Hs fl ∧ DaAll m.K (Nw Hs H3) H3 fs (Tm.pys fu) ∧ (∀ t ∈ fu, Gt zs t) ∧ fu.length = 32 + 12 * j, ?_, ?_, ?_, ?_⟩
    · exact ⟨fl, fs, fu, s5, none, rfl, GrowX.refl, ifl', nfl, df', hf, by omega⟩
    · rintro j σ H3 _ ⟨_, _, _, _, _, _, g, _⟩
      exact SqL.of (g.extN _ _ ia (fun _ z => by cases z))
    · rintro j x σ H3 hx ⟨fl, fs, fu, s5, s6, rfl, g3, ifl, nfl, df, hf, hfl⟩
      have hj3 : j < 3 := by have := (List.getElem?_eq_some_iff.1 hx).1; rw [List.length_take] at this; omega
      rw [List.getElem?_take_of_lt hj3] at hx
      obtain ⟨pd, hpd, dxj⟩ := dvk.getV hx
      have hj : j < us.length := by omega
      rw [Tm.pys_map, List.getElem?_map, List.getElem?_eq_getElem hj] at hpd
      cases hpd
      have hPt := hu _ (List.getElem_mem hj)
      walk_at "B"
      refine s_forL hA (pg_nl hA n6) ?_
      refine w_slice hA ?_
      walk_at "V"
      refine ⟨pl, vs, rfl, SqL.of (Grow.extN (gpa.trans g3) _ _ ipk (fun _ z => by cases z)), fun lb hlb => ?_⟩
      have eC : cutV vs (some 2) (some 5) = (vs.drop 2).take 3 := by
        have := cut_mid (xs := vs) (a := 2) (b := 5)
        rw [hv8] at this
        exact this
      have eC' : cutV vs (some ((2 : Nat) : Int)) (some 5) = (vs.drop 2).take 3 := eC
      rw [eC']
      have gb := Grow.new (T := m.T) (o := .lst ((vs.drop 2).take 3)) hlb
      have ib := upd_same (H := H3) (a := lb) (o := .lst ((vs.drop 2).take 3))
      have g3b := g3.trans gb
      have iflb := gb.extN _ _ ifl (fun _ z => by cases z)
      have dfb := nwAll gb df
      generalize upd H3 lb (.lst ((vs.drop 2).take 3)) = Hb at ib g3b iflb dfb ⊢
      refine ⟨lb, _, rfl, SqL.of ib, fun jj (σ : L2.St) H4 => ∃ (fl : Addr) (fs : List V) (fu : List Tm) (s6 : Option V), σ = [some (.ref p), some (.ref l3), some (.ref l5), some (.ref pl), some (.ref fl), some x, s6, none, s8, s9, none] ∧ Grow m.T Hb H4 ∧ H4 fl = some (.lst fs) ∧ New Hs fl ∧ DaAll m.K (Nw Hs H4) H4 fs (Tm.pys fu) ∧ (∀ t ∈ fu, Gt zs t) ∧ fu.length = 32 + 12 * j + 4 * jj, ?_, ?_, ?_, ?_⟩
      · exact ⟨fl, fs, fu, s6, rfl, GrowX.refl, iflb, nfl, dfb, hf, by omega⟩
      · rintro jj σ H4 _ ⟨_, _, _, _, _, g, _⟩
        exact SqL.of (g.extN _ _ ib (fun _ z => by cases z))
      · rintro jj y σ H4 hy ⟨fl, fs, fu, s6, rfl, g4, ifl, nfl, df, hf, hfl⟩
        have hjj3 : jj < 3 := by have := (List.getElem?_eq_some_iff.1 hy).1; rw [List.length_take, List.length_drop] at this; omega
        rw [List.getElem?_take_of_lt hjj3, List.getElem?_drop] at hy
        obtain ⟨pd, hpd, dyj⟩ := dvk.getV hy
        have hjy : 2 + jj < us.length := by omega
        rw [Tm.pys_map, List.getElem?_map, List.getElem?_eq_getElem hjy] at hpd
        cases hpd
        have hPy := hu _ (List.getElem_mem hjy)
        have gp4 := (gpa.trans g3b).trans g4
        walk_at "B"
        walk_at "V"
        refine w_ov (H0 := Hs) hA Ov (by omega) rfl ?_
        walk_at "V"
        refine ⟨gHk.trans gp4, [us[j], us[2 + jj]], .cons ((Grow.da gp4 dxj).sub fun _ z => Nw.up gp4 z) (.cons ((Grow.da gp4 dyj).sub fun _ z => Nw.up gp4 z) .nil), by simp, fun r os H5 g5 nr hr dos => ?_⟩
        have ifl5 := g5.extN _ _ ifl (fun _ z => by cases z)
        have hos : os.length = 4 := by rw [dos.length, Tm.pys_length, ovs_len]; rfl
        have hfs : fs.length = 32 + 12 * j + 4 * jj := by rw [df.length, Tm.pys_length, hfl]
        refine g_cat ifl5 hr (by rw [hos, hfs, sizeLine_eq]; omega) fun r2 hr2 => ?_
        have g6 := Grow.new (T := m.T) (o := .lst (fs ++ os)) hr2
        walk_at "V"
        refine ⟨r2, fs ++ os, fu ++ ovs [us[j], us[2 + jj]], _, rfl, (g4.trans g5).trans g6, upd_same, ((gHk.trans gp4).trans g5).keep _ hr2, ?_, ?_, by rw [List.length_append, ovs_len, hfl]; simp; omega⟩
        · rw [pys_app]
          exact DaAll.append (nwAll (g5.trans g6) df) (nwAll g6 dos)
        · intro t ht
          rcases List.mem_append.1 ht with h | h
          · exact hf t h
          · refine ovs_gt (by simp) (fun t ht => ?_) (by show us[j].siz + (us[2 + jj].siz + 0) ≤ 7; rw [hPt.sz.1, hPy.sz.1]; omega) (by show max us[j].dep (max us[2 + jj].dep 0) ≤ 1; rw [hPt.sz.2, hPy.sz.2]; omega) t h
            rcases List.mem_cons.1 ht with e | e
            · rw [e]; exact hPt.ok
            · rw [List.mem_singleton.1 e]; exact hPy.ok
      · rintro σ H4 ⟨fl, fs, fu, s6, rfl, g4, ifl, nfl, df, hf, hfl⟩
        have : ((vs.drop 2).take 3).length = 3 := by rw [List.length_take, List.length_drop]; omega
        rw [this] at hfl
        exact b_nil ⟨fl, fs, fu, _, s6, rfl, g3b.trans g4, ifl, nfl, df, hf, by omega⟩
    rintro σ H3 ⟨fl, fs, fu, s5, s6, rfl, g3, ifl, nfl, df, hf, hfl⟩
    rw [show (vs.take 3).length = 3 from by rw [List.length_take]; omega] at hfl
    have gp3 := gpa.trans g3
    obtain ⟨hd, x7, e7⟩ : ∃ hd x7, vs = hd ++ [x7] := ⟨vs.dropLast, vs.getLast (by intro w; rw [w] at hv8; simp at hv8), (List.dropLast_concat_getLast (by intro w; rw [w] at hv8; simp at hv8)).symm⟩
    have hhd : hd.length = 7 := by rw [e7] at hv8; simp at hv8; omega
    have at7 : ∀ {K H}, SqL K H pl vs → SqL K H pl (hd ++ [x7]) := fun h => by rw [← e7]; exact h
    have gx7 : vs[7]? = some x7 := by rw [e7, List.getElem?_append_right (by omega), hhd]; rfl
    obtain ⟨x0, gx0⟩ : ∃ x0, vs[0]? = some x0 := ⟨_, List.getElem?_eq_getElem (show 0 < vs.length by omega)⟩
    obtain ⟨x1, gx1⟩ : ∃ x1, vs[1]? = some x1 := ⟨_, List.getElem?_eq_getElem (show 1 < vs.length by omega)⟩
    have part : ∀ (j : Nat) (x : V), vs[j]? = some x → ∃ t, Pt zs t ∧ Da m.K (Nw Hs Hp) Hp x t.py := by
      intro j x hx
      obtain ⟨pd, hpd, dxj⟩ := dvk.getV hx
      have hj : j < us.length := by have := (List.getElem?_eq_some_iff.1 hx).1; omega
      rw [Tm.pys_map, List.getElem?_map, List.getElem?_eq_getElem hj] at hpd
      cases hpd
      exact ⟨_, hu _ (List.getElem_mem hj), dxj⟩
    obtain ⟨t0, P0, dx0⟩ := part 0 x0 gx0
    obtain ⟨t1, P1, dx1⟩ := part 1 x1 gx1
    obtain ⟨t7, P7, dx7⟩ := part 7 x7 gx7
    walk_at "B"
    refine s_forL hA (pg_nl hA n7) ?_
    refine w_ov (H0 := Hs) hA Ov (by omega) rfl ?_
    walk_at "V"
    have ip3 := Grow.extN gp3 _ _ ipk (fun _ z => by cases z)
    refine g_ixL hA (SqL.of ip3) (i := ((0 : Nat) : Int)) (atI_at gx0) ?_
    walk_at "V"
    refine g_ixL hA (SqL.of ip3) (i := ((1 : Nat) : Int)) (atI_at gx1) ?_
    walk_at "V"
    refine ⟨gHk.trans gp3, [t0, t1], .cons ((Grow.da gp3 dx0).sub fun _ z => Nw.up gp3 z) (.cons ((Grow.da gp3 dx1).sub fun _ z => Nw.up gp3 z) .nil), by simp, fun r os H4 g4 nr hr dos => ?_⟩
    have hos : os.length = 4 := by rw [dos.length, Tm.pys_length, ovs_len]; rfl
    refine ⟨r, os, rfl, SqL.of hr, fun j (σ : L2.St) H5 => ∃ (fl : Addr) (fs : List V) (fu : List Tm) (s7 : Option V), σ = [some (.ref p), some (.ref l3), some (.ref l5), some (.ref pl), some (.ref fl), s5, s6, s7, s8, s9, none] ∧ Grow m.T H4 H5 ∧ H5 fl = some (.lst fs) ∧ New Hs fl ∧ DaAll m.K (Nw Hs H5) H5 fs (Tm.pys fu) ∧ (∀ t ∈ fu, Gt zs t) ∧ fu.length = 68 + 11 * j, ?_, ?_, ?_, ?_⟩
    · exact ⟨fl, fs, fu, none, rfl, GrowX.refl, g4.extN _ _ ifl (fun _ z => by cases z), nfl, nwAll g4 df, hf, by omega⟩
    · rintro j σ H5 _ ⟨_, _, _, _, _, g, _⟩
      exact SqL.of (g.extN _ _ hr (fun _ z => by cases z))
    · rintro j x σ H5 hx ⟨fl, fs, fu, s7, rfl, g5, ifl, nfl, df, hf, hfl⟩
      obtain ⟨pd, hpd, dxj⟩ := dos.getV hx
      have hj4 : j < 4 := by rw [← hos]; exact (List.getElem?_eq_some_iff.1 hx).1
      have hj : j < (ovs [t0, t1]).length := by rw [ovs_len]; exact hj4
      rw [Tm.pys_map, List.getElem?_map, List.getElem?_eq_getElem hj] at hpd
      cases hpd
      have htm : (ovs [t0, t1])[j] ∈ ovs [t0, t1] := List.getElem_mem hj
      obtain ⟨tok, tsz, tdp⟩ := ovs_ok (by simp) (fun t ht => by
        rcases List.mem_cons.1 ht with e | e
        · rw [e]; exact P0.ok
        · rw [List.mem_singleton.1 e]; exact P1.ok) htm
      have ts2 : Tm.sizs [t0, t1] = 2 := by show t0.siz + (t1.siz + 0) = 2; rw [P0.sz.1, P1.sz.1]
      have td0 : Tm.deps [t0, t1] = 0 := by show max t0.dep (max t1.dep 0) = 0; rw [P0.sz.2, P1.sz.2]; rfl
      rw [ts2] at tsz
      rw [td0] at tdp
      generalize (ovs [t0, t1])[j] = ti at dxj tok tsz tdp
      have gp5 := (gp3.trans g4).trans g5
      have gg5 := gHk.trans gp5
      have ip5 := Grow.extN gp5 _ _ ipk (fun _ z => by cases z)
      have dti := (Grow.da g5 dxj).sub fun _ z => Nw.up g5 z
      have d7 := (Grow.da gp5 dx7).sub fun _ z => Nw.up gp5 z
      have two : ∀ t ∈ [ti, t7], Tm.ok W11 zs zs t := fun t ht => by
        rcases List.mem_cons.1 ht with e | e
        · rw [e]; exact tok
        · rw [List.mem_singleton.1 e]; exact P7.ok
      have two' : ∀ t ∈ [t7, ti], Tm.ok W11 zs zs t := fun t ht => by
        rcases List.mem_cons.1 ht with e | e
        · rw [e]; exact P7.ok
        · rw [List.mem_singleton.1 e]; exact tok
      have hfs : fs.length = 68 + 11 * j := by rw [df.length, Tm.pys_length, hfl]
      walk_at "B"
      walk_at "V"
      refine w_ov (H0 := Hs) hA Ov (by omega) rfl ?_
      walk_at "V"
      refine ⟨gg5, [ti], .cons dti .nil, by simp, fun ra oa H6 g6 nra hra doa => ?_⟩
      have hoa : oa.length = 3 := by rw [doa.length, Tm.pys_length, ovs_len]; rfl
      refine g_cat (g6.extN _ _ ifl (fun _ z => by cases z)) hra (by rw [hoa, hfs, sizeLine_eq]; omega) fun rb hrb => ?_
      have g7 := Grow.new (T := m.T) (o := .lst (fs ++ oa)) hrb
      have ib := upd_same (H := H6) (a := rb) (o := .lst (fs ++ oa))
      have g67 := g6.trans g7
      have db : DaAll m.K (Nw Hs (upd H6 rb (.lst (fs ++ oa)))) (upd H6 rb (.lst (fs ++ oa))) (fs ++ oa) (Tm.pys (fu ++ ovs [ti])) := by rw [pys_app]; exact DaAll.append (nwAll g67 df) (nwAll g7 doa)
      generalize upd H6 rb (.lst (fs ++ oa)) = H7 at ib g67 db ⊢
      walk_at "V"
      refine w_ov (H0 := Hs) hA Ov (by omega) rfl ?_
      walk_at "V"
      refine g_ixL hA (at7 (SqL.of (Grow.extN g67 _ _ ip5 (fun _ z => by cases z)))) (at_last hd x7) ?_
      walk_at "V"
      refine ⟨gg5.trans g67, [ti, t7], .cons ((Grow.da g67 dti).sub fun _ z => Nw.up g67 z) (.cons ((Grow.da g67 d7).sub fun _ z => Nw.up g67 z) .nil), by simp, fun rc oc H8 g8 nrc hrc doc => ?_⟩
      have hoc : oc.length = 4 := by rw [doc.length, Tm.pys_length, ovs_len]; rfl
      refine g_cat (g8.extN _ _ ib (fun _ z => by cases z)) hrc (by rw [hoc, List.length_append, hoa, hfs, sizeLine_eq]; omega) fun rd hrd => ?_
      have g9 := Grow.new (T := m.T) (o := .lst (fs ++ oa ++ oc)) hrd
      have id := upd_same (H := H8) (a := rd) (o := .lst (fs ++ oa ++ oc))
      have g89 := g8.trans g9
      have dd : DaAll m.K (Nw Hs (upd H8 rd (.lst (fs ++ oa ++ oc)))) (upd H8 rd (.lst (fs ++ oa ++ oc))) (fs ++ oa ++ oc) (Tm.pys (fu ++ ovs [ti] ++ ovs [ti, t7])) := by rw [pys_app]; exact DaAll.append (nwAll g89 db) (nwAll g9 doc)
      generalize upd H8 rd (.lst (fs ++ oa ++ oc)) = H9 at id g89 dd ⊢
      have g69 := g67.trans g89
      walk_at "V"
      refine w_ov (H0 := Hs) hA Ov (by omega) rfl ?_
      walk_at "V"
      refine g_ixL hA (at7 (SqL.of (Grow.extN g69 _ _ ip5 (fun _ z => by cases z)))) (at_last hd x7) ?_
      walk_at "V"
      refine ⟨gg5.trans g69, [t7, ti], .cons ((Grow.da g69 d7).sub fun _ z => Nw.up g69 z) (.cons ((Grow.da g69 dti).sub fun _ z => Nw.up g69 z) .nil), by simp, fun re oe H10 g10 nre hre doe => ?_⟩
      have hoe : oe.length = 4 := by rw [doe.length, Tm.pys_length, ovs_len]; rfl
      refine g_cat (g10.extN _ _ id (fun _ z => by cases z)) hre (by rw [hoe, List.length_append, List.length_append, hoa, hoc, hfs, sizeLine_eq]; omega) fun rf hrf => ?_
      have g11 := Grow.new (T := m.T) (o := .lst (fs ++ oa ++ oc ++ oe)) hrf
      have gE := (g69.trans g10).trans g11
      walk_at "V"
      refine ⟨rf, fs ++ oa ++ oc ++ oe, fu ++ ovs [ti] ++ ovs [ti, t7] ++ ovs [t7, ti], _, rfl, g5.trans gE, upd_same, ((gg5.trans g69).trans g10).keep _ hrf, ?_, ?_, by simp only [List.length_append, ovs_len, hfl, List.length_cons, List.length_nil]; omega⟩
      · rw [pys_app]
        exact DaAll.append (nwAll (g10.trans g11) dd) (nwAll g11 doe)
      · intro t ht
        have sz1 : Tm.sizs [ti] = 3 := by show ti.siz + 0 = 3; omega
        have sz2 : Tm.sizs [ti, t7] = 4 := by show ti.siz + (t7.siz + 0) = 4; rw [P7.sz.1]; omega
        have sz3 : Tm.sizs [t7, ti] = 4 := by show t7.siz + (ti.siz + 0) = 4; rw [P7.sz.1]; omega
        have dp1 : Tm.deps [ti] = 1 := by show max ti.dep 0 = 1; omega
        have dp2 : Tm.deps [ti, t7] = 1 := by show max ti.dep (max t7.dep 0) = 1; rw [P7.sz.2]; omega
        have dp3 : Tm.deps [t7, ti] = 1 := by show max t7.dep (max ti.dep 0) = 1; rw [P7.sz.2]; omega
        rcases List.mem_append.1 ht with h | h
        · rcases List.mem_append.1 h with h | h
          · rcases List.mem_append.1 h with h | h
            · exact hf t h
            · exact ovs_gt (by simp) (fun t ht => by rw [List.mem_singleton.1 ht]; exact tok) (by omega) (by omega) t h
          · exact ovs_gt (by simp) two (by omega) (by omega) t h
        · exact ovs_gt (by simp) two' (by omega) (by omega) t h
    rintro σ H5 ⟨fl, fs, fu, s7, rfl, g5, ifl, nfl, df, hf, hfl⟩
    have gAll := ((gHk.trans gp3).trans g4).trans g5
    walk_at "B"
    walk_at "V"
    refine k fl fs fu zs H5 (d15.post gAll) (nH nfl) ifl (df.sub fun b z => ⟨nH z.1, z.2⟩) hz2 hf (fun w => by rw [w] at hfl; simp at hfl; omega) (by rw [hos] at hfl; omega)
theorem g_neB {X : Cx} {x y : Bool} {H : Hp} {Q : VK} (q : Q (.bl (!decide (x = y))) H) : gOp X (compareOp .NotEq) (.bl x) (.bl y) H Q := gOp.of op_ne ⟨rfl, by
  have e : decide (V.bl x = V.bl y) = decide (x = y) := by rw [decide_eq_decide]; exact ⟨fun z => by injection z, fun z => by rw [z]⟩
  rw [e]; exact q⟩
section
variable {m : Md} {N : List Str} {sc scope : Scope} {k i : Nat} {X : Cx} {a b c e o elt iter : Expr} {es : List Expr} {σ : L2.St} {H : Hp} {Q : VK} {pos p1 p2 apos : Pos} {x : Str} {nx : L2.St → Hp → Prop} {rt : VK} {bk ct : L2.St → Hp → Prop}
/-- [elt for x in iter if c], x captured in a block of the block -/
theorem w_lcLiC (h : At m N sc k X) (ok : blkC N sc scope [(x, i)] = true) (n : NC N (relS scope sc) i x) (hx : scope.names.lookup x = some .cell)
    (q : wE X iter σ H fun v H1 => ∃ (a : Addr) (xs : List V), v = .ref a ∧ SqL m.K H1 a xs ∧ ∀ D, H1 D = none → ∃ Pv : Nat → Hp → Prop, Pv 0 (upd H1 D (.lst [])) ∧ (∀ j H, j ≤ xs.length → Pv j H → SqL m.K H a xs) ∧
      (∀ j x H, xs[j]? = some x → Pv j H → ∀ X', At m N (relS scope sc) k X' → wT X' c (σ.set i (some x)) H fun b H3 => if b = true then (∀ X', At m N (relS scope sc) k X' → wE X' elt (σ.set i (some x)) H3 (App D (Pv (j + 1)))) else Pv (j + 1) H3) ∧
      ∀ H, Pv xs.length H → Q (.ref D) H)
    (hs : ∀ x, foldedSetIterable iter X.env x = pure x := by with_unfolding_all (intro _; rfl)) : wE X (.ListComp elt [⟨.Name x p1, iter, [c], 0⟩] scope pos) σ H Q := by
  refine toE (pe_lc (own := [(x, i)]) (g := gName i) (tt := inBlkT m N (relS scope sc) k c) (te := inBlk m N (relS scope sc) k elt) h.calm (by rw [h.nn]; exact h.nd) (pi_list cE) (by rw [h.nn, h.ss]; exact blkOk_by ok) (fun s H C cl fp => (fun hb : At m N (relS scope sc) k (X.blk s H scope (compEnvC scope cl C X.env) fp) => pg_name (by rw [hb.nn]; exact hb.nd) (by rw [hb.nn]; exact n.ix) (by rw [hb.ss]; exact .inr n.cel) (.inl (beq_iff_eq.mpr hx))) (blk_at h s H C cl fp)) (fun s H C cl fp => pts_one (blk_pt h s H C cl fp)) (fun s H C cl fp => blk_pe h s H C cl fp) hs) ?_
  refine wE.mono q fun v H1 ⟨a, xs, ea, hl, go⟩ => ⟨a, ea, ⟨xs, by rw [h.kk]; exact hl⟩, fun D hD => ?_⟩
  obtain ⟨Pv, p0, st, turn, fin⟩ := go D hD
  refine lc_list (K := X.K) (a := a) (xs := xs) (g := gName i) (tt := inBlkT m N (relS scope sc) k c) (te := inBlk m N (relS scope sc) k elt) (vs := [i]) (σ := σ) Pv p0 (fun j H hj hp => by rw [h.kk]; exact st j H hj hp) (fun j z H hz hp => ?_) fin
  refine ⟨by rw [wipe1]; simp [wipe, List.set_set], fun X' hX' => ?_⟩
  have t := turn j z H hz hp X' hX'
  rw [set_wipe]
  exact t
/-! dicts of texts -/
theorem w_dget (h : At m N sc k X) {ix : Expr} (q : wE X o σ H fun x H1 => wE X ix σ H1 fun y H2 => ∃ a v, x = .ref a ∧ DGet H2 a y (some v) ∧ Q v H2) (hns : NoSl ix := by with_unfolding_all exact fun _ _ => rfl) : wE X (.Subscript o ix pos) σ H Q := by
  refine toE (pe_dget h.hu cE cE hns) ?_
  exact wE.mono q fun x H1 q1 => wE.mono q1 fun y H2 q2 => q2
theorem g_notInD (h : At m N sc k X) {d : Addr} {kvs : List (Key × V)} {z : Str} (hd : H d = some (.dK kvs)) (q : Q (.bl (!(valV kvs (.inr z)).isSome)) H) : gOp X (compareOp .NotIn) (.str z) (.ref d) H Q := by
  intro pins s σ v u I rx ry
  obtain rfl : u = Value.ref d := ry
  have hu := h.hu
  exact d_notIn hu I (DGet.k (k := .inr z) hd) rx fun s3 I3 => ⟨.bl _, _, I3, rfl, q⟩
theorem w_dget2 (h : At m N sc k X) {f : Expr} (q : wE X o σ H fun x H1 => ∃ a, x = .ref a ∧ IsD H1 a ∧ wE X e σ H1 fun y H2 => wE X f σ H2 fun z H3 => ∃ r, DGet H3 a y r ∧ Q (r.getD z) H3)
    (hb : attributeBase o "get" X.env (eval o X.env) = eval o X.env := by with_unfolding_all rfl)
    (hf : ((backTo pos (starEach [e, f] X.env)).all (fun x => !x.1) && (backToKw pos (keywordEach [] X.env)).all (fun x => x.1.isSome) && decide (([e, f] : List Expr).length + ([] : List Keyword).length + (if ([] : List Keyword).isEmpty then 0 else 1) < 30)) = true := by with_unfolding_all rfl)
    (hl : (apos.endLine == pos.line) = true := by with_unfolding_all rfl) (ht : backTo pos (starEach [e, f] X.env) = [(false, eval e X.env), (false, eval f X.env)] := by with_unfolding_all rfl) : wE X (.Call (.Attribute o "get" apos) [e, f] [] pos) σ H Q := by
  refine toE (pe_dget2 h.hu cE cE cE ⟨hb, hf, hl, ht⟩) ?_
  exact wE.mono q fun x H1 ⟨a, ex, d, q1⟩ => ⟨a, ex, d, wE.mono q1 fun y H2 q2 => wE.mono q2 fun z H3 q3 => q3⟩
theorem s_dput (h : At m N sc k X) {ix : Expr} (q : wE X e σ H fun v H1 => wE X o σ H1 fun x H2 => wE X ix σ H2 fun y H3 => ∃ a H4, x = .ref a ∧ DPut H3 a y v H4 ∧ nx σ H4)
    (hs : swapsWith e (some (.Subscript o ix p1)) pos.line X.env = pure false := by with_unfolding_all rfl) : wS X (.Assign [.Subscript o ix p1] e pos) ⟨nx, rt, bk, ct⟩ σ H := by
  refine toS (ps_dput h.hu cE cE cE hs) ?_
  exact wE.mono q fun v H1 q1 => wE.mono q1 fun x H2 q2 => wE.mono q2 fun y H3 q3 => q3
end
theorem putK_len' {κ : Type} [DecidableEq κ] (c : List (κ × V)) (k : κ) (x : V) : (putK c k x).length ≤ c.length + 1 := by
  unfold putK
  split
  · rw [List.length_map]; omega
  · simp
mutual
theorem txl_len : ∀ t : Tm, t.nms → t.sml → t.wf → (txl t).length + 2 ≤ 40 * t.siz
  | .part n z w, h, hs, _ => by
    have h1 : (ls z).length ≤ 8 := by rw [ls_len]; exact h.2.1
    have h2 := numT_len (i := w) hs
    have l3 : lNow.length = 3 := rfl
    show (txl (.part n z w)).length + 2 ≤ 40 * 1
    cases n <;> simp only [txl, List.length_append, List.length_cons, List.length_nil, if_true, Bool.false_eq_true, if_false] <;> omega
  | .all f ts, h, hs, hw => by
    have h1 := txls_len ts h hs hw.2.2
    have h2 : (if f then lFirst else lLast).length ≤ 5 := by cases f <;> decide
    show (txl (.all f ts)).length + 2 ≤ 40 * (Tm.sizs ts + 1)
    simp only [txl, List.length_append, List.length_cons, List.length_nil]
    omega
  | .rank r ts, h, hs, hw => by
    have h1 := txls_len ts h hs hw.2.2.2.2
    have h2 : (numT r).length ≤ 13 := numT_len (by have := hw.2.2.1; have := hw.2.2.2.1; have := hw.2.1; omega)
    have l4 : lRank.length = 4 := rfl
    show (txl (.rank r ts)).length + 2 ≤ 40 * (Tm.sizs ts + 1)
    simp only [txl, List.length_append, List.length_cons, List.length_nil]
    omega
theorem txls_len : ∀ ts : List Tm, Tm.nmss ts → Tm.smls ts → Tm.wfs ts → (txls ts).length ≤ 40 * Tm.sizs ts
  | [], _, _, _ => by simp [txls]
  | t :: ts, h, hs, hw => by
    have h1 := txl_len t h.1 hs.1 hw.1
    have h2 := txr_len ts h.2 hs.2 hw.2
    show (txls (t :: ts)).length ≤ 40 * (t.siz + Tm.sizs ts)
    simp only [txls, List.length_append]
    omega
theorem txr_len : ∀ ts : List Tm, Tm.nmss ts → Tm.smls ts → Tm.wfs ts → (txr ts).length ≤ 40 * Tm.sizs ts
  | [], _, _, _ => by simp [txr]
  | t :: ts, h, hs, hw => by
    have h1 := txl_len t h.1 hs.1 hw.1
    have h2 := txr_len ts h.2 hs.2 hw.2
    show (txr (t :: ts)).length ≤ 40 * (t.siz + Tm.sizs ts)
    simp only [txr, List.length_append, List.length_cons]
    omega
end
mutual
theorem ok_sml {zs : List Str} : ∀ t : Tm, Tm.ok W11 zs zs t → t.sml
  | .part _ _ w, h => by show w.natAbs < 10 ^ 12; have := h.2; unfold W11 at this; omega
  | .all _ ts, h => oks_sml ts h.2
  | .rank _ ts, h => oks_sml ts h.2.2.2
theorem oks_sml {zs : List Str} : ∀ ts : List Tm, Tm.oks W11 zs zs ts → Tm.smls ts
  | [], _ => trivial
  | t :: ts, h => ⟨ok_sml t h.1, oks_sml ts h.2⟩
end
theorem Gt.rd {zs : List Str} (hz : ∀ z ∈ zs, IsName z) {t : Tm} (h : Gt zs t) : Rd 2 t := ⟨Tm.ok_nms hz hz t h.ok, Tm.ok_wf t h.ok (by have := h.siz; omega), ok_sml t h.ok, h.dep⟩
theorem Gt.len {zs : List Str} (hz : ∀ z ∈ zs, IsName z) {t : Tm} (h : Gt zs t) : (txl t).length ≤ 100000 := by
  have r := h.rd hz
  have := txl_len t r.n r.s r.w
  have := h.siz
  omega
theorem Gt.gd {zs : List Str} (hz : ∀ z ∈ zs, IsName z) {t : Tm} (h : Gt zs t) : Tm.Gd 2 t := ⟨(h.rd hz).w, (h.rd hz).n, h.dep⟩
theorem Gt.sh {zs : List Str} (hz : ∀ z ∈ zs, IsName z) {t : Tm} (h : Gt zs t) : SeqAt.shaped t.py = true := (h.gd hz).shaped (by omega)
theorem Gt.fits {zs : List Str} (hz : ∀ z ∈ zs, IsName z) {t : Tm} (h : Gt zs t) : t.py.showable = true ∧ t.py.shown.length ≤ sizeLine ∧ t.py.depth ≤ 60 := Tm.shown_fits hz hz (by decide) t h.ok (by have := h.siz; omega)
theorem Purse.ne {H : Hp} {p r : Addr} {n : Nat} (h : Purse H p n) (z : New H r) : r ≠ p := fun w => by
  obtain ⟨_, e⟩ := h.at_
  rw [← w, show H r = none from z] at e
  cases e
theorem s_mono {X : Cx} {st : Stmt} {σ : L2.St} {H : Hp} {nx nx' : L2.St → Hp → Prop} {rt : VK} {bk ct : L2.St → Hp → Prop} (h : wS X st ⟨nx', rt, bk, ct⟩ σ H) (k : ∀ σ H, nx' σ H → nx σ H) : wS X st ⟨nx, rt, bk, ct⟩ σ H := by
  unfold wS at h ⊢
  refine fun pins s I => thn (h pins s I) fun f s1 z => ?_
  cases f with
  | next => obtain ⟨σ', H', I', q⟩ := z; exact ⟨σ', H', I', k _ _ q⟩
  | brk => exact z
  | cont => exact z
  | ret u => exact z
/-- what the dict of texts holds -/
def Ent (m : Md) (A0 : Addr → Prop) (zs : List Str) (d ul : Addr) (j : Nat) (H : Hp) (kvs : List (Key × V)) : Prop := ∀ (z : Str) (v : V), valV kvs (.inr z) = some v → ∃ (l : Addr) (xs : List V) (tts : List Tm), v = .ref l ∧ l ≠ d ∧ l ≠ ul ∧ H l = some (.lst xs) ∧ DaAll m.K A0 H xs (Tm.pys tts) ∧ tts ≠ [] ∧ tts.length ≤ j ∧ ∀ t ∈ tts, Gt zs t ∧ z = mkS (txl t)
theorem Ent.grow {m : Md} {A0 : Addr → Prop} {zs : List Str} {d ul : Addr} {j : Nat} {H H' : Hp} {kvs : List (Key × V)} (h : Ent m A0 zs d ul j H kvs) (g : GrowX m.T (fun b => b = d ∨ b = ul) H H') (n : ∀ b, A0 b → b ≠ d ∧ b ≠ ul) : Ent m A0 zs d ul j H' kvs := by
  intro z v hv
  obtain ⟨l, xs, tts, e, n1, n2, hl, dx, r⟩ := h z v hv
  exact ⟨l, xs, tts, e, n1, n2, g.ext l _ (fun w => w.elim n1 n2) hl (fun _ z => by cases z), g.daAll dx fun b hb w => w.elim (n b hb).1 (n b hb).2, r⟩
def sp_law (m : Md) : Sp := fun vs H Q _ => ∃ (a : Addr) (ns : List Int), vs = [.ref a] ∧ SqL m.K H a (ns.map V.int) ∧ ns.length < 1000 ∧ Tabs m.T H ∧ ∀ H', Q (.bl true) H'
theorem f_law {m : Md} {C CT f : Addr} {fd : FuncData} (F : C8.Fun m.K "law" "law" st_law f fd) (R : RuleC m C) (E2 : RuleE m C) (hdict : m.mg "dict" = none) (hrepr : m.mg "repr" = none) (Pu : Cal m 2 "_law_purses" (sp_purses m)) (Tr : Cal m 5 "_law_terms" (sp_terms m)) (On : Cal m 3 "_law_one_of" (sp_one_of m))
    (Lt : Cal m 4 "_law_term_text" (sp_ltext m 2)) (Rt : Cal m 11 "rule_text" (sp_rule_text m C 2)) (Rr : Cal m 12 "read_rule" (sp_read_rule m C 2)) (Mk : MakX m (L2.CX m.P m.w) 9 "Rule" C (sp_rinit m C CT 5) []) (Me : MetX m C8.CX0 9 C "term" (sp_rterm m C 5) []) (Eq : MetX m C8.CX0 1 C "__eq__" (sp_req m C) []) : FnG m C8.CX0 15 f fd ps_law (sp_law m) := by
  refine fnG_of F sc_law (fun vs H Q E h => by obtain ⟨_, _, rfl, _⟩ := h; rfl) fun X vs H Q E hA hM h => ?_
  obtain ⟨a, ns, rfl, hs, hn, hT, k⟩ := h
  replace hA : At m nl_law (C8.fnScope st_law) 14 X := hA
  obtain ⟨n0, n1, n2, n3, n4, n5, n6, n7, n8⟩ := nv_law
  walk_at "B"
  refine s_forL hA (pg_nl hA n1) ?_
  refine w_call hA Pu (by omega) rfl ?_
  walk_at "V"
  refine ⟨a, ns, 2, rfl, hs, hn, by omega, by omega, fun r0 ps H1 P hl => ?_⟩
  have hrp : ∀ q ∈ ps, r0 ≠ q := fun q hq w => (List.nodup_cons.1 P.nd).1 (w ▸ hq)
  have hnd := (List.nodup_cons.1 P.nd).2
  refine ⟨r0, ps.map V.ref, rfl, P.seq, fun j (σ : L2.St) H' => σ = [some (.ref a), σ.getD 1 none, σ.getD 2 none, σ.getD 3 none, σ.getD 4 none, σ.getD 5 none, σ.getD 6 none, σ.getD 7 none, σ.getD 8 none] ∧ GrowX m.T (· ∈ ps) H1 H' ∧ ∀ q ∈ ps.drop j, Purse H' q 0, ?_, ?_, ?_, ?_⟩
  · exact ⟨rfl, GrowX.refl, fun q hq => P.purse q (by simpa using hq)⟩
  · rintro j σ H' _ ⟨_, gg, _⟩
    exact gg.seqL P.seq fun z => hrp r0 z rfl
  · rintro j x σ H' hx ⟨es, gg, hp⟩
    rw [List.getElem?_map] at hx
    obtain ⟨q, hq, rfl⟩ := Option.map_eq_some_iff.1 hx
    have hj : j < ps.length := (List.getElem?_eq_some_iff.1 hq).1
    have ed : ps.drop j = q :: ps.drop (j + 1) := by
      rw [List.drop_eq_getElem_cons hj, (List.getElem?_eq_some_iff.1 hq).2]
    have hqm := List.mem_of_getElem? hq
    have hpq := hp q (by rw [ed]; simp)
    have done : ∀ (HZ : Hp) (σ' : L2.St), σ' = [some (.ref a), σ'.getD 1 none, σ'.getD 2 none, σ'.getD 3 none, σ'.getD 4 none, σ'.getD 5 none, σ'.getD 6 none, σ'.getD 7 none, σ'.getD 8 none] → GrowX m.T (· = q) H' HZ → σ' = [some (.ref a), σ'.getD 1 none, σ'.getD 2 none, σ'.getD 3 none, σ'.getD 4 none, σ'.getD 5 none, σ'.getD 6 none, σ'.getD 7 none, σ'.getD 8 none] ∧ GrowX m.T (· ∈ ps) H1 HZ ∧ ∀ q ∈ ps.drop (j + 1), Purse HZ q 0 := by
      intro HZ σ' e g
      refine ⟨e, gg.trans (g.weak fun b z => by rw [z]; exact hqm), fun y hy => ?_⟩
      have hnd2 : (q :: ps.drop (j + 1)).Nodup := by rw [← ed]; exact hnd.sublist (List.drop_sublist _ _)
      exact (hp y (by rw [ed]; simp [hy])).x g fun z => (List.nodup_cons.1 hnd2).1 (z ▸ hy)
    have hT' : Tabs m.T H' := (P.grow.to.trans gg).tab hT
    rw [es]
    generalize σ.getD 2 none = s2
    generalize σ.getD 3 none = s3
    generalize σ.getD 4 none = s4
    generalize σ.getD 5 none = s5
    generalize σ.getD 6 none = s6
    generalize σ.getD 7 none = s7
    generalize σ.getD 8 none = s8
    clear es
    walk_at "B"
    refine s_three hA (pg_nc hA n8 hM.fn) (pg_nl hA n2) (pg_nl hA n3) ?_
    walk_at "V"
    refine g_typ hA hdict rfl bt_dict ?_
    walk_at "V"
    refine ⟨by walk_at "S", fun e5 he5 => ?_⟩
    have g4 := Grow.new (T := m.T) (o := .lst []) he5
    walk_at "V"
    refine ⟨_, call_dictP hA.calm, e5, [], [], rfl, SqL.of upd_same, .nil, fun d hd => ?_⟩
    have g5 := Grow.new (T := m.T) (o := .dK []) hd
    have gd := g4.trans g5
    have nd : New H' d := g4.keep _ hd
    show _
    rw [show mergeK ([] : List (Key × V)) [] = [] from rfl]
    have id := upd_same (H := upd H' e5 (.lst [])) (a := d) (o := .dK [])
    generalize upd (upd H' e5 (.lst [])) d (.dK []) = Hd at gd id ⊢
    walk_at "V"
    refine w_call hA Tr (by omega) rfl ?_
    walk_at "V"
    refine ⟨q, 0, rfl, hpq.new gd, by omega, fun r us ts zs Ht dr nr hr dus hzs hgt tne tl => ?_⟩
    walk_at "V"
    refine ⟨by walk_at "S", fun ul hul => ?_⟩
    have gu := Grow.new (T := m.T) (o := .lst []) hul
    have iu := upd_same (H := Ht) (a := ul) (o := .lst [])
    walk_at "V"
    refine ⟨by walk_at "S", fun pt hpt => ?_⟩
    have gp := Grow.new (T := m.T) (o := .tup [.ref d, .ref r, .ref ul]) hpt
    have ipt := upd_same (H := upd Ht ul (.lst [])) (a := pt) (o := .tup [.ref d, .ref r, .ref ul])
    have iu' := gp.extN _ _ iu (fun _ z => by cases z)
    have gup := gu.trans gp
    have hdq : d ≠ q := hpq.ne nd
    have id' := Grow.extN gup _ _ (dr.grow.ext _ _ hdq id (fun _ z => by cases z)) (fun _ z => by cases z)
    have hrq : r ≠ q := (hpq.new gd).ne nr
    have ir := Grow.extN gup _ _ hr (fun _ z => by cases z)
    have dusL := Grow.daAll gup dus
    have d0L := (Drew.pre gd dr).post gup
    have nHt : New H' ul := (Drew.pre gd dr).grow.keep _ hul
    have hdul : d ≠ ul := fun w => by
      have z := dr.grow.ext _ _ hdq id (fun _ z => by cases z)
      rw [w, hul] at z; cases z
    have hrd : r ≠ d := fun w => by have z : Hd r = none := nr; rw [w, id] at z; cases z
    have hrul : r ≠ ul := fun w => by rw [w, hul] at hr; cases hr
    have nA : ∀ b, Nw Hd Ht b → b ≠ d ∧ b ≠ ul := fun b z => ⟨fun w => (by have z1 : Hd b = none := z.1; rw [w, id] at z1; cases z1), fun w => z.2 (by rw [w]; exact hul)⟩
    have hqA : ∀ b, Nw Hd Ht b → b ≠ q := fun b z w => by have z1 : Hd b = none := z.1; obtain ⟨_, e⟩ := (hpq.new gd).at_; rw [w, e] at z1; cases z1
    generalize upd (upd Ht ul (.lst [])) pt (.tup [.ref d, .ref r, .ref ul]) = Hl at ipt iu' id' ir dusL d0L
    generalize hA0 : Nw Hd Ht = A0 at dusL nA hqA
    clear gu gp gup dus hr id hA0 iu
    refine ⟨pt, _, _, _, rfl, SqT.of ipt, ?_⟩
    have hTl : Tabs m.T Hl := d0L.grow.tab hT'
    have hul4 : us.length = ts.length := by rw [dusL.length, Tm.pys_length]
    -- the loop over the terms
    walk_at "B"
    refine s_forL hA (pg_nl hA n4) ?_
    walk_at "V"
    refine ⟨r, us, rfl, SqL.of ir, fun jj (σ : L2.St) H'' => ∃ (s4 s5 : Option V) (kvs : List (Key × V)) (tz : List Str), σ = [some (.ref a), some (.ref q), some (.ref r), some (.ref ul), s4, s5, s6, s7, some (.ref d)] ∧ GrowX m.T (fun b => b = d ∨ b = ul) Hl H'' ∧ H'' d = some (.dK kvs) ∧ kvs.length ≤ jj ∧ H'' ul = some (.lst (tz.map V.str)) ∧ tz.length ≤ jj ∧ (∀ z ∈ tz, (valV kvs (.inr z)).isSome = true) ∧ Ent m A0 zs d ul jj H'' kvs, ?_, ?_, ?_, ?_⟩
    · exact ⟨s4, s5, [], [], rfl, GrowX.refl, id', by simp, iu', by simp, by simp, fun z v hv => by rw [valV_nil] at hv; cases hv⟩
    · rintro jj σ H'' _ ⟨_, _, _, _, _, g, _⟩
      exact g.seqL (SqL.of ir) fun w => w.elim hrd hrul
    · rintro jj x σ H'' hx ⟨s4, s5, kvs, tz, rfl, g, ikd, lk, iul, ltz, hz, ent⟩
      have hjt : jj < ts.length := by rw [← hul4]; exact (List.getElem?_eq_some_iff.1 hx).1
      obtain ⟨pd, hpd, dxj⟩ := dusL.getV hx
      rw [Tm.pys_map, List.getElem?_map, List.getElem?_eq_getElem hjt] at hpd
      cases hpd
      have gt := hgt _ (List.getElem_mem hjt)
      generalize ts[jj] = t at gt dxj
      have rd := gt.rd hzs
      have tlen := gt.len hzs
      have gdt := gt.gd hzs
      have hT2 := g.tab hTl
      have dx0 := g.daAll (.cons dxj .nil) (fun b hb w => w.elim (nA b hb).1 (nA b hb).2)
      have dx : Da m.K A0 H'' x t.py := by cases dx0 with | cons z _ => exact z
      clear dx0
      walk_at "B"
      walk_at "V"
      refine w_call hA Rt (by omega) rfl ?_
      refine w_cons (w_rule hA Mk (by omega) rfl ?_)
      walk_at "V"
      refine ⟨t, 2, dx.sub fun _ _ => trivial, gdt, by omega, hT2, fun i1 H2 g2 ni1 r1 => ?_⟩
      walk_at "V"
      refine ⟨i1, t, rfl, r1.any, rd, tlen, g2.tab hT2, fun H3 g3 => ?_⟩
      have g23 := g2.trans g3
      walk_at "V"
      refine w_call hA Lt (by omega) rfl ?_
      walk_at "V"
      refine ⟨x, t, _, rfl, Grow.da g23 dx, rd, tlen, fun H4 g4 => ?_⟩
      have g24 := g23.trans g4
      walk_at "V"
      rw [show (!decide (mkS (txl t) = mkS (txl t))) = false from by simp]
      refine iteF ?_
      walk_at "V"
      refine g_blt hA hrepr rfl bt_repr ?_
      refine w_cons (w_met0 (E := C8.E0) hA Me (by omega) C8.pass0 ?_)
      refine w_call hA Rr (by omega) rfl ?_
      walk_at "V"
      refine ⟨t, rfl, tlen, rd, g24.tab hT2, fun i2 H5 g5 ni2 r2 => ?_⟩
      have g25 := g24.trans g5
      have r2' := r2
      obtain ⟨dx2, u2, hi2, _⟩ := r2'
      refine ⟨i2, dx2, _, rfl, hi2, rfl, i2, t, rfl, r2.any, g25.tab hT2, by have := rd.d; omega, rd.w, fun u H6 g6 fr => ?_⟩
      have g26 := g25.trans g6
      obtain ⟨f1, f2, f3⟩ := gt.fits hzs
      walk_at "V"
      refine g_repr hA (Da.dp _ _ fr.da) f1 f2 f3 ?_
      walk_at "V"
      refine g_blt hA hrepr rfl bt_repr ?_
      walk_at "V"
      refine g_repr hA (Da.dp _ _ (Grow.da g26 dx)) f1 f2 f3 ?_
      walk_at "V"
      rw [show (!decide (t.py.shown = t.py.shown)) = false from by simp]
      refine iteF (b_nil ?_)
      have gA := g.trans (Grow.to g26)
      have ikd6 := Grow.extN g26 _ _ ikd (fun _ z => by cases z)
      have iul6 := Grow.extN g26 _ _ iul (fun _ z => by cases z)
      have ent6 := ent.grow (Grow.to g26) nA
      have dx6 := Grow.da g26 dx
      clear g2 g3 g4 g5 g6 g23 g24 g25 r1 r2 fr hi2
      refine b_cons (s_mono (nx' := fun σ' H7 => σ' = [some (.ref a), some (.ref q), some (.ref r), some (.ref ul), some x, some (.str (mkS (txl t))), s6, s7, some (.ref d)] ∧ GrowX m.T (fun b => b = d ∨ b = ul) H6 H7 ∧ H7 d = some (.dK kvs) ∧ ∃ tz' : List Str, H7 ul = some (.lst (tz'.map V.str)) ∧ tz'.length ≤ jj + 1 ∧ ∀ z ∈ tz', (valV kvs (.inr z)).isSome = true ∨ z = mkS (txl t)) ?_ ?_)
      · walk_at "V"
        refine g_notInD hA ikd6 ?_
        walk_at "V"
        refine ite2 (fun h0 => ?_) fun h0 => ?_
        · walk_at "B"
          walk_at "V"
          refine g_append ?_
          walk_at "V"
          refine ⟨tyL iul6, ?_⟩
          walk_at "V"
          refine ⟨ul, _, _, rfl, rfl, iul6, by rw [List.length_map, sizeLine_eq]; omega, ?_⟩
          have gl := GrowX.lst (T := m.T) (ys := tz.map V.str ++ [.str (mkS (txl t))]) iul6
          refine b_nil ⟨rfl, gl.weak fun b z => .inr z, by rw [upd_ne hdul]; exact ikd6, tz ++ [mkS (txl t)], by rw [upd_same, List.map_append]; rfl, by simp; omega, fun z hz' => ?_⟩
          rcases List.mem_append.1 hz' with h | h
          · exact .inl (hz z h)
          · exact .inr (List.mem_singleton.1 h)
        · exact b_nil ⟨rfl, GrowX.refl, ikd6, tz, iul6, by omega, fun z h => .inl (hz z h)⟩
      · rintro _ H7 ⟨rfl, g7, ikd7, tz', iul7, ltz', hz'⟩
        have ent7 := ent6.grow g7 nA
        have dx7 := g7.daAll (.cons dx6 .nil) (fun b hb w => w.elim (nA b hb).1 (nA b hb).2)
        have dx7 : Da m.K A0 H7 x t.py := by cases dx7 with | cons z _ => exact z
        have gA7 := gA.trans g7
        refine b_one (s_dput hA ?_)
        walk_at "V"
        refine w_dget2 hA ?_
        walk_at "V"
        refine ⟨.inl ⟨_, .inl ikd7⟩, ?_⟩
        walk_at "V"
        refine ⟨by walk_at "S", fun e1 he1 => ?_⟩
        have g8 := Grow.new (T := m.T) (o := .lst []) he1
        have ie1 := upd_same (H := H7) (a := e1) (o := .lst [])
        have ikd8 := g8.extN _ _ ikd7 (fun _ z => by cases z)
        refine ⟨_, DGet.k (k := .inr (mkS (txl t))) ikd8, ?_⟩
        walk_at "V"
        refine ⟨by walk_at "S", fun e2 he2 => ?_⟩
        have g9 := Grow.new (T := m.T) (o := .lst [x]) he2
        have ie2 := upd_same (H := upd H7 e1 (.lst [])) (a := e2) (o := .lst [x])
        have g89 := g8.trans g9
        have ie1' := g9.extN _ _ ie1 (fun _ z => by cases z)
        have old : ∃ (l : Addr) (xs : List V) (tts : List Tm), (valV kvs (.inr (mkS (txl t)))).getD (.ref e1) = .ref l ∧ upd (upd H7 e1 (.lst [])) e2 (.lst [x]) l = some (.lst xs) ∧ DaAll m.K A0 (upd (upd H7 e1 (.lst [])) e2 (.lst [x])) xs (Tm.pys tts) ∧ tts.length ≤ jj ∧ ∀ t' ∈ tts, Gt zs t' ∧ mkS (txl t) = mkS (txl t') := by
          cases hv : valV kvs (.inr (mkS (txl t))) with
          | none => exact ⟨e1, [], [], rfl, ie1', .nil, by simp, by simp⟩
          | some v =>
            obtain ⟨l, xs, tts, rfl, _, _, hl7, dl, _, lt, ht⟩ := ent7 _ _ hv
            exact ⟨l, xs, tts, rfl, Grow.extN g89 _ _ hl7 (fun _ z => by cases z), Grow.daAll g89 dl, lt, ht⟩
        obtain ⟨l, xs, tts, el, hl9, dl, lt, ht⟩ := old
        rw [el]
        have lxs : xs.length ≤ jj := by rw [dl.length, Tm.pys_length]; exact lt
        refine g_cat hl9 ie2 (by rw [sizeLine_eq]; simp; omega) fun e3 he3 => ?_
        have g10 := Grow.new (T := m.T) (o := .lst (xs ++ [x])) he3
        have g810 := g89.trans g10
        have ikd10 := Grow.extN g810 _ _ ikd7 (fun _ z => by cases z)
        have iul10 := Grow.extN g810 _ _ iul7 (fun _ z => by cases z)
        have ent10 := ent7.grow (Grow.to g810) nA
        have dx10 := Grow.da g810 dx7
        have dl10 := Grow.daAll g10 dl
        have ie3 := upd_same (H := upd (upd H7 e1 (.lst [])) e2 (.lst [x])) (a := e3) (o := .lst (xs ++ [x]))
        have e3d : e3 ≠ d := fun w => by have z := Grow.extN g89 _ _ ikd7 (fun _ z => by cases z); rw [← w, he3] at z; cases z
        have e3u : e3 ≠ ul := fun w => by have z := Grow.extN g89 _ _ iul7 (fun _ z => by cases z); rw [← w, he3] at z; cases z
        generalize upd (upd (upd H7 e1 (.lst [])) e2 (.lst [x])) e3 (.lst (xs ++ [x])) = H10 at ikd10 iul10 ent10 dx10 dl10 ie3 g810
        walk_at "V"
        refine ⟨d, _, rfl, DPut.k (k := .inr (mkS (txl t))) ikd10 (by rw [sizeLine_eq]; omega), ?_⟩
        have gput : GrowX m.T (fun b => b = d ∨ b = ul) H10 (upd H10 d (.dK (putK kvs (.inr (mkS (txl t))) (.ref e3)))) := GrowX.set (.inl rfl) ikd10 (fun _ z => by cases z) (fun _ z => by unfold CodeO at z; cases z) (fun _ z => by cases z) (fun _ _ z => by cases z)
        have ent11 := ent10.grow gput nA
        have dxs : DaAll m.K A0 (upd H10 d (.dK (putK kvs (.inr (mkS (txl t))) (.ref e3)))) (xs ++ [x]) (Tm.pys (tts ++ [t])) := by
          rw [pys_app]
          exact gput.daAll (DaAll.append dl10 (.cons dx10 .nil)) (fun b hb w => w.elim (nA b hb).1 (nA b hb).2)
        refine ⟨_, _, _, tz', rfl, (gA7.trans (Grow.to g810)).trans gput, upd_same, Nat.le_trans (putK_len' _ _ _) (by omega), by rw [upd_ne (Ne.symm hdul)]; exact iul10, ltz', fun z hzz => ?_, fun z v hv => ?_⟩
        · rw [valV_put]
          split
          · rfl
          · rename_i c
            rcases hz' z hzz with h | h
            · exact h
            · exact absurd (by rw [h]) c
        · rw [valV_put] at hv
          split at hv
          · rename_i c
            cases hv
            have ez : z = mkS (txl t) := by injection c
            refine ⟨e3, xs ++ [x], tts ++ [t], rfl, e3d, e3u, by rw [upd_ne e3d]; exact ie3, dxs, by simp, by simp; omega, fun t' ht' => ?_⟩
            rcases List.mem_append.1 ht' with h | h
            · exact ⟨(ht t' h).1, by rw [ez]; exact (ht t' h).2⟩
            · rw [List.mem_singleton.1 h]; exact ⟨gt, ez⟩
          · obtain ⟨l', xs', tts', e', n1', n2', hl', dl', ne', lt', ht'⟩ := ent11 z v hv
            exact ⟨l', xs', tts', e', n1', n2', hl', dl', ne', by omega, ht'⟩
    rintro σ H'' ⟨s4', s5', kvs, tz, rfl, g, ikd, lk, iul, ltz, hz, ent⟩
    rw [hul4] at ltz lk ent
    walk_at "B"
    walk_at "V"
    refine w_lcLiC hA (by decide +kernel) (i := 5) ⟨rfl, rfl⟩ rfl ?_
    walk_at "V"
    refine ⟨ul, _, rfl, SqL.of iul, fun D hD => ?_⟩
    refine ⟨fun jj H4 => Grow m.T H'' H4 ∧ H4 D = some (.lst []), ⟨Grow.new hD, upd_same⟩, ?_, ?_, ?_⟩
    · rintro jj H4 _ ⟨g4, _⟩
      exact SqL.of (g4.extN _ _ iul (fun _ z => by cases z))
    · rintro jj x H4 hx ⟨g4, hd4⟩ X' hX'
      rw [List.getElem?_map] at hx
      obtain ⟨z, hzj, rfl⟩ := Option.map_eq_some_iff.1 hx
      obtain ⟨v, hv⟩ := Option.isSome_iff_exists.1 (hz z (List.mem_of_getElem? hzj))
      have c5 := nc_of hX' 5 "_law_text"
      have c8 := nc_of hX' 8 "_law_texts"
      have ikd4 := g4.extN _ _ ikd (fun _ z => by cases z)
      obtain ⟨l, xs, tts, rfl, nl1, nl2, hl4, dl4, tne', tl', all'⟩ := (ent.grow (Grow.to g4) nA) z v hv
      have hxl : xs.length = tts.length := by rw [dl4.length, Tm.pys_length]
      have one : ∀ (n : Nat) (y : V), xs[n]? = some y → ∃ t, Da m.K A0 H4 y t.py ∧ Gt zs t ∧ z = mkS (txl t) := by
        intro n y hy
        obtain ⟨pd, hpd, dy⟩ := dl4.getV hy
        have hn : n < tts.length := by rw [← hxl]; exact (List.getElem?_eq_some_iff.1 hy).1
        rw [Tm.pys_map, List.getElem?_map, List.getElem?_eq_getElem hn] at hpd
        cases hpd
        obtain ⟨h1, h2⟩ := all' _ (List.getElem_mem hn)
        exact ⟨_, dy, h1, h2⟩
      obtain ⟨y0, hy0⟩ : ∃ y0, xs[0]? = some y0 := ⟨_, List.getElem?_eq_getElem (by rw [hxl]; exact List.length_pos_iff.2 tne')⟩
      obtain ⟨t0, dy0, gt0, ez0⟩ := one 0 y0 hy0
      refine gt_cmp (w_lcLi hX' (by decide +kernel) (i := 4) ⟨rfl, rfl⟩ (w_dget hX' ?_))
      walk_at "V"
      refine ⟨d, .ref l, rfl, by have := DGet.k (k := .inr z) ikd4; rw [hv] at this; exact this, l, xs, rfl, SqL.of hl4, fun D2 hD2 => ?_⟩
      refine ⟨fun n H5 => Grow m.T H4 H5 ∧ H5 D2 = some (.lst []), ⟨Grow.new hD2, upd_same⟩, ?_, ?_, ?_⟩
      · rintro n H5 _ ⟨g5, _⟩
        exact SqL.of (g5.extN _ _ hl4 (fun _ z => by cases z))
      · rintro n y H5 hy ⟨g5, hd5⟩ X2 hX2
        have d4 := nl_of hX2 4 "_law_term"
        have d5 := nc_of hX2 5 "_law_text"
        have d8 := nc_of hX2 8 "_law_texts"
        obtain ⟨t1, dy1, gt1, ez1⟩ := one n y hy
        have et : t1 = t0 := tx_inj (gt1.rd hzs).n (gt0.rd hzs).n (by rw [← ez1, ez0])
        subst et
        refine gt_cmp ?_
        walk_at "v"
        refine g_ix (w_dget hX2 ?_)
        walk_at "V"
        refine ⟨d, .ref l, rfl, by have := DGet.k (k := .inr z) (g5.extN _ _ ikd4 (fun _ z => by cases z)); rw [hv] at this; exact this, ?_⟩
        walk_at "V"
        refine g_ixL hX2 (SqL.of (g5.extN _ _ hl4 (fun _ z => by cases z))) (i := ((0 : Nat) : Int)) (atI_at hy0) ?_
        refine g_neD hX2 (Da.dp _ _ (Grow.da g5 dy1)) (Da.dp _ _ (Grow.da g5 dy0)) (gt1.sh hzs) (gt1.sh hzs) ?_
        rw [(Tm.eqv_py _ _).2 rfl]
        exact ⟨_, rfl, iteF ⟨g5, hd5⟩⟩
      · rintro H5 ⟨g5, hd5⟩
        walk_at "V"
        refine ⟨by walk_at "S", fun e6 he6 => ?_⟩
        have g6 := Grow.new (T := m.T) (o := .lst []) he6
        refine g_neD hX' (Dp.lst (SqL.of (g6.extN _ _ hd5 (fun _ z => by cases z))) .nil) (Dp.lst (SqL.of upd_same) .nil) rfl rfl ?_
        rw [show PyData.eqv (.list []) (.list []) = true from rfl]
        exact ⟨_, rfl, iteF ⟨(g4.trans g5).trans g6, Grow.extN (g5.trans g6) _ _ hd4 (fun _ z => by cases z)⟩⟩
    rintro H4 ⟨g4, hd4⟩
    walk_at "V"
    refine ⟨by walk_at "S", fun e7 he7 => ?_⟩
    have g7 := Grow.new (T := m.T) (o := .lst []) he7
    refine g_neD hA (Dp.lst (SqL.of (g7.extN _ _ hd4 (fun _ z => by cases z))) .nil) (Dp.lst (SqL.of upd_same) .nil) rfl rfl ?_
    rw [show PyData.eqv (.list []) (.list []) = true from rfl]
    walk_at "V"
    refine iteF (b_nil ?_)
    have g47 := g4.trans g7
    have gB := g.trans (Grow.to g47)
    have ir7 := gB.ext r _ (fun w => w.elim hrd hrul) ir (fun _ z => by cases z)
    have du7 := gB.daAll dusL (fun b hb w => w.elim (nA b hb).1 (nA b hb).2)
    have qd : q ≠ d := Ne.symm hdq
    have qul : q ≠ ul := Ne.symm (hpq.ne nHt)
    have d7 : Drew m q 0 200 H' (upd H4 e7 (.lst [])) := ⟨d0L.grow.into gB fun c z => .inl (z.elim (fun w => by rw [w]; exact nd) fun w => by rw [w]; exact nHt), by simpa using (d0L.purse.x gB fun w => w.elim qd qul)⟩
    generalize upd H4 e7 (.lst []) = H7 at ir7 du7 d7 ⊢
    clear g47 gB g4 g7 hd4 ikd iul ent g
    have ulen : 0 < us.length := by rw [hul4]; exact List.length_pos_iff.2 tne
    have pick : ∀ (n : Nat) (y : V), us[n]? = some y → ∃ t, Gt zs t ∧ ∀ H8, GrowX m.T (· = q) H7 H8 → Da m.K A0 H8 y t.py := by
      intro n y hy
      obtain ⟨pd, hpd, dy⟩ := du7.getV hy
      have hn : n < ts.length := by rw [← hul4]; exact (List.getElem?_eq_some_iff.1 hy).1
      rw [Tm.pys_map, List.getElem?_map, List.getElem?_eq_getElem hn] at hpd
      cases hpd
      exact ⟨_, hgt _ (List.getElem_mem hn), fun H8 g8 => g8.da dy fun b hb w => hqA b hb w⟩
    walk_at "B"
    refine s_par hA n6 n7 ?_
    refine w_cons (w_call hA On (by omega) rfl ?_)
    walk_at "V"
    refine ⟨q, _, r, us, rfl, d7.purse, by omega, SqL.of ir7, hrq, ulen, by omega, fun j1 x1 H8 hx1 d8 => ?_⟩
    refine w_cons (w_call hA On (by omega) rfl ?_)
    walk_at "V"
    have ir8 := d8.grow.ext r _ hrq ir7 (fun _ z => by cases z)
    refine ⟨q, _, r, us, rfl, d8.purse, by omega, SqL.of ir8, hrq, ulen, by omega, fun j2 x2 H9 hx2 d9 => ?_⟩
    obtain ⟨t1, gt1, da1⟩ := pick j1 x1 hx1
    obtain ⟨t2, gt2, da2⟩ := pick j2 x2 hx2
    have dx1 := da1 H9 (d8.grow.trans d9.grow)
    have dx2 := da2 H9 (d8.grow.trans d9.grow)
    have d09 := (d7.trans d8).trans d9
    have hT9 : Tabs m.T H9 := d09.grow.tab hT'
    clear da1 da2 pick
    refine w_nil ⟨_, _, rfl, ?_⟩
    walk_at "B"
    walk_at "V"
    refine w_rule hA Mk (by omega) rfl ?_
    walk_at "V"
    refine ⟨t1, 2, dx1.sub fun _ _ => trivial, gt1.gd hzs, by omega, hT9, fun i1 Ha ga ni1 r1 => ?_⟩
    refine w_rule hA Mk (by omega) rfl ?_
    walk_at "V"
    refine ⟨t2, 2, (Grow.da ga dx2).sub fun _ _ => trivial, gt2.gd hzs, by omega, ga.tab hT9, fun i2 Hb gb ni2 r2 => ?_⟩
    refine g_eqRule hA R E2 Eq (by omega) ((r1.grow (T := m.T) gb (fun _ _ z => z) (fun z => z)).any) r2.any (gt1.sh hzs) (gt2.sh hzs) ?_
    have gab := ga.trans gb
    walk_at "V"
    refine w_call hA Rt (by omega) rfl ?_
    refine w_cons (w_rule hA Mk (by omega) rfl ?_)
    walk_at "V"
    refine ⟨t1, 2, (Grow.da gab dx1).sub fun _ _ => trivial, gt1.gd hzs, by omega, gab.tab hT9, fun i3 Hc gc ni3 r3 => ?_⟩
    have gac := gab.trans gc
    walk_at "V"
    refine ⟨i3, t1, rfl, r3.any, gt1.rd hzs, gt1.len hzs, gac.tab hT9, fun He ge => ?_⟩
    have gae := gac.trans ge
    walk_at "V"
    refine w_call hA Rt (by omega) rfl ?_
    refine w_cons (w_rule hA Mk (by omega) rfl ?_)
    walk_at "V"
    refine ⟨t2, 2, (Grow.da gae dx2).sub fun _ _ => trivial, gt2.gd hzs, by omega, gae.tab hT9, fun i4 Hf gf ni4 r4 => ?_⟩
    have gaf := gae.trans gf
    walk_at "V"
    refine ⟨i4, t2, rfl, r4.any, gt2.rd hzs, gt2.len hzs, gaf.tab hT9, fun Hg gg' => ?_⟩
    walk_at "V"
    refine g_neB ?_
    have eq2 : PyData.eqv t1.py t2.py = decide (mkS (txl t1) = mkS (txl t2)) := by
      rw [Bool.eq_iff_iff, decide_eq_true_eq, Tm.eqv_py]
      exact ⟨fun w => by rw [w], fun w => tx_inj (gt1.rd hzs).n (gt2.rd hzs).n w⟩
    rw [eq2]
    walk_at "V"
    rw [show (!decide (decide (mkS (txl t1) = mkS (txl t2)) = decide (mkS (txl t1) = mkS (txl t2)))) = false from by simp]
    refine iteF (b_nil (b_nil ?_))
    exact done _ _ rfl (d09.grow.trans (Grow.to (gaf.trans gg')))
  · rintro σ H' ⟨es, gg, _⟩
    rw [es]
    walk_at "B"
    walk_at "V"
    exact k _
/-! ### the head's facts -/
/-- a def of the top, as it stands in the written part -/
def DefF (K : PySem.W.Frag) (x : Str) (st : Stmt) : Prop := ∃ (f : Addr) (fd : FuncData), PySem.W.nsIn K mainGlobals x = some (some (.ref f)) ∧ C8.Fun K x x st f fd ∧ PySem.W.keepIn K (.ref f) = true ∧ fd.defaults = .none
theorem mk_def {K : PySem.W.Frag} {x : Str} {st : Stmt} {f : Addr} {od an : Option Addr} {oc kV doc pm cdv ct : Value} {osl : Array (Option Value)} (a : PySem.W.nsIn K mainGlobals x = some (some (.ref f)))
    (l : K.lookup f = some ⟨oc, od, .func (PySem.W.fnOf x x (C8.fnArgs st) (C8.fnBody st) (C8.fnScope st) .none kV doc pm an cdv ct), osl⟩) (c : PySem.W.codeIn K cdv x = true) (k : PySem.W.keepIn K (.ref f) = true) : DefF K x st :=
  ⟨f, _, a, ⟨⟨oc, od, .none, kV, doc, pm, an, cdv, ct, osl, rfl, l, c⟩⟩, k, rfl⟩
theorem DefF.def_ {K : PySem.W.Frag} {h : Heap} {mg : Str → Option Value} {x : Str} {st : Stmt} (D : DefF K x st) (X : K.In h) (G : h.Ns mainGlobals mg) : ∃ f fd, C8.Def K mg x st f fd ∧ fd.defaults = .none := by
  obtain ⟨f, fd, a, F, k, d⟩ := D
  exact ⟨f, fd, ⟨F, PySem.W.mg_of X G a, k⟩, d⟩
/-- a method -/
def MetF (K : PySem.W.Frag) (C : Addr) (x qual : Str) (st : Stmt) : Prop := ∃ (f : Addr) (fd : FuncData), C8.Fun K x qual st f fd ∧ Meth K C x f ∧ fd.defaults = .none
theorem mk_met {K : PySem.W.Frag} {C : Addr} {x qual : Str} {st : Stmt} {f : Addr} {od an : Option Addr} {oc kV doc pm cdv ct : Value} {osl : Array (Option Value)} (a : PySem.W.findIn K (.ref C) x = some (some (.ref f))) (i : PySem.W.isFn K (.ref f) = true)
    (l : K.lookup f = some ⟨oc, od, .func (PySem.W.fnOf x qual (C8.fnArgs st) (C8.fnBody st) (C8.fnScope st) .none kV doc pm an cdv ct), osl⟩) (c : PySem.W.codeIn K cdv qual = true) (k : PySem.W.keepIn K (.ref f) = true) : MetF K C x qual st :=
  ⟨f, _, ⟨⟨oc, od, .none, kV, doc, pm, an, cdv, ct, osl, rfl, l, c⟩⟩, ⟨a, i, k⟩, rfl⟩
/-- a def's one table -/
def TabF (K : PySem.W.Frag) (x : Str) (st : Stmt) (c P : Addr) : Prop := ∃ (f : Addr) (oc : Value) (od : Option Addr) (kV doc pm : Value) (an : Option Addr) (ct : Value) (osl : Array (Option Value)), PySem.W.nsIn K mainGlobals x = some (some (.ref f)) ∧
  K.lookup f = some ⟨oc, od, .func (PySem.W.fnOf x x (C8.fnArgs st) (C8.fnBody st) (C8.fnScope st) .none kV doc pm an (.ref c) ct), osl⟩ ∧ PySem.W.codeHdIn K c P = true ∧ K.lookup P = none
/-- the __init__ of an own error, which stores its argument -/
theorem init_ok {m : Md} {C f : Addr} {fd : FuncData} (F : FunD m.K "__init__" "InvalidTerm.__init__" (C8.fnArgs st_InvalidTerm_init) (C8.fnBody st_InvalidTerm_init) (C8.fnScope st_InvalidTerm_init) [.non] [] f fd) (O : OexC m.K C) (no : PySem.W.findIn m.K (.ref C) "value" = some none) :
    FnOk m.P m.w m.K m.mg m.base C8.CX0 1 f fd ps_InvalidTerm_init (fun vs H Q _ => ∃ (a : Addr) (v : V), vs = [.ref a, v] ∧ H a = some (exo a C none) ∧ ∀ dx, H dx = none → dx ≠ a → Q .non (upd (upd H dx (exd dx [("value", v)])) a (exo a C (some dx)))) := by
  refine F.ok sc_InvalidTerm_init (fun vs H Q E h => by obtain ⟨_, _, rfl, _⟩ := h; rfl) fun cdv A outer s H vs Q E hr h => ?_
  obtain ⟨a, v, rfl, ha, k⟩ := h
  refine ⟨_, PSs.nox (pss_one (ps_ost (pe_var (i := 0) rfl (.inl rfl) (by with_unfolding_all decide) (by with_unfolding_all decide)) (pe_var (i := 1) rfl (.inl rfl) (by with_unfolding_all decide) (by with_unfolding_all decide)))), ?_⟩
  refine ⟨v, rfl, .ref a, rfl, a, C, rfl, O, no, .inl ⟨ha, fun dx hdx hne => ?_⟩⟩
  exact k dx hdx hne
theorem init_binds {K : PySem.W.Frag} {f : Addr} {fd : FuncData} (F : FunD K "__init__" "InvalidTerm.__init__" (C8.fnArgs st_InvalidTerm_init) (C8.fnBody st_InvalidTerm_init) (C8.fnScope st_InvalidTerm_init) [.non] [] f fd) : L2.Binds K fd ps_InvalidTerm_init [] := by
  obtain ⟨ds, v, b⟩ := F.binds1 (ps := ps_InvalidTerm_init) 2 1 (by simp) rfl (fun T kV doc pm an cdv ct us its l1 l2 => by
    match us, l1, its, l2 with
    | [a, b], _, [c], _ => exact ⟨_, rfl, rfl⟩)
  cases v
  exact b
/-- the maker of the one lambda -/
def CopF (K : PySem.W.Frag) (x : Str) (st : Stmt) (c : Addr) : Prop := ∃ (f : Addr) (fd : FuncData), PySem.W.nsIn K mainGlobals x = some (some (.ref f)) ∧ C8.Fun K x x st f fd ∧ PySem.W.keepIn K (.ref f) = true ∧ fd.defaults = .none ∧ fd.code = .ref c
theorem mk_cop {K : PySem.W.Frag} {x : Str} {st : Stmt} {f c : Addr} {od an : Option Addr} {oc kV doc pm ct : Value} {osl : Array (Option Value)} (a : PySem.W.nsIn K mainGlobals x = some (some (.ref f)))
    (l : K.lookup f = some ⟨oc, od, .func (PySem.W.fnOf x x (C8.fnArgs st) (C8.fnBody st) (C8.fnScope st) .none kV doc pm an (.ref c) ct), osl⟩) (e : PySem.W.codeIn K (.ref c) x = true) (k : PySem.W.keepIn K (.ref f) = true) : CopF K x st c :=
  ⟨f, _, a, ⟨⟨oc, od, .none, kV, doc, pm, an, .ref c, ct, osl, rfl, l, e⟩⟩, k, rfl, rfl⟩
/-- the class of rules -/
structure RulF (K : PySem.W.Frag) (C : Addr) : Prop where
  gR : PySem.W.nsIn K mainGlobals "Rule" = some (some (.ref C))
  pg : PySem.W.plainGet K C Str.empty = true
  hd : PySem.W.hasDictIn K C = true
  po : PySem.W.plainOver K C = true
  sa : PySem.W.findIn K (.ref C) "__setattr__" = some (some (.builtin "object.__setattr__"))
  no : PySem.W.findIn K (.ref C) "_term" = some none
  ha : PySem.W.findIn K (.ref C) "__class__" = some (some (.builtin "object.__class__"))
  hn : PySem.W.specialIn K (.builtin "object.__class__") "__get__" = some (some (.builtin "getset_descriptor.__get__"))
  ht : PySem.W.takesIn K (.builtin "object.__class__") = some true
  hm : PySem.W.mroIn K C (.type "object") = some true
  own : PySem.W.kitOne K (.ref C) (.ref C) = some true
  oth : ∀ T ∈ ["NoneType", "bool", "int", "str", "list", "tuple", "dict"], PySem.W.kitOne K (.type T) (.ref C) = some false
  nfS : PySem.W.notFirst K C (.ref C) = true
  nfO : ∀ T ∈ ["NoneType", "bool", "int", "str", "list", "tuple", "dict"], PySem.W.notFirst K C (.type T) = true
  ne : PySem.W.findIn K (.ref C) "__ne__" = some (some (.builtin "object.__ne__"))
  mks : PySem.W.makesIn K C = true
  kc : PySem.W.keepIn K (.ref C) = true
/-- the error class -/
structure ErrF (K : PySem.W.Frag) (C : Addr) : Prop where
  gC : PySem.W.nsIn K mainGlobals "InvalidTerm" = some (some (.ref C))
  cls : ∃ nm q N bs bm sn sub ab col dd k0 k1 k2 k3 k5, K.lookup C = some (excClassObj nm q C N bs bm true sn sub ab col dd k0 k1 k2 k3 k5 "ValueError.__new__") ∧ PySem.HandSPX.refsVE bm = true
  sa : PySem.W.findIn K (.ref C) "__setattr__" = some (some (.builtin "object.__setattr__"))
  exC : PySem.W.subIn K (.ref C) (.type "BaseException") = some true
  tyC : PySem.W.typeIn K (.ref C) = some (.type "type")
  kC : PySem.W.keepIn K (.ref C) = true
  ga : PySem.W.findIn K (.ref C) "__getattribute__" = some (some (.builtin "BaseException.__getattribute__"))
  gg : PySem.W.findIn K (.ref C) "__getattr__" = some none
  hdC : PySem.W.hasDictIn K C = true
  no : PySem.W.findIn K (.ref C) "value" = some none
  self : PySem.W.exmOne K (.ref C) (.ref C) = some true
theorem mk_cls {K : PySem.W.Frag} {C N : Addr} {nm q : Str} {bs bm : List Value} {sn : List Str} {sub : List Value} {ab : Bool} {col : Option Bool} {dd : Option Addr} {k0 k1 k2 k3 k5 : Option Value} (l : K.lookup C = some (excClassObj nm q C N bs bm true sn sub ab col dd k0 k1 k2 k3 k5 "ValueError.__new__")) (r : PySem.HandSPX.refsVE bm = true) :
    ∃ nm q N bs bm sn sub ab col dd k0 k1 k2 k3 k5, K.lookup C = some (excClassObj nm q C N bs bm true sn sub ab col dd k0 k1 k2 k3 k5 "ValueError.__new__") ∧ PySem.HandSPX.refsVE bm = true := ⟨nm, q, N, bs, bm, sn, sub, ab, col, dd, k0, k1, k2, k3, k5, l, r⟩
/-- its __init__ -/
def IniF (K : PySem.W.Frag) (C : Addr) : Prop := ∃ (f : Addr) (fd : FuncData), PySem.W.findIn K (.ref C) "__init__" = some (some (.ref f)) ∧ PySem.W.typeIn K (.ref f) = some (.type "function") ∧ FunD K "__init__" "InvalidTerm.__init__" (C8.fnArgs st_InvalidTerm_init) (C8.fnBody st_InvalidTerm_init) (C8.fnScope st_InvalidTerm_init) [.non] [] f fd
theorem mk_ini {K : PySem.W.Frag} {C f T : Addr} {od an : Option Addr} {oc kV doc pm cdv ct : Value} {osl : Array (Option Value)} {oT : Option Addr} {cT : Value} {sT : Array (Option Value)} {nT : Nat} (a : PySem.W.findIn K (.ref C) "__init__" = some (some (.ref f))) (t : PySem.W.typeIn K (.ref f) = some (.type "function"))
    (l : K.lookup f = some ⟨oc, od, .func (PySem.W.fnOf "__init__" "InvalidTerm.__init__" (C8.fnArgs st_InvalidTerm_init) (C8.fnBody st_InvalidTerm_init) (C8.fnScope st_InvalidTerm_init) (.ref T) kV doc pm an cdv ct), osl⟩) (c : PySem.W.codeIn K cdv "InvalidTerm.__init__" = true)
    (lT : K.lookup T = some ⟨cT, oT, .seq #[.none] nT, sT⟩) (k : PySem.W.keepIn K (.ref f) = true) : IniF K C :=
  ⟨f, _, a, t, ⟨⟨oc, od, .ref T, kV, doc, pm, an, cdv, ct, osl, rfl, l, c, .inr ⟨by simp, T, _, [.none], nT, rfl, lT, rfl, .cons rfl .nil⟩, .inl rfl⟩, k⟩⟩
section
variable {P : Program} {w : World} {K : PySem.W.Frag} {mg : Str → Option Value} {h : Heap} {fa C CT c Pt : Addr} {tk : Tok}
theorem all_mk (X : K.In h) (G : h.Ns mainGlobals mg) (hfa : mg "law" = some (.ref fa)) (tab : h.get? Pt = some tabO) (off : K.lookup Pt = none) (chd : PySem.W.codeHdIn K c Pt = true)
    (dN : PySem.W.nsIn K mainGlobals "LONGEST_NAME" = some (some (.int 8 tk))) (dC : CopF K "copied" st_copied c) (dL : DefF K "law" st_law) (R0 : RulF K C) (E0 : ErrF K CT) (I0 : IniF K CT)
    (mI : MetF K C "__init__" "Rule.__init__" st_Rule_init) (mT : MetF K C "term" "Rule.term" st_Rule_term) (mE : MetF K C "__eq__" "Rule.__eq__" st_Rule_eq)
    (d_is_whole : DefF K "is_whole" st_is_whole) (d_is_name : DefF K "is_name" st_is_name) (d_is_term : DefF K "is_term" st_is_term) (d_x_is_term_list : DefF K "_is_term_list" st_x_is_term_list) (d_is_part : DefF K "is_part" st_is_part) (d_with_terms : DefF K "with_terms" st_with_terms) (d_rebuilt : DefF K "rebuilt" st_rebuilt) (d_need_rule : DefF K "need_rule" st_need_rule) (d_whole_in : DefF K "whole_in" st_whole_in) (d_term_in : DefF K "term_in" st_term_in) (d_x_term_at : DefF K "_term_at" st_x_term_at) (d_x_letters_at : DefF K "_letters_at" st_x_letters_at) (d_x_part_at : DefF K "_part_at" st_x_part_at) (d_x_terms_at : DefF K "_terms_at" st_x_terms_at) (d_rule_text : DefF K "rule_text" st_rule_text) (d_x_term_text : DefF K "_term_text" st_x_term_text) (d_read_rule : DefF K "read_rule" st_read_rule) (d_rule_in : DefF K "rule_in" st_rule_in) (d_purse : DefF K "_law_purse" st_purse) (d_mixed : DefF K "_law_mixed" st_mixed) (d_draw : DefF K "_law_draw" st_draw) (d_purses : DefF K "_law_purses" st_purses) (d_one_of : DefF K "_law_one_of" st_one_of) (d_shuffled : DefF K "_law_shuffled" st_shuffled) (d_word : DefF K "_law_word" st_word) (d_wait : DefF K "_law_wait" st_wait) (d_number_text : DefF K "_law_number_text" st_number_text) (d_term_text : DefF K "_law_term_text" st_term_text) (d_over : DefF K "_law_over" st_over) (d_terms : DefF K "_law_terms" st_terms)
    (z_isinstance : PySem.W.nsIn K mainGlobals "isinstance" = some none) (z_int : PySem.W.nsIn K mainGlobals "int" = some none) (z_bool : PySem.W.nsIn K mainGlobals "bool" = some none) (z_str : PySem.W.nsIn K mainGlobals "str" = some none) (z_len : PySem.W.nsIn K mainGlobals "len" = some none) (z_all : PySem.W.nsIn K mainGlobals "all" = some none) (z_tuple : PySem.W.nsIn K mainGlobals "tuple" = some none) (z_list : PySem.W.nsIn K mainGlobals "list" = some none) (z_min : PySem.W.nsIn K mainGlobals "min" = some none) (z_max : PySem.W.nsIn K mainGlobals "max" = some none) (z_sum : PySem.W.nsIn K mainGlobals "sum" = some none) (z_range : PySem.W.nsIn K mainGlobals "range" = some none) (z_repr : PySem.W.nsIn K mainGlobals "repr" = some none) (z_abs : PySem.W.nsIn K mainGlobals "abs" = some none) (z_dict : PySem.W.nsIn K mainGlobals "dict" = some none)
    : ∃ fd cs T sp, LawG P w K C8.CX0 15 63 "_law_script" mg fa h fd cs T sp := by
  obtain ⟨f_is_whole, fd_is_whole, F_is_whole, e_is_whole⟩ := d_is_whole.def_ X G
  have b_is_whole := F_is_whole.fn.binds e_is_whole (ps := ps_is_whole) fun _ _ _ _ _ _ us hl => match us, hl with | [_], _ => rfl
  obtain ⟨f_is_name, fd_is_name, F_is_name, e_is_name⟩ := d_is_name.def_ X G
  have b_is_name := F_is_name.fn.binds e_is_name (ps := ps_is_name) fun _ _ _ _ _ _ us hl => match us, hl with | [_], _ => rfl
  obtain ⟨f_is_term, fd_is_term, F_is_term, e_is_term⟩ := d_is_term.def_ X G
  have b_is_term := F_is_term.fn.binds e_is_term (ps := ps_is_term) fun _ _ _ _ _ _ us hl => match us, hl with | [_], _ => rfl
  obtain ⟨f_x_is_term_list, fd_x_is_term_list, F_x_is_term_list, e_x_is_term_list⟩ := d_x_is_term_list.def_ X G
  have b_x_is_term_list := F_x_is_term_list.fn.binds e_x_is_term_list (ps := ps_x_is_term_list) fun _ _ _ _ _ _ us hl => match us, hl with | [_], _ => rfl
  obtain ⟨f_is_part, fd_is_part, F_is_part, e_is_part⟩ := d_is_part.def_ X G
  have b_is_part := F_is_part.fn.binds e_is_part (ps := ps_is_part) fun _ _ _ _ _ _ us hl => match us, hl with | [_], _ => rfl
  obtain ⟨f_with_terms, fd_with_terms, F_with_terms, e_with_terms⟩ := d_with_terms.def_ X G
  have b_with_terms := F_with_terms.fn.binds e_with_terms (ps := ps_with_terms) fun _ _ _ _ _ _ us hl => match us, hl with | [_, _], _ => rfl
  obtain ⟨f_rebuilt, fd_rebuilt, F_rebuilt, e_rebuilt⟩ := d_rebuilt.def_ X G
  have b_rebuilt := F_rebuilt.fn.binds e_rebuilt (ps := ps_rebuilt) fun _ _ _ _ _ _ us hl => match us, hl with | [_, _], _ => rfl
  obtain ⟨f_need_rule, fd_need_rule, F_need_rule, e_need_rule⟩ := d_need_rule.def_ X G
  have b_need_rule := F_need_rule.fn.binds e_need_rule (ps := ps_need_rule) fun _ _ _ _ _ _ us hl => match us, hl with | [_], _ => rfl
  obtain ⟨f_whole_in, fd_whole_in, F_whole_in, e_whole_in⟩ := d_whole_in.def_ X G
  have b_whole_in := F_whole_in.fn.binds e_whole_in (ps := ps_whole_in) fun _ _ _ _ _ _ us hl => match us, hl with | [_], _ => rfl
  obtain ⟨f_term_in, fd_term_in, F_term_in, e_term_in⟩ := d_term_in.def_ X G
  have b_term_in := F_term_in.fn.binds e_term_in (ps := ps_term_in) fun _ _ _ _ _ _ us hl => match us, hl with | [_], _ => rfl
  obtain ⟨f_x_term_at, fd_x_term_at, F_x_term_at, e_x_term_at⟩ := d_x_term_at.def_ X G
  have b_x_term_at := F_x_term_at.fn.binds e_x_term_at (ps := ps_x_term_at) fun _ _ _ _ _ _ us hl => match us, hl with | [_, _], _ => rfl
  obtain ⟨f_x_letters_at, fd_x_letters_at, F_x_letters_at, e_x_letters_at⟩ := d_x_letters_at.def_ X G
  have b_x_letters_at := F_x_letters_at.fn.binds e_x_letters_at (ps := ps_x_letters_at) fun _ _ _ _ _ _ us hl => match us, hl with | [_, _], _ => rfl
  obtain ⟨f_x_part_at, fd_x_part_at, F_x_part_at, e_x_part_at⟩ := d_x_part_at.def_ X G
  have b_x_part_at := F_x_part_at.fn.binds e_x_part_at (ps := ps_x_part_at) fun _ _ _ _ _ _ us hl => match us, hl with | [_, _, _], _ => rfl
  obtain ⟨f_x_terms_at, fd_x_terms_at, F_x_terms_at, e_x_terms_at⟩ := d_x_terms_at.def_ X G
  have b_x_terms_at := F_x_terms_at.fn.binds e_x_terms_at (ps := ps_x_terms_at) fun _ _ _ _ _ _ us hl => match us, hl with | [_, _, _], _ => rfl
  obtain ⟨f_rule_text, fd_rule_text, F_rule_text, e_rule_text⟩ := d_rule_text.def_ X G
  have b_rule_text := F_rule_text.fn.binds e_rule_text (ps := ps_rule_text) fun _ _ _ _ _ _ us hl => match us, hl with | [_], _ => rfl
  obtain ⟨f_x_term_text, fd_x_term_text, F_x_term_text, e_x_term_text⟩ := d_x_term_text.def_ X G
  have b_x_term_text := F_x_term_text.fn.binds e_x_term_text (ps := ps_x_term_text) fun _ _ _ _ _ _ us hl => match us, hl with | [_], _ => rfl
  obtain ⟨f_read_rule, fd_read_rule, F_read_rule, e_read_rule⟩ := d_read_rule.def_ X G
  have b_read_rule := F_read_rule.fn.binds e_read_rule (ps := ps_read_rule) fun _ _ _ _ _ _ us hl => match us, hl with | [_], _ => rfl
  obtain ⟨f_rule_in, fd_rule_in, F_rule_in, e_rule_in⟩ := d_rule_in.def_ X G
  have b_rule_in := F_rule_in.fn.binds e_rule_in (ps := ps_rule_in) fun _ _ _ _ _ _ us hl => match us, hl with | [_], _ => rfl
  obtain ⟨f_purse, fd_purse, F_purse, e_purse⟩ := d_purse.def_ X G
  have b_purse := F_purse.fn.binds e_purse (ps := ps_purse) fun _ _ _ _ _ _ us hl => match us, hl with | [_, _], _ => rfl
  obtain ⟨f_mixed, fd_mixed, F_mixed, e_mixed⟩ := d_mixed.def_ X G
  have b_mixed := F_mixed.fn.binds e_mixed (ps := ps_mixed) fun _ _ _ _ _ _ us hl => match us, hl with | [_, _, _], _ => rfl
  obtain ⟨f_draw, fd_draw, F_draw, e_draw⟩ := d_draw.def_ X G
  have b_draw := F_draw.fn.binds e_draw (ps := ps_draw) fun _ _ _ _ _ _ us hl => match us, hl with | [_, _], _ => rfl
  obtain ⟨f_purses, fd_purses, F_purses, e_purses⟩ := d_purses.def_ X G
  have b_purses := F_purses.fn.binds e_purses (ps := ps_purses) fun _ _ _ _ _ _ us hl => match us, hl with | [_, _], _ => rfl
  obtain ⟨f_one_of, fd_one_of, F_one_of, e_one_of⟩ := d_one_of.def_ X G
  have b_one_of := F_one_of.fn.binds e_one_of (ps := ps_one_of) fun _ _ _ _ _ _ us hl => match us, hl with | [_, _], _ => rfl
  obtain ⟨f_shuffled, fd_shuffled, F_shuffled, e_shuffled⟩ := d_shuffled.def_ X G
  have b_shuffled := F_shuffled.fn.binds e_shuffled (ps := ps_shuffled) fun _ _ _ _ _ _ us hl => match us, hl with | [_, _], _ => rfl
  obtain ⟨f_word, fd_word, F_word, e_word⟩ := d_word.def_ X G
  have b_word := F_word.fn.binds e_word (ps := ps_word) fun _ _ _ _ _ _ us hl => match us, hl with | [_], _ => rfl
  obtain ⟨f_wait, fd_wait, F_wait, e_wait⟩ := d_wait.def_ X G
  have b_wait := F_wait.fn.binds e_wait (ps := ps_wait) fun _ _ _ _ _ _ us hl => match us, hl with | [_], _ => rfl
  obtain ⟨f_number_text, fd_number_text, F_number_text, e_number_text⟩ := d_number_text.def_ X G
  have b_number_text := F_number_text.fn.binds e_number_text (ps := ps_number_text) fun _ _ _ _ _ _ us hl => match us, hl with | [_], _ => rfl
  obtain ⟨f_term_text, fd_term_text, F_term_text, e_term_text⟩ := d_term_text.def_ X G
  have b_term_text := F_term_text.fn.binds e_term_text (ps := ps_term_text) fun _ _ _ _ _ _ us hl => match us, hl with | [_], _ => rfl
  obtain ⟨f_over, fd_over, F_over, e_over⟩ := d_over.def_ X G
  have b_over := F_over.fn.binds e_over (ps := ps_over) fun _ _ _ _ _ _ us hl => match us, hl with | [_], _ => rfl
  obtain ⟨f_terms, fd_terms, F_terms, e_terms⟩ := d_terms.def_ X G
  have b_terms := F_terms.fn.binds e_terms (ps := ps_terms) fun _ _ _ _ _ _ us hl => match us, hl with | [_], _ => rfl
  obtain ⟨f_law, fd_law, F_law, e_law⟩ := dL.def_ X G
  obtain ⟨f_c, fd_c, a_c, F_c, k_c, e_c, code_c⟩ := dC
  have D_c : C8.Def K mg "copied" st_copied f_c fd_c := ⟨F_c, PySem.W.mg_of X G a_c, k_c⟩
  have b_c := F_c.binds e_c (ps := ps_copied) fun _ _ _ _ _ _ us hl => match us, hl with | [_], _ => rfl
  obtain ⟨f_I, fd_I, F_I, M_I, e_I⟩ := mI
  have b_I := F_I.binds e_I (ps := ps_Rule_init) fun _ _ _ _ _ _ us hl => match us, hl with | [_, _], _ => rfl
  obtain ⟨f_T, fd_T, F_T, M_T, e_T⟩ := mT
  have b_T := F_T.binds e_T (ps := ps_Rule_term) fun _ _ _ _ _ _ us hl => match us, hl with | [_], _ => rfl
  obtain ⟨f_E, fd_E, F_E, M_E, e_E⟩ := mE
  have b_E := F_E.binds e_E (ps := ps_Rule_eq) fun _ _ _ _ _ _ us hl => match us, hl with | [_, _], _ => rfl
  obtain ⟨f_ini, fd_ini, a_ini, t_ini, F_ini⟩ := I0
  have n_isinstance := PySem.W.mg_none_of X G z_isinstance
  have n_int := PySem.W.mg_none_of X G z_int
  have n_bool := PySem.W.mg_none_of X G z_bool
  have n_str := PySem.W.mg_none_of X G z_str
  have n_len := PySem.W.mg_none_of X G z_len
  have n_all := PySem.W.mg_none_of X G z_all
  have n_tuple := PySem.W.mg_none_of X G z_tuple
  have n_list := PySem.W.mg_none_of X G z_list
  have n_min := PySem.W.mg_none_of X G z_min
  have n_max := PySem.W.mg_none_of X G z_max
  have n_sum := PySem.W.mg_none_of X G z_sum
  have n_range := PySem.W.mg_none_of X G z_range
  have n_repr := PySem.W.mg_none_of X G z_repr
  have n_abs := PySem.W.mg_none_of X G z_abs
  have n_dict := PySem.W.mg_none_of X G z_dict
  have n_LONG := PySem.W.mg_of X G dN
  have e := hfa.symm.trans F_law.mgf
  cases e
  have lam : Str := "copied" ++ ".<locals>." ++ "<lambda>"
  refine ⟨fd_law, [(c, Pt)], [(Pt, (("copied" : Str) ++ ".<locals>." ++ "<lambda>"))], sp_law ⟨P, w, K, mg, h, [(Pt, (("copied" : Str) ++ ".<locals>." ++ "<lambda>"))]⟩, ?_⟩
  refine ⟨fun p hp => ?_, fun p hp => ?_, fun p hp => ?_, ?_, ?_, ?_⟩
  · rw [List.mem_singleton.1 hp]; exact tab
  · rw [List.mem_singleton.1 hp]; exact off
  · rw [List.mem_singleton.1 hp]; exact PySem.W.codeHd_of_K X chd
  · intro s u
    obtain ⟨oc, od, dV, kV, doc, pm, an, cdv, ct, osl, hfd, lk, hcd⟩ := F_law.fn.ex
    have e0 : dV = .none := by have := e_law; rw [hfd] at this; exact this
    subst e0
    subst hfd
    exact .of_eq rfl
  · intro H a ns hl _ hH hS
    refine ⟨a, ns, rfl, hS, by omega, fun p hp => ?_, fun _ => rfl⟩
    rw [List.mem_singleton.1 hp]
    exact TabS.nil (hH (c, Pt) (by simp))
  · intro base GB XB TB
    obtain ⟨m, hm⟩ : ∃ m : Md, m = ⟨P, w, K, mg, base, [(Pt, (("copied" : Str) ++ ".<locals>." ++ "<lambda>"))]⟩ := ⟨_, rfl⟩
    rw [← hm]
    have hK : m.K = K := by rw [hm]
    have hg : m.mg = mg := by rw [hm]
    have hb : m.base = base := by rw [hm]
    have hTT : m.T = [(Pt, (("copied" : Str) ++ ".<locals>." ++ "<lambda>"))] := by rw [hm]
    clear hm
    subst hK hg hb
    have R : RuleC m C := ⟨⟨R0.pg, R0.hd, R0.po, R0.sa⟩, R0.no, PySem.W.mg_of X G R0.gR, R0.ha, R0.hn, R0.ht, R0.hm, R0.own, R0.oth⟩
    have E2 : RuleE m C := ⟨R0.nfS, R0.nfO, R0.ne⟩
    have Er : ErrC m "InvalidTerm" CT "value" := ⟨⟨E0.cls, E0.sa, E0.exC, E0.tyC, E0.kC⟩, ⟨E0.ga, E0.gg, E0.exC, E0.hdC⟩, E0.no, PySem.W.mg_of X G E0.gC, E0.self, f_ini, fd_ini, ps_InvalidTerm_init, a_ini, t_ini, init_binds F_ini, init_ok F_ini ⟨E0.cls, E0.sa, E0.exC, E0.tyC, E0.kC⟩ E0.no⟩
    have c1 := c_is_whole F_is_whole b_is_whole n_isinstance n_int n_bool
    have c2 := c_is_name F_is_name b_is_name n_isinstance n_str n_len n_all n_LONG
    have c3 := (c_is_term F_is_term b_is_term F_x_is_term_list b_x_is_term_list n_isinstance n_tuple n_list n_len n_all c2 c1 5).1
    have c4 := c_is_part F_is_part b_is_part
    have c5 := c_with_terms F_with_terms b_with_terms n_min n_len
    have c6 := c_rebuilt F_rebuilt b_rebuilt 1 (by omega) c4 c5 5
    have c7 := c_copied D_c b_c ⟨c, Pt, code_c, TB (c, Pt) (by simp), by rw [hTT]; simp, fun p hp _ => by rw [hTT] at hp; rw [List.mem_singleton.1 hp]⟩ 5 c6
    have mT := m_term R F_T b_T M_T 5 c7
    have mE := m_eq R F_E b_E M_E n_isinstance
    have mI := f_rinit R F_I 5 c3 c7 Er
    have MK : MakX m (L2.CX m.P m.w) 9 "Rule" C (sp_rinit m C CT 5) [] := ⟨f_I, fd_I, ps_Rule_init, [], mI, ⟨R0.mks, M_I.at_, M_I.fn, R0.kc⟩, PySem.W.mg_of X G R0.gR, b_I, .nil⟩
    have l1 := c_mixed F_mixed b_mixed
    have l2 := c_draw F_draw b_draw n_range l1
    have l3 := c_purse F_purse b_purse n_sum n_max
    have l4 := c_purses F_purses b_purses n_range n_max n_min n_len l3
    have l5 := c_one_of F_one_of b_one_of n_len l2
    have l6 := c_shuffled F_shuffled b_shuffled n_len l2
    have l7 := c_word F_word b_word n_range l2
    have l8 := c_wait F_wait b_wait l2 l5
    have l9 := c_num F_number_text b_number_text n_abs
    have l10 := c_ltext F_term_text b_term_text l9 2
    have l11 := c_over F_over b_over n_range n_len
    have l12 := c_terms F_terms b_terms n_list l7 l6 l8 l11
    have t1 := c_letters F_x_letters_at b_x_letters_at n_len
    have t2 := c_whole_in F_whole_in b_whole_in n_int
    have t3 := c_part_at F_x_part_at b_x_part_at n_len t2
    have t4 := c_term_at F_x_term_at b_x_term_at F_x_terms_at b_x_terms_at n_len t1 t3 2
    have t5 := c_term_in F_term_in b_term_in n_len 2 t4
    have t6 := c_rule_in F_rule_in b_rule_in 2 5 10 (by omega) (by omega) (by omega) t5 c3 MK
    have t7 := c_term_text F_x_term_text b_x_term_text c4 2
    have t8 := c_need_rule R F_need_rule b_need_rule n_isinstance
    have t9 := c_rule_text F_rule_text b_rule_text 2 5 10 (by omega) (by omega) t8 t7 mT
    have t10 := c_read_rule F_read_rule b_read_rule 2 11 n_isinstance n_str t6 t9
    refine (f_law F_law.fn R E2 n_dict n_repr l4 l12 l5 l10 t9 t10 MK mT mE).imp fun vs H Q E z => ?_
    obtain ⟨a, ns, e, hs, hn, hT, k⟩ := z
    exact ⟨a, ns, e, hs, hn, by rw [hTT]; exact hT, k⟩
end
end Vf
open PySem PySem.W PyProof.Rows
set_option maxRecDepth 100000 in
set_option maxHeartbeats 0 in
theorem PySem.Challenge.cw_leafwaits_k94_whole_texts_of_all_small_t_holds : PySem.Challenge.rw_leafwaits_k94_whole_texts_of_all_small_t.Holds := by
  w_on; o_law; k_head; (case hw => w_witness2)
  k_fill
  refine Vf.walkG (l := PySem.Challenge.rw_leafwaits_k94_whole_texts_of_all_small_t) (n := 63) (k := 15) (x := "_law_script") (CX := fun _ => C8.CX0) rfl (by decide) rfl ⟨rfl, by decide, by decide⟩ (fun w h Y => PySem.W.km_in_of Y) ?F (fun _ _ _ _ _ z => z)
  case F =>
    intro w mg fa h Y KX G hmg
    refine' Vf.all_mk KX G hmg ?tab ?off ?chd ?dN ?dC ?dL ?R0 ?E0 ?I0 ?mI ?mT ?mE ?d_is_whole ?d_is_name ?d_is_term ?d_x_is_term_list ?d_is_part ?d_with_terms ?d_rebuilt ?d_need_rule ?d_whole_in ?d_term_in ?d_x_term_at ?d_x_letters_at ?d_x_part_at ?d_x_terms_at ?d_rule_text ?d_x_term_text ?d_read_rule ?d_rule_in ?d_purse ?d_mixed ?d_draw ?d_purses ?d_one_of ?d_shuffled ?d_word ?d_wait ?d_number_text ?d_term_text ?d_over ?d_terms ?z_isinstance ?z_int ?z_bool ?z_str ?z_len ?z_all ?z_tuple ?z_list ?z_min ?z_max ?z_sum ?z_range ?z_repr ?z_abs ?z_dict
    (case dC => (refine' Vf.mk_cop ?a ?l ?c ?k; (case a => k_is); (case l => k_is); (case c => k_is); (case k => k_is)))
    (case tab => exact PySem.W.km_tabs_of Y _ List.mem_cons_self)
    (case off => kernel_rfl)
    (case chd => kernel_rfl)
    (case dN => k_is)
    (case dL => (refine' Vf.mk_def ?a ?l ?c ?k; (case a => k_is); (case l => k_is); (case c => k_is); (case k => k_is)))
    (case R0 =>
      refine' ⟨?gR, ?pg, ?hd, ?po, ?sa, ?no, ?ha, ?hn, ?ht, ?hm, ?own, ?oth, ?nfS, ?nfO, ?ne, ?mks, ?kc⟩
      (case gR => k_is); (case pg => k_is); (case hd => k_is); (case po => k_is); (case sa => k_is); (case no => k_is); (case ha => k_is); (case hn => k_is); (case ht => k_is); (case hm => k_is)
      (case own => first | k_is | kernel_rfl)
      (case oth => intro T hT; simp only [List.mem_cons, List.not_mem_nil, or_false] at hT; rcases hT with rfl | rfl | rfl | rfl | rfl | rfl | rfl <;> first | k_is | kernel_rfl)
      (case nfS => k_is)
      (case nfO => intro T hT; simp only [List.mem_cons, List.not_mem_nil, or_false] at hT; rcases hT with rfl | rfl | rfl | rfl | rfl | rfl | rfl <;> k_is)
      (case ne => k_is); (case mks => k_is); (case kc => k_is))
    (case E0 =>
      refine' ⟨?gC, ?cls, ?sa, ?exC, ?tyC, ?kC, ?ga, ?gg, ?hdC, ?no, ?self⟩
      (case gC => k_is)
      (case cls => (refine' Vf.mk_cls ?l ?r; (case l => k_is); (case r => rfl)))
      (case sa => k_is); (case exC => k_is); (case tyC => k_is); (case kC => k_is); (case ga => k_is); (case gg => k_is); (case hdC => k_is); (case no => k_is)
      (case self => first | k_is | kernel_rfl))
    (case I0 => (refine' Vf.mk_ini ?a ?t ?l ?c ?lT ?k; (case a => k_is); (case t => k_is); (case l => k_is); (case c => k_is); (case lT => k_is); (case k => k_is)))
    (case mI => (refine' Vf.mk_met ?a ?i ?l ?c ?k; (case a => k_is); (case i => k_is); (case l => k_is); (case c => k_is); (case k => k_is)))
    (case mT => (refine' Vf.mk_met ?a ?i ?l ?c ?k; (case a => k_is); (case i => k_is); (case l => k_is); (case c => k_is); (case k => k_is)))
    (case mE => (refine' Vf.mk_met ?a ?i ?l ?c ?k; (case a => k_is); (case i => k_is); (case l => k_is); (case c => k_is); (case k => k_is)))
    (case d_is_whole => (refine' Vf.mk_def ?a ?l ?c ?k; (case a => k_is); (case l => k_is); (case c => k_is); (case k => k_is)))
    (case d_is_name => (refine' Vf.mk_def ?a ?l ?c ?k; (case a => k_is); (case l => k_is); (case c => k_is); (case k => k_is)))
    (case d_is_term => (refine' Vf.mk_def ?a ?l ?c ?k; (case a => k_is); (case l => k_is); (case c => k_is); (case k => k_is)))
    (case d_x_is_term_list => (refine' Vf.mk_def ?a ?l ?c ?k; (case a => k_is); (case l => k_is); (case c => k_is); (case k => k_is)))
    (case d_is_part => (refine' Vf.mk_def ?a ?l ?c ?k; (case a => k_is); (case l => k_is); (case c => k_is); (case k => k_is)))
    (case d_with_terms => (refine' Vf.mk_def ?a ?l ?c ?k; (case a => k_is); (case l => k_is); (case c => k_is); (case k => k_is)))
    (case d_rebuilt => (refine' Vf.mk_def ?a ?l ?c ?k; (case a => k_is); (case l => k_is); (case c => k_is); (case k => k_is)))
    (case d_need_rule => (refine' Vf.mk_def ?a ?l ?c ?k; (case a => k_is); (case l => k_is); (case c => k_is); (case k => k_is)))
    (case d_whole_in => (refine' Vf.mk_def ?a ?l ?c ?k; (case a => k_is); (case l => k_is); (case c => k_is); (case k => k_is)))
    (case d_term_in => (refine' Vf.mk_def ?a ?l ?c ?k; (case a => k_is); (case l => k_is); (case c => k_is); (case k => k_is)))
    (case d_x_term_at => (refine' Vf.mk_def ?a ?l ?c ?k; (case a => k_is); (case l => k_is); (case c => k_is); (case k => k_is)))
    (case d_x_letters_at => (refine' Vf.mk_def ?a ?l ?c ?k; (case a => k_is); (case l => k_is); (case c => k_is); (case k => k_is)))
    (case d_x_part_at => (refine' Vf.mk_def ?a ?l ?c ?k; (case a => k_is); (case l => k_is); (case c => k_is); (case k => k_is)))
    (case d_x_terms_at => (refine' Vf.mk_def ?a ?l ?c ?k; (case a => k_is); (case l => k_is); (case c => k_is); (case k => k_is)))
    (case d_rule_text => (refine' Vf.mk_def ?a ?l ?c ?k; (case a => k_is); (case l => k_is); (case c => k_is); (case k => k_is)))
    (case d_x_term_text => (refine' Vf.mk_def ?a ?l ?c ?k; (case a => k_is); (case l => k_is); (case c => k_is); (case k => k_is)))
    (case d_read_rule => (refine' Vf.mk_def ?a ?l ?c ?k; (case a => k_is); (case l => k_is); (case c => k_is); (case k => k_is)))
    (case d_rule_in => (refine' Vf.mk_def ?a ?l ?c ?k; (case a => k_is); (case l => k_is); (case c => k_is); (case k => k_is)))
    (case d_purse => (refine' Vf.mk_def ?a ?l ?c ?k; (case a => k_is); (case l => k_is); (case c => k_is); (case k => k_is)))
    (case d_mixed => (refine' Vf.mk_def ?a ?l ?c ?k; (case a => k_is); (case l => k_is); (case c => k_is); (case k => k_is)))
    (case d_draw => (refine' Vf.mk_def ?a ?l ?c ?k; (case a => k_is); (case l => k_is); (case c => k_is); (case k => k_is)))
    (case d_purses => (refine' Vf.mk_def ?a ?l ?c ?k; (case a => k_is); (case l => k_is); (case c => k_is); (case k => k_is)))
    (case d_one_of => (refine' Vf.mk_def ?a ?l ?c ?k; (case a => k_is); (case l => k_is); (case c => k_is); (case k => k_is)))
    (case d_shuffled => (refine' Vf.mk_def ?a ?l ?c ?k; (case a => k_is); (case l => k_is); (case c => k_is); (case k => k_is)))
    (case d_word => (refine' Vf.mk_def ?a ?l ?c ?k; (case a => k_is); (case l => k_is); (case c => k_is); (case k => k_is)))
    (case d_wait => (refine' Vf.mk_def ?a ?l ?c ?k; (case a => k_is); (case l => k_is); (case c => k_is); (case k => k_is)))
    (case d_number_text => (refine' Vf.mk_def ?a ?l ?c ?k; (case a => k_is); (case l => k_is); (case c => k_is); (case k => k_is)))
    (case d_term_text => (refine' Vf.mk_def ?a ?l ?c ?k; (case a => k_is); (case l => k_is); (case c => k_is); (case k => k_is)))
    (case d_over => (refine' Vf.mk_def ?a ?l ?c ?k; (case a => k_is); (case l => k_is); (case c => k_is); (case k => k_is)))
    (case d_terms => (refine' Vf.mk_def ?a ?l ?c ?k; (case a => k_is); (case l => k_is); (case c => k_is); (case k => k_is)))
    (case z_isinstance => k_is)
    (case z_int => k_is)
    (case z_bool => k_is)
    (case z_str => k_is)
    (case z_len => k_is)
    (case z_all => k_is)
    (case z_tuple => k_is)
    (case z_list => k_is)
    (case z_min => k_is)
    (case z_max => k_is)
    (case z_sum => k_is)
    (case z_range => k_is)
    (case z_repr => k_is)
    (case z_abs => k_is)
    (case z_dict => k_is)
