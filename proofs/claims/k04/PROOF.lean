import PyProof.Rows.All
import Wide.All
import OpenK.AllK
import Wide.FinOn
import HandS.ForMost
import HandS.ForExc
import HandS.Codes
import HandS.Wide
import HandS.WideBits
import HandS.Deep
import HandS.More
import HandS.Flow
import HandS.Lambda
import HandS.Nested
import HandS.EndTab
import PyProof.Rows.RegFStrParts
import HandS.OwnEq
import HandS.IsInst
import HandS.ExcInit
import HandS.ExcField
import HandS.Walk
import HandS.Text
import PyProof.EqKinds
import HandS.Zip
import HandS.Style
import HandS.Property
import HandS.SetFor
import HandS.Strs
import HandS.SetTxt0
import HandS.TupSets
import PyProof.Rows.SortShellAny
import HandS.SortInts
import PyProof.Rows.StrMeet
import HandS.DeepEq
import HandS.Defaults
import HandS.TupAny
import PySem.Challenge.RW_leafwaits_k04_whole_rules_turned_about_a
set_option Elab.async false
set_option linter.all false
set_option maxRecDepth 100000
set_option maxHeartbeats 4000000
set_option maxRecDepth 100000
set_option maxHeartbeats 4000000
/-! Core: the layer's judgements as weakest preconditions over the syntax. Own work. -/
namespace Vf
open PySem PySem.Spec PyProof.Rows L2

/-! ### canonical readings -/
@[irreducible] def wE (X : Cx) (e : Expr) : TE := fun σ H Q => ∀ (pins : List (Addr × Obj)) (s : Shared), Inv X pins σ H s → wpAny (model X.prog X.w) X.A (eval e X.env) (EP X pins σ Q) X.xe s
@[irreducible] def wT (X : Cx) (e : Expr) : TT := fun σ H Q => ∀ (pins : List (Addr × Obj)) (s : Shared), Inv X pins σ H s → wpAny (model X.prog X.w) X.A (isTrue e X.env (eval e X.env)) (TP X pins σ Q) X.xe s
@[irreducible] def wW (X : Cx) (e : Expr) : TT := fun σ H Q => ∀ (whole : Sem Value) (pins : List (Addr × Obj)) (s : Shared), Inv X pins σ H s → wpAny (model X.prog X.w) X.A (isTrue e X.env whole) (TP X pins σ Q) X.xe s
@[irreducible] def wA (X : Cx) (es : List Expr) : TA := fun σ H Q => ∀ (pos : Pos) (pins : List (Addr × Obj)) (s : Shared), Inv X pins σ H s → wpAny (model X.prog X.w) X.A (spliced (backTo pos (starEach es X.env))) (AP X pins σ Q) X.xe s
@[irreducible] def wS (X : Cx) (st : Stmt) : TS := fun D σ H => ∀ (pins : List (Addr × Obj)) (s : Shared), Inv X pins σ H s → wpAny (model X.prog X.w) X.A (exec st X.env) (SP X pins D) X.xe s
@[irreducible] def wB (X : Cx) (st : List Stmt) : TS := fun D σ H => ∀ (pins : List (Addr × Obj)) (s : Shared), Inv X pins σ H s → wpAny (model X.prog X.w) X.A (execs st X.env) (SP X pins D) X.xe s
section
variable {X : Cx} {e a b c : Expr} {es : List Expr} {st : Stmt} {sts : List Stmt} {t : TE} {σ : L2.St} {H : Hp} {Q : VK} {D : Ends}
theorem cE : PE X e (wE X e) := ⟨fun pins s _ _ _ I h => by unfold wE at h; exact h pins s I⟩
theorem cT : PT X e (wT X e) := ⟨fun pins s _ _ _ I h => by unfold wT at h; exact h pins s I⟩
theorem cW : PW X e (wW X e) := ⟨fun wh pins s _ _ _ I h => by unfold wW at h; exact h wh pins s I⟩
theorem cA : PA X es (wA X es) := ⟨fun pos pins s _ _ _ I h => by unfold wA at h; exact h pos pins s I⟩
theorem cS : PS X st (wS X st) := ⟨fun pins s _ _ _ I h => by unfold wS at h; exact h pins s I⟩
theorem cB : PSs X sts (wB X sts) := ⟨fun pins s _ _ _ I h => by unfold wB at h; exact h pins s I⟩
theorem toE (h : PE X e t) (q : t σ H Q) : wE X e σ H Q := by unfold wE; exact fun pins s I => h.run pins s σ H Q I q
theorem toT {t : TT} {Q : Bool → Hp → Prop} (h : PT X e t) (q : t σ H Q) : wT X e σ H Q := by unfold wT; exact fun pins s I => h.run pins s σ H Q I q
theorem toW {t : TT} {Q : Bool → Hp → Prop} (h : PW X e t) (q : t σ H Q) : wW X e σ H Q := by unfold wW; exact fun wh pins s I => h.run wh pins s σ H Q I q
theorem toA {t : TA} {Q : List V → Hp → Prop} (h : PA X es t) (q : t σ H Q) : wA X es σ H Q := by unfold wA; exact fun pos pins s I => h.run pos pins s σ H Q I q
theorem toS {t : TS} (h : PS X st t) (q : t D σ H) : wS X st D σ H := by unfold wS; exact fun pins s I => h.run pins s σ H D I q
theorem toB {t : TS} (h : PSs X sts t) (q : t D σ H) : wB X sts D σ H := by unfold wB; exact fun pins s I => h.run pins s σ H D I q
theorem wE.mono {Q' : VK} (h : wE X e σ H Q) (k : ∀ v H', Q v H' → Q' v H') : wE X e σ H Q' := by
  unfold wE at h ⊢
  exact fun pins s I => thn (h pins s I) fun _ _ ⟨v, H', I', r, q⟩ => ⟨v, H', I', r, k v H' q⟩
end

/-! ### the module: program, world, written part, globals, base -/
structure Md where
  P : Program
  w : World
  K : PySem.W.Frag
  mg : Str → Option Value
  base : Heap
  /-- the tables of code objects (a lambda is looked up in its maker's), each with the one name that it tells -/
  T : List (Addr × Str)
/-- a def that keeps a promise where nothing is being shown (no repr under way): what is asked of it at one place is known of all -/
structure FnG (m : Md) (CX : CXT) (k : Nat) (f : Addr) (fd : FuncData) (ps : List Str) (sp : Sp) : Prop where
  len : ∀ vs H Q E, sp vs H Q E → vs.length = ps.length
  run : ∀ (A : Around) (outer : List Env) (s : Shared) (H : Hp) (args : Args) (us : List Value) (vs : List V) (Q : VK) (E : XK), A.guards = some [] → Room k A → Env0 m.P m.w m.K m.mg m.base A outer s H →
    BindsTo s fd args (ps.zip us) → Vals vs us → sp vs H Q E → codeAny (model m.P m.w) A (.call (.ref f) args) (CR CX outer m.P m.w H s Q E) s
theorem FnG.mono {m : Md} {CX : CXT} {j k : Nat} {f : Addr} {fd : FuncData} {ps : List Str} {sp : Sp} (F : FnG m CX j f fd ps sp) (h : j ≤ k) : FnG m CX k f fd ps sp := ⟨F.len, fun A outer s H args us vs Q E hg hr => F.run A outer s H args us vs Q E hg (hr.mono h)⟩
theorem FnG.imp {m : Md} {CX : CXT} {k : Nat} {f : Addr} {fd : FuncData} {ps : List Str} {sp sp' : Sp} (F : FnG m CX k f fd ps sp) (h : ∀ vs H Q E, sp' vs H Q E → sp vs H Q E) : FnG m CX k f fd ps sp' :=
  ⟨fun vs H Q E q => F.len vs H Q E (h _ _ _ _ q), fun A outer s H args us vs Q E hg hr he hb hv hs => F.run A outer s H args us vs Q E hg hr he hb hv (h _ _ _ _ hs)⟩
/-- X is a place in a def of the module m: names N, scope sc, room for k calls -/
structure At (m : Md) (N : List Str) (sc : Scope) (k : Nat) (X : Cx) : Prop where
  pp : X.prog = m.P
  ww : X.w = m.w
  kk : X.K = m.K
  mm : X.mg = m.mg
  bb : X.base = m.base
  nn : X.N = N
  ss : X.env.scope = sc
  calm : X.calm = true
  room : Room k X.A
  pass : PassesOwn (model X.prog X.w) X.A X.env X.xe
  nd : N.Nodup
  gd : X.A.guards = some []
section
variable {m : Md} {N : List Str} {sc : Scope} {k : Nat} {X : Cx} (h : At m N sc k X)
include h
theorem At.hu : X.A.units + 1 < cLine := hu_of h.room
end

def visB (sc : Scope) (x : Str) : Bool := match sc.names.lookup x with
  | some .local => true | some .cell => true | some .free => true | _ => false
theorem vis_of {sc : Scope} {x : Str} (h : visB sc x = true) : Vis sc x := by
  unfold visB at h
  unfold Vis
  split at h
  · next e => exact .inl e
  · next e => exact .inr (.inl e)
  · next e => exact .inr (.inr e)
  · cases h
section
variable {m : Md} {N : List Str} {sc : Scope} {k : Nat} {X : Cx} {a b c e : Expr} {es : List Expr} {σ : L2.St} {H : Hp} {Q : VK} {QB : Bool → Hp → Prop} {D : Ends} {pos p p1 p2 : Pos} {x y : Str} {i j : Nat} {v : V}
theorem At.gl (h : At m N sc k X) (e : sc.names.lookup x = some .globalImplicit) : Gl X x := by
  unfold Gl Env.kindOf
  rw [h.ss]
  exact e
theorem At.vis (h : At m N sc k X) (e : visB sc x = true) : Vis X.env.scope x := by rw [h.ss]; exact vis_of e

/-- the i-th name is x, a plain local of the scope; a local that others capture; one captured from outside -/
structure NL (N : List Str) (sc : Scope) (i : Nat) (x : Str) : Prop where
  ix : N[i]? = some x
  loc : sc.names.lookup x = some .local
structure NC (N : List Str) (sc : Scope) (i : Nat) (x : Str) : Prop where
  ix : N[i]? = some x
  cel : sc.names.lookup x = some .cell
structure NFr (N : List Str) (sc : Scope) (i : Nat) (x : Str) : Prop where
  ix : N[i]? = some x
  fre : sc.names.lookup x = some .free
/-! ### expressions -/
theorem w_var (h : At m N sc k X) (i : Nat) (hN : N[i]? = some x) (hv : visB sc x = true) (hs : σ[i]? = some (some v)) (q : Q v H) (hd : (x == ("__debug__" : Str)) = false := by with_unfolding_all decide) (hcd : (x == ("__classdict__" : Str)) = false := by with_unfolding_all decide) : wE X (.Name x pos) σ H Q :=
  toE (pe_var (by rw [h.nn]; exact hN) (h.vis hv) hd hcd) ⟨v, hs, q⟩
theorem w_nl (h : At m N sc k X) (n : NL N sc i x) (hs : σ[i]? = some (some v)) (q : Q v H) (hd : (x == ("__debug__" : Str)) = false := by with_unfolding_all decide) (hcd : (x == ("__classdict__" : Str)) = false := by with_unfolding_all decide) : wE X (.Name x pos) σ H Q :=
  toE (pe_var (by rw [h.nn]; exact n.ix) (by rw [h.ss]; exact .inl n.loc) hd hcd) ⟨v, hs, q⟩
theorem w_nc (h : At m N sc k X) (n : NC N sc i x) (hs : σ[i]? = some (some v)) (q : Q v H) (hd : (x == ("__debug__" : Str)) = false := by with_unfolding_all decide) (hcd : (x == ("__classdict__" : Str)) = false := by with_unfolding_all decide) : wE X (.Name x pos) σ H Q :=
  toE (pe_var (by rw [h.nn]; exact n.ix) (by rw [h.ss]; exact .inr (.inl n.cel)) hd hcd) ⟨v, hs, q⟩
theorem w_nf (h : At m N sc k X) (n : NFr N sc i x) (hs : σ[i]? = some (some v)) (q : Q v H) (hd : (x == ("__debug__" : Str)) = false := by with_unfolding_all decide) (hcd : (x == ("__classdict__" : Str)) = false := by with_unfolding_all decide) : wE X (.Name x pos) σ H Q :=
  toE (pe_var (by rw [h.nn]; exact n.ix) (by rw [h.ss]; exact .inr (.inr n.fre)) hd hcd) ⟨v, hs, q⟩
theorem w_int {i : Int} (q : Q (.int i) H) : wE X (.Constant (.int i) j pos) σ H Q := toE pe_int q
theorem w_bl {b : Bool} (q : Q (.bl b) H) : wE X (.Constant (.bool b) j pos) σ H Q := toE pe_bl q
theorem w_non (q : Q .non H) : wE X (.Constant .none j pos) σ H Q := toE pe_non q
theorem w_str {z : Str} (q : Q (.str z) H) : wE X (.Constant (.str z) j pos) σ H Q := toE pe_str q
theorem w_bin {op : Operator} {r : R2} (ho : OpR X (binaryOp op) r) (q : wE X a σ H fun x H1 => wE X b σ H1 fun y H2 => r x y H2 Q) : wE X (.BinOp a op b pos) σ H Q := toE (pe_op ho cE cE) q
theorem w_un {op : UnaryOp} {r : V → Hp → VK → Prop} (ho : UnR X (unaryOp op) r) (q : wE X a σ H fun x H1 => r x H1 Q) : wE X (.UnaryOp op a pos) σ H Q := toE (pe_un ho cE) q
theorem w_cmp {op : CmpOp} {r : R2} (ho : OpR X (compareOp op) r) (hm : behindInMarks op b = false) (q : wE X a σ H fun x H1 => wE X b σ H1 fun y H2 => r x y H2 Q) : wE X (.Compare a [op] [b] pos) σ H Q := toE (pe_cmpR ho cE cE hm) q
theorem w_not (q : wE X a σ H fun x H1 => ∃ c, x = .bl c ∧ Q (.bl (!c)) H1) : wE X (.UnaryOp .Not a pos) σ H Q := toE (pe_not cE) q
theorem w_and {rest : List Expr} (q : wE X a σ H fun x H1 => ∃ c, x = .bl c ∧ if c = true then wE X (.BoolOp .And (b :: rest) pos) σ H1 Q else Q (.bl false) H1) : wE X (.BoolOp .And (a :: b :: rest) pos) σ H Q := toE (pe_and cE cE) q
theorem w_or {rest : List Expr} (q : wE X a σ H fun x H1 => ∃ c, x = .bl c ∧ if c = true then Q (.bl true) H1 else wE X (.BoolOp .Or (b :: rest) pos) σ H1 Q) : wE X (.BoolOp .Or (a :: b :: rest) pos) σ H Q := toE (pe_or cE cE) q
theorem w_one {op : BoolOp} (q : wE X a σ H Q) : wE X (.BoolOp op [a] pos) σ H Q := toE (pe_one cE) q
theorem w_if (q : wT X c σ H fun k H1 => if k = true then wE X a σ H1 Q else wE X b σ H1 Q) : wE X (.IfExp c a b pos) σ H Q := toE (pe_ifExp cT cE cE) q
theorem w_tup {x1} (q : wA X es σ H fun xs H1 => xs.length ≤ sizeLine ∧ ∀ p, H1 p = none → Q (.ref p) (upd H1 p (.tup xs))) : wE X (.Tuple es x1 pos) σ H Q := toE (pe_tup cA) q
theorem w_lst (q : wA X es σ H fun xs H1 => xs.length ≤ sizeLine ∧ ∀ p, H1 p = none → Q (.ref p) (upd H1 p (.lst xs))) : wE X (.List es pos) σ H Q := toE (pe_lst cA) q
theorem w_ix {r : R2} (hr : IxR X r) (hs : PlainIx b) (q : wE X a σ H fun x H1 => wE X b σ H1 fun y H2 => r x y H2 Q) : wE X (.Subscript a b pos) σ H Q := toE (pe_ix hr cE cE hs) q
theorem w_nil {Q : List V → Hp → Prop} (q : Q [] H) : wA X [] σ H Q := toA pa_nil q
theorem w_cons {Q : List V → Hp → Prop} (q : wE X e σ H fun x H1 => wA X es σ H1 fun xs H2 => Q (x :: xs) H2) (hs : starEach (e :: es) X.env = (false, eval e X.env) :: starEach es X.env := by with_unfolding_all rfl) : wA X (e :: es) σ H Q := toA (pa_cons cE cA hs) q
/-- what a run of the def at f leaves, seen from X -/
theorem fnG_run {CX : CXT} {f : Addr} {fd : FuncData} {ps : List Str} {sp : Sp} {E : XK} {args : Args} {us : List Value} {vs : List V} {pins : List (Addr × Obj)} {s : Shared} (h : At m N sc k X) (F : FnG m CX j f fd ps sp) (hk : j ≤ k) (hx : Passes CX X E) (I : Inv X pins σ H s)
    (hb : BindsTo s fd args (ps.zip us)) (r : Vals vs us) (q : sp vs H Q E) : codeAny (model X.prog X.w) X.A (.call (.ref f) args) (fun r s' => match r with | .ok (.ret u) => EP X pins σ Q u s' | .ok _ => False | .error e => X.xe e s') s := by
  have e0 := I.env0
  rw [h.pp, h.ww, h.kk, h.mm, h.bb] at e0
  have rc := F.run X.A X.stack s H args us vs Q E h.gd (h.room.mono hk) e0 hb r q
  rw [← h.pp, ← h.ww] at rc
  refine codeAny_mono rc fun r s' hq => ?_
  match r, hq with
  | .error e, hq => exact hx pins σ H s e s' I hq
  | .ok (.ret u), hq => exact I.after hq
/-- a def that may be called by its name; dvs: what stands for the parameters that are left out -/
structure CalX (m : Md) (CX : CXT) (k : Nat) (x : Str) (sp : Sp) (dvs : List V) : Prop where
  ex : ∃ (f : Addr) (fd : FuncData) (ps : List Str) (ds : List Value), FnG m CX k f fd ps sp ∧ m.mg x = some (.ref f) ∧ PySem.W.keepIn m.K (.ref f) = true ∧ Binds m.K fd ps ds ∧ Vals dvs ds
abbrev Cal (m : Md) (k : Nat) (x : Str) (sp : Sp) : Prop := CalX m C8.CX0 k x sp []
theorem w_callX {CX : CXT} {sp : Sp} {dvs : List V} {E : XK} (h : At m N sc k X) (c : CalX m CX j x sp dvs) (hk : j ≤ k) (hg : sc.names.lookup x = some .globalImplicit) (hx : Passes CX X E) (q : wA X (e :: es) σ H fun vs H1 => sp (vs ++ dvs) H1 Q E)
    (hdb : (x == ("__debug__" : Str)) = false := by with_unfolding_all decide) (he : starEach (e :: es) X.env = (false, eval e X.env) :: starEach es X.env := by with_unfolding_all rfl) (hpl : (backTo pos (starEach es X.env)).any (·.1) = false := by with_unfolding_all rfl) : wE X (.Call (.Name x p) (e :: es) [] pos) σ H Q := by
  obtain ⟨f, fd, ps, ds, F, hm, kp, b, d⟩ := c.ex
  unfold wE
  intro pins s I
  refine wpAny_Call_Name_kw (ld_glob (u := .ref f) I (h.gl hg) (by rw [h.mm]; exact hm) ?_ hdb)
  refine PySem.W.callWith_K (h₀ := X.base) I.ok.mod.kin (by rw [h.kk]; exact kp) (thn ((cA (X := X) (es := e :: es)).run pos pins s σ H _ I q) fun us s1 ⟨vs, H1, I1, r, q1⟩ => ⟨I1.kIn, ?_⟩) he hpl
  have r2 := Vals.append r d
  refine wpAny_call (codeAny_mono (fnG_run (us := us ++ ds) (vs := vs ++ dvs) h F hk hx I1 (b s1 us (by rw [← h.kk]; exact I1.kIn) (by rw [← r2.length]; exact F.len _ _ _ _ q1)) r2 q1) fun r s' hq => ?_)
  match r, hq with
  | .error e, hq => exact hq
  | .ok (.ret u), hq => exact hq
theorem w_callX0 {CX : CXT} {sp : Sp} {dvs : List V} {E : XK} (h : At m N sc k X) (c : CalX m CX j x sp dvs) (hk : j ≤ k) (hg : sc.names.lookup x = some .globalImplicit) (hx : Passes CX X E) (q : sp dvs H Q E)
    (hdb : (x == ("__debug__" : Str)) = false := by with_unfolding_all decide) : wE X (.Call (.Name x p) [] [] pos) σ H Q := by
  obtain ⟨f, fd, ps, ds, F, hm, kp, b, d⟩ := c.ex
  unfold wE
  intro pins s I
  refine wpAny_Call_Name_kw (ld_glob (u := .ref f) I (h.gl hg) (by rw [h.mm]; exact hm) ?_ hdb)
  refine PySem.W.callWith_K0 I.kIn (by rw [h.kk]; exact kp) (wpAny_call (codeAny_mono (fnG_run (us := ds) (vs := dvs) h F hk hx I (b s [] (by rw [← h.kk]; exact I.kIn) (by simpa [← d.length] using F.len _ _ _ _ q)) d q) fun r s' hq => ?_))
  match r, hq with
  | .error e, hq => exact hq
  | .ok (.ret u), hq => exact hq
theorem w_call {sp : Sp} (h : At m N sc k X) (c : Cal m j x sp) (hk : j ≤ k) (hg : sc.names.lookup x = some .globalImplicit) (q : wA X (e :: es) σ H fun vs H1 => sp vs H1 Q C8.E0)
    (hdb : (x == ("__debug__" : Str)) = false := by with_unfolding_all decide) (he : starEach (e :: es) X.env = (false, eval e X.env) :: starEach es X.env := by with_unfolding_all rfl) (hpl : (backTo pos (starEach es X.env)).any (·.1) = false := by with_unfolding_all rfl) : wE X (.Call (.Name x p) (e :: es) [] pos) σ H Q := by
  refine w_callX (E := C8.E0) h c hk hg C8.pass0 ?_ hdb he hpl
  simpa using q
/-- a built-in function by its name -/
theorem w_blt {id : String} {r : List V → Hp → VK → Prop} (h : At m N sc k X) (hc : CallR X (.builtin id) r) (hm : m.mg x = none) (hg : sc.names.lookup x = some .globalImplicit) (hv : bootBuiltins x = some (.builtin id)) (q : wA X (e :: es) σ H fun vs H1 => r vs H1 Q)
    (hn : x ≠ "__name__" := by with_unfolding_all decide) (hdb : (x == ("__debug__" : Str)) = false := by with_unfolding_all decide) (he : starEach (e :: es) X.env = (false, eval e X.env) :: starEach es X.env := by with_unfolding_all rfl) (hpl : (backTo pos (starEach es X.env)).any (·.1) = false := by with_unfolding_all rfl) : wE X (.Call (.Name x p) (e :: es) [] pos) σ H Q :=
  toE (pe_callB hc (h.gl hg) (by rw [h.mm]; exact hm) hv cA hn hdb he hpl) q
theorem w_ty {T : String} {r : List V → Hp → VK → Prop} (h : At m N sc k X) (hc : CallR X (.type T) r) (hm : m.mg x = none) (hg : sc.names.lookup x = some .globalImplicit) (hv : bootBuiltins x = some (.type T)) (q : wA X (e :: es) σ H fun vs H1 => r vs H1 Q)
    (hn : x ≠ "__name__" := by with_unfolding_all decide) (hdb : (x == ("__debug__" : Str)) = false := by with_unfolding_all decide) (he : starEach (e :: es) X.env = (false, eval e X.env) :: starEach es X.env := by with_unfolding_all rfl) (hpl : (backTo pos (starEach es X.env)).any (·.1) = false := by with_unfolding_all rfl) : wE X (.Call (.Name x p) (e :: es) [] pos) σ H Q :=
  toE (pe_callTy hc (h.gl hg) (by rw [h.mm]; exact hm) hv cA hn hdb he hpl) q

/-! ### tests -/
theorem t_val (q : wE X e σ H fun x H1 => ∃ c, x = .bl c ∧ QB c H1) (he : ∀ whole, isTrue e X.env whole = (do let v ← whole; standAt e.pos; holding [v] (truthy v)) := by with_unfolding_all (intro _; rfl)) : wT X e σ H QB := toT (pt_val cE he) q
theorem t_cmp {op : CmpOp} {r : R2} (ho : OpR X (compareOp op) r) (hm : behindInMarks op b = false) (q : wE X a σ H fun x H1 => wE X b σ H1 fun y H2 => r x y H2 fun z H' => ∃ k, z = .bl k ∧ QB k H') : wT X (.Compare a [op] [b] pos) σ H QB := toT (pt_cmpR ho cE cE hm) q
theorem t_not (q : wT X a σ H fun c H1 => QB (!c) H1) : wT X (.UnaryOp .Not a pos) σ H QB := toT (pt_not cT) q
theorem t_and {rest : List Expr} (q : wW X (.BoolOp .And (a :: b :: rest) pos) σ H QB) : wT X (.BoolOp .And (a :: b :: rest) pos) σ H QB := toT (cW.pt) q
theorem t_or {rest : List Expr} (q : wW X (.BoolOp .Or (a :: b :: rest) pos) σ H QB) : wT X (.BoolOp .Or (a :: b :: rest) pos) σ H QB := toT (cW.pt) q
theorem k_and {rest : List Expr} (q : wT X a σ H fun c H1 => if c = true then wW X (.BoolOp .And (b :: rest) pos) σ H1 QB else QB false H1) : wW X (.BoolOp .And (a :: b :: rest) pos) σ H QB := toW (pw_and cT cW) q
theorem k_or {rest : List Expr} (q : wT X a σ H fun c H1 => if c = true then QB true H1 else wW X (.BoolOp .Or (b :: rest) pos) σ H1 QB) : wW X (.BoolOp .Or (a :: b :: rest) pos) σ H QB := toW (pw_or cT cW) q
theorem k_and1 (q : wT X a σ H QB) : wW X (.BoolOp .And [a] pos) σ H QB := toW (pw_and1 cT) q
theorem k_or1 (q : wT X a σ H QB) : wW X (.BoolOp .Or [a] pos) σ H QB := toW (pw_or1 cT) q
theorem t_truth (q : wE X a σ H fun x H1 => ∃ k, TruV X.K x H1 k ∧ QB k H1) (he : ∀ whole, isTrue a X.env whole = (do let v ← whole; standAt a.pos; holding [v] (truthy v)) := by with_unfolding_all (intro _; rfl)) : wT X a σ H QB := toT (pt_truth cE he) q

/-! ### statements: what is wanted behind is written out -/
variable {st : Stmt} {sts rest th el body : List Stmt} {nx : L2.St → Hp → Prop} {rt : VK} {bk ct : L2.St → Hp → Prop}
theorem b_nil (q : nx σ H) : wB X [] ⟨nx, rt, bk, ct⟩ σ H := toB pss_nil q
theorem b_cons (q : wS X st ⟨wB X rest ⟨nx, rt, bk, ct⟩, rt, bk, ct⟩ σ H) : wB X (st :: rest) ⟨nx, rt, bk, ct⟩ σ H := toB (pss_cons cS cB) q
theorem b_one (q : wS X st ⟨nx, rt, bk, ct⟩ σ H) : wB X [st] ⟨nx, rt, bk, ct⟩ σ H := toB (pss_one cS) q
theorem s_ret (q : wE X e σ H rt) : wS X (.Return (some e) pos) ⟨nx, rt, bk, ct⟩ σ H := toS (ps_ret cE) q
theorem s_retN (q : rt .non H) : wS X (.Return none pos) ⟨nx, rt, bk, ct⟩ σ H := toS ps_retN q
theorem s_if (q : wT X c σ H fun b H1 => if b = true then wB X th ⟨nx, rt, bk, ct⟩ σ H1 else wB X el ⟨nx, rt, bk, ct⟩ σ H1) : wS X (.If c th el pos) ⟨nx, rt, bk, ct⟩ σ H := toS (ps_if cT cB cB) q
theorem s_expr (q : wE X e σ H fun _ H1 => nx σ H1) (hs : swapsWith e none pos.line X.env = pure false := by with_unfolding_all rfl) : wS X (.Expr e pos) ⟨nx, rt, bk, ct⟩ σ H := toS (ps_expr cE hs) q
theorem s_set (h : At m N sc k X) (i : Nat) (hN : N[i]? = some x) (hl : sc.names.lookup x = some .local) (q : wE X e σ H fun v H1 => nx (σ.set i (some v)) H1) (hs : swapsWith e (some (.Name x p1)) pos.line X.env = pure false := by with_unfolding_all rfl) :
    wS X (.Assign [.Name x p1] e pos) ⟨nx, rt, bk, ct⟩ σ H :=
  toS (ps_set (by rw [h.nn]; exact h.nd) (by rw [h.nn]; exact hN) (by rw [h.ss]; exact .inl hl) cE hs (.inr (by rw [h.ss]; exact hl))) q
theorem s_nl (h : At m N sc k X) (n : NL N sc i x) (q : wE X e σ H fun v H1 => nx (σ.set i (some v)) H1) (hs : swapsWith e (some (.Name x p1)) pos.line X.env = pure false := by with_unfolding_all rfl) : wS X (.Assign [.Name x p1] e pos) ⟨nx, rt, bk, ct⟩ σ H := s_set h i n.ix n.loc q hs
theorem s_nc (h : At m N sc k X) (n : NC N sc i x) (hf : ∀ y, X.fn y = true) (q : wE X e σ H fun v H1 => nx (σ.set i (some v)) H1) (hs : swapsWith e (some (.Name x p1)) pos.line X.env = pure false := by with_unfolding_all rfl) : wS X (.Assign [.Name x p1] e pos) ⟨nx, rt, bk, ct⟩ σ H :=
  toS (ps_set (by rw [h.nn]; exact h.nd) (by rw [h.nn]; exact n.ix) (by rw [h.ss]; exact .inr n.cel) cE hs (.inl (hf x))) q
theorem pg_nl (h : At m N sc k X) (n : NL N sc i x) : PG X (.Name x pos) (gName i) := pg_name (by rw [h.nn]; exact h.nd) (by rw [h.nn]; exact n.ix) (by rw [h.ss]; exact .inl n.loc) (.inr (by rw [h.ss]; exact n.loc))
theorem pg_nc (h : At m N sc k X) (n : NC N sc i x) (hf : ∀ y, X.fn y = true) : PG X (.Name x pos) (gName i) := pg_name (by rw [h.nn]; exact h.nd) (by rw [h.nn]; exact n.ix) (by rw [h.ss]; exact .inr n.cel) (.inl (hf x))
/-- xs[i] = e -/
theorem s_sub {o ix : Expr} {t : TSet} (hs : PSet X t) (q : wE X e σ H fun v H1 => wE X o σ H1 fun x H2 => wE X ix σ H2 fun y H3 => t x y v H3 fun H4 => nx σ H4)
    (ha : ∀ v : Value, assign (.Subscript o ix p1) X.env v = (do
      let ov ← holding [v] (eval o X.env)
      let iv ← holding [v, ov] (eval ix X.env)
      standAt p1
      holding [v, ov, iv] (setItem ov iv v)
      release [v, ov, iv] []) := by with_unfolding_all (intro _; rfl))
    (h1 : swapsWithSole [.Subscript o ix p1] e pos.line X.env = pure false := by with_unfolding_all rfl) (h2 : swappedStores [.Subscript o ix p1] e X.env = pure none := by with_unfolding_all rfl) : wS X (.Assign [.Subscript o ix p1] e pos) ⟨nx, rt, bk, ct⟩ σ H :=
  toS (ps_asg cE (pg_sub cE cE hs ha) h1 h2) q
/-- xs[i] = e, xs a list -/
theorem s_subL {o ix : Expr} (q : wE X e σ H fun v H1 => wE X o σ H1 fun x H2 => wE X ix σ H2 fun y H3 => ∃ (p : Addr) (xs : List V) (z : Int) (j : Nat), x = .ref p ∧ y = .int z ∧ H3 p = some (.lst xs) ∧ ixN xs.length z = some j ∧ nx σ (upd H3 p (.lst (xs.set j v))))
    (ha : ∀ v : Value, assign (.Subscript o ix p1) X.env v = (do
      let ov ← holding [v] (eval o X.env)
      let iv ← holding [v, ov] (eval ix X.env)
      standAt p1
      holding [v, ov, iv] (setItem ov iv v)
      release [v, ov, iv] []) := by with_unfolding_all (intro _; rfl))
    (h1 : swapsWithSole [.Subscript o ix p1] e pos.line X.env = pure false := by with_unfolding_all rfl) (h2 : swappedStores [.Subscript o ix p1] e X.env = pure none := by with_unfolding_all rfl) : wS X (.Assign [.Subscript o ix p1] e pos) ⟨nx, rt, bk, ct⟩ σ H :=
  s_sub set_list q ha h1 h2
/-- for x in range(e) -/
theorem s_forR {tg : Expr} {g : TG} {po : Pos} (h : At m N sc k X) (hg : PG X tg g) (hm : m.mg "range" = none) (hgl : sc.names.lookup ("range" : Str) = some .globalImplicit)
    (q : wE X e σ H fun v H1 => ∃ z : Int, v = .int z ∧ -(2 ^ 62) ≤ z ∧ z < 2 ^ 62 ∧ ∃ Pv : Nat → L2.St → Hp → Prop, Pv 0 σ H1 ∧ (∀ i σ H, i < z.toNat → Pv i σ H → g (.int i) σ H fun σ2 H2 => wB X body ⟨Pv (i + 1), rt, nx, Pv (i + 1)⟩ σ2 H2) ∧ ∀ σ H, Pv z.toNat σ H → nx σ H)
    (hs : starEach [e] X.env = [(false, eval e X.env)] := by with_unfolding_all rfl) (hf : ∀ x, foldedSetIterable (.Call (.Name "range" p1) [e] [] p2) X.env x = pure x := by with_unfolding_all (intro _; rfl)) : wS X (.For tg (.Call (.Name "range" p1) [e] [] p2) body [] po) ⟨nx, rt, bk, ct⟩ σ H := by
  refine toS (ps_for h.pass h.calm (pi_range1 (h.gl hgl) (by rw [h.mm]; exact hm) (pa_cons cE pa_nil hs) hs) hg cB hf) ?_
  refine wE.mono q fun v H1 ⟨z, ez, z1, z2, Pv, p0, turn, fin⟩ => ⟨z, by rw [ez], z1, z2, ?_⟩
  exact for_range (lo := 0) (n := z.toNat) Pv p0 (fun i σ H hi hp => by simpa using turn i σ H hi hp) fin
/-- for x in xs, xs a list that stands still -/
theorem s_forL {tg : Expr} {g : TG} {po : Pos} (h : At m N sc k X) (hg : PG X tg g)
    (q : wE X e σ H fun v H1 => ∃ (a : Addr) (xs : List V), v = .ref a ∧ SqL m.K H1 a xs ∧ ∃ Pv : Nat → L2.St → Hp → Prop, Pv 0 σ H1 ∧ (∀ i σ H, i ≤ xs.length → Pv i σ H → SqL m.K H a xs) ∧ (∀ i x σ H, xs[i]? = some x → Pv i σ H → g x σ H fun σ2 H2 => wB X body ⟨Pv (i + 1), rt, nx, Pv (i + 1)⟩ σ2 H2) ∧ ∀ σ H, Pv xs.length σ H → nx σ H)
    (hf : ∀ x, foldedSetIterable e X.env x = pure x := by with_unfolding_all (intro _; rfl)) : wS X (.For tg e body [] po) ⟨nx, rt, bk, ct⟩ σ H := by
  refine toS (ps_for h.pass h.calm (pi_list cE) hg cB hf) ?_
  refine wE.mono q fun v H1 ⟨a, xs, ea, hs, Pv, p0, hl, turn, fin⟩ => ⟨a, ea, ⟨xs, by rw [h.kk]; exact hs⟩, ?_⟩
  exact for_list (K := X.K) (a := a) (xs := xs) Pv p0 (fun i σ H hi hp => by rw [h.kk]; exact hl i σ H hi hp) turn fin
/-- for x in t, t a tuple -/
theorem s_forT {tg : Expr} {g : TG} {po : Pos} (h : At m N sc k X) (hg : PG X tg g)
    (q : wE X e σ H fun v H1 => ∃ (a : Addr) (xs : List V), v = .ref a ∧ SqT m.K H1 a xs ∧ ∃ Pv : Nat → L2.St → Hp → Prop, Pv 0 σ H1 ∧ (∀ i σ H, i ≤ xs.length → Pv i σ H → SqT m.K H a xs) ∧ (∀ i x σ H, xs[i]? = some x → Pv i σ H → g x σ H fun σ2 H2 => wB X body ⟨Pv (i + 1), rt, nx, Pv (i + 1)⟩ σ2 H2) ∧ ∀ σ H, Pv xs.length σ H → nx σ H)
    (hf : ∀ x, foldedSetIterable e X.env x = pure x := by with_unfolding_all (intro _; rfl)) : wS X (.For tg e body [] po) ⟨nx, rt, bk, ct⟩ σ H := by
  refine toS (ps_for h.pass h.calm (pi_tup cE) hg cB hf) ?_
  refine wE.mono q fun v H1 ⟨a, xs, ea, hs, Pv, p0, hl, turn, fin⟩ => ⟨a, ea, ⟨xs, by rw [h.kk]; exact hs⟩, ?_⟩
  exact for_tup (K := X.K) (a := a) (xs := xs) Pv p0 (fun i σ H hi hp => by rw [h.kk]; exact hl i σ H hi hp) turn fin
end

/-! ### a def by its body -/
/-- what a def that makes lambdas knows of its place besides -/
structure AtM (X : Cx) (x : Str) (cdv : Value) : Prop where
  code : X.env.code = cdv
  qual : X.env.qual = x ++ ".<locals>."
  fn : ∀ y, X.fn y = true
  ex : X.ex = []
section
variable {m : Md} {N ps : List Str} {k : Nat} {x qual : Str} {st : Stmt} {f : Addr} {fd : FuncData} {sp : Sp}
/-- a def that lets no exception out, by its body -/
theorem fnG_of (F : C8.Fun m.K x qual st f fd) (S : FnScope N ps (C8.fnScope st)) (len : ∀ vs H Q E, sp vs H Q E → vs.length = ps.length)
    (hb : ∀ (X : Cx) (vs : List V) (H : Hp) (Q : VK) (E : XK), At m N (C8.fnScope st) k X → AtM X qual fd.code → sp vs H Q E → wB X (C8.fnBody st) { nx := fun _ H' => Q .non H', rt := Q } (start N vs) H) : FnG m C8.CX0 (k + 1) f fd ps sp := by
  obtain ⟨oc, od, dV, kV, doc, pm, an, cdv, ct, osl, rfl, lk, hc⟩ := F.ex
  refine ⟨len, fun A outer s H args us vs Q E hg hr e0 bt r q => ?_⟩
  refine LamX.run_ofS (CX := C8.CX0) (N := N) lk hc S hr e0 bt r (len _ _ _ _ q) fun hr' => ⟨_, PSs.nox cB, ?_⟩
  exact hb (cxOf C8.CX0 m.P m.w m.K m.mg m.base N qual (C8.fnScope st) f cdv A outer s H E).nox vs H Q E ⟨rfl, rfl, rfl, rfl, rfl, rfl, rfl, rfl, hr', PassesOwn.never, S.nd, hg⟩ ⟨rfl, rfl, fun _ => rfl, rfl⟩ q
theorem cal_ofM (F : C8.Def m.K m.mg x st f fd) (b : Binds m.K fd ps []) (S : FnScope N ps (C8.fnScope st)) (len : ∀ vs H Q E, sp vs H Q E → vs.length = ps.length)
    (hb : ∀ (X : Cx) (vs : List V) (H : Hp) (Q : VK) (E : XK), At m N (C8.fnScope st) k X → AtM X x fd.code → sp vs H Q E → wB X (C8.fnBody st) { nx := fun _ H' => Q .non H', rt := Q } (start N vs) H) : Cal m (k + 1) x sp :=
  ⟨f, fd, ps, [], fnG_of F.fn S len hb, F.mgf, F.kp, b, .nil⟩
theorem cal_of (F : C8.Def m.K m.mg x st f fd) (b : Binds m.K fd ps []) (S : FnScope N ps (C8.fnScope st)) (len : ∀ vs H Q E, sp vs H Q E → vs.length = ps.length)
    (hb : ∀ (X : Cx) (vs : List V) (H : Hp) (Q : VK) (E : XK), At m N (C8.fnScope st) k X → sp vs H Q E → wB X (C8.fnBody st) { nx := fun _ H' => Q .non H', rt := Q } (start N vs) H) : Cal m (k + 1) x sp :=
  cal_ofM F b S len fun X vs H Q E h _ q => hb X vs H Q E h q
end
theorem atI_at {α : Type} {xs : List α} {j : Nat} {v : α} (h : xs[j]? = some v) : atI xs (j : Int) = some v := atI_nat h
end Vf
set_option maxRecDepth 100000
set_option maxHeartbeats 4000000
/-! Lam: lambdas with parameters, made in a def's body and handed on. Own work. -/
namespace Vf
open PySem PySem.Spec PyProof.Rows L2 LamX NdefX

/-- a lambda's words -/
structure LF where
  qual : Str
  params : Arguments
  body : Expr
  scope : Scope
  cl : List (Str × Addr)
  c : Addr
abbrev LF.fd (F : LF) (pm ctv : Value) : FuncData := PySem.W.kla_fn "<lambda>" F.qual F.params F.body F.scope F.cl pm (.ref F.c) ctv
abbrev LF.nf (F : LF) : NF := ⟨"<lambda>", F.qual, F.params, [], F.scope, F.cl, F.c⟩
def LamO (f : Addr) (F : LF) : HO := .ext fun h => ∃ (od : Option Addr) (sl : Array (Option Value)) (pm ctv : Value), h.get? f = some (⟨.type "function", od, .func (F.fd pm ctv), sl⟩ : Obj)
theorem lamO_tbl {f : Addr} {F : LF} (ps : Array Value) : LamO f F ≠ .tbl ps := fun z => by unfold LamO at z; cases z
theorem lamO_at {P : Program} {w : World} {H : Hp} {h : Heap} {f : Addr} {F : LF} (hok : HOk P w H h) (e : H f = some (LamO f F)) : ∃ (od : Option Addr) (sl : Array (Option Value)) (pm ctv : Value), h.get? f = some (⟨.type "function", od, .func (F.fd pm ctv), sl⟩ : Obj) := by
  obtain ⟨z, _, _⟩ := hok f _ e
  exact z
theorem lamO_ok {P : Program} {w : World} {H : Hp} {h : Heap} {f : Addr} {F : LF} {od : Option Addr} {sl : Array (Option Value)} {pm ctv : Value} (e : h.get? f = some (⟨.type "function", od, .func (F.fd pm ctv), sl⟩ : Obj)) : ObjOk P w H h f (LamO f F) :=
  ⟨⟨od, sl, pm, ctv, e⟩, ⟨_, e⟩, fun h1 h2 ⟨od, sl, p, t, z⟩ st => ⟨od, sl, p, t, st _ z⟩⟩

section
variable {X : Cx} {pins : List (Addr × Obj)} {σ : L2.St} {H : Hp} {s : Shared}
theorem inv_lam {F : LF} {o : Obj} {t' : Nat} {pm ctv : Value} (I : Inv X pins σ H s) (ho : o = { cls := .type "function", data := .func (F.fd pm ctv) }) :
    Inv X pins σ (upd H s.heap.objs.size (LamO s.heap.objs.size F)) { s with heap := s.heap.push o, toks := t' } := by
  subst ho
  refine I.laid (a := s.heap.objs.size) (fun b u e => Heap.get?_push_of_some _ e) (Nat.le_refl _) ?_
  exact lamO_ok (Heap.get?_push_size _ rfl)
/-- the lambda is made and tracked -/
theorem lam_make3 {T : List (Addr × Str)} {c P : Addr} {params : Arguments} {body : Expr} {scope : Scope} {pos : Pos} {E : Value → Shared → Prop} {Q : Value → Shared → Prop} (I : Inv X pins σ H s) (TB : TabB X.base X.mg c P) (hcode : X.env.code = .ref c)
    (hm : (P, X.env.qual ++ "<lambda>") ∈ T) (hu : ∀ p ∈ T, p.1 = P → p.2 = X.env.qual ++ "<lambda>") (hT : Tabs T H) (hdef : defaultsOf params X.env = ([], [])) (hfree : ∀ y ∈ scope.names, y.2 = .free → ∃ c, X.env.cells.lookup y.1 = some c)
    (h : ∀ (f c' : Addr) (H1 : Hp) (s' : Shared), Inv X pins σ H1 s' → ExtN H H1 → Tabs T H1 → H f = none → H1 f = some (LamO f ⟨X.env.qual ++ "<lambda>", params, body, scope, cloFrom X.env.cells scope.names [], c'⟩) → H1 c' = some (CodeO c' (X.env.qual ++ "<lambda>")) → (∀ b, H1 b = none → H b = none) → Q (.ref f) s') :
    wpAny (model X.prog X.w) X.A (eval (.Lambda params body scope pos) X.env) Q E s := by
  obtain ⟨ps, hP, ht, ha⟩ := hT _ hm
  refine PySem.W.kla_eval hdef ?_
  have bP : s.heap.BuiltinsAt X.mg P := TB.bm.keeps I.bk
  have hP' : s.heap.get? P = some { cls := .none, data := .fields ps } := I.hok P _ hP
  cases hc : codeAmong pos ps.toList with
  | none =>
    refine PySem.W.kla_makeFunction (mg := X.mg) (c := c) (P := P) (ps := ps) (closure_ok hfree) I.ok.glob (I.mod.glob.keeps I.bk) hcode (TB.code.keeps I.bk) hP' ht hc TB.gP bP fun c' ctv h' tk hx hge hlt hrec htb => ?_
    obtain ⟨c2, oc, vs, t, e2, hoc, hd, hv⟩ := hrec
    cases e2
    have nC : H c' = none := I.hok.fresh hge
    have I1 := inv_table (t' := tk) (more := #[rawInt pos.line, rawInt pos.col, .ref c']) (h' := h') I hP (fun b o hb e => hx b o hb e) htb hge ⟨oc, vs, t, hoc, hd, hv⟩
    have hE : ExtN H (upd (upd H P (.tbl (ps ++ #[rawInt pos.line, rawInt pos.col, .ref c']))) c' (CodeO c' (X.env.qual ++ "<lambda>"))) := fun b o e n => by
      rw [upd_ne (ne_of_none e nC), upd_ne (fun z => n ps (Option.some.inj (e.symm.trans (by rw [z]; exact hP))))]
      exact e
    have eL : (ps ++ #[rawInt pos.line, rawInt pos.col, .ref c']).toList = ps.toList ++ [rawInt pos.line, rawInt pos.col, .ref c'] := by simp
    have T1 : Tabs T (upd (upd H P (.tbl (ps ++ #[rawInt pos.line, rawInt pos.col, .ref c']))) c' (CodeO c' (X.env.qual ++ "<lambda>"))) := fun p hp => by
      by_cases hb : p.1 = P
      · rw [hu p hp hb, hb]
        refine ⟨_, by rw [upd_ne (ne_of_none hP nC), upd_same], by rw [eL]; exact PySem.TriplesOk_snoc _ _ _ _ ht, fun p' cv hcv => ?_⟩
        rw [eL] at hcv
        rcases among_app _ ht hcv with z | z
        · obtain ⟨c0, e1, e2⟩ := ha p' cv z
          exact ⟨c0, e1, hE _ _ e2 codeO_ne⟩
        · exact ⟨c', z, upd_same⟩
      · obtain ⟨ps', a1, a2, a3⟩ := hT p hp
        refine ⟨ps', by rw [upd_ne (ne_of_none a1 nC), upd_ne hb]; exact a1, a2, fun p' cv hcv => ?_⟩
        obtain ⟨c0, e1, e2⟩ := a3 p' cv hcv
        exact ⟨c0, e1, hE _ _ e2 codeO_ne⟩
    have nF := I1.hok.fresh (Nat.le_refl _)
    have I2 := inv_lam (F := ⟨X.env.qual ++ "<lambda>", params, body, scope, cloFrom X.env.cells scope.names [], c'⟩) (t' := tk) (pm := (X.mg "__name__").getD .none) (ctv := ctv) I1 rfl
    refine h h'.objs.size c' _ _ I2 (fun b o e n => ?_) (T1.ext fun b o e => ?_) (I.hok.fresh (Nat.le_trans hge (Nat.le_of_lt hlt))) upd_same ?_ (fun b e => upd_none (upd_none (upd_none e)))
    · have e1 := hE b o e n
      exact (upd_ne (ne_of_none e1 nF)).trans e1
    · exact (upd_ne (ne_of_none e nF)).trans e
    · exact (upd_ne (Nat.ne_of_lt hlt)).trans upd_same
  | some cv =>
    obtain ⟨c', e, hco⟩ := ha pos cv hc
    subst e
    refine PySem.W.kla_makeFunctionHit (mg := X.mg) (c := c) (P := P) (ps := ps) (closure_ok hfree) I.ok.glob (I.mod.glob.keeps I.bk) hcode (TB.code.keeps I.bk) hP' ht hc bP fun ctv h' tk hx hsz => ?_
    have I1 : Inv X pins σ H { s with heap := h', toks := tk } := I.kept hx
    have nF : H h'.objs.size = none := I1.hok.fresh (Nat.le_refl _)
    have I2 := inv_lam (F := ⟨X.env.qual ++ "<lambda>", params, body, scope, cloFrom X.env.cells scope.names [], c'⟩) (t' := tk) (pm := (X.mg "__name__").getD .none) (ctv := ctv) I1 rfl
    refine h h'.objs.size c' _ _ I2 (fun b o e n => ?_) (hT.ext fun b o e => ?_) nF upd_same ?_ (fun b e => upd_none e)
    · exact (upd_ne (ne_of_none e nF)).trans e
    · exact (upd_ne (ne_of_none e nF)).trans e
    · exact (upd_ne (ne_of_none hco nF)).trans hco
end

/-! ### what calling a function value promises -/
/-- f, in every heap from H on, keeps the promise sp when it is called -/
structure Callable (m : Md) (k : Nat) (f : Addr) (sp : Sp) (H : Hp) : Prop where
  lam : ∃ F, H f = some (LamO f F)
  run : ∀ (H1 : Hp), ExtN H H1 → ∀ (A : Around) (outer : List Env) (s : Shared) (us : List Value) (vs : List V) (Q : VK), A.guards = some [] → Room k A → Env0 m.P m.w m.K m.mg m.base A outer s H1 → Vals vs us → sp vs H1 Q C8.E0 →
    codeAny (model m.P m.w) A (.call (.ref f) ⟨us, []⟩) (CR C8.CX0 outer m.P m.w H1 s Q C8.E0) s
theorem Callable.ext {m : Md} {k : Nat} {f : Addr} {sp : Sp} {H H' : Hp} (c : Callable m k f sp H) (e : ExtN H H') : Callable m k f sp H' :=
  ⟨by obtain ⟨F, h⟩ := c.lam; exact ⟨F, e _ _ h lamO_tbl⟩, fun H1 e1 => c.run H1 (e.trans e1)⟩
theorem Callable.mono {m : Md} {k j : Nat} {f : Addr} {sp : Sp} {H : Hp} (c : Callable m k f sp H) (h : k ≤ j) : Callable m j f sp H := ⟨c.lam, fun H1 e1 A outer s us vs Q hg hr => c.run H1 e1 A outer s us vs Q hg (hr.mono h)⟩
theorem Callable.imp {m : Md} {k : Nat} {f : Addr} {sp sp' : Sp} {H : Hp} (c : Callable m k f sp H) (h : ∀ H1, ExtN H H1 → ∀ vs Q E, sp' vs H1 Q E → sp vs H1 Q E) : Callable m k f sp' H := ⟨c.lam, fun H1 e1 A outer s us vs Q hg hr e0 r q => c.run H1 e1 A outer s us vs Q hg hr e0 r (h H1 e1 _ _ _ q)⟩

/-- the context of a lambda's body -/
abbrev lcx (m : Md) (N : List Str) (F : LF) (f : Addr) (A : Around) (outer : List Env) (s : Shared) (H : Hp) : Cx := (ncx C8.CX0 m.P m.w m.K m.mg m.base N F.nf f A outer s H C8.E0).nox
/-- a lambda called: its body in its own context; ws: what its captured cells hold -/
theorem lam_run {m : Md} {N ps fr : List Str} {F : LF} {f : Addr} {k : Nat} {A : Around} {outer : List Env} {s : Shared} {H : Hp} {us : List Value} {vs : List V} {ws : List (Option V)} {Q : VK} (S : NScope N ps fr F.scope)
    (hb : ∀ (pm ctv : Value) (us : List Value), us.length = ps.length → bindArgs (F.fd pm ctv) ⟨us, []⟩ = pure (ps.zip us)) (hg : A.guards = some []) (hr : Room (k + 1) A) (e0 : Env0 m.P m.w m.K m.mg m.base A outer s H) (hf : ∃ (od : Option Addr) (sl : Array (Option Value)) (pm ctv : Value), s.heap.get? f = some (⟨.type "function", od, .func (F.fd pm ctv), sl⟩ : Obj))
    (hc : H F.c = some (CodeO F.c F.qual)) (C : CellsAt F.cl fr ws s.heap H) (r : Vals vs us) (hl : vs.length = ps.length)
    (hbody : ∀ (X : Cx), At m N F.scope k X → wE X F.body (startF N vs ws) H Q) : codeAny (model m.P m.w) A (.call (.ref f) ⟨us, []⟩) (CR C8.CX0 outer m.P m.w H s Q C8.E0) s := by
  have lim : s.heap.NoLimit := e0.mod.nolimit.keeps fun b o e => (e0.bs b o e).1
  obtain ⟨od, sl, pm, ctv, ho⟩ := hf
  refine PySem.W.kla_callFunE hr.depth ho rfl S.co S.gen rfl (codeO_at e0.hok hc) ?_
  rw [hb pm ctv us (by rw [← r.length]; exact hl)]
  refine wpAny_pure (wpAny_newFunctionEnv S.nocell (fun ⟨n, _⟩ hy => S.par n (List.of_mem_zip hy).1) (fun h₁ hns hsb => ⟨lim.fresh _ hsb, ?_⟩) S.kind)
  show codeAny _ _ (.expr F.body (envF F.nf f s.heap.objs.size)) _ _
  have kp : ∀ b o, s.heap.get? b = some o → h₁.get? b = some o := fun b o e => hsb.extBut b o (Nat.ne_of_lt (Heap.lt_size e)) (Heap.get?_push_of_some _ e)
  have I : Inv (ncx C8.CX0 m.P m.w m.K m.mg m.base N F.nf f A outer s H C8.E0) [] (startF N vs ws) H { s with heap := h₁, toks := s.toks + (ps.zip us).length } := inv_startN S hr.hd e0 hl r C hns kp
  have hA : At m N F.scope k (lcx m N F f A outer s H) := ⟨rfl, rfl, rfl, rfl, rfl, rfl, rfl, rfl, hr.deeper _, PassesOwn.never, S.nd, hg⟩
  have q := hbody _ hA
  have pe : PE (ncx C8.CX0 m.P m.w m.K m.mg m.base N F.nf f A outer s H C8.E0) F.body (wE (lcx m N F f A outer s H) F.body) := PE.nox cE
  refine PySem.W.kla_codeExpr (wpAny_mono (pe.run [] _ _ H Q I q) (fun v s' hq => ?_) fun e s' hq => hq)
  obtain ⟨w', H', J', rv, q⟩ := hq
  exact ⟨w', H', J'.os, J'.bare, J'.base, J'.hok, rv, q⟩

/-- a name that holds a function value, called -/
theorem w_callv {m : Md} {N : List Str} {sc : Scope} {j k i : Nat} {X : Cx} {x : Str} {sp : Sp} {f : Addr} {σ : L2.St} {H : Hp} {Q : VK} {e : Expr} {es : List Expr} {p pos : Pos} (h : At m N sc j X) (hN : N[i]? = some x) (hv : visB sc x = true) (hs : σ[i]? = some (some (.ref f))) (c : Callable m k f sp H) (hk : k ≤ j)
    (q : wA X (e :: es) σ H fun vs H1 => ExtN H H1 ∧ sp vs H1 Q C8.E0) (hd : (x == ("__debug__" : Str)) = false := by with_unfolding_all decide) (hcd : (x == ("__classdict__" : Str)) = false := by with_unfolding_all decide)
    (he : starEach (e :: es) X.env = (false, eval e X.env) :: starEach es X.env := by with_unfolding_all rfl) (hpl : (backTo pos (starEach es X.env)).any (·.1) = false := by with_unfolding_all rfl) : wE X (.Call (.Name x p) (e :: es) [] pos) σ H Q := by
  unfold wE
  intro pins s I
  refine wpAny_Call_Name_kw (thn ((pe_var (pos := p) (by rw [h.nn]; exact hN) (h.vis hv) hd hcd).run pins s σ H (fun v H1 => v = .ref f ∧ H1 = H) I ⟨.ref f, hs, rfl, rfl⟩) fun u s1 ⟨v, H1, I1, r1, q1⟩ => ?_)
  obtain ⟨rfl, rfl⟩ := q1
  obtain rfl : u = Value.ref f := r1
  obtain ⟨F, hF⟩ := c.lam
  have fnAt : ∀ {H2 : Hp} {s2 : Shared}, Inv X pins σ H2 s2 → ExtN H1 H2 → PySem.W.FnAt f s2.heap := fun {H2 s2} I2 e2 => by
    obtain ⟨od, sl, pm, ctv, ho⟩ := lamO_at I2.hok (e2 _ _ hF lamO_tbl)
    exact ⟨_, od, _, sl, ho⟩
  refine PySem.W.callWith_F (first := []) (fnAt I1 (ExtN.refl _)) (thn ((cA (X := X) (es := e :: es)).run pos pins s1 σ _ _ I1 q) fun us s2 ⟨vs, H2, I2, r, e2, q2⟩ => ⟨fnAt I2 e2, ?_⟩) he hpl
  show wpAny _ _ (call (.ref f) us) _ _ _
  have e0 := I2.env0
  rw [h.pp, h.ww, h.kk, h.mm, h.bb] at e0
  have rc := c.run H2 e2 X.A X.stack s2 us vs Q h.gd (h.room.mono hk) e0 r q2
  rw [← h.pp, ← h.ww] at rc
  refine wpAny_call (codeAny_mono rc fun r s' hq => ?_)
  cases r with
  | error e => exact (show False from hq).elim
  | ok fl =>
    cases fl with
    | ret u => exact I2.after hq
    | next => exact False.elim hq
    | brk => exact False.elim hq
    | cont => exact False.elim hq

/-- a lambda that captures nothing, as a value -/
theorem w_lam0 {m : Md} {N : List Str} {sc : Scope} {j k : Nat} {X : Cx} {T : List (Addr × Str)} {c P : Addr} {qual : Str} {NL ps : List Str} {params : Arguments} {body : Expr} {scope : Scope} {pos : Pos} {sp : Sp} {σ : L2.St} {H : Hp} {Q : VK} (h : At m N sc j X)
    (TB : TabB m.base m.mg c P) (hcode : X.env.code = .ref c) (hqual : X.env.qual ++ "<lambda>" = qual) (hm : (P, qual) ∈ T) (hu : ∀ p ∈ T, p.1 = P → p.2 = qual) (S : NScope NL ps [] scope) (hb : ∀ (c' : Addr) (cl : List (Str × Addr)) (pm ctv : Value) (us : List Value), us.length = ps.length → bindArgs (LF.fd ⟨qual, params, body, scope, cl, c'⟩ pm ctv) ⟨us, []⟩ = pure (ps.zip us))
    (hlen : ∀ vs H Q E, sp vs H Q E → vs.length = ps.length)
    (hbody : ∀ (X : Cx) (vs : List V) (H : Hp) (Q : VK), At m NL scope k X → sp vs H Q C8.E0 → wE X body (startF NL vs []) H Q)
    (hT : Tabs T H) (q : ∀ f H1, ExtN H H1 → Tabs T H1 → (∀ b, H1 b = none → H b = none) → Callable m (k + 1) f sp H1 → Q (.ref f) H1) (hdef : defaultsOf params X.env = ([], []) := by with_unfolding_all rfl) : wE X (.Lambda params body scope pos) σ H Q := by
  unfold wE
  intro pins s I
  subst hqual
  have nofree : ∀ y ∈ scope.names, y.2 = .free → ∃ c, X.env.cells.lookup y.1 = some c := fun y hy e => absurd (S.free y hy e) (by simp)
  refine lam_make3 (T := T) (c := c) (P := P) I (by rw [h.bb, h.mm]; exact TB) hcode hm hu hT hdef nofree fun f c' H1 s' I1 eN T1 f0 f1 c1 nn => ?_
  refine ⟨.ref f, H1, I1, rfl, q f H1 eN T1 nn ⟨⟨_, f1⟩, fun H2 e2 A outer s2 us vs Q2 hg hr e0 r hsp => ?_⟩⟩
  refine lam_run (N := NL) (ps := ps) (fr := []) (ws := []) S (fun pm ctv us hl => hb c' _ pm ctv us hl) hg hr e0 (lamO_at e0.hok (e2 _ _ f1 lamO_tbl)) (e2 _ _ c1 codeO_ne) ?_ r (hlen _ _ _ _ hsp) fun X' hA => hbody X' vs H2 Q2 hA hsp
  have ecl : cloFrom X.env.cells scope.names [] = [] := by
    cases hcl : cloFrom X.env.cells scope.names [] with
    | nil => rfl
    | cons y r =>
      have hm2 : (y.1, y.2) ∈ cloFrom X.env.cells scope.names [] := by rw [hcl]; exact List.mem_cons_self
      rcases cloFrom_mem hm2 with z | ⟨z, _⟩
      · cases z
      · exact absurd (S.free _ z rfl) (by simp)
  refine ⟨rfl, fun y c e => ?_, fun x y c e => ?_, fun i y e => ?_⟩
  · rw [ecl] at e; cases e
  · rw [ecl] at e; cases e
  · simp at e

/-! ### one captured cell, locked while the function is handed on -/
def dl (H : Hp) (c : Addr) : Hp := fun b => if b = c then none else H b
theorem dl_same {H : Hp} {c : Addr} : dl H c c = none := if_pos rfl
theorem dl_ne {H : Hp} {b c : Addr} (h : b ≠ c) : dl H c b = H b := if_neg h
theorem dl_some {H : Hp} {b c : Addr} {o : HO} (h : dl H c b = some o) : b ≠ c ∧ H b = some o := by
  by_cases e : b = c
  · subst e; rw [dl_same] at h; cases h
  · rw [dl_ne e] at h; exact ⟨e, h⟩
abbrev lkO (o : Obj) : HO := .frz o (.own 0)
section
variable {P : Program} {w : World} {H H1 : Hp} {h h' : Heap} {c : Addr} {o : Obj} {fs ex : List Addr}
theorem HOk.lock (x : HOk P w H h) (n : H c = none) (e : h.get? c = some o) : HOk P w (upd H c (lkO o)) h := fun b u q => by
  by_cases hb : b = c
  · subst hb; rw [upd_same] at q; cases q; exact ⟨e, ⟨o, e⟩⟩
  · rw [upd_ne hb] at q
    exact (x b u q).stay (fun _ _ _ r => r) (fun d r => by rw [upd_ne (ne_of_none r n)]; exact r) fun d xs r => by rw [upd_ne (ne_of_none r n)]; exact r
theorem HOk.unlock (x : HOk P w H h) (e : H c = some (lkO o)) : HOk P w (dl H c) h := fun b u q => by
  obtain ⟨hb, q⟩ := dl_some q
  exact (x b u q).stay (fun _ _ _ r => r) (fun d r => by rw [dl_ne (fun z => by subst z; rw [e] at r; cases r)]; exact r) fun d xs r => by rw [dl_ne (fun z => by subst z; rw [e] at r; cases r)]; exact r
/-- behind a run that saw the lock -/
theorem Un.unlock (u : Un fs ex (upd H c (lkO o)) H1 h h') (ok : HOk P w H1 h') (n : H c = none) (e : h.get? c = some o) (hfs : c ∉ fs) (hex : c ∉ ex) : Un fs ex H (dl H1 c) h h' := by
  have hc1 : H1 c = some (lkO o) := u.frzs c o _ upd_same
  have hc' : h'.get? c = some o := (ok c _ hc1).1
  refine ⟨fun b ob q nb hf hx => ?_, fun b ob q nb hf hx => ?_, fun b ob q nb hx => ?_, fun b ob q hx => u.there b ob q hx, fun b xs q => ?_, fun b ob z q => ?_, fun b ps q => ?_⟩
  · by_cases hb : b = c
    · subst hb; rw [e] at q; cases q; exact hc'
    · exact u.keep b ob q (by rw [upd_ne hb]; exact nb) hf hx
  · by_cases hb : b = c
    · subst hb; exact absurd hf hfs
    · exact u.slot b ob q (by rw [upd_ne hb]; exact nb) hf hx
  · by_cases hb : b = c
    · subst hb; exact dl_same
    · rw [dl_ne hb]; exact u.free b ob q (by rw [upd_ne hb]; exact nb) hx
  · have hb : b ≠ c := ne_of_none q n
    rw [dl_ne hb]; exact u.tups b xs (by rw [upd_ne hb]; exact q)
  · have hb : b ≠ c := ne_of_none q n
    rw [dl_ne hb]; exact u.frzs b ob z (by rw [upd_ne hb]; exact q)
  · have hb : b ≠ c := ne_of_none q n
    obtain ⟨more, z⟩ := u.tbls b ps (by rw [upd_ne hb]; exact q)
    exact ⟨more, by rw [dl_ne hb]; exact z⟩
/-- a run from which the lock was taken away, with it again -/
theorem Un.relock (u : Un fs ex (dl H c) H1 h h') (e : H c = some (lkO o)) (ec : h.get? c = some o) (hfs : c ∉ fs) (hex : c ∉ ex) : Un fs ex H (upd H1 c (lkO o)) h h' := by
  refine ⟨fun b ob q nb hf hx => ?_, fun b ob q nb hf hx => ?_, fun b ob q nb hx => ?_, fun b ob q hx => u.there b ob q hx, fun b xs q => ?_, fun b ob z q => ?_, fun b ps q => ?_⟩
  · have hb : b ≠ c := fun z => by subst z; rw [e] at nb; cases nb
    exact u.keep b ob q (by rw [dl_ne hb]; exact nb) hf hx
  · have hb : b ≠ c := fun z => by subst z; rw [e] at nb; cases nb
    exact u.slot b ob q (by rw [dl_ne hb]; exact nb) hf hx
  · have hb : b ≠ c := fun z => by subst z; rw [e] at nb; cases nb
    rw [upd_ne hb]; exact u.free b ob q (by rw [dl_ne hb]; exact nb) hx
  · have hb : b ≠ c := fun z => by subst z; rw [e] at q; cases q
    rw [upd_ne hb]; exact u.tups b xs (by rw [dl_ne hb]; exact q)
  · by_cases hb : b = c
    · subst hb; rw [e] at q; cases q; exact upd_same
    · rw [upd_ne hb]; exact u.frzs b ob z (by rw [dl_ne hb]; exact q)
  · have hb : b ≠ c := fun z => by subst z; rw [e] at q; cases q
    obtain ⟨more, z⟩ := u.tbls b ps (by rw [dl_ne hb]; exact q)
    exact ⟨more, by rw [upd_ne hb]; exact z⟩
theorem HOk.relock (x : HOk P w H1 h') (u : Un fs ex (dl H c) H1 h h') (ec : h.get? c = some o) (hfs : c ∉ fs) (hex : c ∉ ex) : HOk P w (upd H1 c (lkO o)) h' := by
  have hn : H1 c = none := u.free c o ec dl_same hex
  exact HOk.lock x hn (u.keep c o ec dl_same hfs hex)
end
/-- the captured cell of a function value: its address, its object, what it holds -/
structure Cap1 (F : LF) (y : Str) (c : Addr) (o : Obj) (v : V) : Prop where
  look : F.cl.lookup y = some c
  only : ∀ y' c', F.cl.lookup y' = some c' → y' = y
  data : ∃ u, o.data = .cell (some u) ∧ RelV v u
theorem ExtN.frz {H H' : Hp} (e : ExtN H H') {c : Addr} {o : Obj} {u : HO} (h : H c = some (.frz o u)) : H' c = some (.frz o u) := e _ _ h (fun _ z => by cases z)
/-- a lambda that captures one name, handed to a def by its last argument: g(e1, lambda ..: ..) -/
theorem w_lam1 {m : Md} {N : List Str} {sc : Scope} {j k kg iy : Nat} {X : Cx} {T : List (Addr × Str)} {c P : Addr} {x y xg : Str} {cdv : Value} {NL ps : List Str} {params : Arguments} {body e1 : Expr} {scope : Scope} {lpos p pos : Pos} {spw spg : Sp} {v : V} {σ : L2.St} {H : Hp} {Q : VK}
    (h : At m N sc j X) (hm' : AtM X x cdv) (TB : TabB m.base m.mg c P) (hcode : cdv = .ref c) (hm : (P, x ++ ".<locals>." ++ "<lambda>") ∈ T) (hu : ∀ p ∈ T, p.1 = P → p.2 = x ++ ".<locals>." ++ "<lambda>") (S : NScope NL ps [y] scope) (hy : (y, NameKind.free) ∈ scope.names)
    (hyN : N[iy]? = some y) (hyc : sc.names.lookup y = some .cell) (hyv : σ[iy]? = some (some v))
    (hb : ∀ (c' : Addr) (cl : List (Str × Addr)) (pm ctv : Value) (us : List Value), us.length = ps.length → bindArgs (LF.fd ⟨x ++ ".<locals>." ++ "<lambda>", params, body, scope, cl, c'⟩ pm ctv) ⟨us, []⟩ = pure (ps.zip us))
    (hlen : ∀ vs H Q E, spw vs H Q E → vs.length = ps.length) (hbody : ∀ (X : Cx) (vs : List V) (H : Hp) (Q : VK), At m NL scope k X → spw vs H Q C8.E0 → wE X body (startF NL vs [some v]) H Q)
    (g : Cal m kg xg spg) (hkg : kg ≤ j) (hgl : sc.names.lookup xg = some .globalImplicit)
    (q : wE X e1 σ H fun v1 H1 => Tabs T H1 ∧ ∀ (f ca : Addr) (o : Obj) (H2 : Hp), H1 ca = none → ExtN H1 H2 → Tabs T H2 → H2 ca = some (lkO o) →
      Callable m (k + 1) f (fun vs H Q E => H ca = some (lkO o) ∧ spw vs (dl H ca) (fun v H' => Q v (upd H' ca (lkO o))) E) H2 → spg [v1, .ref f] H2 (fun v H3 => Q v (dl H3 ca)) C8.E0)
    (hdef : defaultsOf params X.env = ([], []) := by with_unfolding_all rfl) (hdb : (xg == ("__debug__" : Str)) = false := by with_unfolding_all decide)
    (he : starEach [e1, .Lambda params body scope lpos] X.env = (false, eval e1 X.env) :: starEach [.Lambda params body scope lpos] X.env := by with_unfolding_all rfl) (he2 : starEach [.Lambda params body scope lpos] X.env = [(false, eval (.Lambda params body scope lpos) X.env)] := by with_unfolding_all rfl)
    (hpl : (backTo pos (starEach [.Lambda params body scope lpos] X.env)).any (·.1) = false := by with_unfolding_all rfl) : wE X (.Call (.Name xg p) [e1, .Lambda params body scope lpos] [] pos) σ H Q := by
  subst hcode
  obtain ⟨fg, fdg, psg, dsg, Fg, hmg, kpg, bg, dg⟩ := g.ex
  unfold wE
  intro pins s I
  have bs0 := I.ok
  refine wpAny_Call_Name_kw (ld_glob (u := .ref fg) I (h.gl hgl) (by rw [h.mm]; exact hmg) ?_ hdb)
  refine PySem.W.callWith_K (h₀ := X.base) I.ok.mod.kin (by rw [h.kk]; exact kpg) ?_ he hpl
  rw [he]
  show wpAny _ _ (spliced ((false, eval e1 X.env) :: backTo pos (starEach [.Lambda params body scope lpos] X.env))) _ _ s
  refine Calls.spliced_cons (thn ((cE (X := X) (e := e1)).run pins s σ H _ I q) fun u1 s1 ⟨v1, H1, I1, r1, hT, q1⟩ => ?_)
  rw [he2]
  show wpAny _ _ (spliced ((false, eval (.Lambda params body scope lpos) X.env) :: backTo pos [])) _ _ s1
  have hq : X.env.qual ++ "<lambda>" = x ++ ".<locals>." ++ "<lambda>" := by rw [hm'.qual]
  have hfree : ∀ z ∈ scope.names, z.2 = .free → X.env.scope.names.lookup z.1 = some .cell ∨ X.env.scope.names.lookup z.1 = some .free := fun z hz e => by
    have := S.free z hz e
    simp only [List.mem_singleton] at this
    rw [this, h.ss]; exact .inl hyc
  have hfree' : ∀ z ∈ scope.names, z.2 = .free → ∃ c, X.env.cells.lookup z.1 = some c := fun z hz e => (hfree z hz e).elim (fun k => I1.ok.has _ (.inl k)) fun k => I1.ok.has _ (.inr k)
  refine Calls.spliced_cons (lam_make3 (T := T) (c := c) (P := P) I1 (by rw [h.bb, h.mm]; exact TB) hm'.code (by rw [hq]; exact hm) (by rw [hq]; exact hu) hT hdef hfree' fun f c' H2 s2 I2 eN T2 f0 f1 c1 nn => ?_)
  refine Calls.spliced_nil ⟨I2.kIn, ?_⟩
  rw [hq] at f1 c1
  -- the captured cell
  have cp : Caps X (cloFrom X.env.cells scope.names []) [y] [iy] := Caps.made I2.ok hfree (fun z hz => by simp only [List.mem_singleton] at hz; subst hz; exact hy) (by simp [h.nn, hyN])
  have C := cells_of I2 cp
  obtain ⟨ca, hca, hval⟩ := C.has 0 y rfl
  have eslot : slotAt σ iy = some v := slotAt_of hyv
  obtain ⟨u, ru, o, ho, hod⟩ := hval v (by show ([iy].map (slotAt σ))[0]? = _; simp [eslot])
  have nca : H2 ca = none := (C.all y ca hca).1
  have nca1 : H1 ca = none := nn ca nca
  have hX : X.env.cells.lookup y = some ca := cp.sub y ca hca
  have only : ∀ y' c'', (cloFrom X.env.cells scope.names []).lookup y' = some c'' → y' = y := fun y' c'' e => by
    rcases cloFrom_mem (PySem.mem_of_lookup e) with z | ⟨z, _⟩
    · cases z
    · simpa using S.free (y', .free) z rfl
  have cs0 : X.s_0.heap.objs.size ≤ ca := I2.ok.cab y ca (hm'.fn y) hX
  have ncb : ∀ b ob, X.base.get? b = some ob → b ≠ ca := fun b ob e z => by
    subst z
    exact absurd (Nat.lt_of_lt_of_le (Heap.lt_size e) (Nat.le_trans I2.ok.bsz cs0)) (Nat.lt_irrefl _)
  have nfs : ca ∉ frs X.stack := fun z => by
    rcases List.mem_cons.mp (I2.stkSub _ z) with e | hb'
    · exact I2.cne y ca hX e
    · obtain ⟨_, ob, hob, _⟩ := I2.ok.funs.mem hb'
      exact absurd (Nat.lt_of_lt_of_le (Heap.lt_size hob) cs0) (Nat.lt_irrefl _)
  let H3 := upd H2 ca (lkO o)
  have ok3 : HOk X.prog X.w H3 s2.heap := HOk.lock I2.hok nca ho
  have e0 := I2.env0
  have e03 : Env0 X.prog X.w X.K X.mg X.base X.A X.stack s2 H3 := ⟨e0.frames, e0.mod, fun b ob e => ⟨(e0.bs b ob e).1, by show upd H2 ca (lkO o) b = none; rw [upd_ne (ncb b ob e)]; exact (e0.bs b ob e).2⟩, e0.bsz, e0.funs,
    fun b hb' => by show upd H2 ca (lkO o) b = none; rw [upd_ne (fun z => nfs (by rw [← z]; exact hb'))]; exact e0.frf b hb', ok3, e0.bare⟩
  have x23 : ExtN H2 H3 := fun b ob e _ => by show upd H2 ca (lkO o) b = _; rw [upd_ne (ne_of_none e nca)]; exact e
  have t3 : Tabs T H3 := Tabs.ext T2 fun b ob e => by show upd H2 ca (lkO o) b = _; rw [upd_ne (ne_of_none e nca)]; exact e
  have F3 : H3 f = some (LamO f _) := x23 _ _ f1 lamO_tbl
  have C3 : H3 c' = some (CodeO c' _) := x23 _ _ c1 codeO_ne
  have hcall : Callable m (k + 1) f (fun vs H Q E => H ca = some (lkO o) ∧ spw vs (dl H ca) (fun v H' => Q v (upd H' ca (lkO o))) E) H3 := by
    refine ⟨⟨_, F3⟩, fun H4 e4 A outer s4 us vs Q4 hg hr e04 r hsp => ?_⟩
    obtain ⟨hc4, hsp⟩ := hsp
    have ho4 : s4.heap.get? ca = some o := (e04.hok ca _ hc4).1
    have nf4 : ca ∉ frs outer := fun z => by have := e04.frf ca z; rw [hc4] at this; cases this
    have e05 : Env0 m.P m.w m.K m.mg m.base A outer s4 (dl H4 ca) := ⟨e04.frames, e04.mod, fun b ob e => ⟨(e04.bs b ob e).1, by
        by_cases hb' : b = ca
        · subst hb'; exact dl_same
        · rw [dl_ne hb']; exact (e04.bs b ob e).2⟩, e04.bsz, e04.funs, fun b hb' => by rw [dl_ne (fun z => nf4 (by rw [← z]; exact hb'))]; exact e04.frf b hb', HOk.unlock e04.hok hc4, e04.bare⟩
    have nef : c' ≠ ca := ne_of C3 (show H3 ca = some (lkO o) from upd_same) (by unfold CodeO; intro z; cases z)
    have F4 := e4 _ _ F3 lamO_tbl
    have C4 : dl H4 ca c' = some (CodeO c' (x ++ ".<locals>." ++ "<lambda>")) := by rw [dl_ne nef]; exact e4 _ _ C3 codeO_ne
    have run := lam_run (m := m) (N := NL) (ps := ps) (fr := [y]) (ws := [some v]) (F := ⟨x ++ ".<locals>." ++ "<lambda>", params, body, scope, cloFrom X.env.cells scope.names [], c'⟩) (f := f) (Q := fun v H' => Q4 v (upd H' ca (lkO o))) S (fun pm ctv us hl => hb c' _ pm ctv us hl) hg hr e05 (lamO_at e04.hok F4) C4
      ⟨rfl, fun y' c'' e => ?_, fun a b c0 h1 h2 => by rw [only a c0 h1, only b c0 h2], fun i y' e => ?_⟩ r (hlen _ _ _ _ hsp) fun X' hA => hbody X' vs _ _ hA hsp
    · refine codeAny_mono run fun r s' hq => ?_
      cases r with
      | error e => exact hq
      | ok fl =>
        cases fl with
        | ret u' =>
          obtain ⟨v', H', os, bare, un, hok, rv, qq⟩ := hq
          exact ⟨v', upd H' ca (lkO o), os, bare, Un.relock un hc4 ho4 nf4 (by simp), HOk.relock hok un ho4 nf4 (by simp), rv, qq⟩
        | next => exact hq
        | brk => exact hq
        | cont => exact hq
    · have := only y' c'' e
      subst this
      rw [hca] at e; cases e
      exact ⟨dl_same, _, o, ho4, hod⟩
    · match i, e with
      | 0, e =>
        cases e
        exact ⟨ca, hca, fun v' ev => by cases ev; exact ⟨u, ru, o, ho4, hod⟩⟩
  have hsp := q1 f ca o H3 nca1 (eN.trans x23) t3 upd_same hcall
  have r2 : Vals ([v1, .ref f] ++ []) ([u1, .ref f] ++ dsg) := Vals.append (Paired.cons r1 (Paired.cons rfl .nil) : Vals [v1, .ref f] [u1, .ref f]) dg
  have rc := Fg.run X.A X.stack s2 H3 ⟨[u1, .ref f], []⟩ ([u1, .ref f] ++ dsg) [v1, .ref f] (fun v H3 => Q v (dl H3 ca)) C8.E0 h.gd (h.room.mono hkg) (by rw [← h.pp, ← h.ww, ← h.kk, ← h.mm, ← h.bb]; exact e03)
    (bg s2 [u1, .ref f] (by rw [← h.kk]; exact I2.kIn) (by rw [← r2.length]; have := Fg.len _ _ _ _ hsp; simpa using this)) (by simpa using r2) hsp
  show wpAny _ _ (call (.ref fg) [u1, .ref f]) _ _ _
  rw [← h.pp, ← h.ww] at rc
  refine wpAny_call (codeAny_mono rc fun r s' hq => ?_)
  cases r with
  | error e => exact (show False from hq).elim
  | ok fl =>
    cases fl with
    | ret u' =>
      obtain ⟨v', H', os, bare, un, hok, rv, qq⟩ := hq
      exact I2.after ⟨v', dl H' ca, os, bare, Un.unlock un hok nca ho nfs (by simp), HOk.unlock hok (un.frzs ca o _ upd_same), rv, qq⟩
    | next => exact False.elim hq
    | brk => exact False.elim hq
    | cont => exact False.elim hq
end Vf
set_option maxRecDepth 100000
set_option maxHeartbeats 4000000
/-! Dat: data at any depth in the abstract heap, with the addresses that it lies at. Own work. -/
namespace Vf
open PySem PySem.Spec PyProof.Rows L2 LamX

mutual
/-- v is the data d; all lists of it lie at addresses of A -/
inductive Da (K : PySem.W.Frag) (A : Addr → Prop) (H : Hp) : V → PyData → Prop
  | non : Da K A H .non .none
  | bl (b : Bool) : Da K A H (.bl b) (.bool b)
  | int (i : Int) : Da K A H (.int i) (.int i)
  | str (x : Str) : Da K A H (.str x) (.str x)
  | lst {a : Addr} {xs : List V} {ds : List PyData} : A a → SqL K H a xs → DaAll K A H xs ds → Da K A H (.ref a) (.list ds)
  | tup {a : Addr} {xs : List V} {ds : List PyData} : SqT K H a xs → DaAll K A H xs ds → Da K A H (.ref a) (.tuple ds)
inductive DaAll (K : PySem.W.Frag) (A : Addr → Prop) (H : Hp) : List V → List PyData → Prop
  | nil : DaAll K A H [] []
  | cons {v : V} {vs : List V} {d : PyData} {ds : List PyData} : Da K A H v d → DaAll K A H vs ds → DaAll K A H (v :: vs) (d :: ds)
end
section
variable {K : PySem.W.Frag} {A A' : Addr → Prop} {H H' : Hp}
mutual
theorem Da.dp : ∀ (d : PyData) (v : V), Da K A H v d → Dp K H v d
  | .none, _, h => by cases h; exact .non
  | .bool b, _, h => by cases h; exact .bl b
  | .int i, _, h => by cases h; exact .int i
  | .str x, _, h => by cases h; exact .str x
  | .list ds, _, h => by cases h with | lst _ s r => exact .lst s (DaAll.dp ds _ r)
  | .tuple ds, _, h => by cases h with | tup s r => exact .tup s (DaAll.dp ds _ r)
  | .dict _, _, h => by cases h
theorem DaAll.dp : ∀ (ds : List PyData) (vs : List V), DaAll K A H vs ds → DpAll K H vs ds
  | [], _, h => by cases h; exact .nil
  | d :: ds, _, h => by cases h with | cons a b => exact .cons (Da.dp d _ a) (DaAll.dp ds _ b)
end
mutual
theorem Da.mono (hA : ∀ a, A a → A' a) (hL : ∀ a xs, A a → SqL K H a xs → SqL K H' a xs) (hT : ∀ a xs, SqT K H a xs → SqT K H' a xs) : ∀ (d : PyData) (v : V), Da K A H v d → Da K A' H' v d
  | .none, _, h => by cases h; exact .non
  | .bool b, _, h => by cases h; exact .bl b
  | .int i, _, h => by cases h; exact .int i
  | .str x, _, h => by cases h; exact .str x
  | .list ds, _, h => by cases h with | lst a s r => exact .lst (hA _ a) (hL _ _ a s) (DaAll.mono hA hL hT ds _ r)
  | .tuple ds, _, h => by cases h with | tup s r => exact .tup (hT _ _ s) (DaAll.mono hA hL hT ds _ r)
  | .dict _, _, h => by cases h
theorem DaAll.mono (hA : ∀ a, A a → A' a) (hL : ∀ a xs, A a → SqL K H a xs → SqL K H' a xs) (hT : ∀ a xs, SqT K H a xs → SqT K H' a xs) : ∀ (ds : List PyData) (vs : List V), DaAll K A H vs ds → DaAll K A' H' vs ds
  | [], _, h => by cases h; exact .nil
  | d :: ds, _, h => by cases h with | cons a b => exact .cons (Da.mono hA hL hT d _ a) (DaAll.mono hA hL hT ds _ b)
end
mutual
theorem Dp.noDict : ∀ (d : PyData) (v : V), Dp K H v d → d.hasDict = false
  | .none, _, _ => rfl
  | .bool _, _, _ => rfl
  | .int _, _, _ => rfl
  | .str _, _, _ => rfl
  | .list ds, _, h => by cases h with | lst s r => show PyData.hasDictAll ds = false; exact DpAll.noDict ds _ r
  | .tuple ds, _, h => by cases h with | tup s r => show PyData.hasDictAll ds = false; exact DpAll.noDict ds _ r
  | .dict _, _, h => by cases h
theorem DpAll.noDict : ∀ (ds : List PyData) (vs : List V), DpAll K H vs ds → PyData.hasDictAll ds = false
  | [], _, _ => rfl
  | d :: ds, _, h => by cases h with | cons a b => show (d.hasDict || PyData.hasDictAll ds) = false; rw [Dp.noDict d _ a, DpAll.noDict ds _ b]; rfl
end
/-- everything -/
abbrev Any : Addr → Prop := fun _ => True
mutual
theorem Da.of : ∀ (d : PyData) (v : V), Dp K H v d → Da K Any H v d
  | .none, _, h => by cases h; exact .non
  | .bool b, _, h => by cases h; exact .bl b
  | .int i, _, h => by cases h; exact .int i
  | .str x, _, h => by cases h; exact .str x
  | .list ds, _, h => by cases h with | lst s r => exact .lst trivial s (DaAll.of ds _ r)
  | .tuple ds, _, h => by cases h with | tup s r => exact .tup s (DaAll.of ds _ r)
  | .dict _, _, h => by cases h
theorem DaAll.of : ∀ (ds : List PyData) (vs : List V), DpAll K H vs ds → DaAll K Any H vs ds
  | [], _, h => by cases h; exact .nil
  | d :: ds, _, h => by cases h with | cons a b => exact .cons (Da.of d _ a) (DaAll.of ds _ b)
end
theorem DaAll.length : ∀ {vs : List V} {ds : List PyData}, DaAll K A H vs ds → vs.length = ds.length
  | _, _, .nil => rfl
  | _, _, .cons _ r => congrArg (· + 1) (DaAll.length r)
theorem DaAll.get : ∀ {vs : List V} {ds : List PyData} {i : Nat} {d : PyData}, DaAll K A H vs ds → ds[i]? = some d → ∃ v, vs[i]? = some v ∧ Da K A H v d
  | _, _, i, _, .nil, e => by simp at e
  | _, _, 0, _, .cons a _, e => by simp at e; subst e; exact ⟨_, rfl, a⟩
  | _, _, i + 1, d, .cons _ r, e => by
    obtain ⟨v, h1, h2⟩ := DaAll.get (i := i) r (by simpa using e)
    exact ⟨v, by simpa using h1, h2⟩
theorem DaAll.getV : ∀ {vs : List V} {ds : List PyData} {i : Nat} {v : V}, DaAll K A H vs ds → vs[i]? = some v → ∃ d, ds[i]? = some d ∧ Da K A H v d
  | _, _, i, _, .nil, e => by simp at e
  | _, _, 0, _, .cons a _, e => by simp at e; subst e; exact ⟨_, rfl, a⟩
  | _, _, i + 1, d, .cons _ r, e => by
    obtain ⟨v, h1, h2⟩ := DaAll.getV (i := i) r (by simpa using e)
    exact ⟨v, by simpa using h1, h2⟩
theorem DaAll.append : ∀ {vs ws : List V} {ds es : List PyData}, DaAll K A H vs ds → DaAll K A H ws es → DaAll K A H (vs ++ ws) (ds ++ es)
  | _, _, _, _, .nil, s => s
  | _, _, _, _, .cons a r, s => .cons a (DaAll.append r s)
end

/-! ### how heaps grow -/
theorem SqL.ext {K : PySem.W.Frag} {H H' : Hp} {a : Addr} {xs : List V} (e : ExtN H H') (h : SqL K H a xs) : SqL K H' a xs := by
  rcases h with (h | ⟨o, h⟩) | h
  · exact .inl (.inl (e _ _ h (fun _ z => by cases z)))
  · exact .inl (.inr ⟨o, e _ _ h (fun _ z => by cases z)⟩)
  · exact .inr h
theorem SqT.ext {K : PySem.W.Frag} {H H' : Hp} {a : Addr} {xs : List V} (e : ExtN H H') (h : SqT K H a xs) : SqT K H' a xs := by
  rcases h with (h | ⟨o, h⟩) | h
  · exact .inl (.inl (e _ _ h (fun _ z => by cases z)))
  · exact .inl (.inr ⟨o, e _ _ h (fun _ z => by cases z)⟩)
  · exact .inr h
/-- what was tracked stays, but for the objects of S (and tables of code, which grow); the tables T stay tables; no tuple and nothing frozen changes -/
structure GrowX (T : List (Addr × Str)) (S : Addr → Prop) (H H' : Hp) : Prop where
  ext : ∀ b o, ¬ S b → H b = some o → (∀ ps, o ≠ .tbl ps) → H' b = some o
  tab : Tabs T H → Tabs T H'
  keep : ∀ b, H' b = none → H b = none
  tup : ∀ b xs, H b = some (.tup xs) → H' b = some (.tup xs)
  frz : ∀ b o u, H b = some (.frz o u) → H' b = some (.frz o u)
abbrev Grow (T : List (Addr × Str)) (H H' : Hp) : Prop := GrowX T (fun _ => False) H H'
section
variable {T : List (Addr × Str)} {S S' : Addr → Prop} {H H1 H2 : Hp} {K : PySem.W.Frag} {A : Addr → Prop}
theorem GrowX.refl : GrowX T S H H := ⟨fun _ _ _ h _ => h, id, fun _ h => h, fun _ _ h => h, fun _ _ _ h => h⟩
theorem GrowX.trans (a : GrowX T S H H1) (b : GrowX T S H1 H2) : GrowX T S H H2 := ⟨fun c o s h n => b.ext c o s (a.ext c o s h n) n, fun t => b.tab (a.tab t), fun c h => a.keep c (b.keep c h), fun c xs h => b.tup c xs (a.tup c xs h), fun c o u h => b.frz c o u (a.frz c o u h)⟩
theorem GrowX.weak (a : GrowX T S H H1) (h : ∀ b, S b → S' b) : GrowX T S' H H1 := ⟨fun c o s e n => a.ext c o (fun z => s (h c z)) e n, a.tab, a.keep, a.tup, a.frz⟩
theorem Grow.extN (a : Grow T H H1) : ExtN H H1 := fun b o h n => a.ext b o (fun z => z) h n
theorem Grow.of (a : ExtN H H1) (t : Tabs T H → Tabs T H1) (k : ∀ b, H1 b = none → H b = none) : Grow T H H1 := ⟨fun b o _ h n => a b o h n, t, k, fun b xs h => a b _ h (fun _ z => by cases z), fun b o u h => a b _ h (fun _ z => by cases z)⟩
theorem Grow.to (a : Grow T H H1) : GrowX T S H H1 := a.weak fun _ z => z.elim
theorem Grow.new {p : Addr} {o : HO} (h : H p = none) : Grow T H (upd H p o) := ⟨fun b u _ e _ => by rw [upd_ne (ne_of_none e h)]; exact e, fun t => t.ext fun b u e => by rw [upd_ne (ne_of_none e h)]; exact e, fun b e => NdefX.upd_none e, fun b xs e => by rw [upd_ne (ne_of_none e h)]; exact e, fun b u v e => by rw [upd_ne (ne_of_none e h)]; exact e⟩
theorem GrowX.set {p : Addr} {o u : HO} (hp : S p) (h : H p = some u) (n : ∀ ps, u ≠ .tbl ps) (hc : ∀ q, u ≠ CodeO p q) (ht : ∀ xs, u ≠ .tup xs) (hf : ∀ w v, u ≠ .frz w v) : GrowX T S H (upd H p o) := by
  refine ⟨fun b w s e _ => by rw [upd_ne (fun z => s (by rw [z]; exact hp))]; exact e, fun t q hq => ?_, fun b e => NdefX.upd_none e, fun b xs e => by rw [upd_ne (fun z => ht xs (Option.some.inj (h.symm.trans (by rw [← z]; exact e))))]; exact e, fun b w v e => by rw [upd_ne (fun z => hf w v (Option.some.inj (h.symm.trans (by rw [← z]; exact e))))]; exact e⟩
  obtain ⟨ps, h1, h2, h3⟩ := t q hq
  refine ⟨ps, by rw [upd_ne (fun z => n ps (Option.some.inj (h.symm.trans (by rw [← z]; exact h1))))]; exact h1, h2, fun pos cv hc' => ?_⟩
  obtain ⟨c, e1, e2⟩ := h3 pos cv hc'
  exact ⟨c, e1, by rw [upd_ne (fun z => hc q.2 (Option.some.inj (h.symm.trans (by rw [← z]; exact e2))))]; exact e2⟩
theorem GrowX.seqL {a : Addr} {xs : List V} (g : GrowX T S H H1) (h : SqL K H a xs) (n : ¬ S a) : SqL K H1 a xs := by
  rcases h with (h | ⟨o, h⟩) | h
  · exact .inl (.inl (g.ext _ _ n h (fun _ z => by cases z)))
  · exact .inl (.inr ⟨o, g.ext _ _ n h (fun _ z => by cases z)⟩)
  · exact .inr h
theorem GrowX.seqT {a : Addr} {xs : List V} (g : GrowX T S H H1) (h : SqT K H a xs) : SqT K H1 a xs := by
  rcases h with (h | ⟨o, h⟩) | h
  · exact .inl (.inl (g.tup _ _ h))
  · exact .inl (.inr ⟨o, g.frz _ _ _ h⟩)
  · exact .inr h
theorem GrowX.da {v : V} {d : PyData} (g : GrowX T S H H1) (h : Da K A H v d) (n : ∀ a, A a → ¬ S a) : Da K A H1 v d := Da.mono (fun _ z => z) (fun a xs ha e => g.seqL e (n a ha)) (fun a xs e => g.seqT e) d v h
theorem GrowX.daAll {v : List V} {d : List PyData} (g : GrowX T S H H1) (h : DaAll K A H v d) (n : ∀ a, A a → ¬ S a) : DaAll K A H1 v d := DaAll.mono (fun _ z => z) (fun a xs ha e => g.seqL e (n a ha)) (fun a xs e => g.seqT e) d v h
theorem Grow.da {v : V} {d : PyData} (g : Grow T H H1) (h : Da K A H v d) : Da K A H1 v d := GrowX.da g h fun _ _ z => z
theorem Grow.daAll {v : List V} {d : List PyData} (g : Grow T H H1) (h : DaAll K A H v d) : DaAll K A H1 v d := GrowX.daAll g h fun _ _ z => z
theorem Da.sub {A' : Addr → Prop} {v : V} {d : PyData} (h : Da K A H v d) (s : ∀ a, A a → A' a) : Da K A' H v d := Da.mono s (fun _ _ _ e => e) (fun _ _ e => e) d v h
theorem DaAll.sub {A' : Addr → Prop} {v : List V} {d : List PyData} (h : DaAll K A H v d) (s : ∀ a, A a → A' a) : DaAll K A' H v d := DaAll.mono s (fun _ _ _ e => e) (fun _ _ e => e) d v h
/-- free addresses -/
abbrev New (H : Hp) : Addr → Prop := fun a => H a = none
theorem GrowX.new {a : Addr} (g : GrowX T S H H1) (h : New H1 a) : New H a := g.keep a h
end

/-! ### repr of data -/
theorem call_reprD {X : Cx} (hg : X.A.guards = some []) (hu : X.A.units + 64 < cLine) : CallR X (.builtin "repr") (fun xs H Q => ∃ v d, xs = [v] ∧ Dp X.K H v d ∧ d.showable = true ∧ d.shown.length ≤ sizeLine ∧ d.depth ≤ 60 ∧ Q (.str d.shown) H) := by
  intro pins s σ H xs us Q I r h
  obtain ⟨v, d, rfl, hd, hs, hl, hdp, q⟩ := h
  obtain ⟨u, rfl, ru⟩ := vals1 r
  have fin : ∀ (h' : Heap) (u' tk : Tok), (∀ b o, s.heap.get? b = some o → h'.get? b = some o) → EP X pins σ Q (.str d.shown u') { s with heap := h', toks := tk } := fun h' u' tk kp => ⟨.str d.shown, H, I.kept kp, ⟨_, rfl⟩, q⟩
  cases hd with
  | non => cases ru; exact PySem.P.repr_of_none (fin _ _ _ fun _ _ e => e)
  | bl b => cases ru; exact PySem.P.repr_of_bool (fin _ _ _ fun _ _ e => e)
  | int i => obtain ⟨t, rfl⟩ := ru; exact PySem.P.repr_of_int (by simpa [PyData.showable] using hs) (fin _ _ _ fun _ _ e => e)
  | str x => obtain ⟨t, rfl⟩ := ru; exact PySem.P.repr_of_str (fin _ _ _ fun _ _ e => e) hl
  | lst hsq hda =>
    obtain ⟨as, rd⟩ := Dp.reads I _ _ _ (Dp.lst hsq hda) ru
    cases ru
    exact repr_of_reads' rd hs (PyData.noDict_hsm (Dp.noDict _ _ (Dp.lst hsq hda))) hg (by omega) (fun _ _ e => e) (fun h' u tk kp => fin h' u tk kp) hl
  | tup hsq hda =>
    obtain ⟨as, rd⟩ := Dp.reads I _ _ _ (Dp.tup hsq hda) ru
    cases ru
    exact repr_of_reads' rd hs (PyData.noDict_hsm (Dp.noDict _ _ (Dp.tup hsq hda))) hg (by omega) (fun _ _ e => e) (fun h' u tk kp => fin h' u tk kp) hl
end Vf
set_option maxRecDepth 100000
set_option maxHeartbeats 4000000
/-! Gen: operators, subscripts, calls at values: what is left of an expression when its parts are known. Own work. -/
namespace Vf
open PySem PySem.Spec PyProof.Rows L2 LamX
/-- a binary operator or comparison at two values -/
def gOp (X : Cx) (f : Value → Value → Sem Value) (x y : V) (H : Hp) (Q : VK) : Prop := ∀ (pins : List (Addr × Obj)) (s : Shared) (σ : L2.St) (v u : Value), Inv X pins σ H s → L2.RelV x v → L2.RelV y u → wpAny (model X.prog X.w) X.A (f v u) (EP X pins σ Q) X.xe s
/-- a subscript at two values -/
def gIx (X : Cx) (x y : V) (H : Hp) (Q : VK) : Prop := ∀ (value slice : Expr) (pins : List (Addr × Obj)) (s : Shared) (σ : L2.St) (v u : Value), Inv X pins σ H s → L2.RelV x v → L2.RelV y u →
  subscripted slice false v u = operate [v, u] (getItem v u) → wpAny (model X.prog X.w) X.A (subscriptTail value slice v u) (EP X pins σ Q) X.xe s
/-- a store x[y] = z at three values -/
def gSet (X : Cx) (x y z : V) (H : Hp) (Q : Hp → Prop) : Prop := ∃ t, PSet X t ∧ t x y z H Q
/-- a built-in's call at values -/
def gCall (X : Cx) (f : Value) (xs : List V) (H : Hp) (Q : VK) : Prop := ∃ r, CallR X f r ∧ r xs H Q
/-- truth -/
def gTru (X : Cx) (x : V) (H : Hp) (Q : Bool → Hp → Prop) : Prop := ∃ k, TruV X.K x H k ∧ Q k H
section
variable {m : Md} {N : List Str} {sc : Scope} {k : Nat} {X : Cx} {a b c e o : Expr} {es : List Expr} {σ : L2.St} {H : Hp} {Q : VK} {QB : Bool → Hp → Prop} {D : Ends} {pos p p1 p2 : Pos} {x y : Str} {i j : Nat} {v w : V}
theorem gOp_ok {f : Value → Value → Sem Value} : OpR X f (gOp X f) := fun pins s σ H x y v u Q I rx ry h => h pins s σ v u I rx ry
theorem gOp.of {f : Value → Value → Sem Value} {r : R2} (h : OpR X f r) {x y : V} (q : r x y H Q) : gOp X f x y H Q := fun pins s σ v u I rx ry => h pins s σ H x y v u Q I rx ry q
theorem gIx_ok : IxR X (gIx X) := fun value slice pins s σ H x y v u Q I rx ry h hs => h value slice pins s σ v u I rx ry hs
theorem gIx.of {r : R2} (h : IxR X r) {x y : V} (q : r x y H Q) : gIx X x y H Q := fun value slice pins s σ v u I rx ry hs => h value slice pins s σ H x y v u Q I rx ry q hs
theorem g_bin {op : Operator} (q : wE X a σ H fun x H1 => wE X b σ H1 fun y H2 => gOp X (binaryOp op) x y H2 Q) : wE X (.BinOp a op b pos) σ H Q := w_bin gOp_ok q
theorem g_cmp {op : CmpOp} (q : wE X a σ H fun x H1 => wE X b σ H1 fun y H2 => gOp X (compareOp op) x y H2 Q) (hm : behindInMarks op b = false := by with_unfolding_all first | exact nomark _ | rfl) : wE X (.Compare a [op] [b] pos) σ H Q := w_cmp gOp_ok hm q
theorem gt_cmp {op : CmpOp} (q : wE X a σ H fun x H1 => wE X b σ H1 fun y H2 => gOp X (compareOp op) x y H2 fun z H' => ∃ k, z = .bl k ∧ QB k H') (hm : behindInMarks op b = false := by with_unfolding_all first | exact nomark _ | rfl) : wT X (.Compare a [op] [b] pos) σ H QB := t_cmp gOp_ok hm q
theorem g_ix (q : wE X a σ H fun x H1 => wE X b σ H1 fun y H2 => gIx X x y H2 Q) (hs : PlainIx b := by with_unfolding_all exact fun _ _ => rfl) : wE X (.Subscript a b pos) σ H Q := w_ix gIx_ok hs q
theorem gt_tru (q : wE X a σ H fun x H1 => gTru X x H1 QB) (he : ∀ whole, isTrue a X.env whole = (do let v ← whole; standAt a.pos; holding [v] (truthy v)) := by with_unfolding_all (intro _; rfl)) : wT X a σ H QB := t_truth q he
theorem decI {i j : Int} : decide (V.int i = V.int j) = decide (i = j) := by rw [decide_eq_decide]; exact ⟨fun z => by injection z, fun z => by rw [z]⟩
theorem decS {i j : Str} : decide (V.str i = V.str j) = decide (i = j) := by rw [decide_eq_decide]; exact ⟨fun z => by injection z, fun z => by rw [z]⟩
/-- .. ints -/
theorem g_addI {i j : Int} (q : Q (.int (i + j)) H) : gOp X (binaryOp .Add) (.int i) (.int j) H Q := gOp.of op_add ⟨_, _, rfl, rfl, q⟩
theorem g_subI {i j : Int} (q : Q (.int (i - j)) H) : gOp X (binaryOp .Sub) (.int i) (.int j) H Q := gOp.of op_sub ⟨_, _, rfl, rfl, q⟩
theorem g_mulI {i j : Int} (hc : CMul i j) (q : Q (.int (i * j)) H) : gOp X (binaryOp .Mult) (.int i) (.int j) H Q := gOp.of op_mul ⟨_, _, rfl, rfl, hc, q⟩
theorem g_modI {i j : Int} (hj : 0 < j) (q : Q (.int (i % j)) H) : gOp X (binaryOp .Mod) (.int i) (.int j) H Q := gOp.of op_mod ⟨_, _, rfl, rfl, hj, q⟩
/-- the rest alone is known by its bounds -/
theorem g_modB {i j : Int} (hj : 0 < j) (q : ∀ r, 0 ≤ r → r < j → Q (.int r) H) : gOp X (binaryOp .Mod) (.int i) (.int j) H Q := g_modI hj (q _ (Int.emod_nonneg _ (by omega)) (Int.emod_lt_of_pos _ hj))
theorem g_divI {i j : Int} (hj : 0 < j ∧ j < 1073741824) (q : Q (.int (i / j)) H) : gOp X (binaryOp .FloorDiv) (.int i) (.int j) H Q := gOp.of op_fdiv ⟨_, _, rfl, rfl, hj, q⟩
theorem g_divW {i j : Int} (hj : CDivW i j) (q : Q (.int (i / j)) H) : gOp X (binaryOp .FloorDiv) (.int i) (.int j) H Q := gOp.of op_fdivW ⟨_, _, rfl, rfl, hj, q⟩
theorem g_powI {i j : Int} (hc : CPow i j) (q : Q (.int (i ^ j.toNat)) H) : gOp X (binaryOp .Pow) (.int i) (.int j) H Q := gOp.of op_pow ⟨_, _, rfl, rfl, hc, q⟩
theorem g_ltI {i j : Int} (q : Q (.bl (decide (i < j))) H) : gOp X (compareOp .Lt) (.int i) (.int j) H Q := gOp.of op_lt ⟨_, _, rfl, rfl, q⟩
theorem g_leI {i j : Int} (q : Q (.bl (decide (i ≤ j))) H) : gOp X (compareOp .LtE) (.int i) (.int j) H Q := gOp.of op_le ⟨_, _, rfl, rfl, q⟩
theorem g_gtI {i j : Int} (q : Q (.bl (decide (j < i))) H) : gOp X (compareOp .Gt) (.int i) (.int j) H Q := gOp.of op_gt ⟨_, _, rfl, rfl, q⟩
theorem g_geI {i j : Int} (q : Q (.bl (decide (j ≤ i))) H) : gOp X (compareOp .GtE) (.int i) (.int j) H Q := gOp.of op_ge ⟨_, _, rfl, rfl, q⟩
theorem g_eqI {i j : Int} (q : Q (.bl (decide (i = j))) H) : gOp X (compareOp .Eq) (.int i) (.int j) H Q := gOp.of op_eq ⟨rfl, by rw [decI]; exact q⟩
theorem g_neI {i j : Int} (q : Q (.bl (!decide (i = j))) H) : gOp X (compareOp .NotEq) (.int i) (.int j) H Q := gOp.of op_ne ⟨rfl, by rw [decI]; exact q⟩
theorem g_eqS {i j : Str} (q : Q (.bl (decide (i = j))) H) : gOp X (compareOp .Eq) (.str i) (.str j) H Q := gOp.of op_eq ⟨rfl, by rw [decS]; exact q⟩
theorem g_neS {i j : Str} (q : Q (.bl (!decide (i = j))) H) : gOp X (compareOp .NotEq) (.str i) (.str j) H Q := gOp.of op_ne ⟨rfl, by rw [decS]; exact q⟩
theorem g_leS {i j : Str} (q : Q (.bl (!decide (j.cps.toList < i.cps.toList))) H) (hr : OpR X (compareOp .LtE) (fun x y H Q => ∃ i j, x = .str i ∧ y = .str j ∧ Q (.bl (!decide (j.cps.toList < i.cps.toList))) H)) : gOp X (compareOp .LtE) (.str i) (.str j) H Q := gOp.of hr ⟨_, _, rfl, rfl, q⟩
theorem g_isN (q : Q (.bl (decide (v = .non))) H) : gOp X (compareOp .Is) v .non H Q := gOp.of op_isN ⟨rfl, q⟩
theorem g_notN (q : Q (.bl (!decide (v = .non))) H) : gOp X (compareOp .IsNot) v .non H Q := gOp.of op_notN ⟨rfl, q⟩
/-- .. texts -/
theorem g_addS {i j : Str} (hl : i.length + j.length ≤ sizeLine) (q : Q (.str (i ++ j)) H) : gOp X (binaryOp .Add) (.str i) (.str j) H Q := gOp.of op_add_str ⟨_, _, rfl, rfl, hl, q⟩
/-- .. lists -/
theorem g_cat {l r : Addr} {xs zs : List V} (h1 : H l = some (.lst xs)) (h2 : H r = some (.lst zs)) (hz : xs.length + zs.length ≤ sizeLine) (q : ∀ p, H p = none → Q (.ref p) (upd H p (.lst (xs ++ zs)))) : gOp X (binaryOp .Add) (.ref l) (.ref r) H Q := gOp.of op_cat ⟨_, _, _, _, rfl, rfl, h1, h2, hz, q⟩
theorem g_ixL (h : At m N sc k X) {l : Addr} {xs : List V} {i : Int} {v : V} (hs : SqL m.K H l xs) (e : atI xs i = some v) (q : Q v H) : gIx X (.ref l) (.int i) H Q := gIx.of ix_list ⟨_, _, _, _, rfl, rfl, by rw [h.kk]; exact hs, e, q⟩
theorem g_ixT (h : At m N sc k X) {l : Addr} {xs : List V} {i : Int} {v : V} (hs : SqT m.K H l xs) (e : atI xs i = some v) (q : Q v H) : gIx X (.ref l) (.int i) H Q := gIx.of ix_tup ⟨_, _, _, _, rfl, rfl, by rw [h.kk]; exact hs, e, q⟩
theorem g_ixS {z : Str} {i : Int} {c : Nat} (hz : z.length ≤ sizeLine) (e : atI z.cps.toList i = some c) (q : Q (.str ⟨#[c]⟩) H) : gIx X (.str z) (.int i) H Q := gIx.of ix_str ⟨_, _, _, rfl, rfl, hz, e, q⟩
theorem g_eqD (h : At m N sc k X) {v w : V} {d e : PyData} (hd : Dp m.K H v d) (he : Dp m.K H w e) (sd : SeqAt.shaped d = true) (se : SeqAt.shaped e = true) (q : Q (.bl (PyData.eqv d e)) H) : gOp X (compareOp .Eq) v w H Q := gOp.of (op_eqD h.room.units) ⟨d, e, by rw [h.kk]; exact hd, by rw [h.kk]; exact he, sd, se, q⟩
theorem g_neD (h : At m N sc k X) {v w : V} {d e : PyData} (hd : Dp m.K H v d) (he : Dp m.K H w e) (sd : SeqAt.shaped d = true) (se : SeqAt.shaped e = true) (q : Q (.bl (!PyData.eqv d e)) H) : gOp X (compareOp .NotEq) v w H Q := gOp.of (op_neD h.room.units) ⟨d, e, by rw [h.kk]; exact hd, by rw [h.kk]; exact he, sd, se, q⟩
theorem g_inF (h : At m N sc k X) {v : V} {l : Addr} {xs : List V} (hs : SqL m.K H l xs ∨ SqT m.K H l xs) (f1 : flatV v = true) (f2 : xs.all flatV = true) (q : Q (.bl (inV v xs)) H) : gOp X (compareOp .In) v (.ref l) H Q := gOp.of op_in_seq ⟨_, _, rfl, by rw [h.kk]; exact hs, f1, f2, q⟩
theorem g_notInF (h : At m N sc k X) {v : V} {l : Addr} {xs : List V} (hs : SqL m.K H l xs ∨ SqT m.K H l xs) (f1 : flatV v = true) (f2 : xs.all flatV = true) (q : Q (.bl (!inV v xs)) H) : gOp X (compareOp .NotIn) v (.ref l) H Q := gOp.of op_notIn_seq ⟨_, _, rfl, by rw [h.kk]; exact hs, f1, f2, q⟩
/-- a built-in function by its name -/
theorem g_blt {id : String} (h : At m N sc k X) (hm : m.mg x = none) (hg : sc.names.lookup x = some .globalImplicit) (hv : bootBuiltins x = some (.builtin id)) (q : wA X (e :: es) σ H fun vs H1 => gCall X (.builtin id) vs H1 Q)
    (hn : x ≠ "__name__" := by with_unfolding_all decide) (hdb : (x == ("__debug__" : Str)) = false := by with_unfolding_all decide) (he : starEach (e :: es) X.env = (false, eval e X.env) :: starEach es X.env := by with_unfolding_all rfl) (hpl : (backTo pos (starEach es X.env)).any (·.1) = false := by with_unfolding_all rfl) : wE X (.Call (.Name x p) (e :: es) [] pos) σ H Q :=
  w_blt (r := fun vs H1 Q => gCall X (.builtin id) vs H1 Q) h (fun pins s σ H xs us Q I r ⟨rr, hr, q⟩ => hr pins s σ H xs us Q I r q) hm hg hv q hn hdb he hpl
theorem g_typ {T : String} (h : At m N sc k X) (hm : m.mg x = none) (hg : sc.names.lookup x = some .globalImplicit) (hv : bootBuiltins x = some (.type T)) (q : wA X (e :: es) σ H fun vs H1 => gCall X (.type T) vs H1 Q)
    (hn : x ≠ "__name__" := by with_unfolding_all decide) (hdb : (x == ("__debug__" : Str)) = false := by with_unfolding_all decide) (he : starEach (e :: es) X.env = (false, eval e X.env) :: starEach es X.env := by with_unfolding_all rfl) (hpl : (backTo pos (starEach es X.env)).any (·.1) = false := by with_unfolding_all rfl) : wE X (.Call (.Name x p) (e :: es) [] pos) σ H Q :=
  w_ty (r := fun vs H1 Q => gCall X (.type T) vs H1 Q) h (fun pins s σ H xs us Q I r ⟨rr, hr, q⟩ => hr pins s σ H xs us Q I r q) hm hg hv q hn hdb he hpl
theorem g_sum (h : At m N sc k X) {l : Addr} {ns : List Int} (hs : SqL m.K H l (ns.map V.int)) (q : Q (.int ns.sum) H) : gCall X (.builtin "sum") [.ref l] H Q := ⟨_, cr_sum h.calm, _, _, rfl, by rw [h.kk]; exact hs, q⟩
theorem g_max2 (h : At m N sc k X) {i j : Int} (q : Q (.int (if j > i then j else i)) H) : gCall X (.builtin "max") [.int i, .int j] H Q := ⟨_, call_max2 h.calm, _, _, rfl, q⟩
theorem g_min2 (h : At m N sc k X) {i j : Int} (q : Q (.int (if j < i then j else i)) H) : gCall X (.builtin "min") [.int i, .int j] H Q := ⟨_, call_min2 h.calm, _, _, rfl, q⟩
theorem g_lenL (h : At m N sc k X) {l : Addr} {xs : List V} (hs : SqL m.K H l xs) (q : Q (.int xs.length) H) : gCall X (.builtin "len") [.ref l] H Q := ⟨_, call_len, _, xs.length, rfl, .inl ⟨_, by rw [h.kk]; exact hs, rfl⟩, q⟩
theorem g_lenT (h : At m N sc k X) {l : Addr} {xs : List V} (hs : SqT m.K H l xs) (q : Q (.int xs.length) H) : gCall X (.builtin "len") [.ref l] H Q := ⟨_, call_len, _, xs.length, rfl, .inr ⟨_, by rw [h.kk]; exact hs, rfl⟩, q⟩
theorem g_lenS {z : Str} (hz : z.length ≤ sizeLine) (q : Q (.int z.length) H) : gCall X (.builtin "len") [.str z] H Q := ⟨_, call_len, _, z.length, rfl, ⟨hz, rfl⟩, q⟩
theorem g_listOf (h : At m N sc k X) {l : Addr} {ys : List V} (hs : SqL m.K H l ys ∨ SqT m.K H l ys) (q : ∀ p, H p = none → Q (.ref p) (upd H p (.lst ys))) : gCall X (.type "list") [.ref l] H Q := ⟨_, call_list_of, _, _, rfl, by rw [h.kk]; exact hs, q⟩
theorem g_all (h : At m N sc k X) {l : Addr} {bs : List Bool} (hs : SqL m.K H l (bs.map V.bl)) (q : Q (.bl (bs.all id)) H) : gCall X (.builtin "all") [.ref l] H Q := ⟨_, cr_all h.calm, _, _, rfl, by rw [h.kk]; exact hs, q⟩
theorem g_any (h : At m N sc k X) {l : Addr} {bs : List Bool} (hs : SqL m.K H l (bs.map V.bl)) (q : Q (.bl (bs.any id)) H) : gCall X (.builtin "any") [.ref l] H Q := ⟨_, cr_any h.calm, _, _, rfl, by rw [h.kk]; exact hs, q⟩
theorem g_repr (h : At m N sc k X) {v : V} {d : PyData} (hd : Dp m.K H v d) (h1 : d.showable = true) (h2 : d.shown.length ≤ sizeLine) (h3 : d.depth ≤ 60) (q : Q (.str d.shown) H) : gCall X (.builtin "repr") [v] H Q := ⟨_, call_reprD h.gd h.room.units, _, _, rfl, by rw [h.kk]; exact hd, h1, h2, h3, q⟩
/-- n.bit_length() -/
theorem g_bits (q : wE X o σ H fun x H1 => ∃ i, x = .int i ∧ Q (.int (Builtin.Int.intBits i : Nat)) H1) (hbase : attributeBase o "bit_length" X.env (eval o X.env) = eval o X.env := by with_unfolding_all rfl) {apos : Pos} (hline : (apos.endLine == pos.line) = true := by with_unfolding_all rfl) : wE X (.Call (.Attribute o "bit_length" apos) [] [] pos) σ H Q := toE (pe_bits cE hbase hline) q
/-- xs.append(e) -/
theorem g_append (q : wE X o σ H fun x H1 => tyV X.K "list" x H1 ∧ wA X [e] σ H1 fun ys H2 => ∃ l xs y, x = .ref l ∧ ys = [y] ∧ H2 l = some (.lst xs) ∧ xs.length < sizeLine ∧ Q .non (upd H2 l (.lst (xs ++ [y])))) {apos : Pos}
    (hbase : attributeBase o "append" X.env (eval o X.env) = eval o X.env := by with_unfolding_all rfl)
    (hfew : ((backTo pos (starEach [e] X.env)).all (fun x => !x.1) && (backToKw pos (keywordEach [] X.env)).all (fun x => x.1.isSome) && decide ([e].length + ([] : List Keyword).length + (if ([] : List Keyword).isEmpty then 0 else 1) < 30)) = true := by with_unfolding_all rfl)
    (hline : (apos.endLine == pos.line) = true := by with_unfolding_all rfl) (hs : starEach [e] X.env = (false, eval e X.env) :: starEach [] X.env := by with_unfolding_all rfl) (hplain : (backTo pos (starEach [] X.env)).any (·.1) = false := by with_unfolding_all rfl) : wE X (.Call (.Attribute o "append" apos) [e] [] pos) σ H Q :=
  toE (pe_bm PySem.F.plainAttrs_list PySem.F.slot_list_append PySem.F.type_list_append mt_append cE cA hbase hfew hline hs hplain) q
/-- e[lo:hi] of a list -/
theorem tyL {l : Addr} {xs : List V} (h : H l = some (.lst xs)) : tyV X.K "list" (.ref l) H := .inl ⟨rfl, _, SqL.of h⟩
end
theorem bt_sum : bootBuiltins "sum" = some (.builtin "sum") := by decide +kernel
theorem bt_max : bootBuiltins "max" = some (.builtin "max") := by decide +kernel
theorem bt_min : bootBuiltins "min" = some (.builtin "min") := by decide +kernel
theorem bt_len : bootBuiltins "len" = some (.builtin "len") := by decide +kernel
theorem bt_all : bootBuiltins "all" = some (.builtin "all") := by decide +kernel
theorem bt_any : bootBuiltins "any" = some (.builtin "any") := by decide +kernel
theorem bt_repr : bootBuiltins "repr" = some (.builtin "repr") := by decide +kernel
theorem bt_sorted : bootBuiltins "sorted" = some (.builtin "sorted") := by decide +kernel
theorem bt_isinstance : bootBuiltins "isinstance" = some (.builtin "isinstance") := by decide +kernel
theorem bt_abs : bootBuiltins "abs" = some (.builtin "abs") := by decide +kernel
theorem bt_list : bootBuiltins "list" = some (.type "list") := by decide +kernel
theorem bt_int : bootBuiltins "int" = some (.type "int") := by decide +kernel
theorem bt_str : bootBuiltins "str" = some (.type "str") := by decide +kernel
theorem bt_set : bootBuiltins "set" = some (.type "set") := by decide +kernel
theorem bt_dict : bootBuiltins "dict" = some (.type "dict") := by decide +kernel
theorem bt_tuple : bootBuiltins "tuple" = some (.type "tuple") := by decide +kernel
theorem bt_bool : bootBuiltins "bool" = some (.type "bool") := by decide +kernel
end Vf
set_option maxRecDepth 100000
set_option maxHeartbeats 4000000
/-! Lc: list comprehensions, slices, powers. Own work. -/
namespace Vf
open PySem PySem.Spec PyProof.Rows L2 LamX
section
variable {m : Md} {N : List Str} {sc scope : Scope} {k : Nat} {X : Cx} {a b c e o elt iter : Expr} {es : List Expr} {σ : L2.St} {H : Hp} {Q : VK} {D : Ends} {pos p p1 p2 p3 : Pos} {x y : Str} {i j : Nat} {v w : V}
theorem blk_at (h : At m N sc k X) (s : Shared) (H : Hp) (C : Addr) (cl : List (Str × Addr)) (fp : List Addr) : At m N (relS scope sc) k (X.blk s H scope (compEnvC scope cl C X.env) fp) :=
  ⟨h.pp, h.ww, h.kk, h.mm, h.bb, h.nn, by show relS scope X.env.scope = _; rw [h.ss], h.calm, h.room, PassesOwn.never, h.nd, h.gd⟩
theorem wipe1 {u : Option V} : wipe (σ.set i u) [i] = wipe σ [i] := by simp [wipe, List.set_set]
/-- the new list's element, run wherever the block may stand -/
abbrev inBlk (m : Md) (N : List Str) (sc : Scope) (k : Nat) (e : Expr) : TE := fun σ H Q => ∀ X', At m N sc k X' → wE X' e σ H Q
abbrev inBlkT (m : Md) (N : List Str) (sc : Scope) (k : Nat) (e : Expr) : TT := fun σ H Q => ∀ X', At m N sc k X' → wT X' e σ H Q
theorem blk_pe (h : At m N sc k X) (s : Shared) (H : Hp) (C : Addr) (cl : List (Str × Addr)) (fp : List Addr) : PE (X.blk s H scope (compEnvC scope cl C X.env) fp) e (inBlk m N (relS scope sc) k e) := ⟨fun pins s' σ' H' Q I q => cE.run pins s' σ' H' Q I (q _ (blk_at h s H C cl fp))⟩
theorem blk_pt (h : At m N sc k X) (s : Shared) (H : Hp) (C : Addr) (cl : List (Str × Addr)) (fp : List Addr) : PT (X.blk s H scope (compEnvC scope cl C X.env) fp) e (inBlkT m N (relS scope sc) k e) := ⟨fun pins s' σ' H' Q I q => cT.run pins s' σ' H' Q I (q _ (blk_at h s H C cl fp))⟩
theorem set_wipe {z : V} : (wipe σ [i]).set i (some z) = σ.set i (some z) := by simp [wipe, List.set_set]
/-- what one turn of a block asks: the element is appended to the list at D, then the invariant -/
abbrev App (D : Addr) (P : Hp → Prop) : VK := fun y H4 => ∃ acc, H4 D = some (.lst acc) ∧ acc.length < sizeLine ∧ P (upd H4 D (.lst (acc ++ [y])))
/-- [elt for x in iter], iter a list that the block leaves as it is -/
theorem w_lcL (h : At m N sc k X) (ok : blkC N sc scope [(x, i)] = true) (n : NL N (relS scope sc) i x)
    (q : wE X iter σ H fun v H1 => ∃ (a : Addr) (xs : List V), v = .ref a ∧ SqL m.K H1 a xs ∧ ∀ D, H1 D = none → ∃ Pv : Nat → Hp → Prop, Pv 0 (upd H1 D (.lst [])) ∧ (∀ j H, j ≤ xs.length → Pv j H → SqL m.K H a xs) ∧
      (∀ j x H, xs[j]? = some x → Pv j H → ∀ X', At m N (relS scope sc) k X' → wE X' elt (σ.set i (some x)) H (App D (Pv (j + 1)))) ∧ ∀ H, Pv xs.length H → Q (.ref D) H)
    (hs : ∀ x, foldedSetIterable iter X.env x = pure x := by with_unfolding_all (intro _; rfl)) : wE X (.ListComp elt [⟨.Name x p1, iter, [], 0⟩] scope pos) σ H Q := by
  refine toE (pe_lc (own := [(x, i)]) (g := gName i) (tt := tYes) (te := inBlk m N (relS scope sc) k elt) h.calm (by rw [h.nn]; exact h.nd) (pi_list cE) (by rw [h.nn, h.ss]; exact blkOk_by ok) (fun s H C cl fp => pg_nl (blk_at h s H C cl fp) n) (fun _ _ _ _ _ => pts_nil) (fun s H C cl fp => blk_pe h s H C cl fp) hs) ?_
  refine wE.mono q fun v H1 ⟨a, xs, ea, hl, go⟩ => ⟨a, ea, ⟨xs, by rw [h.kk]; exact hl⟩, fun D hD => ?_⟩
  obtain ⟨Pv, p0, st, turn, fin⟩ := go D hD
  refine lc_list (K := X.K) (a := a) (xs := xs) (g := gName i) (tt := tYes) (te := inBlk m N (relS scope sc) k elt) (vs := [i]) (σ := σ) Pv p0 (fun j H hj hp => by rw [h.kk]; exact st j H hj hp) (fun j z H hz hp => ?_) fin
  refine ⟨by rw [wipe1]; simp [wipe, List.set_set], ?_⟩
  unfold tYes
  refine iteT fun X' hX' => ?_
  rw [set_wipe]
  exact turn j z H hz hp X' hX'
/-- [elt for x in iter if c] -/
theorem w_lcLi (h : At m N sc k X) (ok : blkC N sc scope [(x, i)] = true) (n : NL N (relS scope sc) i x)
    (q : wE X iter σ H fun v H1 => ∃ (a : Addr) (xs : List V), v = .ref a ∧ SqL m.K H1 a xs ∧ ∀ D, H1 D = none → ∃ Pv : Nat → Hp → Prop, Pv 0 (upd H1 D (.lst [])) ∧ (∀ j H, j ≤ xs.length → Pv j H → SqL m.K H a xs) ∧
      (∀ j x H, xs[j]? = some x → Pv j H → ∀ X', At m N (relS scope sc) k X' → wT X' c (σ.set i (some x)) H fun b H3 => if b = true then (∀ X', At m N (relS scope sc) k X' → wE X' elt (σ.set i (some x)) H3 (App D (Pv (j + 1)))) else Pv (j + 1) H3) ∧
      ∀ H, Pv xs.length H → Q (.ref D) H)
    (hs : ∀ x, foldedSetIterable iter X.env x = pure x := by with_unfolding_all (intro _; rfl)) : wE X (.ListComp elt [⟨.Name x p1, iter, [c], 0⟩] scope pos) σ H Q := by
  refine toE (pe_lc (own := [(x, i)]) (g := gName i) (tt := inBlkT m N (relS scope sc) k c) (te := inBlk m N (relS scope sc) k elt) h.calm (by rw [h.nn]; exact h.nd) (pi_list cE) (by rw [h.nn, h.ss]; exact blkOk_by ok) (fun s H C cl fp => pg_nl (blk_at h s H C cl fp) n) (fun s H C cl fp => pts_one (blk_pt h s H C cl fp)) (fun s H C cl fp => blk_pe h s H C cl fp) hs) ?_
  refine wE.mono q fun v H1 ⟨a, xs, ea, hl, go⟩ => ⟨a, ea, ⟨xs, by rw [h.kk]; exact hl⟩, fun D hD => ?_⟩
  obtain ⟨Pv, p0, st, turn, fin⟩ := go D hD
  refine lc_list (K := X.K) (a := a) (xs := xs) (g := gName i) (tt := inBlkT m N (relS scope sc) k c) (te := inBlk m N (relS scope sc) k elt) (vs := [i]) (σ := σ) Pv p0 (fun j H hj hp => by rw [h.kk]; exact st j H hj hp) (fun j z H hz hp => ?_) fin
  refine ⟨by rw [wipe1]; simp [wipe, List.set_set], fun X' hX' => ?_⟩
  have t := turn j z H hz hp X' hX'
  rw [set_wipe]
  exact t
/-- [elt for x in range(e)] -/
theorem w_lcR (h : At m N sc k X) (hm : m.mg "range" = none) (hgl : sc.names.lookup ("range" : Str) = some .globalImplicit) (ok : blkC N sc scope [(x, i)] = true) (n : NL N (relS scope sc) i x)
    (q : wE X e σ H fun v H1 => ∃ z : Int, v = .int z ∧ -(2 ^ 62) ≤ z ∧ z < 2 ^ 62 ∧ ∀ D, H1 D = none → ∃ Pv : Nat → Hp → Prop, Pv 0 (upd H1 D (.lst [])) ∧
      (∀ j H, j < z.toNat → Pv j H → ∀ X', At m N (relS scope sc) k X' → wE X' elt (σ.set i (some (.int j))) H (App D (Pv (j + 1)))) ∧ ∀ H, Pv z.toNat H → Q (.ref D) H)
    (hst : starEach [e] X.env = [(false, eval e X.env)] := by with_unfolding_all rfl) (hs : ∀ x, foldedSetIterable (.Call (.Name "range" p2) [e] [] p3) X.env x = pure x := by with_unfolding_all (intro _; rfl)) : wE X (.ListComp elt [⟨.Name x p1, .Call (.Name "range" p2) [e] [] p3, [], 0⟩] scope pos) σ H Q := by
  refine toE (pe_lc (own := [(x, i)]) (g := gName i) (tt := tYes) (te := inBlk m N (relS scope sc) k elt) h.calm (by rw [h.nn]; exact h.nd) (pi_range1 (h.gl hgl) (by rw [h.mm]; exact hm) (pa_cons cE pa_nil hst) hst) (by rw [h.nn, h.ss]; exact blkOk_by ok) (fun s H C cl fp => pg_nl (blk_at h s H C cl fp) n) (fun _ _ _ _ _ => pts_nil) (fun s H C cl fp => blk_pe h s H C cl fp) hs) ?_
  refine wE.mono q fun v H1 ⟨z, ez, z1, z2, go⟩ => ⟨z, by rw [ez], z1, z2, fun D hD => ?_⟩
  obtain ⟨Pv, p0, turn, fin⟩ := go D hD
  refine lc_range (lo := 0) (n := z.toNat) (g := gName i) (tt := tYes) (te := inBlk m N (relS scope sc) k elt) (vs := [i]) (σ := σ) Pv p0 (fun j H hj hp => ?_) fin
  refine ⟨by rw [wipe1]; simp [wipe, List.set_set], ?_⟩
  unfold tYes
  refine iteT fun X' hX' => ?_
  rw [set_wipe, Int.zero_add]
  exact turn j H hj hp X' hX'
/-- [elt for x in range(e) if c] -/
theorem w_lcRi (h : At m N sc k X) (hm : m.mg "range" = none) (hgl : sc.names.lookup ("range" : Str) = some .globalImplicit) (ok : blkC N sc scope [(x, i)] = true) (n : NL N (relS scope sc) i x)
    (q : wE X e σ H fun v H1 => ∃ z : Int, v = .int z ∧ -(2 ^ 62) ≤ z ∧ z < 2 ^ 62 ∧ ∀ D, H1 D = none → ∃ Pv : Nat → Hp → Prop, Pv 0 (upd H1 D (.lst [])) ∧
      (∀ j H, j < z.toNat → Pv j H → ∀ X', At m N (relS scope sc) k X' → wT X' c (σ.set i (some (.int j))) H fun b H3 => if b = true then (∀ X', At m N (relS scope sc) k X' → wE X' elt (σ.set i (some (.int j))) H3 (App D (Pv (j + 1)))) else Pv (j + 1) H3) ∧ ∀ H, Pv z.toNat H → Q (.ref D) H)
    (hst : starEach [e] X.env = [(false, eval e X.env)] := by with_unfolding_all rfl) (hs : ∀ x, foldedSetIterable (.Call (.Name "range" p2) [e] [] p3) X.env x = pure x := by with_unfolding_all (intro _; rfl)) : wE X (.ListComp elt [⟨.Name x p1, .Call (.Name "range" p2) [e] [] p3, [c], 0⟩] scope pos) σ H Q := by
  refine toE (pe_lc (own := [(x, i)]) (g := gName i) (tt := inBlkT m N (relS scope sc) k c) (te := inBlk m N (relS scope sc) k elt) h.calm (by rw [h.nn]; exact h.nd) (pi_range1 (h.gl hgl) (by rw [h.mm]; exact hm) (pa_cons cE pa_nil hst) hst) (by rw [h.nn, h.ss]; exact blkOk_by ok) (fun s H C cl fp => pg_nl (blk_at h s H C cl fp) n) (fun s H C cl fp => pts_one (blk_pt h s H C cl fp)) (fun s H C cl fp => blk_pe h s H C cl fp) hs) ?_
  refine wE.mono q fun v H1 ⟨z, ez, z1, z2, go⟩ => ⟨z, by rw [ez], z1, z2, fun D hD => ?_⟩
  obtain ⟨Pv, p0, turn, fin⟩ := go D hD
  refine lc_range (lo := 0) (n := z.toNat) (g := gName i) (tt := inBlkT m N (relS scope sc) k c) (te := inBlk m N (relS scope sc) k elt) (vs := [i]) (σ := σ) Pv p0 (fun j H hj hp => ?_) fin
  refine ⟨by rw [wipe1]; simp [wipe, List.set_set], fun X' hX' => ?_⟩
  have t := turn j H hj hp X' hX'
  rw [set_wipe, Int.zero_add]
  exact t
/-! ### slices of lists; powers of any size -/
theorem w_slice {lo hi : Expr} (h : At m N sc k X) (q : wE X e σ H fun x H1 => wE X lo σ H1 fun l H2 => ∃ i : Int, l = .int i ∧ wE X hi σ H2 fun u H3 => ∃ j : Int, u = .int j ∧ ∃ (a : Addr) (xs : List V), x = .ref a ∧ SqL m.K H3 a xs ∧ ∀ p, H3 p = none → Q (.ref p) (upd H3 p (.lst (cutV xs (some i) (some j))))) :
    wE X (.Subscript e (.Slice (some lo) (some hi) none p2) pos) σ H Q := by
  refine toE (pe_slice sl_list cE (po_some cE) (po_some cE)) ?_
  refine wE.mono q fun x H1 q1 => wE.mono q1 fun l H2 ⟨i, ei, q2⟩ => ⟨i, ei, wE.mono q2 fun u H3 ⟨j, ej, a, xs, ea, hs, q3⟩ => ⟨j, ej, a, xs, ea, by rw [h.kk]; exact hs, q3⟩⟩
theorem w_sliceTo {hi : Expr} (h : At m N sc k X) (q : wE X e σ H fun x H1 => wE X hi σ H1 fun u H3 => ∃ j : Int, u = .int j ∧ ∃ (a : Addr) (xs : List V), x = .ref a ∧ SqL m.K H3 a xs ∧ ∀ p, H3 p = none → Q (.ref p) (upd H3 p (.lst (cutV xs none (some j))))) :
    wE X (.Subscript e (.Slice none (some hi) none p2) pos) σ H Q := by
  refine toE (pe_slice sl_list cE po_none (po_some cE)) ?_
  refine wE.mono q fun x H1 q1 => ?_
  show wE X hi σ H1 _
  exact wE.mono q1 fun u H3 ⟨j, ej, a, xs, ea, hs, q3⟩ => ⟨j, ej, a, xs, ea, by rw [h.kk]; exact hs, q3⟩
theorem w_sliceFrom {lo : Expr} (h : At m N sc k X) (q : wE X e σ H fun x H1 => wE X lo σ H1 fun u H3 => ∃ j : Int, u = .int j ∧ ∃ (a : Addr) (xs : List V), x = .ref a ∧ SqL m.K H3 a xs ∧ ∀ p, H3 p = none → Q (.ref p) (upd H3 p (.lst (cutV xs (some j) none)))) :
    wE X (.Subscript e (.Slice (some lo) none none p2) pos) σ H Q := by
  refine toE (pe_slice sl_list cE (po_some cE) po_none) ?_
  exact wE.mono q fun x H1 q1 => wE.mono q1 fun u H3 ⟨j, ej, a, xs, ea, hs, q3⟩ => ⟨j, ej, a, xs, ea, by rw [h.kk]; exact hs, q3⟩
theorem cutV_map {α : Type} (f : α → V) (xs : List α) (lo hi : Option Int) : ∃ ys : List α, cutV (xs.map f) lo hi = ys.map f ∧ ys.length ≤ xs.length := by
  unfold cutV
  rw [List.length_map]
  exact ⟨(xs.drop (HT.sIx xs.length 0 lo)).take (HT.sIx xs.length xs.length hi - HT.sIx xs.length 0 lo), by rw [List.map_take, List.map_drop], by rw [List.length_take, List.length_drop]; omega⟩
theorem g_powW {i j : Int} (h0 : 0 ≤ j) (hb : (Builtin.Int.intBits i : Int) * j ≤ 2 ^ 27) (q : Q (.int (i ^ j.toNat)) H) : gOp X (binaryOp .Pow) (.int i) (.int j) H Q := fun pins s σ v u I rx ry => by
  obtain ⟨t, rfl⟩ := rx
  obtain ⟨t', rfl⟩ := ry
  exact PyProof.Rows.pow_int h0 hb ⟨.int _, H, I.tok _, ⟨_, rfl⟩, q⟩
end
end Vf
set_option maxRecDepth 100000
set_option maxHeartbeats 4000000
/-! Lcs: comprehensions that are stored at once. Own work. -/
namespace Vf
open PySem PySem.Spec PyProof.Rows L2 LamX
section
variable {m : Md} {N : List Str} {sc scope : Scope} {k l : Nat} {X : Cx} {a b c e o elt iter : Expr} {es : List Expr} {σ : L2.St} {H : Hp} {nx : L2.St → Hp → Prop} {rt : VK} {bk ct : L2.St → Hp → Prop} {pos p p1 p2 p3 py spos : Pos} {x y : Str} {i j : Nat} {v w : V}
/-- y = [..], y a name of this place alone -/
theorem s_lcL (h : At m N sc k X) (nl : NL N sc l y) (ok : blkC N sc scope [(x, i)] = true) (n : NL N (relS scope sc) i x)
    (q : wE X iter σ H fun v H1 => ∃ (a : Addr) (xs : List V), v = .ref a ∧ SqL m.K H1 a xs ∧ ∀ D, H1 D = none → ∃ Pv : Nat → Hp → Prop, Pv 0 (upd H1 D (.lst [])) ∧ (∀ j H, j ≤ xs.length → Pv j H → SqL m.K H a xs) ∧
      (∀ j x H, xs[j]? = some x → Pv j H → ∀ X', At m N (relS scope sc) k X' → wE X' elt (σ.set i (some x)) H (App D (Pv (j + 1)))) ∧ ∀ H, Pv xs.length H → nx (σ.set l (some (.ref D))) H)
    (hs : ∀ x, foldedSetIterable iter X.env x = pure x := by with_unfolding_all (intro _; rfl)) (hk : sc.kind = .function := by with_unfolding_all rfl) (hl : (py.line == pos.line) = true := by with_unfolding_all rfl) (ha : (scope.names.any fun (n, k) => n == y && (k == .local || k == .cell)) = false := by with_unfolding_all (decide +kernel)) : wS X (.Assign [.Name y py] (.ListComp elt [⟨.Name x p1, iter, [], 0⟩] scope pos) spos) ⟨nx, rt, bk, ct⟩ σ H := by
  refine toS (ps_setLc (i := l) (y := y) (py := py) (own := [(x, i)]) (g := gName i) (tt := tYes) (te := inBlk m N (relS scope sc) k elt) h.calm (by rw [h.nn]; exact h.nd) (by rw [h.nn]; exact nl.ix) (by rw [h.ss]; exact nl.loc) (sw_true (by rw [h.ss]; exact hk) (by rw [h.ss]; exact nl.loc) hl ha) (pi_list cE) (by rw [h.nn, h.ss]; exact blkOk_by ok) (fun s H C cl fp => pg_nl (blk_at h s H C cl fp) n) (fun _ _ _ _ _ => pts_nil) (fun s H C cl fp => blk_pe h s H C cl fp) hs) ?_
  refine wE.mono q fun v H1 ⟨a, xs, ea, hl, go⟩ => ⟨a, ea, ⟨xs, by rw [h.kk]; exact hl⟩, fun D hD => ?_⟩
  obtain ⟨Pv, p0, st, turn, fin⟩ := go D hD
  refine lc_list (K := X.K) (a := a) (xs := xs) (g := gName i) (tt := tYes) (te := inBlk m N (relS scope sc) k elt) (vs := [i]) (σ := σ) Pv p0 (fun j H hj hp => by rw [h.kk]; exact st j H hj hp) (fun j z H hz hp => ?_) fin
  refine ⟨by rw [wipe1]; simp [wipe, List.set_set], ?_⟩
  unfold tYes
  refine iteT fun X' hX' => ?_
  rw [set_wipe]
  exact turn j z H hz hp X' hX'
/-- y = [..], y a name of this place alone -/
theorem s_lcLi (h : At m N sc k X) (nl : NL N sc l y) (ok : blkC N sc scope [(x, i)] = true) (n : NL N (relS scope sc) i x)
    (q : wE X iter σ H fun v H1 => ∃ (a : Addr) (xs : List V), v = .ref a ∧ SqL m.K H1 a xs ∧ ∀ D, H1 D = none → ∃ Pv : Nat → Hp → Prop, Pv 0 (upd H1 D (.lst [])) ∧ (∀ j H, j ≤ xs.length → Pv j H → SqL m.K H a xs) ∧
      (∀ j x H, xs[j]? = some x → Pv j H → ∀ X', At m N (relS scope sc) k X' → wT X' c (σ.set i (some x)) H fun b H3 => if b = true then (∀ X', At m N (relS scope sc) k X' → wE X' elt (σ.set i (some x)) H3 (App D (Pv (j + 1)))) else Pv (j + 1) H3) ∧
      ∀ H, Pv xs.length H → nx (σ.set l (some (.ref D))) H)
    (hs : ∀ x, foldedSetIterable iter X.env x = pure x := by with_unfolding_all (intro _; rfl)) (hk : sc.kind = .function := by with_unfolding_all rfl) (hl : (py.line == pos.line) = true := by with_unfolding_all rfl) (ha : (scope.names.any fun (n, k) => n == y && (k == .local || k == .cell)) = false := by with_unfolding_all (decide +kernel)) : wS X (.Assign [.Name y py] (.ListComp elt [⟨.Name x p1, iter, [c], 0⟩] scope pos) spos) ⟨nx, rt, bk, ct⟩ σ H := by
  refine toS (ps_setLc (i := l) (y := y) (py := py) (own := [(x, i)]) (g := gName i) (tt := inBlkT m N (relS scope sc) k c) (te := inBlk m N (relS scope sc) k elt) h.calm (by rw [h.nn]; exact h.nd) (by rw [h.nn]; exact nl.ix) (by rw [h.ss]; exact nl.loc) (sw_true (by rw [h.ss]; exact hk) (by rw [h.ss]; exact nl.loc) hl ha) (pi_list cE) (by rw [h.nn, h.ss]; exact blkOk_by ok) (fun s H C cl fp => pg_nl (blk_at h s H C cl fp) n) (fun s H C cl fp => pts_one (blk_pt h s H C cl fp)) (fun s H C cl fp => blk_pe h s H C cl fp) hs) ?_
  refine wE.mono q fun v H1 ⟨a, xs, ea, hl, go⟩ => ⟨a, ea, ⟨xs, by rw [h.kk]; exact hl⟩, fun D hD => ?_⟩
  obtain ⟨Pv, p0, st, turn, fin⟩ := go D hD
  refine lc_list (K := X.K) (a := a) (xs := xs) (g := gName i) (tt := inBlkT m N (relS scope sc) k c) (te := inBlk m N (relS scope sc) k elt) (vs := [i]) (σ := σ) Pv p0 (fun j H hj hp => by rw [h.kk]; exact st j H hj hp) (fun j z H hz hp => ?_) fin
  refine ⟨by rw [wipe1]; simp [wipe, List.set_set], fun X' hX' => ?_⟩
  have t := turn j z H hz hp X' hX'
  rw [set_wipe]
  exact t
/-- y = [..], y a name of this place alone -/
theorem s_lcR (h : At m N sc k X) (hm : m.mg "range" = none) (hgl : sc.names.lookup ("range" : Str) = some .globalImplicit) (nl : NL N sc l y) (ok : blkC N sc scope [(x, i)] = true) (n : NL N (relS scope sc) i x)
    (q : wE X e σ H fun v H1 => ∃ z : Int, v = .int z ∧ -(2 ^ 62) ≤ z ∧ z < 2 ^ 62 ∧ ∀ D, H1 D = none → ∃ Pv : Nat → Hp → Prop, Pv 0 (upd H1 D (.lst [])) ∧
      (∀ j H, j < z.toNat → Pv j H → ∀ X', At m N (relS scope sc) k X' → wE X' elt (σ.set i (some (.int j))) H (App D (Pv (j + 1)))) ∧ ∀ H, Pv z.toNat H → nx (σ.set l (some (.ref D))) H)
    (hst : starEach [e] X.env = [(false, eval e X.env)] := by with_unfolding_all rfl) (hs : ∀ x, foldedSetIterable (.Call (.Name "range" p2) [e] [] p3) X.env x = pure x := by with_unfolding_all (intro _; rfl)) (hk : sc.kind = .function := by with_unfolding_all rfl) (hl : (py.line == pos.line) = true := by with_unfolding_all rfl) (ha : (scope.names.any fun (n, k) => n == y && (k == .local || k == .cell)) = false := by with_unfolding_all (decide +kernel)) : wS X (.Assign [.Name y py] (.ListComp elt [⟨.Name x p1, .Call (.Name "range" p2) [e] [] p3, [], 0⟩] scope pos) spos) ⟨nx, rt, bk, ct⟩ σ H := by
  refine toS (ps_setLc (i := l) (y := y) (py := py) (own := [(x, i)]) (g := gName i) (tt := tYes) (te := inBlk m N (relS scope sc) k elt) h.calm (by rw [h.nn]; exact h.nd) (by rw [h.nn]; exact nl.ix) (by rw [h.ss]; exact nl.loc) (sw_true (by rw [h.ss]; exact hk) (by rw [h.ss]; exact nl.loc) hl ha) (pi_range1 (h.gl hgl) (by rw [h.mm]; exact hm) (pa_cons cE pa_nil hst) hst) (by rw [h.nn, h.ss]; exact blkOk_by ok) (fun s H C cl fp => pg_nl (blk_at h s H C cl fp) n) (fun _ _ _ _ _ => pts_nil) (fun s H C cl fp => blk_pe h s H C cl fp) hs) ?_
  refine wE.mono q fun v H1 ⟨z, ez, z1, z2, go⟩ => ⟨z, by rw [ez], z1, z2, fun D hD => ?_⟩
  obtain ⟨Pv, p0, turn, fin⟩ := go D hD
  refine lc_range (lo := 0) (n := z.toNat) (g := gName i) (tt := tYes) (te := inBlk m N (relS scope sc) k elt) (vs := [i]) (σ := σ) Pv p0 (fun j H hj hp => ?_) fin
  refine ⟨by rw [wipe1]; simp [wipe, List.set_set], ?_⟩
  unfold tYes
  refine iteT fun X' hX' => ?_
  rw [set_wipe, Int.zero_add]
  exact turn j H hj hp X' hX'
/-- y = [..], y a name of this place alone -/
theorem s_lcRi (h : At m N sc k X) (hm : m.mg "range" = none) (hgl : sc.names.lookup ("range" : Str) = some .globalImplicit) (nl : NL N sc l y) (ok : blkC N sc scope [(x, i)] = true) (n : NL N (relS scope sc) i x)
    (q : wE X e σ H fun v H1 => ∃ z : Int, v = .int z ∧ -(2 ^ 62) ≤ z ∧ z < 2 ^ 62 ∧ ∀ D, H1 D = none → ∃ Pv : Nat → Hp → Prop, Pv 0 (upd H1 D (.lst [])) ∧
      (∀ j H, j < z.toNat → Pv j H → ∀ X', At m N (relS scope sc) k X' → wT X' c (σ.set i (some (.int j))) H fun b H3 => if b = true then (∀ X', At m N (relS scope sc) k X' → wE X' elt (σ.set i (some (.int j))) H3 (App D (Pv (j + 1)))) else Pv (j + 1) H3) ∧ ∀ H, Pv z.toNat H → nx (σ.set l (some (.ref D))) H)
    (hst : starEach [e] X.env = [(false, eval e X.env)] := by with_unfolding_all rfl) (hs : ∀ x, foldedSetIterable (.Call (.Name "range" p2) [e] [] p3) X.env x = pure x := by with_unfolding_all (intro _; rfl)) (hk : sc.kind = .function := by with_unfolding_all rfl) (hl : (py.line == pos.line) = true := by with_unfolding_all rfl) (ha : (scope.names.any fun (n, k) => n == y && (k == .local || k == .cell)) = false := by with_unfolding_all (decide +kernel)) : wS X (.Assign [.Name y py] (.ListComp elt [⟨.Name x p1, .Call (.Name "range" p2) [e] [] p3, [c], 0⟩] scope pos) spos) ⟨nx, rt, bk, ct⟩ σ H := by
  refine toS (ps_setLc (i := l) (y := y) (py := py) (own := [(x, i)]) (g := gName i) (tt := inBlkT m N (relS scope sc) k c) (te := inBlk m N (relS scope sc) k elt) h.calm (by rw [h.nn]; exact h.nd) (by rw [h.nn]; exact nl.ix) (by rw [h.ss]; exact nl.loc) (sw_true (by rw [h.ss]; exact hk) (by rw [h.ss]; exact nl.loc) hl ha) (pi_range1 (h.gl hgl) (by rw [h.mm]; exact hm) (pa_cons cE pa_nil hst) hst) (by rw [h.nn, h.ss]; exact blkOk_by ok) (fun s H C cl fp => pg_nl (blk_at h s H C cl fp) n) (fun s H C cl fp => pts_one (blk_pt h s H C cl fp)) (fun s H C cl fp => blk_pe h s H C cl fp) hs) ?_
  refine wE.mono q fun v H1 ⟨z, ez, z1, z2, go⟩ => ⟨z, by rw [ez], z1, z2, fun D hD => ?_⟩
  obtain ⟨Pv, p0, turn, fin⟩ := go D hD
  refine lc_range (lo := 0) (n := z.toNat) (g := gName i) (tt := inBlkT m N (relS scope sc) k c) (te := inBlk m N (relS scope sc) k elt) (vs := [i]) (σ := σ) Pv p0 (fun j H hj hp => ?_) fin
  refine ⟨by rw [wipe1]; simp [wipe, List.set_set], fun X' hX' => ?_⟩
  have t := turn j H hj hp X' hX'
  rw [set_wipe, Int.zero_add]
  exact t
end
end Vf
set_option maxRecDepth 100000
set_option maxHeartbeats 4000000
/-! St: stores into several names, insert. Own work. -/
namespace Vf
open PySem PySem.Spec PyProof.Rows L2 LamX
/-- what changes in objects that were not there is growth -/
theorem GrowX.into {T : List (Addr × Str)} {S S' : Addr → Prop} {H H1 H2 : Hp} (a : GrowX T S H H1) (b : GrowX T S' H1 H2) (h : ∀ c, S' c → New H c ∨ S c) : GrowX T S H H2 :=
  ⟨fun c o s e n => b.ext c o (fun z => (h c z).elim (fun z => by rw [z] at e; cases e) s) (a.ext c o s e n) n, fun t => b.tab (a.tab t), fun c z => a.keep c (b.keep c z), fun c xs z => b.tup c xs (a.tup c xs z), fun c o u z => b.frz c o u (a.frz c o u z)⟩
theorem Grow.intoNew {T : List (Addr × Str)} {S' : Addr → Prop} {H H1 H2 : Hp} (a : Grow T H H1) (b : GrowX T S' H1 H2) (h : ∀ c, S' c → New H c) : Grow T H H2 := a.into b fun c z => .inl (h c z)
/-- a list's new elements -/
theorem GrowX.lst {T : List (Addr × Str)} {H : Hp} {p : Addr} {xs ys : List V} (h : H p = some (.lst xs)) : GrowX T (· = p) H (upd H p (.lst ys)) := GrowX.set rfl h (fun _ z => by cases z) (fun _ z => by unfold CodeO at z; cases z) (fun _ z => by cases z) (fun _ _ z => by cases z)
theorem New.ne {H : Hp} {a p : Addr} {o : HO} (n : New H p) (h : H a = some o) : p ≠ a := fun z => by rw [← z, n] at h; cases h
section
variable {m : Md} {N : List Str} {sc : Scope} {k : Nat} {X : Cx} {a b c e o : Expr} {es : List Expr} {σ : L2.St} {H : Hp} {Q : VK} {nx : L2.St → Hp → Prop} {rt : VK} {bk ct : L2.St → Hp → Prop} {pos p1 p2 p3 p4 : Pos} {x y z : Str} {i j l : Nat} {k1 k2 : Nat}
theorem nl_of (h : At m N sc k X) (i : Nat) (x : Str) (a : N[i]? = some x := by rfl) (b : sc.names.lookup x = some .local := by rfl) : NL N sc i x := ⟨a, b⟩
theorem nc_of (h : At m N sc k X) (i : Nat) (x : Str) (a : N[i]? = some x := by rfl) (b : sc.names.lookup x = some .cell := by rfl) : NC N sc i x := ⟨a, b⟩
theorem env_sc {env : Env} (h : env.scope = sc) : { env with scope := sc } = env := by cases env; cases h; rfl
/-- x, y = a, b, both names of this place alone -/
theorem s_par (h : At m N sc k X) (n1 : NL N sc i x) (n2 : NL N sc j y) (q : wA X [a, b] σ H fun vs H1 => ∃ v w, vs = [v, w] ∧ nx ((σ.set i (some v)).set j (some w)) H1) (hij : i ≠ j := by decide)
    (hw : ∀ env : Env, swappedStores [.Tuple [.Name x p1, .Name y p2] k1 p3] (.Tuple [a, b] k2 p4) { env with scope := sc } = pure (some [x, y]) := by with_unfolding_all (intro _; rfl))
    (hs : swapsWithSole [.Tuple [.Name x p1, .Name y p2] k1 p3] (.Tuple [a, b] k2 p4) pos.line X.env = pure false := by with_unfolding_all rfl) : wS X (.Assign [.Tuple [.Name x p1, .Name y p2] k1 p3] (.Tuple [a, b] k2 p4) pos) ⟨nx, rt, bk, ct⟩ σ H :=
  toS (ps_par h.calm (by rw [h.nn]; exact h.nd) (by rw [h.nn]; exact n1.ix) (by rw [h.nn]; exact n2.ix) hij (by rw [h.ss]; exact n1.loc) (by rw [h.ss]; exact n2.loc) cA (by have := hw X.env; rw [env_sc h.ss] at this; exact this) hs) q
/-- x, y = e where the pair is made, then taken apart -/
theorem s_two {t1 t2 : Expr} (h : At m N sc k X) (hg1 : PG X t1 (gName i)) (hg2 : PG X t2 (gName j)) (q : wE X e σ H fun v H1 => ∃ (p : Addr) (v1 v2 : V), v = .ref p ∧ SqT m.K H1 p [v1, v2] ∧ nx ((σ.set i (some v1)).set j (some v2)) H1)
    (hw : ∀ env : Env, swappedStores [.Tuple [t1, t2] k1 p3] e { env with scope := sc } = pure none := by with_unfolding_all (intro _; rfl))
    (hs : swapsWithSole [.Tuple [t1, t2] k1 p3] e pos.line X.env = pure false := by with_unfolding_all rfl)
    (hz : (assignEach [t1, t2] X.env).map (·.2) = assign t1 X.env :: (assignEach [t2] X.env).map (·.2) := by with_unfolding_all rfl) (hz2 : (assignEach [t2] X.env).map (·.2) = assign t2 X.env :: (assignEach [] X.env).map (·.2) := by with_unfolding_all rfl)
    (hn : (assignEach [t1, t2] X.env).length = 2 := by with_unfolding_all rfl) (hst : (assignEach [t1, t2] X.env).findIdx? (·.1) = none := by with_unfolding_all rfl)
    (ho : (assignEach [.Tuple [t1, t2] k1 p3] X.env).map (·.2) = [assign (.Tuple [t1, t2] k1 p3) X.env] := by with_unfolding_all rfl) : wS X (.Assign [.Tuple [t1, t2] k1 p3] e pos) ⟨nx, rt, bk, ct⟩ σ H := by
  refine toS (ps_asg cE (pg_tup h.calm (pgs_cons hg1 (pgs_cons hg2 pgs_nil hz2) hz) hn hst) hs (by have := hw X.env; rw [env_sc h.ss] at this; exact this) ho) ?_
  exact wE.mono q fun v H1 ⟨p, v1, v2, ev, hp, q1⟩ => ⟨p, [v1, v2], ev, by rw [h.kk]; exact hp, rfl, v1, [v2], rfl, v2, [], rfl, rfl, q1⟩
theorem g_truB {b : Bool} {QB : Bool → Hp → Prop} (q : QB b H) : gTru X (.bl b) H QB := ⟨b, rfl, q⟩
theorem w_neg (q : wE X e σ H fun v H1 => ∃ i : Int, v = .int i ∧ Q (.int (-i)) H1) : wE X (.UnaryOp .USub e pos) σ H Q := toE (pe_un un_neg cE) q
/-- xs.insert(a, b) -/
theorem g_insert (q : wE X o σ H fun x H1 => tyV X.K "list" x H1 ∧ wA X [a, b] σ H1 fun ys H2 => ∃ (l : Addr) (xs : List V) (i : Int) (y : V), x = .ref l ∧ ys = [.int i, y] ∧ H2 l = some (.lst xs) ∧ xs.length < sizeLine ∧ 0 ≤ i ∧ i < 2 ^ 63 ∧ Q .non (upd H2 l (.lst (xs.take i.toNat ++ [y] ++ xs.drop i.toNat)))) {apos : Pos}
    (hbase : attributeBase o "insert" X.env (eval o X.env) = eval o X.env := by with_unfolding_all rfl)
    (hfew : ((backTo pos (starEach [a, b] X.env)).all (fun x => !x.1) && (backToKw pos (keywordEach [] X.env)).all (fun x => x.1.isSome) && decide ([a, b].length + ([] : List Keyword).length + (if ([] : List Keyword).isEmpty then 0 else 1) < 30)) = true := by with_unfolding_all rfl)
    (hline : (apos.endLine == pos.line) = true := by with_unfolding_all rfl) (hs : starEach [a, b] X.env = (false, eval a X.env) :: starEach [b] X.env := by with_unfolding_all rfl) (hplain : (backTo pos (starEach [b] X.env)).any (·.1) = false := by with_unfolding_all rfl) : wE X (.Call (.Attribute o "insert" apos) [a, b] [] pos) σ H Q :=
  toE (pe_bm PySem.F.plainAttrs_list PySem.F.slot_list_insert PySem.F.type_list_insert mt_insert cE cA hbase hfew hline hs hplain) q
end
end Vf
set_option maxRecDepth 100000
set_option maxHeartbeats 4000000
/-! Tm: terms of the program as data. Own work. -/
namespace Vf
open PySem PySem.Spec PyProof.Rows L2 LamX
/-- 1 to 8 signs a to z -/
def IsName (z : Str) : Prop := 1 ≤ z.length ∧ z.length ≤ 8 ∧ ∀ c ∈ z.cps.toList, 97 ≤ c ∧ c ≤ 122
inductive Tm
  | part (now : Bool) (z : Str) (w : Int)
  | all (first : Bool) (ts : List Tm)
  | rank (r : Int) (ts : List Tm)
namespace Tm
mutual
/-- the tuple that a term is -/
def py : Tm → PyData
  | .part n z w => .tuple [.str (if n then "now" else "of"), .str z, .int w]
  | .all f ts => .tuple [.str (if f then "first" else "last"), .list (pys ts)]
  | .rank r ts => .tuple [.str "rank", .int r, .list (pys ts)]
def pys : List Tm → List PyData
  | [] => []
  | t :: ts => py t :: pys ts
end
mutual
/-- names of the two lists, waits up to W, ranks in their bounds, no list empty -/
def ok (W : Int) (zs ns : List Str) : Tm → Prop
  | .part n z w => (if n then z ∈ ns else z ∈ zs) ∧ -W ≤ w ∧ w ≤ W
  | .all _ ts => ts ≠ [] ∧ oks W zs ns ts
  | .rank r ts => ts ≠ [] ∧ 1 ≤ r ∧ r ≤ ts.length ∧ oks W zs ns ts
def oks (W : Int) (zs ns : List Str) : List Tm → Prop
  | [] => True
  | t :: ts => ok W zs ns t ∧ oks W zs ns ts
end
mutual
def dep : Tm → Nat
  | .part _ _ _ => 0
  | .all _ ts => deps ts + 1
  | .rank _ ts => deps ts + 1
def deps : List Tm → Nat
  | [] => 0
  | t :: ts => max (dep t) (deps ts)
end
mutual
/-- parts -/
def cnt : Tm → Nat
  | .part _ _ _ => 1
  | .all _ ts => cnts ts
  | .rank _ ts => cnts ts
def cnts : List Tm → Nat
  | [] => 0
  | t :: ts => cnt t + cnts ts
end
mutual
/-- parts and lists -/
def siz : Tm → Nat
  | .part _ _ _ => 1
  | .all _ ts => sizs ts + 1
  | .rank _ ts => sizs ts + 1
def sizs : List Tm → Nat
  | [] => 0
  | t :: ts => siz t + sizs ts
end
mutual
/-- a term: no list empty or beyond bounds, ranks in their bounds -/
def wf : Tm → Prop
  | .part _ _ _ => True
  | .all _ ts => ts ≠ [] ∧ ts.length < 1000 ∧ wfs ts
  | .rank r ts => ts ≠ [] ∧ ts.length < 1000 ∧ 1 ≤ r ∧ r ≤ ts.length ∧ wfs ts
def wfs : List Tm → Prop
  | [] => True
  | t :: ts => wf t ∧ wfs ts
end
mutual
/-- the parts changed -/
def reb (g : Tm → Tm) : Tm → Tm
  | .part n z w => g (.part n z w)
  | .all f ts => .all f (rebs g ts)
  | .rank r ts => .rank r (rebs g ts)
def rebs (g : Tm → Tm) : List Tm → List Tm
  | [] => []
  | t :: ts => reb g t :: rebs g ts
end
mutual
theorem reb_id : ∀ t : Tm, reb (fun x => x) t = t
  | .part _ _ _ => rfl
  | .all f ts => by rw [reb, rebs_id ts]
  | .rank r ts => by rw [reb, rebs_id ts]
theorem rebs_id : ∀ ts : List Tm, rebs (fun x => x) ts = ts
  | [] => rfl
  | t :: ts => by rw [rebs, reb_id t, rebs_id ts]
end
theorem rebs_map (g : Tm → Tm) : ∀ ts : List Tm, rebs g ts = ts.map (reb g)
  | [] => rfl
  | t :: ts => by rw [rebs, rebs_map g ts]; rfl
theorem wfs_iff : ∀ {ts : List Tm}, wfs ts ↔ ∀ t ∈ ts, wf t
  | [] => by simp [wfs]
  | t :: ts => by rw [wfs, wfs_iff]; simp
theorem dep_mem : ∀ {ts : List Tm} {t : Tm}, t ∈ ts → dep t ≤ deps ts
  | [], _, h => by simp at h
  | a :: ts, t, h => by
    rw [deps]
    rcases List.mem_cons.1 h with e | e
    · rw [e]; omega
    · have := dep_mem e; omega
theorem pys_map : ∀ ts : List Tm, pys ts = ts.map py
  | [] => rfl
  | t :: ts => by rw [pys, pys_map ts]; rfl
theorem oks_iff {W : Int} {zs ns : List Str} : ∀ {ts : List Tm}, oks W zs ns ts ↔ ∀ t ∈ ts, ok W zs ns t
  | [] => by simp [oks]
  | t :: ts => by rw [oks, oks_iff]; simp
theorem pys_length (ts : List Tm) : (pys ts).length = ts.length := by rw [pys_map, List.length_map]
theorem cnts_sum : ∀ ts : List Tm, cnts ts = (ts.map cnt).sum
  | [] => rfl
  | t :: ts => by rw [cnts, cnts_sum ts]; rfl
theorem sizs_append : ∀ a b : List Tm, sizs (a ++ b) = sizs a + sizs b
  | [], b => by simp [sizs]
  | t :: a, b => by rw [List.cons_append, sizs, sizs, sizs_append a b]; omega
theorem cnts_append : ∀ a b : List Tm, cnts (a ++ b) = cnts a + cnts b
  | [], b => by simp [cnts]
  | t :: a, b => by rw [List.cons_append, cnts, cnts, cnts_append a b]; omega
theorem pys_append (a b : List Tm) : pys (a ++ b) = pys a ++ pys b := by rw [pys_map, pys_map, pys_map, List.map_append]
theorem oks_append {W : Int} {zs ns : List Str} {a b : List Tm} (h1 : oks W zs ns a) (h2 : oks W zs ns b) : oks W zs ns (a ++ b) := by
  rw [oks_iff] at *
  intro t ht
  rcases List.mem_append.1 ht with h | h
  · exact h1 t h
  · exact h2 t h
section
variable {W : Int} {zs ns : List Str} (hz : ∀ z ∈ zs, IsName z) (hn : ∀ z ∈ ns, IsName z)
include hz hn
theorem part_name {n : Bool} {z : Str} (h : if n = true then z ∈ ns else z ∈ zs) : IsName z := by
  cases n
  · exact hz z (by simpa using h)
  · exact hn z (by simpa using h)
mutual
theorem canLay : ∀ t : Tm, ok W zs ns t → (py t).canLay0 = true
  | .part n z w, h => by
    have e := (part_name hz hn h.1).2.2
    have e1 : PyData.strOk z = true := by
      unfold PyData.strOk
      rw [Array.all_eq_true']
      intro c hc
      have := e c (by simpa using hc)
      simp; omega
    have e2 : PyData.strOk (if n = true then "now" else "of") = true := by cases n <;> decide +kernel
    simp [py, PyData.canLay0, PyData.canLayAll0, e1, e2]
  | .all f ts, h => by
    have e2 : PyData.strOk (if f = true then "first" else "last") = true := by cases f <;> decide +kernel
    simp [py, PyData.canLay0, PyData.canLayAll0, e2, canLays ts h.2]
  | .rank r ts, h => by
    have e2 : PyData.strOk "rank" = true := by decide +kernel
    simp [py, PyData.canLay0, PyData.canLayAll0, e2, canLays ts h.2.2.2]
theorem canLays : ∀ ts : List Tm, oks W zs ns ts → PyData.canLayAll0 (pys ts) = true
  | [], _ => rfl
  | t :: ts, h => by
    rw [pys, PyData.canLayAll0, canLay t h.1, canLays ts h.2]; rfl
end
end
mutual
theorem depth_le : ∀ t : Tm, (py t).depth ≤ 2 * dep t + 1
  | .part n z w => by simp [py, PyData.depth, PyData.depthAll, dep]
  | .all f ts => by have := depths_le ts; simp [py, PyData.depth, PyData.depthAll, dep]; omega
  | .rank r ts => by have := depths_le ts; simp [py, PyData.depth, PyData.depthAll, dep]; omega
theorem depths_le : ∀ ts : List Tm, PyData.depthAll (pys ts) ≤ 2 * deps ts + 1
  | [] => by simp [pys, PyData.depthAll]
  | t :: ts => by have := depth_le t; have := depths_le ts; simp [pys, PyData.depthAll, deps]; omega
end
mutual
theorem dep_le : ∀ t : Tm, dep t ≤ siz t
  | .part n z w => by simp [dep]
  | .all f ts => by have := deps_le ts; simp [dep, siz]; omega
  | .rank r ts => by have := deps_le ts; simp [dep, siz]; omega
theorem deps_le : ∀ ts : List Tm, deps ts ≤ sizs ts
  | [] => by simp [deps]
  | t :: ts => by have := dep_le t; have := deps_le ts; simp [deps, sizs]; omega
end
mutual
theorem siz_pos : ∀ t : Tm, 1 ≤ siz t
  | .part n z w => by simp [siz]
  | .all f ts => by simp [siz]
  | .rank r ts => by simp [siz]
theorem len_le : ∀ ts : List Tm, ts.length ≤ sizs ts
  | [] => by simp
  | t :: ts => by have := siz_pos t; have := len_le ts; simp [sizs]; omega
end
mutual
theorem ok_wf {W : Int} {zs ns : List Str} : ∀ t : Tm, ok W zs ns t → siz t < 1000 → wf t
  | .part _ _ _, _, _ => trivial
  | .all f ts, h, l => by
    have := len_le ts
    simp only [siz] at l
    exact ⟨h.1, by omega, oks_wf ts h.2 (by omega)⟩
  | .rank r ts, h, l => by
    have := len_le ts
    simp only [siz] at l
    exact ⟨h.1, by omega, h.2.1, h.2.2.1, oks_wf ts h.2.2.2 (by omega)⟩
theorem oks_wf {W : Int} {zs ns : List Str} : ∀ ts : List Tm, oks W zs ns ts → sizs ts < 1000 → wfs ts
  | [], _, _ => trivial
  | t :: ts, h, l => by
    simp only [sizs] at l
    exact ⟨ok_wf t h.1 (by omega), oks_wf ts h.2 (by omega)⟩
end
mutual
theorem eqv_py : ∀ a b : Tm, PyData.eqv (py a) (py b) = true ↔ a = b
  | .part n z w, .part n' z' w' => by
    have : (if n = true then ("now" : Str) else "of") = (if n' = true then ("now" : Str) else "of") ↔ n = n' := by cases n <;> cases n' <;> decide +kernel
    simp [py, PyData.eqv, PyData.eqvAll, this]
  | .part n z w, .all f ts => by simp [py, PyData.eqv, PyData.eqvAll]
  | .part n z w, .rank r ts => by simp [py, PyData.eqv, PyData.eqvAll]
  | .all f ts, .part n z w => by simp [py, PyData.eqv, PyData.eqvAll]
  | .all f ts, .all f' ts' => by
    have : (if f = true then ("first" : Str) else "last") = (if f' = true then ("first" : Str) else "last") ↔ f = f' := by cases f <;> cases f' <;> decide +kernel
    simp [py, PyData.eqv, PyData.eqvAll, this, eqv_pys ts ts']
  | .all f ts, .rank r ts' => by simp [py, PyData.eqv, PyData.eqvAll]
  | .rank r ts, .part n z w => by simp [py, PyData.eqv, PyData.eqvAll]
  | .rank r ts, .all f ts' => by simp [py, PyData.eqv, PyData.eqvAll]
  | .rank r ts, .rank r' ts' => by simp [py, PyData.eqv, PyData.eqvAll, eqv_pys ts ts']
theorem eqv_pys : ∀ a b : List Tm, PyData.eqvAll (pys a) (pys b) = true ↔ a = b
  | [], [] => by simp [pys, PyData.eqvAll]
  | [], _ :: _ => by simp [pys, PyData.eqvAll]
  | _ :: _, [] => by simp [pys, PyData.eqvAll]
  | a :: as, b :: bs => by simp [pys, PyData.eqvAll, eqv_py a b, eqv_pys as bs]
end
theorem wt_int {i : Int} (h : i.natAbs < 2 ^ 47) : PyData.weight (.int i) ≤ 47 := by
  unfold PyData.weight
  split
  · omega
  · have : i.natAbs ≠ 0 := by rename_i g; intro w; exact g (by simpa using Int.natAbs_eq_zero.1 w)
    have := (Nat.log2_lt this).2 h
    omega
section
variable {W : Int} {zs ns : List Str} (hz : ∀ z ∈ zs, IsName z) (hn : ∀ z ∈ ns, IsName z) (hW : W < 10 ^ 12)
include hz hn hW
mutual
theorem weight_le : ∀ t : Tm, ok W zs ns t → sizs [t] ≤ 1000 → (py t).weight + 1 ≤ 100 * siz t
  | .part n z w, h, _ => by
    have e : z.cps.size ≤ 8 := (part_name hz hn h.1).2.1
    have e2 : (if n = true then ("now" : Str) else "of").cps.size ≤ 8 := by cases n <;> decide +kernel
    have e3 := wt_int (i := w) (by have := h.2; omega)
    simp only [py, PyData.weight, PyData.weightAll, siz] at e3 ⊢
    omega
  | .all f ts, h, l => by
    have e2 : (if f = true then ("first" : Str) else "last").cps.size ≤ 8 := by cases f <;> decide +kernel
    have := weights_le ts h.2 (by simp only [sizs, siz] at l; omega)
    simp only [py, PyData.weight, PyData.weightAll, siz] at this ⊢
    omega
  | .rank r ts, h, l => by
    have e2 : ("rank" : Str).cps.size ≤ 8 := by decide +kernel
    have := weights_le ts h.2.2.2 (by simp only [sizs, siz] at l; omega)
    have e4 : ts.length ≤ sizs ts := len_le ts
    have e3 := wt_int (i := r) (by have := h.2; simp only [sizs, siz] at l; omega)
    simp only [py, PyData.weight, PyData.weightAll, siz] at this e3 ⊢
    omega
theorem weights_le : ∀ ts : List Tm, oks W zs ns ts → sizs ts ≤ 1000 → PyData.weightAll (pys ts) ≤ 100 * sizs ts
  | [], _, _ => by simp [pys, PyData.weightAll]
  | t :: ts, h, l => by
    have l' : siz t + sizs ts ≤ 1000 := l
    have h1 := weight_le t h.1 (by simp only [sizs]; omega)
    have h2 := weights_le ts h.2 (by omega)
    have h3 := siz_pos t
    simp only [pys, PyData.weightAll, sizs]
    omega
end
mutual
theorem short : ∀ t : Tm, ok W zs ns t → siz t ≤ 1000 → (py t).intsShort 13 = true
  | .part n z w, h, _ => by
    have e3 := PyData.shown_int_le (i := w) (by have := h.2; omega)
    simp [py, PyData.intsShort, PyData.intsShortAll, e3]
  | .all f ts, h, l => by
    have := shorts ts h.2 (by simp only [siz] at l; omega)
    simp [py, PyData.intsShort, PyData.intsShortAll, this]
  | .rank r ts, h, l => by
    have := shorts ts h.2.2.2 (by simp only [siz] at l; omega)
    have e4 : ts.length ≤ sizs ts := len_le ts
    have e3 := PyData.shown_int_le (i := r) (by have := h.2; simp only [siz] at l; omega)
    simp [py, PyData.intsShort, PyData.intsShortAll, this, e3]
theorem shorts : ∀ ts : List Tm, oks W zs ns ts → sizs ts ≤ 1000 → PyData.intsShortAll 13 (pys ts) = true
  | [], _, _ => rfl
  | t :: ts, h, l => by
    have l' : siz t + sizs ts ≤ 1000 := l
    rw [pys, PyData.intsShortAll, short t h.1 (by omega), shorts ts h.2 (by omega)]; rfl
end
mutual
theorem shows : ∀ t : Tm, ok W zs ns t → siz t ≤ 1000 → (py t).showable = true
  | .part n z w, h, _ => by
    have e3 : w.natAbs.log2 < 1920 := by
      rcases Nat.eq_zero_or_pos w.natAbs with e | e
      · rw [e]; decide
      · exact (Nat.log2_lt (by omega)).2 (by have := h.2; omega)
    simp [py, PyData.showable, PyData.showableAll, e3]
  | .all f ts, h, l => by
    have := showss ts h.2 (by simp only [siz] at l; omega)
    simp [py, PyData.showable, PyData.showableAll, this]
  | .rank r ts, h, l => by
    have := showss ts h.2.2.2 (by simp only [siz] at l; omega)
    have e4 : ts.length ≤ sizs ts := len_le ts
    have e3 : r.natAbs.log2 < 1920 := (Nat.log2_lt (by have := h.2; omega)).2 (by have := h.2; simp only [siz] at l; omega)
    simp [py, PyData.showable, PyData.showableAll, this, e3]
theorem showss : ∀ ts : List Tm, oks W zs ns ts → sizs ts ≤ 1000 → PyData.showableAll (pys ts) = true
  | [], _, _ => rfl
  | t :: ts, h, l => by
    have l' : siz t + sizs ts ≤ 1000 := l
    rw [pys, PyData.showableAll, shows t h.1 (by omega), showss ts h.2 (by omega)]; rfl
end
/-- a term's text is of a size that repr makes -/
theorem shown_fits (t : Tm) (h : ok W zs ns t) (l : siz t ≤ 29) : (py t).showable = true ∧ (py t).shown.length ≤ sizeLine ∧ (py t).depth ≤ 60 := by
  have h1 := weight_le hz hn hW t h (by simp only [sizs]; omega)
  have h2 := depth_le t
  have h3 := dep_le t
  refine ⟨shows hz hn hW t h (by omega), ?_, by omega⟩
  have := shown_le13 (d := py t) ?_ (short hz hn hW t h (by omega))
  · rw [sizeLine_eq]; omega
  · unfold PyData.layable0
    rw [canLay hz hn t h]
    simp only [Bool.true_and, Bool.and_eq_true, decide_eq_true_eq]
    exact ⟨by omega, by omega⟩
end
end Tm
end Vf
set_option maxRecDepth 100000
set_option maxHeartbeats 4000000
/-! Own: instances of the text's own classes: fields, methods, making, ==, isinstance. Own work. -/
namespace Vf
open PySem PySem.Spec PyProof.Rows L2 LamX
section
variable {m : Md} {N : List Str} {sc : Scope} {j k : Nat} {X : Cx} {a b c e o : Expr} {es : List Expr} {σ : L2.St} {H : Hp} {Q : VK} {nx : L2.St → Hp → Prop} {rt : VK} {bk ct : L2.St → Hp → Prop} {pos p p1 p2 apos : Pos} {x mn f : Str} {C : Addr} {sp : Sp} {dvs : List V} {CX : CXT} {E : XK}
/-! ### fields -/
theorem w_fld (h : At m N sc k X) (c : Cls m.K C) (n : NoAttr m.K C f) (q : wE X e σ H fun x H1 => ∃ a dx fs v, x = .ref a ∧ H1 a = some (.ins C dx fs) ∧ fs.lookup f = some v ∧ Q v H1)
    (hb : attributeBase e f X.env (eval e X.env) = eval e X.env := by with_unfolding_all rfl) : wE X (.Attribute e f pos) σ H Q := by
  refine toE (pe_fld cE hb) (wE.mono q fun x H1 ⟨a, dx, fs, v, ex, ea, l, q1⟩ => ?_)
  exact ⟨a, C, dx, fs, v, ex, ea, by rw [h.kk]; exact c, by rw [h.kk]; exact n, l, q1⟩
theorem s_fld (h : At m N sc k X) (c : Cls m.K C) (n : NoAttr m.K C f) (q : wE X e σ H fun y H1 => wE X o σ H1 fun x H2 => ∃ a dx fs, x = .ref a ∧ H2 a = some (.ins C dx fs) ∧ fs.length < 1000 ∧ nx σ (upd H2 a (.ins C dx (putF f y fs))))
    (hs : swapsWith e (some (.Attribute o f p1)) pos.line X.env = pure false := by with_unfolding_all rfl) : wS X (.Assign [.Attribute o f p1] e pos) ⟨nx, rt, bk, ct⟩ σ H := by
  refine toS (ps_fld cE cE hs) (wE.mono q fun y H1 q1 => wE.mono q1 fun x H2 ⟨a, dx, fs, ex, ea, l, q2⟩ => ?_)
  exact ⟨a, C, dx, fs, ex, ea, by rw [h.kk]; exact c, by rw [h.kk]; exact n, l, q2⟩
/-! ### methods -/
/-- a method of the class at C that keeps sp -/
structure MetX (m : Md) (CX : CXT) (k : Nat) (C : Addr) (mn : Str) (sp : Sp) (dvs : List V) : Prop where
  ex : ∃ (f : Addr) (fd : FuncData) (ps : List Str) (ds : List Value), FnG m CX k f fd ps sp ∧ Cls m.K C ∧ Meth m.K C mn f ∧ Binds m.K fd ps ds ∧ Vals dvs ds
/-- the callee's run, as a call -/
theorem run_call {pins : List (Addr × Obj)} {s : Shared} {g : Addr} {fd : FuncData} {ps : List Str} {ds us : List Value} {vs : List V} (h : At m N sc k X) (F : FnG m CX j g fd ps sp) (hk : j ≤ k) (hx : Passes CX X E) (I : Inv X pins σ H s) (b : Binds m.K fd ps ds) (d : Vals dvs ds) (r : Vals vs us) (q : sp (vs ++ dvs) H Q E) :
    wpAny (model X.prog X.w) X.A (call (.ref g) us) (EP X pins σ Q) X.xe s := by
  have r2 := Vals.append r d
  refine wpAny_call (codeAny_mono (fnG_run (us := us ++ ds) (vs := vs ++ dvs) h F hk hx I (b s us (by rw [← h.kk]; exact I.kIn) (by rw [← r2.length]; exact F.len _ _ _ _ q)) r2 q) fun r s' hq => ?_)
  match r, hq with
  | .error e, hq => exact hq
  | .ok (.ret u), hq => exact hq
theorem w_metX {pl : Sem Bool} (h : At m N sc k X) (c : MetX m CX j C mn sp dvs) (hk : j ≤ k) (hx : Passes CX X E)
    (q : wE X o σ H fun x H1 => ∃ a dx fs, x = .ref a ∧ H1 a = some (.ins C dx fs) ∧ fs.lookup mn = none ∧ wA X (e :: es) σ H1 fun vs H2 => sp (x :: (vs ++ dvs)) H2 Q E)
    (hst : starEach (e :: es) X.env = (false, eval e X.env) :: starEach es X.env := by with_unfolding_all rfl) (hpl : (backTo pos (starEach es X.env)).any (·.1) = false := by with_unfolding_all rfl)
    (ht : eval (.Call (.Attribute o mn apos) (e :: es) [] pos) X.env = (do
      let ov ← eval o X.env
      standAt apos.atName
      let (f, first) ← holding [ov] (getMethod ov mn pl)
      callWith pos f first (backTo pos (starEach (e :: es) X.env)) (backToKw pos (keywordEach [] X.env))) := by with_unfolding_all rfl) : wE X (.Call (.Attribute o mn apos) (e :: es) [] pos) σ H Q := by
  obtain ⟨g, fd, ps, ds, F, cl, me, b, d⟩ := c.ex
  unfold wE
  intro pins s I
  refine PySem.W.methodCall_KW (pl := pl) (thn ((cE (X := X) (e := o)).run pins s σ H _ I q) fun u s1 ⟨x, H1, I1, rx, i, dx, fs, ex, ea, l, q1⟩ => ?_) ht
  subst ex
  obtain rfl : u = Value.ref i := rx
  refine getmeth_ok I1 ea (by rw [h.kk]; exact cl) (by rw [h.kk]; exact me) l ?_
  refine PySem.W.callWith_K (first := [.ref i]) (h₀ := X.base) I.ok.mod.kin (by rw [h.kk]; exact me.kp) (thn ((cA (X := X) (es := e :: es)).run pos pins s1 σ H1 _ I1 q1) fun us s2 ⟨vs, H2, I2, r, q2⟩ => ⟨I2.kIn, ?_⟩) hst hpl
  exact run_call (us := .ref i :: us) (vs := .ref i :: vs) h F hk hx I2 b d (.cons rfl r) q2
theorem w_met0 {pl : Sem Bool} (h : At m N sc k X) (c : MetX m CX j C mn sp dvs) (hk : j ≤ k) (hx : Passes CX X E)
    (q : wE X o σ H fun x H1 => ∃ a dx fs, x = .ref a ∧ H1 a = some (.ins C dx fs) ∧ fs.lookup mn = none ∧ sp (x :: dvs) H1 Q E)
    (ht : eval (.Call (.Attribute o mn apos) [] [] pos) X.env = (do
      let ov ← eval o X.env
      standAt apos.atName
      let (f, first) ← holding [ov] (getMethod ov mn pl)
      callWith pos f first (backTo pos (starEach [] X.env)) (backToKw pos (keywordEach [] X.env))) := by with_unfolding_all rfl) : wE X (.Call (.Attribute o mn apos) [] [] pos) σ H Q := by
  obtain ⟨g, fd, ps, ds, F, cl, me, b, d⟩ := c.ex
  unfold wE
  intro pins s I
  refine PySem.W.methodCall_KW (pl := pl) (thn ((cE (X := X) (e := o)).run pins s σ H _ I q) fun u s1 ⟨x, H1, I1, rx, i, dx, fs, ex, ea, l, q1⟩ => ?_) ht
  subst ex
  obtain rfl : u = Value.ref i := rx
  refine getmeth_ok I1 ea (by rw [h.kk]; exact cl) (by rw [h.kk]; exact me) l ?_
  exact PySem.W.callWith_K0 (first := [.ref i]) I1.kIn (by rw [h.kk]; exact me.kp) (run_call (us := [.ref i]) (vs := [.ref i]) h F hk hx I1 b d (.cons rfl .nil) q1)
/-! ### making -/
/-- the class x, at C, whose __init__ keeps sp -/
structure MakX (m : Md) (CX : CXT) (k : Nat) (x : Str) (C : Addr) (sp : Sp) (dvs : List V) : Prop where
  ex : ∃ (f : Addr) (fd : FuncData) (ps : List Str) (ds : List Value), FnG m CX k f fd ps sp ∧ Mk m.K C f ∧ m.mg x = some (.ref C) ∧ Binds m.K fd ps ds ∧ Vals dvs ds
theorem w_makX (h : At m N sc k X) (c : MakX m CX j x C sp dvs) (hk : j + 1 ≤ k) (hg : sc.names.lookup x = some .globalImplicit) (hx : L2.PassesAt CX X σ E)
    (q : wA X (e :: es) σ H fun vs H1 => ∀ i dx, H1 i = none → H1 dx = none → dx ≠ i → sp (.ref i :: (vs ++ dvs)) (upd (upd H1 dx (.own i)) i (.ins C dx [])) (fun v H2 => v = .non ∧ Q (.ref i) H2) E)
    (hdb : (x == ("__debug__" : Str)) = false := by with_unfolding_all decide) (he : starEach (e :: es) X.env = (false, eval e X.env) :: starEach es X.env := by with_unfolding_all rfl) (hpl : (backTo pos (starEach es X.env)).any (·.1) = false := by with_unfolding_all rfl) : wE X (.Call (.Name x p) (e :: es) [] pos) σ H Q := by
  obtain ⟨g, fd, ps, ds, F, M, hm, b, d⟩ := c.ex
  unfold wE
  intro pins s I
  refine wpAny_Call_Name_kw (ld_glob (u := .ref C) I (h.gl hg) (by rw [h.mm]; exact hm) ?_ hdb)
  refine PySem.W.callWith_K (h₀ := X.base) I.ok.mod.kin (by rw [h.kk]; exact M.kp) (thn ((cA (X := X) (es := e :: es)).run pos pins s σ H _ I q) fun us s1 ⟨vs, H1, I1, r, q1⟩ => ⟨I1.kIn, ?_⟩) he hpl
  have hq := q1 (s1.heap.objs.size + 1) s1.heap.objs.size (I1.hok.fresh (Nat.le_succ _)) (I1.hok.fresh (Nat.le_refl _)) (Nat.ne_of_lt (Nat.lt_succ_self _))
  have I2 := Inv.made (C := C) I1
  have r2 : Vals (V.ref (s1.heap.objs.size + 1) :: (vs ++ dvs)) (Value.ref (s1.heap.objs.size + 1) :: (us ++ ds)) := .cons rfl (Vals.append r d)
  have e0 := I2.env0.make C us []
  rw [h.pp, h.ww, h.kk, h.mm, h.bb] at e0
  have rc := F.run _ X.stack _ _ ⟨Value.ref (s1.heap.objs.size + 1) :: us, []⟩ (Value.ref (s1.heap.objs.size + 1) :: (us ++ ds)) _ _ E (by exact h.gd) ((h.room.mono hk).make C us []) e0
    (b _ (Value.ref (s1.heap.objs.size + 1) :: us) (by rw [← h.kk]; exact I2.kIn) (by have z := r2.length; rw [F.len _ _ _ _ hq] at z; exact z.symm)) r2 hq
  rw [← h.pp, ← h.ww] at rc
  refine wpAny_call (make_map (f := g) I1.kIn (by rw [h.kk]; exact M.makes) (by rw [h.kk]; exact M.init) (by rw [h.kk]; exact beq_iff_eq.mp M.fn) (codeAny_mono rc fun r s' hq' => ?_))
  match r, hq' with
  | .error e, hq' => exact hx pins _ _ e s' I2 hq'
  | .ok (.ret u), hq' =>
    obtain ⟨v, H', I3, rv, ev, q3⟩ := I2.after hq'
    subst ev
    exact ⟨rv, ⟨V.ref (s1.heap.objs.size + 1), H', I3, rfl, q3⟩⟩
/-! ### isinstance -/
theorem g_isi (h : At m N sc k X) {x c : V} {t u : Value} {r : Bool} (hc : ClsV c u) (ht : TyX m.K H x t) (hr : PySem.W.kitOne m.K t u = some r) (q : Q (.bl r) H) : gCall X (.builtin "isinstance") [x, c] H Q :=
  ⟨_, call_isi, x, c, t, u, r, rfl, hc, by rw [h.kk]; exact ht, by rw [h.kk]; exact hr, q⟩
/-- == by an own __eq__ -/
theorem g_eqIns (h : At m N sc k X) (c : MetX m CX j C "__eq__" sp []) (hk : j ≤ k) (hx : Passes CX X E) {i dx : Addr} {fs : List (Str × V)} {y : V} {t : Value} (hi : H i = some (.ins C dx fs)) (ty : TyX m.K H y t) (nf : PySem.W.notFirst m.K C t = true)
    (q : sp [.ref i, y] H (fun z H' => ∃ r, z = .bl r ∧ Q (.bl r) H') E) : gOp X (compareOp .Eq) (.ref i) y H Q := by
  obtain ⟨g, fd, ps, ds, F, cl, me, b, d⟩ := c.ex
  intro pins s σ v u I rx ry
  cases rx
  have ty' : TyX X.K H y t := by rw [h.kk]; exact ty
  obtain ⟨P, Z, p, _⟩ := kit_of I ry ty'
  obtain ⟨mA, J, _⟩ := ins_get I.hok hi
  obtain ⟨od, J, _⟩ := J.look
  obtain ⟨mm, hF⟩ := I.fr
  show wpAny (model X.prog X.w) X.A (richCompare .Eq (.ref i) u) (EP X pins σ Q) X.xe s
  have hu := h.hu
  refine PySem.W.cmp_K (op := .Eq) (tb := t) (by omega) hF I.ok.mod.kin J (Z.ty _ _ I.kIn p) (by rw [h.kk]; exact nf) (by rw [h.kk]; exact me.at_) (by rw [h.kk]; exact me.fn) ?_
  refine wpAny_mono (run_call (Q := fun z H' => ∃ r, z = .bl r ∧ Q (.bl r) H') (us := [.ref i, u]) (vs := [.ref i, y]) h F hk hx I b d (.cons rfl (.cons ry .nil)) (by cases d; simpa using q)) (fun w s' hq => ?_) fun _ _ x => x
  obtain ⟨z, H', I', rz, r, ez, q'⟩ := hq
  subst ez
  cases rz
  exact ⟨.bl r, _, I', rfl, q'⟩
/-! != where the class has an own __eq__ and no __ne__ -/
section
variable {M : Model} {prog : Program} {w : World} {A : Around} {EE : Value → Shared → Prop} {s : Shared} {K : PySem.W.Frag} {i g : Addr} {oi : Obj} {od : Option Obj} {u tb : Value}
theorem bound_ne {args : List Value} {R : Option Value → Shared → Prop} (KI : K.In s.heap) (J : PySem.W.InstAt s.heap i oi C od) (hs : PySem.W.findIn K (.ref C) "__ne__" = some (some (.builtin "object.__ne__")))
    (q : wpAny M A (call (.builtin "object.__ne__") (.ref i :: args)) (fun v => R (some v)) EE s) : wpAny M A (callSpecialIfBound? (.ref i) "__ne__" args) R EE s := by
  have last : wpAny M A (do let v ← call (.builtin "object.__ne__") ([.ref i] ++ args); pure (some v)) R EE s := wpAny_bind (wpAny_mono q (fun v s' z => wpAny_pure z) fun _ _ z => z)
  simp only [callSpecialIfBound?, bindSpecialIfBound?]
  refine wpAny_holding (wpAny_bind (wpAny_bind (wpAny_bind (J.type.here ((PySem.W.looks_findIn KI hs).here (wpAny_bind (wpAny_askSetting (wpAny_ite ?_))))))))
  split
  · exact wpAny_bind (wpAny_of_eq (F.cmp_object.ne.bind _) (wpAny_pure (by exact last)))
  · exact wpAny_tryCatch (wpAny_bind (wpAny_of_eq (F.cmp_object.ne.bind _) (wpAny_pure (by exact last))))
theorem body_ne (KI : K.In s.heap) (J : PySem.W.InstAt s.heap i oi C od) (he : PySem.W.findIn K (.ref C) "__eq__" = some (some (.ref g))) (hf : PySem.W.isFn K (.ref g) = true) (hu : A.units < cLine) {R : Fin → Shared → Prop}
    (q : wpAny M A (call (.ref g) [.ref i, u]) (fun v s' => ∃ b, v = .bool b ∧ R (.done (.ret (.bool (!b)))) s') EE s) : wpAny M A (Builtin.«object.__ne__» ⟨[.ref i, u], []⟩) R EE s := by
  unfold Builtin.«object.__ne__»
  repeat (first
    | with_reducible refine wpAny_cRoomFor hu ?_
    | (refine wpAny_bind (m := callSpecialIfBound? (.ref i) (Str.ofString "__eq__") [u]) (PySem.W.ifBound_K KI J he hf (wpAny_mono q (fun r s' z => by
          obtain ⟨b, rfl, hq⟩ := z
          repeat (first | exact hq | exact wpAny_pure hq | exact wpAny_truthy_bool hq | (refine wpAny_bind (m := truthy (.bool _)) (wpAny_truthy_bool ?_)) | wp_step)) fun _ _ z => z)))
    | wp_step)
end
/-- the callee's run one built-in deeper -/
theorem run_call1 {pins : List (Addr × Obj)} {s : Shared} {g : Addr} {fd : FuncData} {ps : List Str} {us : List Value} {vs : List V} (h : At m N sc k X) (F : FnG m CX j g fd ps sp) (hk : j + 1 ≤ k) (hx : Passes CX X E) (I : Inv X pins σ H s) (b : Binds m.K fd ps []) (r : Vals vs us) (q : sp vs H Q E) :
    wpAny (model X.prog X.w) X.A.in1 (call (.ref g) us) (EP X pins σ Q) X.xe s := by
  have e0 := I.env0.in1
  rw [h.pp, h.ww, h.kk, h.mm, h.bb] at e0
  have hl : us.length = ps.length := by rw [← r.length]; exact F.len _ _ _ _ q
  have rc := F.run X.A.in1 X.stack s H ⟨us, []⟩ us vs Q E (by exact h.gd) ((h.room.mono hk).in1) e0 (by have := b s us (by rw [← h.kk]; exact I.kIn) (by simpa using hl); simpa using this) r q
  rw [← h.pp, ← h.ww] at rc
  refine wpAny_call (codeAny_mono rc fun r s' hq => ?_)
  match r, hq with
  | .error e, hq => exact hx pins σ H s e s' I hq
  | .ok (.ret u), hq => exact I.after hq
/-- != where the class has an own __eq__ and no __ne__ -/
theorem g_neIns (h : At m N sc k X) (c : MetX m CX j C "__eq__" sp []) (hn : PySem.W.findIn m.K (.ref C) "__ne__" = some (some (.builtin "object.__ne__"))) (hm : PySem.W.mroIn m.K C (.type "object") = some true) (hk : j + 1 ≤ k) (hx : Passes CX X E) {i dx : Addr} {fs : List (Str × V)} {y : V} {t : Value} (hi : H i = some (.ins C dx fs)) (ty : TyX m.K H y t) (nf : PySem.W.notFirst m.K C t = true)
    (q : sp [.ref i, y] H (fun z H' => ∃ r, z = .bl r ∧ Q (.bl (!r)) H') E) : gOp X (compareOp .NotEq) (.ref i) y H Q := by
  obtain ⟨g, fd, ps, ds, F, cl, me, b, d⟩ := c.ex
  intro pins s σ v u I rx ry
  cases rx
  cases d
  have ty' : TyX X.K H y t := by rw [h.kk]; exact ty
  obtain ⟨P, Z, p, _⟩ := kit_of I ry ty'
  obtain ⟨mA, J, _⟩ := ins_get I.hok hi
  obtain ⟨od, J, _⟩ := J.look
  have hu := h.hu
  have KI := I.kIn
  have hb := Z.ty (model X.prog X.w) _ I.kIn p
  have run := run_call1 (Q := fun z H' => ∃ r, z = .bl r ∧ Q (.bl (!r)) H') (us := [.ref i, u]) (vs := [.ref i, y]) h F hk hx I b (.cons rfl (.cons ry .nil)) (by simpa using q)
  have one : wpAny (model X.prog X.w) X.A (tryCompare (.ref i) (cmpInfo .NotEq).2.1 u) (fun r s' => ∃ v, r = some v ∧ EP X pins σ Q v s') X.xe s := by
    unfold tryCompare
    refine wpAny_bind (bound_ne KI J (by rw [h.kk]; exact hn) (wpAny_call (codeAny_call_builtin PySem.F.cmp_object.ne.plain PySem.F.cmpEntry_ne (PySem.W.check_slot PySem.F.cmpKind_ne PySem.F.cmpSplit_ne (J.type.andThen (PySem.W.looks_mroIn KI (by rw [h.kk]; exact hm))) (PySem.F.cmpArgs_ne _ _)
      (body_ne (A := X.A.in1) KI J (by rw [h.kk]; exact me.at_) (by rw [h.kk]; exact me.fn) (by show X.A.units + 1 < cLine; omega) (wpAny_mono run (fun v s' hv => ?_) fun _ _ z => z))))))
    obtain ⟨z, H', I', rz, r, ez, q'⟩ := hv
    subst ez
    cases rz
    exact ⟨r, rfl, wpAny_pure ⟨_, rfl, .bl (!r), H', I', rfl, q'⟩⟩
  show wpAny (model X.prog X.w) X.A (richCompare .NotEq (.ref i) u) (EP X pins σ Q) X.xe s
  unfold richCompare
  simp only [oneThing_ref]
  refine wpAny_holding (wpAny_bind (wpAny_cRoomFor (by omega) ?_))
  refine wpAny_bind (J.type.here (wpAny_bind (hb.here ?_)))
  have nf' : PySem.W.notFirst X.K C t = true := by rw [h.kk]; exact nf
  split
  · rename_i w
    have e : PySem.W.subIn X.K t (.ref C) = some false := by
      rcases Bool.or_eq_true_iff.mp nf' with e | e
      · rw [beq_iff_eq.mp e] at w; simp at w
      · exact beq_iff_eq.mp e
    refine wpAny_bind ((PySem.W.looks_subIn KI e).here ?_)
    simp only [Bool.false_eq_true, if_false]
    refine wpAny_bind (wpAny_mono one (fun r s' z => ?_) fun _ _ z => z)
    obtain ⟨v, rfl, hq⟩ := z
    exact wpAny_pure hq
  · refine wpAny_bind (wpAny_pure ?_)
    simp only [Bool.false_eq_true, if_false]
    refine wpAny_bind (wpAny_mono one (fun r s' z => ?_) fun _ _ z => z)
    obtain ⟨v, rfl, hq⟩ := z
    exact wpAny_pure hq
end
end Vf
set_option maxRecDepth 100000
set_option maxHeartbeats 4000000
/-! Exn: defs that raise own errors with a field, and what catches them. Own work. -/
namespace Vf
open PySem PySem.Spec PyProof.Rows L2 LamX
/-- how the frame of a def stands -/
structure Frm (X : Cx) : Prop where
  stk : X.stack = X.env :: X.outer
  frm : X.env.frame = some X.env.locals
section
variable {m : Md} {N ps : List Str} {k : Nat} {x qual : Str} {st : Stmt} {f : Addr} {fd : FuncData} {sp : Sp}
/-- a def that may raise, by its body -/
theorem fnG_ofX (F : C8.Fun m.K x qual st f fd) (S : FnScope N ps (C8.fnScope st)) (len : ∀ vs H Q E, sp vs H Q E → vs.length = ps.length)
    (hb : ∀ (X : Cx) (vs : List V) (H : Hp) (Q : VK) (E : XK), At m N (C8.fnScope st) k X → AtM X qual fd.code → Frm X → L2.Takes X (fun cls d _ H => E cls d H) → sp vs H Q E → wB X (C8.fnBody st) { nx := fun _ H' => Q .non H', rt := Q } (start N vs) H) : FnG m (L2.CX m.P m.w) (k + 1) f fd ps sp := by
  obtain ⟨oc, od, dV, kV, doc, pm, an, cdv, ct, osl, rfl, lk, hc⟩ := F.ex
  refine ⟨len, fun A outer s H args us vs Q E hg hr e0 bt r q => ?_⟩
  refine LamX.run_ofS (CX := L2.CX m.P m.w) (N := N) lk hc S hr e0 bt r (len _ _ _ _ q) fun hr' => ⟨_, cB, ?_⟩
  exact hb (cxOf (L2.CX m.P m.w) m.P m.w m.K m.mg m.base N qual (C8.fnScope st) f cdv A outer s H E) vs H Q E ⟨rfl, rfl, rfl, rfl, rfl, rfl, rfl, rfl, hr', L2.passes_of rfl, S.nd, hg⟩ ⟨rfl, rfl, fun _ => rfl, rfl⟩ ⟨rfl, rfl⟩ (L2.takes_of rfl rfl rfl rfl) q
theorem calX_of (F : C8.Def m.K m.mg x st f fd) (b : Binds m.K fd ps []) (S : FnScope N ps (C8.fnScope st)) (len : ∀ vs H Q E, sp vs H Q E → vs.length = ps.length)
    (hb : ∀ (X : Cx) (vs : List V) (H : Hp) (Q : VK) (E : XK), At m N (C8.fnScope st) k X → AtM X x fd.code → Frm X → L2.Takes X (fun cls d _ H => E cls d H) → sp vs H Q E → wB X (C8.fnBody st) { nx := fun _ H' => Q .non H', rt := Q } (start N vs) H) : CalX m (L2.CX m.P m.w) (k + 1) x sp [] :=
  ⟨f, fd, ps, [], fnG_ofX F.fn S len hb, F.mgf, F.kp, b, .nil⟩
end
/-- an own error class x at C whose __init__ stores its one argument in the field fn -/
structure ErrC (m : Md) (x : Str) (C : Addr) (fn : Str) : Prop where
  oex : OexC m.K C
  xf : XfC m.K C
  no : PySem.W.findIn m.K (.ref C) fn = some none
  gC : m.mg x = some (.ref C)
  self : PySem.W.exmOne m.K (.ref C) (.ref C) = some true
  init : ∃ (fI : Addr) (fd : FuncData) (ps : List Str), PySem.W.findIn m.K (.ref C) "__init__" = some (some (.ref fI)) ∧ PySem.W.typeIn m.K (.ref fI) = some (.type "function") ∧ Binds m.K fd ps [] ∧
    FnOk m.P m.w m.K m.mg m.base C8.CX0 1 fI fd ps (fun vs H Q _ => ∃ (a : Addr) (v : V), vs = [.ref a, v] ∧ H a = some (exo a C none) ∧ ∀ dx, H dx = none → dx ≠ a → Q .non (upd (upd H dx (exd dx [(fn, v)])) a (exo a C (some dx))))
section
variable {m : Md} {N : List Str} {sc : Scope} {i k : Nat} {X : Cx} {a b c e o : Expr} {es : List Expr} {σ : L2.St} {H : Hp} {Q : VK} {D : Ends} {W Wout : WX} {pos p p1 p2 pos2 np pos' : Pos} {x nm fn : Str} {C : Addr}
/-- raise x(e) -/
theorem s_raise (h : At m N sc k X) (tk : L2.Takes X W) (c : ErrC m x C fn) (hk : 2 ≤ k) (hg : sc.names.lookup x = some .globalImplicit)
    (q : wE X e σ H fun v H1 => ∀ d, H1 d = none → W (.ref C) (some d) σ (upd H1 d (.xd [(fn, v)])))
    (hdb : (x == ("__debug__" : Str)) = false := by with_unfolding_all decide) (he : starEach [e] X.env = (false, eval e X.env) :: starEach [] X.env := by with_unfolding_all rfl) (hpl : (backTo pos (starEach [] X.env)).any (·.1) = false := by with_unfolding_all rfl) : wS X (.Raise (some (.Call (.Name x p) [e] [] pos)) none pos2) D σ H := by
  obtain ⟨fI, fd, ps, iC, tI, b, F⟩ := c.init
  have F' := F
  rw [← h.pp, ← h.ww, ← h.kk, ← h.mm, ← h.bb] at F'
  refine toS (L2.ps_raise h.calm tk (pmk_oex (dvs := []) (ds := []) (by rw [h.kk]; exact c.oex) (by rw [h.kk]; exact iC) (by rw [h.kk]; exact tI) F' (h.room.mono hk) (by rw [h.kk]; exact b) .nil C8.pass0 (h.gl hg) (by rw [h.mm]; exact c.gC) (pa_cons (cE (e := e)) pa_nil he) hdb he hpl)) ?_
  show tCons (wE X e) tNil σ H _
  refine wE.mono q fun v H1 q1 => ?_
  refine ⟨(show 1 ≤ 1000 by decide), fun a ha => ⟨a, v, rfl, upd_same, fun dx hdx hne => ⟨rfl, dx, [(fn, v)], upd_same, by rw [upd_ne hne, upd_same], by rw [upd_ne hne] at hdx; exact hdx, ?_⟩⟩⟩
  have hdx1 : H1 dx = none := by rw [upd_ne hne] at hdx; exact hdx
  have e1 : upd (del (upd (upd (upd H1 a (exo a C none)) dx (exd dx [(fn, v)])) a (exo a C (some dx))) a) dx (.xd [(fn, v)]) = upd H1 dx (.xd [(fn, v)]) := by
    funext z
    by_cases z1 : z = dx
    · rw [z1, upd_same, upd_same]
    · rw [upd_ne z1, upd_ne z1]
      by_cases z2 : z = a
      · rw [z2, del_same, ha]
      · rw [del_ne z2, upd_ne z2, upd_ne z1, upd_ne z2]
  rw [e1]
  exact q1 dx hdx1
theorem At.tr (h : At m N sc k X) {pn : List (Addr × Obj)} {xe : Value → Shared → Prop} (hp : PassesOwn (model X.prog X.w) X.A X.env xe) : At m N sc k (X.tr pn xe) := ⟨h.pp, h.ww, h.kk, h.mm, h.bb, h.nn, h.ss, h.calm, h.room, hp, h.nd, h.gd⟩
theorem Frm.tr (h : Frm X) {pn : List (Addr × Obj)} {xe : Value → Shared → Prop} : Frm (X.tr pn xe) := ⟨h.stk, h.frm⟩
/-- the place of an except suite: a the exception, cls its class, d its dict -/
structure Sui (m : Md) (N : List Str) (sc : Scope) (a : Addr) (cls : Value) (d : Option Addr) (X : Cx) : Prop where
  ex : ∃ (X0 : Cx) (oe : Obj) (pn : List (Addr × Obj)), X = X0.suite a ((a, oe) :: pn) ∧ Zc cls d oe ∧ (∃ vs, oe.data = .fields vs)
  kk : X.K = m.K
  nn : X.N = N
  ss : X.env.scope = sc
  nd : N.Nodup
/-- try: .. except x as nm: .. -/
theorem s_tryAs {body suite : List Stmt} {b0 : Stmt} (h : At m N sc k X) (fr : Frm X) (n : NL N sc i nm) (hx : sc.names.lookup x = some .globalImplicit) (hC : m.mg x = some (.ref C)) (tk : L2.Takes X Wout)
    (q : ∀ X', At m N sc k X' → Frm X' → L2.Takes X' (fun cls d σ H => ∃ r, PySem.W.exmOne m.K cls (.ref C) = some r ∧
        (r = true → ∀ a, H a = none → ∀ X2, Sui m N sc a cls d X2 → wB X2 (b0 :: suite) { nx := fun σ' H' => D.nx (σ'.set i none) H', rt := D.rt, bk := fun σ' H' => D.bk (σ'.set i none) H', ct := fun σ' H' => D.ct (σ'.set i none) H' } (σ.set i (some (.ref a))) H) ∧ (r = false → Wout cls d σ H)) → wB X' body D σ H)
    (hdb : (x == ("__debug__" : Str)) = false := by with_unfolding_all decide) : wS X (.Try body [.ExceptHandler (some (.Name x np)) (some nm) (b0 :: suite) pos'] [] [] pos) D σ H := by
  refine toS (L2.ps_try_as (c := .ref C) (i := i) (Wout := Wout) (tb := fun W D σ H => ∀ X', At m N sc k X' → Frm X' → L2.Takes X' W → wB X' body D σ H) (ts := fun a cls d D σ H => ∀ X2, Sui m N sc a cls d X2 → wB X2 (b0 :: suite) D σ H)
    fr.stk fr.frm (by rw [h.nn]; exact h.nd) (by rw [h.nn]; exact n.ix) (by show X.env.scope.names.lookup nm = _; rw [h.ss]; exact n.loc) ⟨h.gl hx, hdb, .inl (by rw [h.mm]; exact hC)⟩ tk
    (fun W pn xe tk' ps => ⟨fun pins s σ H D I z => (cB (X := X.tr pn xe) (sts := body)).run pins s σ H D I (z _ (h.tr ps) fr.tr tk')⟩) (fun a oe cls d pn hz hf => ⟨fun pins s σ H D I z => (cB (X := X.suite a ((a, oe) :: pn)) (sts := b0 :: suite)).run pins s σ H D I (z _ ⟨⟨X, oe, pn, rfl, hz, hf⟩, h.kk, h.nn, h.ss, h.nd⟩)⟩)) ?_
  intro X' hX' fr' tk'
  refine q X' hX' fr' (L2.Takes.imp tk' fun cls d σ H z => ?_)
  unfold wAs
  rw [h.kk]
  exact z
/-! in a suite -/
theorem w_nlS {cls : Value} {d : Option Addr} {z : Addr} {v : V} (h : Sui m N sc z cls d X) (n : NL N sc i nm) (hs : σ[i]? = some (some v)) (q : Q v H) (hd : (nm == ("__debug__" : Str)) = false := by with_unfolding_all decide) (hcd : (nm == ("__classdict__" : Str)) = false := by with_unfolding_all decide) : wE X (.Name nm pos) σ H Q :=
  toE (pe_var (by rw [h.nn]; exact n.ix) (by rw [h.ss]; exact .inl n.loc) hd hcd) ⟨v, hs, q⟩
theorem s_nlS {cls : Value} {d : Option Addr} {z : Addr} (h : Sui m N sc z cls d X) (n : NL N sc i nm) (q : wE X e σ H fun v H1 => D.nx (σ.set i (some v)) H1) (hs : swapsWith e (some (.Name nm p1)) pos.line X.env = pure false := by with_unfolding_all rfl) : wS X (.Assign [.Name nm p1] e pos) D σ H :=
  toS (ps_set (by rw [h.nn]; exact h.nd) (by rw [h.nn]; exact n.ix) (by rw [h.ss]; exact .inl n.loc) cE hs (.inr (by rw [h.ss]; exact n.loc))) q
/-- e.fn of the caught error -/
theorem w_errS {cls : Value} {d : Option Addr} {z : Addr} (h : Sui m N sc z cls d X) (c : ErrC m x C fn) (hcls : cls = .ref C) (q : wE X e σ H fun y H1 => y = .ref z ∧ ∃ (dd : Addr) (v : V), d = some dd ∧ H1 dd = some (.xd [(fn, v)]) ∧ Q v H1)
    (hb : attributeBase e fn X.env (eval e X.env) = eval e X.env := by with_unfolding_all rfl) : wE X (.Attribute e fn pos) σ H Q := by
  obtain ⟨X0, oe, pn, rfl, hz, hf⟩ := h.ex
  have kk : X0.K = m.K := h.kk
  refine toE (pe_xf (C := C) (by rw [kk]; exact c.xf) (by rw [kk]; exact c.no) hz hf cE hb) ?_
  refine wE.mono q fun y H1 ⟨ey, dd, v, ed, hd, q1⟩ => ?_
  exact ⟨ey, hcls, dd, [(fn, v)], v, ed, hd, by simp [List.lookup], q1⟩
end
end Vf
set_option maxRecDepth 100000
set_option maxHeartbeats 4000000
/-! Fin: the end of a row, where nothing is being shown. Own work. -/
namespace Vf
open PySem PySem.Spec PyProof.Rows L2 LamX
/-- the script's own object -/
def scrO (vs : List Value) : Obj := { cls := .type "list", data := .seq vs.toArray }
/-- an empty table of a code object -/
def tabO : Obj := { cls := .none, data := .fields #[] }
/-- what is tracked where the law is called: the tables of ts, and the script, if it stands in no written part -/
def hp0 (K : PySem.W.Frag) (ts : List Addr) (a : Addr) (vs : List Value) (ns : List Int) : Hp := fun b => if b ∈ ts then some (.tbl #[]) else if b = a ∧ K.lookup a = none then some (.frz (scrO vs) (.lst (ns.map V.int))) else none
section
variable {K : PySem.W.Frag} {ts : List Addr} {a b : Addr} {vs : List Value} {ns : List Int} {h : Heap}
theorem hp0_tab (z : b ∈ ts) : hp0 K ts a vs ns b = some (.tbl #[]) := if_pos z
theorem hp0_some {u : HO} (z : hp0 K ts a vs ns b = some u) : b ∈ ts ∧ u = .tbl #[] ∨ b ∉ ts ∧ b = a ∧ K.lookup a = none ∧ u = .frz (scrO vs) (.lst (ns.map V.int)) := by
  unfold hp0 at z
  split at z
  · rename_i c; exact .inl ⟨c, (Option.some.inj z).symm⟩
  · rename_i c
    split at z
    · rename_i e; exact .inr ⟨c, e.1, e.2, (Option.some.inj z).symm⟩
    · cases z
/-- a heap with the script at a and the tables ts -/
structure Scr (h : Heap) (ts : List Addr) (a : Addr) (vs : List Value) : Prop where
  scr : h.get? a = some (scrO vs)
  tab : ∀ b ∈ ts, h.get? b = some tabO
theorem Scr.at_ (S : Scr h ts a vs) {u : HO} (z : hp0 K ts a vs ns b = some u) : h.get? b = some tabO ∨ h.get? b = some (scrO vs) ∧ K.lookup b = none := by
  rcases hp0_some z with ⟨m, _⟩ | ⟨_, e, k, _⟩
  · exact .inl (S.tab b m)
  · subst e; exact .inr ⟨S.scr, k⟩
/-- what is neither a sequence nor an object of fields without any is not tracked -/
theorem Scr.free (S : Scr h ts a vs) {o : Obj} (e : h.get? b = some o) (n1 : ∀ xs k, o.data ≠ .seq xs k) (n2 : o.data ≠ .fields #[]) : hp0 K ts a vs ns b = none := by
  cases z : hp0 K ts a vs ns b with
  | none => rfl
  | some u =>
    rcases S.at_ z with g | ⟨g, _⟩
    · rw [g] at e; cases e; exact absurd rfl n2
    · rw [g] at e; cases e; exact absurd rfl (n1 _ _)
theorem Scr.ok {P : Program} {w : World} (S : Scr h ts a vs) (hi : IntsAre vs ns) (hl : ns.length ≤ sizeLine) : HOk P w (hp0 K ts a vs ns) h := fun b u z => by
  rcases hp0_some z with ⟨m, rfl⟩ | ⟨_, rfl, _, rfl⟩
  · exact S.tab b m
  · exact ⟨S.scr, by rw [List.length_map]; exact hl, vs, _, vals_ints hi, S.scr⟩
theorem Scr.seq (S : Scr h ts a vs) (hi : IntsAre vs ns) (hl : ns.length ≤ sizeLine) (KX : K.In h) : SqL K (hp0 K ts a vs ns) a (ns.map V.int) := by
  have na : a ∉ ts := fun z => by
    have := S.tab a z
    rw [S.scr] at this
    have q := congrArg Obj.data (Option.some.inj this)
    cases q
  cases k : K.lookup a with
  | none => exact .inl (.inr ⟨_, by unfold hp0; rw [if_neg na, if_pos ⟨rfl, k⟩]⟩)
  | some o =>
    have e := KX a o k
    rw [S.scr] at e
    cases e
    exact .inr ⟨_, vs.toArray, _, k, rfl, rfl, rfl, by rw [List.size_toArray, hi.length]; exact hl, by simpa using vals_ints hi⟩
end
section
variable {m : Md} {mb : Str → Option Value} {CX : CXT} {k : Nat} {fa a : Addr} {cs : List (Addr × Addr)} {fd : FuncData} {x : Str} {sp : Sp} {vs : List Value} {ns : List Int}
/-- the written part and the globals as the law's call finds them -/
structure Gnd (K : PySem.W.Frag) (mg mb : Str → Option Value) (cs : List (Addr × Addr)) (h : Heap) : Prop where
  kin : K.In h
  glb : h.Ns mainGlobals mg
  blt : h.Ns builtinsNs mb
  bot : ∀ y : Str, y ≠ "__name__" → mb y = bootBuiltins y
  lim : h.NoLimit
  off : ∀ p ∈ cs, K.lookup p.2 = none
  cod : ∀ p ∈ cs, PySem.W.CodeHd h p.1 p.2
  mod : ∃ (bm : Addr) (ob : Obj), mg "__builtins__" = some (.ref bm) ∧ bm ≠ builtinsNs ∧ h.get? bm = some ob ∧ ob.cls = .type "module" ∧ ob.dict = some builtinsNs ∧ ob.data = .plain
/-- the tables' addresses -/
abbrev tbs (cs : List (Addr × Addr)) : List Addr := cs.map (·.2)
theorem mem_tbs {p : Addr × Addr} (h : p ∈ cs) : p.2 ∈ tbs cs := List.mem_map.2 ⟨p, h, rfl⟩
/-- the base: the heap without what is tracked -/
abbrev bas (K : PySem.W.Frag) (cs : List (Addr × Addr)) (a : Addr) (vs : List Value) (ns : List Int) (h : Heap) : Heap := hidT h (hp0 K (tbs cs) a vs ns)
theorem Gnd.nsB {K : PySem.W.Frag} {h : Heap} (S : Scr h (tbs cs) a vs) {b : Addr} {f : Str → Option Value} (z : h.Ns b f) : (bas K cs a vs ns h).Ns b f := by
  obtain ⟨o, es, ep, e, d, r⟩ := z
  exact ⟨o, es, ep, hidT_get e (S.free e (fun xs j w => by rw [d] at w; cases w) fun w => by rw [d] at w; cases w), d, r⟩
theorem Gnd.kinB {K : PySem.W.Frag} {mg : Str → Option Value} {h : Heap} (G : Gnd K mg mb cs h) (S : Scr h (tbs cs) a vs) : K.In (bas K cs a vs ns h) := fun b o e => by
  refine hidT_get (G.kin b o e) ?_
  cases z : hp0 K (tbs cs) a vs ns b with
  | none => rfl
  | some u =>
    rcases hp0_some z with ⟨w, _⟩ | ⟨_, w, n, _⟩
    · obtain ⟨p, hp, w⟩ := List.mem_map.1 w
      have n := G.off p hp
      rw [w, e] at n; cases n
    · rw [w, n] at e; cases e
theorem Gnd.tabB {K : PySem.W.Frag} {mg : Str → Option Value} {h : Heap} (G : Gnd K mg mb cs h) (S : Scr h (tbs cs) a vs) : ∀ p ∈ cs, TabB (bas K cs a vs ns h) mg p.1 p.2 := fun p hp => by
  have hT := S.tab _ (mem_tbs hp)
  have nG : ∀ b, mainGlobals = b → h.get? b ≠ some tabO := fun b z w => by
    obtain ⟨o, es, ep, e, hd, _⟩ := G.glb
    rw [z, w] at e
    cases e
    cases hd
  refine ⟨?_, ?_, fun z => nG _ z hT⟩
  · obtain ⟨o, us, fl, tf, fg, tg, inF, tx, tt, at1, kind, dat, el, more⟩ := G.cod p hp
    refine ⟨o, us, fl, tf, fg, tg, inF, tx, tt, hidT_get at1 (S.free at1 (fun xs j w => by rw [dat] at w; cases w) fun w => ?_), kind, dat, el, more⟩
    rw [dat] at w
    cases w
    simp at el
  · obtain ⟨bm, ob, b1, b2, b3, b4, b5, b6⟩ := G.mod
    refine ⟨bm, ob, b1, b2, fun q => ?_, fun q => ?_, hidT_get b3 (S.free b3 (fun xs j w => by rw [b6] at w; cases w) fun w => by rw [b6] at w; cases w), b4, b5, b6⟩
    · obtain ⟨o, es, ep, e, hd, _⟩ := G.glb
      rw [← q, b3] at e
      cases e
      rw [b6] at hd; cases hd
    · rw [q, hT] at b3
      cases b3
      cases b6
/-- the call of the law -/
theorem law_run {h : Heap} {s : Shared} (es : s.heap = h) (G : Gnd m.K m.mg mb cs h) (S : Scr h (tbs cs) a vs) (hg : s.gens = #[]) (hi : IntsAre vs ns) (hl : ns.length ≤ sizeLine) (hr : Room k callerA)
    (F : (bas m.K cs a vs ns h).Ns mainGlobals m.mg → m.K.In (bas m.K cs a vs ns h) → (∀ p ∈ cs, TabB (bas m.K cs a vs ns h) m.mg p.1 p.2) → FnG { m with base := bas m.K cs a vs ns h } CX k fa fd [x] sp) (hb : ∀ (s : Shared) (u : Value), BindsTo s fd ⟨[u], []⟩ [(x, u)])
    (q : ∀ H : Hp, (∀ p ∈ cs, H p.2 = some (.tbl #[])) → SqL m.K H a (ns.map V.int) → sp [.ref a] H (fun v _ => v = .bl true) fun _ _ _ => False) (hCX : ∀ H e s', CX [] H s (fun _ _ _ => False) e s' → False) :
    codeAny (model m.P m.w) callerA (.call (.ref fa) ⟨[.ref a], []⟩) (fun r s' => r = .ok (.ret (.bool true)) ∧ OldK s.heap s'.heap ∧ s'.os = s.os ∧ AllBare s'.gens) s := by
  subst es
  have M : L2.Mod m.K m.mg (bas m.K cs a vs ns s.heap) := ⟨G.kinB S, Gnd.nsB S G.glb, ⟨mb, Gnd.nsB S G.blt, G.bot⟩, by obtain ⟨c, h1, h2⟩ := G.lim; exact ⟨c, Gnd.nsB S h1, h2⟩⟩
  have ok := S.ok (P := m.P) (w := m.w) (K := m.K) hi hl
  have e0 : Env0 m.P m.w m.K m.mg (bas m.K cs a vs ns s.heap) callerA [] s (hp0 m.K (tbs cs) a vs ns) :=
    ⟨rfl, M, fun b o e => of_hidT e, Nat.le_of_eq (hidT_size _ _), trivial, fun b hb => absurd (show b ∈ ([] : List Addr) from hb) (by simp), ok, .of_eq hg⟩
  have run := (F (Gnd.nsB S G.glb) (G.kinB S) (G.tabB S)).run callerA [] s (hp0 m.K (tbs cs) a vs ns) ⟨[.ref a], []⟩ [.ref a] [.ref a] _ _ rfl hr e0 (hb s (.ref a)) (.cons rfl .nil) (q _ (fun p hp => hp0_tab (mem_tbs hp)) (S.seq hi hl G.kin))
  refine codeAny_mono run fun r s' z => ?_
  match r, z with
  | .error e, z => exact (hCX _ e s' z).elim
  | .ok (.ret u), z =>
    obtain ⟨v, H', os, bare, un, ok', rv, ev⟩ := z
    subst ev
    obtain rfl : u = Value.bool true := rv
    have grown : ∀ p ∈ cs, ∃ more : Array Value, s'.heap.get? p.2 = some { cls := .none, data := .fields more } := fun p hp => by
      obtain ⟨more, w⟩ := un.tbls p.2 #[] (hp0_tab (mem_tbs hp))
      exact ⟨_, ok' p.2 _ w⟩
    have stays : ∀ b o, b ∉ tbs cs → s.heap.get? b = some o → s'.heap.get? b = some o := fun b o nb e => by
      cases w : hp0 m.K (tbs cs) a vs ns b with
      | none => exact un.keep b o e w (fun y => absurd (show b ∈ ([] : List Addr) from y) (by simp)) (by simp)
      | some u =>
        rcases hp0_some w with ⟨y, _⟩ | ⟨_, rfl, _, rfl⟩
        · exact absurd y nb
        · have y := un.frzs b _ _ w
          obtain ⟨y2, _⟩ := ok' b _ y
          rw [S.scr] at e
          cases e
          exact y2
    refine ⟨rfl, ⟨fun b o e => ?_, fun b o e => ?_⟩, os, bare⟩
    · by_cases y : b ∈ tbs cs
      · obtain ⟨p, hp, rfl⟩ := List.mem_map.1 y
        obtain ⟨more, hm⟩ := grown p hp
        have t := S.tab _ y
        rw [t] at e
        cases e
        exact .inr (.inl ⟨((G.cod p hp).tab t).isCodeTable, rfl, #[], more, rfl, by rw [Array.empty_append]; exact hm⟩)
      · exact .inl (stays b o y e)
    · by_cases y : b ∈ tbs cs
      · obtain ⟨p, hp, rfl⟩ := List.mem_map.1 y
        obtain ⟨more, hm⟩ := grown p hp
        exact ⟨_, hm⟩
      · exact ⟨o, stays b o y e⟩
end
/-- what is to be shown of the law at the head's heap h -/
structure LawG (P : Program) (w : World) (K : PySem.W.Frag) (CX : CXT) (k n : Nat) (x : Str) (mg : Str → Option Value) (fa : Addr) (h : Heap) (fd : FuncData) (cs : List (Addr × Addr)) (T : List (Addr × Str)) (sp : Sp) : Prop where
  tab : ∀ p ∈ cs, h.get? p.2 = some tabO
  off : ∀ p ∈ cs, K.lookup p.2 = none
  cod : ∀ p ∈ cs, PySem.W.CodeHd h p.1 p.2
  bnd : ∀ (s : Shared) (u : Value), BindsTo s fd ⟨[u], []⟩ [(x, u)]
  pre : ∀ (H : Hp) (a : Addr) (ns : List Int), ns.length ≤ n → (∀ z ∈ ns, Builtin.Int.intBits z ≤ 1048576) → (∀ p ∈ cs, H p.2 = some (.tbl #[])) → SqL K H a (ns.map V.int) → sp [.ref a] H (fun v _ => v = .bl true) fun _ _ _ => False
  run : ∀ base : Heap, base.Ns mainGlobals mg → K.In base → (∀ p ∈ cs, TabB base mg p.1 p.2) → FnG ⟨P, w, K, mg, base, T⟩ CX k fa fd [x] sp
theorem walkG {l : PySem.W.OpenLaw} {n k : Nat} {q : Program} {loose : List Str} {XP : (Str → Option Value) → Heap → Prop} {YP : World → Heap → Prop} {d : DefRec} {K : Params → PySem.W.Frag} {CX : World → CXT} {x : Str}
    (hn : l.most = some n) (hn2 : n ≤ sizeLine) (hdf : d.params.defaults = []) (hr : Room k callerA) (hY : ∀ (w : World) (h : Heap), YP w h → (K w.params).In h)
    (F : ∀ (w : World) (mg : Str → Option Value) (fa : Addr) (h : Heap), YP w h → (K w.params).In h → h.Ns mainGlobals mg → mg d.name = some (.ref fa) → ∃ fd cs T sp, LawG l.prog w (K w.params) (CX w) k n x mg fa h fd cs T sp)
    (hCX : ∀ (w : World) (H : Hp) (s : Shared) (e : Value) (s' : Shared), CX w [] H s (fun _ _ _ => False) e s' → False) :
    PySem.W.WalkO q loose XP YP l.row.toRowW d [] (fun f vs => PySem.call f vs) := by
  refine Att.attach_callB hn hdf fun w s0 s1 mg mb fa o pm cd doc a vs ns G Y _ _ _ hmg hobj hints hlen hbits hg => ?_
  have KX := hY w _ Y
  obtain ⟨fd, cs, T, sp, L⟩ := F w mg fa _ Y KX G.T.g hmg
  exact law_run (m := ⟨l.prog, w, K w.params, mg, s1.heap, T⟩) (h := s1.heap) rfl ⟨KX, G.T.g, G.T.b, G.T.builtins, G.T.nolimit, L.off, L.cod, G.T.bmain⟩ ⟨hobj, fun b hb => by
    obtain ⟨p, hp, e⟩ := List.mem_map.1 hb
    rw [← e]; exact L.tab p hp⟩ hg hints (Nat.le_trans hlen hn2) hr (fun h1 h2 h3 => L.run _ h1 h2 h3) L.bnd (fun H h1 h2 => L.pre H a ns hlen hbits h1 h2) fun H e s' z => hCX w H s1 e s' z
end Vf
set_option maxRecDepth 100000
set_option maxHeartbeats 4000000
/-! Ob: any object that is handed: data with dicts in it, of which only is known that they are dicts. Own work. -/
namespace Vf
open PySem PySem.Spec PyProof.Rows L2 LamX
mutual
inductive Ob (K : PySem.W.Frag) (A : Addr → Prop) (H : Hp) : V → PyData → Prop
  | non : Ob K A H .non .none
  | bl (b : Bool) : Ob K A H (.bl b) (.bool b)
  | int (i : Int) : Ob K A H (.int i) (.int i)
  | str (x : Str) : x.length ≤ sizeLine → Ob K A H (.str x) (.str x)
  | lst {a : Addr} {xs : List V} {ds : List PyData} : A a → SqL K H a xs → ObAll K A H xs ds → xs.length < 1000000 → Ob K A H (.ref a) (.list ds)
  | tup {a : Addr} {xs : List V} {ds : List PyData} : SqT K H a xs → ObAll K A H xs ds → Ob K A H (.ref a) (.tuple ds)
  | dct {a : Addr} {kvs : List (Key × V)} : A a → H a = some (.dK kvs) → Ob K A H (.ref a) (.dict [])
inductive ObAll (K : PySem.W.Frag) (A : Addr → Prop) (H : Hp) : List V → List PyData → Prop
  | nil : ObAll K A H [] []
  | cons {v : V} {vs : List V} {d : PyData} {ds : List PyData} : Ob K A H v d → ObAll K A H vs ds → ObAll K A H (v :: vs) (d :: ds)
end
section
variable {K : PySem.W.Frag} {A A' : Addr → Prop} {H H' : Hp}
theorem ObAll.length : ∀ {vs : List V} {ds : List PyData}, ObAll K A H vs ds → vs.length = ds.length
  | _, _, .nil => rfl
  | _, _, .cons _ r => congrArg (· + 1) (ObAll.length r)
theorem ObAll.getV : ∀ {vs : List V} {ds : List PyData} {i : Nat} {v : V}, ObAll K A H vs ds → vs[i]? = some v → ∃ d, ds[i]? = some d ∧ Ob K A H v d
  | _, _, i, _, .nil, e => by simp at e
  | _, _, 0, _, .cons a _, e => by simp at e; subst e; exact ⟨_, rfl, a⟩
  | _, _, i + 1, d, .cons _ r, e => by
    obtain ⟨v, h1, h2⟩ := ObAll.getV (i := i) r (by simpa using e)
    exact ⟨v, by simpa using h1, h2⟩
mutual
theorem Ob.mono (hA : ∀ a, A a → A' a) (hL : ∀ a xs, A a → SqL K H a xs → SqL K H' a xs) (hT : ∀ a xs, SqT K H a xs → SqT K H' a xs) (hD : ∀ a (kvs : List (Key × V)), A a → H a = some (.dK kvs) → H' a = some (.dK kvs)) : ∀ (d : PyData) (v : V), Ob K A H v d → Ob K A' H' v d
  | .none, _, h => by cases h; exact .non
  | .bool b, _, h => by cases h; exact .bl b
  | .int i, _, h => by cases h; exact .int i
  | .str x, _, h => by cases h with | str _ l => exact .str x l
  | .list ds, _, h => by cases h with | lst a s r l => exact .lst (hA _ a) (hL _ _ a s) (ObAll.mono hA hL hT hD ds _ r) l
  | .tuple ds, _, h => by cases h with | tup s r => exact .tup (hT _ _ s) (ObAll.mono hA hL hT hD ds _ r)
  | .dict _, _, h => by cases h with | dct a e => exact .dct (hA _ a) (hD _ _ a e)
theorem ObAll.mono (hA : ∀ a, A a → A' a) (hL : ∀ a xs, A a → SqL K H a xs → SqL K H' a xs) (hT : ∀ a xs, SqT K H a xs → SqT K H' a xs) (hD : ∀ a (kvs : List (Key × V)), A a → H a = some (.dK kvs) → H' a = some (.dK kvs)) : ∀ (ds : List PyData) (vs : List V), ObAll K A H vs ds → ObAll K A' H' vs ds
  | [], _, h => by cases h; exact .nil
  | d :: ds, _, h => by cases h with | cons a b => exact .cons (Ob.mono hA hL hT hD d _ a) (ObAll.mono hA hL hT hD ds _ b)
end
mutual
/-- texts of a size that len asks -/
def txOk : PyData → Prop
  | .str x => x.length ≤ sizeLine
  | .list ds => ds.length < 1000000 ∧ txOks ds
  | .tuple ds => txOks ds
  | .none | .bool _ | .int _ | .dict _ => True
def txOks : List PyData → Prop
  | [] => True
  | d :: ds => txOk d ∧ txOks ds
end
mutual
theorem Da.ob : ∀ (d : PyData) (v : V), Da K A H v d → txOk d → Ob K A H v d
  | .none, _, h, _ => by cases h; exact .non
  | .bool b, _, h, _ => by cases h; exact .bl b
  | .int i, _, h, _ => by cases h; exact .int i
  | .str x, _, h, t => by cases h; exact .str x t
  | .list ds, _, h, t => by cases h with | lst a s r => exact .lst a s (DaAll.ob ds _ r t.2) (by rw [r.length]; exact t.1)
  | .tuple ds, _, h, t => by cases h with | tup s r => exact .tup s (DaAll.ob ds _ r t)
  | .dict _, _, h, _ => by cases h
theorem DaAll.ob : ∀ (ds : List PyData) (vs : List V), DaAll K A H vs ds → txOks ds → ObAll K A H vs ds
  | [], _, h, _ => by cases h; exact .nil
  | d :: ds, _, h, t => by cases h with | cons a b => exact .cons (Da.ob d _ a t.1) (DaAll.ob ds _ b t.2)
end
/-- the type of data -/
def tyD : PyData → String
  | .none => "NoneType"
  | .bool _ => "bool"
  | .int _ => "int"
  | .str _ => "str"
  | .list _ => "list"
  | .tuple _ => "tuple"
  | .dict _ => "dict"
theorem tyx_lst {a : Addr} {xs : List V} (h : SqL K H a xs) : TyX K H (.ref a) (.type "list") := by
  rcases h with (h | ⟨o, h⟩) | ⟨o, its, n, e, c, _⟩
  · exact .base (.lst h)
  · exact .base (.frz h)
  · exact .kList e c
theorem tyx_tup {a : Addr} {xs : List V} (h : SqT K H a xs) : TyX K H (.ref a) (.type "tuple") := by
  rcases h with (h | ⟨o, h⟩) | ⟨o, its, n, e, c, _⟩
  · exact .base (.tup h)
  · exact .fTuple h
  · exact .kTuple e c
theorem Ob.ty {v : V} {d : PyData} (h : Ob K A H v d) : TyX K H v (.type (tyD d)) := by
  cases h with
  | non => exact .base .non
  | bl b => exact .base (.bl b)
  | int i => exact .base (.int i)
  | str x _ => exact .base (.str x)
  | lst _ s _ _ => exact tyx_lst s
  | tup s _ => exact tyx_tup s
  | dct _ e => exact .base (.dK e)
end
/-! ### what is a term -/
/-- the text z -/
def isS (z : Str) : PyData → Bool
  | .str y => y == z
  | _ => false
def isWh : PyData → Bool
  | .int _ => true
  | _ => false
def nmB (z : Str) : Bool := decide (1 ≤ z.length) && decide (z.length ≤ 8) && z.cps.toList.all fun c => decide (97 ≤ c) && decide (c ≤ 122)
theorem nmB_iff {z : Str} : nmB z = true ↔ IsName z := by
  unfold nmB IsName
  rw [Bool.and_eq_true, Bool.and_eq_true, decide_eq_true_eq, decide_eq_true_eq, List.all_eq_true, and_assoc]
  simp only [Bool.and_eq_true, decide_eq_true_eq]
def isNm : PyData → Bool
  | .str z => nmB z
  | _ => false
def rkOk : PyData → PyData → Bool
  | .int r, .list ds => decide (1 ≤ r) && decide (r ≤ ds.length)
  | _, _ => false
mutual
def isTm : PyData → Bool
  | .tuple ds => isTm3 ds
  | _ => false
def isTm3 : List PyData → Bool
  | [d, x] => (isS "first" d || isS "last" d) && isTl x
  | [d, x, y] => ((isS "of" d || isS "now" d) && isNm x && isWh y) || (isS "rank" d && isTl y && rkOk x y)
  | _ => false
def isTl : PyData → Bool
  | .list ds => !ds.isEmpty && isTms ds
  | _ => false
def isTms : List PyData → Bool
  | [] => true
  | d :: ds => isTm d && isTms ds
end
/-! isinstance of any object -/
def isIn (T : String) (d : PyData) : Bool := decide (tyD d = T) || (T == "int" && decide (tyD d = "bool"))
theorem kit_all (T : String) (hT : T ∈ ["int", "bool", "str", "tuple", "list", "dict"]) : ∀ d : PyData, kitB (tyD d) T = some (isIn T d) := by
  have all : ∀ t ∈ ["NoneType", "bool", "int", "str", "list", "tuple", "dict"], ∀ T ∈ ["int", "bool", "str", "tuple", "list", "dict"], kitB t T = some (decide (t = T) || (T == "int" && decide (t = "bool"))) := by decide +kernel
  intro d
  exact all (tyD d) (by cases d <;> simp [tyD]) T hT
theorem isWh_eq (d : PyData) : isWh d = (isIn "int" d && !isIn "bool" d) := by cases d <;> simp [isWh, isIn, tyD]
end Vf
set_option maxRecDepth 100000
set_option maxHeartbeats 4000000
/-! Ex: names of types, constants of modules, chains, comprehensions over texts. Own work. -/
namespace Vf
open PySem PySem.Spec PyProof.Rows L2 LamX
section
variable {m : Md} {N : List Str} {sc scope : Scope} {i j k : Nat} {X : Cx} {a b c e o elt iter : Expr} {es : List Expr} {σ : L2.St} {H : Hp} {Q : VK} {QB : Bool → Hp → Prop} {pos p p1 p2 : Pos} {x y : Str}
/-- a built-in type as a value -/
theorem w_tyn {T : String} (h : At m N sc k X) (hm : m.mg x = none) (hg : sc.names.lookup x = some .globalImplicit) (hv : bootBuiltins x = some (.type T)) (q : Q (.ty T) H) (hn : x ≠ "__name__" := by with_unfolding_all decide) (hd : (x == ("__debug__" : Str)) = false := by with_unfolding_all decide) : wE X (.Name x pos) σ H Q :=
  toE (pe_bltn (v := .ty T) (h.gl hg) (by rw [h.mm]; exact hm) hv rfl hn hd) q
/-- a name of the module -/
theorem w_glb {v : V} {u : Value} (h : At m N sc k X) (hm : m.mg x = some u) (r : L2.RelV v u) (hg : sc.names.lookup x = some .globalImplicit) (q : Q v H) (hd : (x == ("__debug__" : Str)) = false := by with_unfolding_all decide) : wE X (.Name x pos) σ H Q :=
  toE (pe_glob (h.gl hg) (by rw [h.mm]; exact hm) r hd) q
theorem w_chain {op op' : CmpOp} (q : wE X a σ H fun x H1 => wE X b σ H1 fun y H2 => gOp X (compareOp op) x y H2 fun z H3 => ∃ k, z = .bl k ∧ (if k = true then wE X c σ H3 fun w H4 => gOp X (compareOp op') y w H4 Q else Q (.bl false) H3))
    (hm : lastMarks [op, op'] [b, c] = false := by with_unfolding_all rfl) : wE X (.Compare a [op, op'] [b, c] pos) σ H Q := toE (pe_chain gOp_ok gOp_ok cE cE cE hm) q
theorem t_chain {op op' : CmpOp} (q : wE X a σ H fun x H1 => wE X b σ H1 fun y H2 => gOp X (compareOp op) x y H2 fun z H3 => ∃ k, z = .bl k ∧ (if k = true then wE X c σ H3 fun w H4 => gOp X (compareOp op') y w H4 fun r H5 => ∃ k', r = .bl k' ∧ QB k' H5 else QB false H3))
    (hm : lastMarks [op, op'] [b, c] = false := by with_unfolding_all rfl) : wT X (.Compare a [op, op'] [b, c] pos) σ H QB := by
  refine toT (pt_chain gOp_ok gOp_ok cE cE cE hm) ?_
  refine wE.mono q fun x H1 q1 => wE.mono q1 fun y H2 q2 => ?_
  refine fun pins s σ v u I rx ry => wpAny_mono (q2 pins s σ v u I rx ry) (fun w s' z => ?_) fun _ _ z => z
  obtain ⟨z', H', I', rz, k, ez, q3⟩ := z
  refine ⟨z', H', I', rz, k, ez, ?_⟩
  cases k with
  | true => exact q3
  | false => exact ⟨false, rfl, q3⟩
theorem g_leT {i j : Str} (q : Q (.bl (!decide (j.cps.toList < i.cps.toList))) H) : gOp X (compareOp .LtE) (.str i) (.str j) H Q := gOp.of op_le_str ⟨_, _, rfl, rfl, q⟩
/-- [elt for x in z], z a text -/
theorem w_lcS (h : At m N sc k X) (ok : blkC N sc scope [(x, i)] = true) (n : NL N (relS scope sc) i x)
    (q : wE X iter σ H fun v H1 => ∃ z : Str, v = .str z ∧ ∀ D, H1 D = none → ∃ Pv : Nat → Hp → Prop, Pv 0 (upd H1 D (.lst [])) ∧
      (∀ j c H, z.cps[j]? = some c → Pv j H → ∀ X', At m N (relS scope sc) k X' → wE X' elt (σ.set i (some (.str ⟨#[c]⟩))) H (App D (Pv (j + 1)))) ∧ ∀ H, Pv z.cps.size H → Q (.ref D) H)
    (hs : ∀ x, foldedSetIterable iter X.env x = pure x := by with_unfolding_all (intro _; rfl)) : wE X (.ListComp elt [⟨.Name x p1, iter, [], 0⟩] scope pos) σ H Q := by
  refine toE (pe_lc (own := [(x, i)]) (g := gName i) (tt := tYes) (te := inBlk m N (relS scope sc) k elt) h.calm (by rw [h.nn]; exact h.nd) (pi_str cE) (by rw [h.nn, h.ss]; exact blkOk_by ok) (fun s H C cl fp => pg_nl (blk_at h s H C cl fp) n) (fun _ _ _ _ _ => pts_nil) (fun s H C cl fp => blk_pe h s H C cl fp) hs) ?_
  refine wE.mono q fun v H1 ⟨z, ev, go⟩ => ⟨z, ev, fun D hD => ?_⟩
  obtain ⟨Pv, p0, turn, fin⟩ := go D hD
  refine lc_it walk_str (g := gName i) (tt := tYes) (te := inBlk m N (relS scope sc) k elt) (vs := [i]) (σ := σ) Pv p0 (fun _ _ _ _ => trivial) (fun j y H H' hj hp hy => ?_) fin
  obtain ⟨rfl, c, hc, rfl⟩ := hy
  refine ⟨by rw [wipe1]; simp [wipe, List.set_set], ?_⟩
  unfold tYes
  refine iteT fun X' hX' => ?_
  rw [set_wipe]
  exact turn j c _ hc hp X' hX'
end
end Vf
set_option maxRecDepth 100000
set_option maxHeartbeats 4000000
/-! InOb: is an object one of two texts; is it a text. Own work. -/
namespace Vf
open PySem PySem.Spec PyProof.Rows L2 LamX
theorem str_dec (z : Str) (tk : Tok) (l : Addr) (c : Value) (es : Array DictEntry) (ep : Nat) (dd : Option Addr) (sl : Array (Option Value)) :
    Meets (Builtin.«str.__eq__» ⟨[.str z tk, .ref l], []⟩) (fun _ R s => s.heap.get? l = some { cls := c, dict := dd, data := .dict es ep, slots := sl } ∧ R (.ok (.ret .notImplemented)) s) :=
  .of_wp fun prog w A R s q => by
    obtain ⟨hp, g, d, t, os⟩ := s
    obtain ⟨at1, q⟩ := q
    wp_walk using wpAny_loadPart' at1, wpAny_load at1
    exact ⟨_, rfl, q⟩
theorem dict_dec (l : Addr) (es : Array DictEntry) (ep : Nat) (dd : Option Addr) (sl : Array (Option Value)) (z : Str) (tk : Tok) :
    Meets (Builtin.«dict.__eq__» ⟨[.ref l, .str z tk], []⟩) (fun _ R s => s.heap.get? l = some { cls := .type "dict", dict := dd, data := .dict es ep, slots := sl } ∧ R (.ok (.ret .notImplemented)) s) :=
  .of_wp fun prog w A R s q => by
    obtain ⟨hp, g, d, t, os⟩ := s
    obtain ⟨at1, q⟩ := q
    have f1 := F.sub_str_dict
    wp_walk using wpAny_loadPart' at1, wpAny_load at1
    exact ⟨_, rfl, q⟩
section
variable {A : Around} {s : Shared} {l : Addr} {es : Array DictEntry} {ep : Nat} {dd : Option Addr} {sl : Array (Option Value)}
theorem rc_str_dict (z : Str) (tk : Tok) (ho : s.heap.get? l = some { cls := .type "dict", dict := dd, data := .dict es ep, slots := sl }) (hu : A.units < cLine) : SeqAt.RcAt A s (.str z tk) (.ref l) false := fun prog w E Q q =>
  SeqAt.rc_eq_decline_or (k := false) (typeIs_str s z tk) ⟨_, ho, rfl⟩ (by decide) F.sub_dict_str F.slot_str_eq F.slot_dict_eq_refl
    (fun _ hq => call_meets F.slot_str_eq (typeIs_str s z tk) F.entry_str_eq (F.args_str_eq_2 _ _) (str_dec z tk l (.type "dict") es ep dd sl) ⟨ho, hq⟩)
    (fun _ hq => call_meets F.slot_dict_eq_refl ⟨_, ho, rfl⟩ F.entry_dict_eq (F.args_dict_eq_2 _ _) (dict_dec l es ep dd sl z tk) ⟨ho, hq⟩)
    (fun _ hq => wpAny_of_eq (rfl : isSame (.str z tk) (.ref l) = pure false) hq) (.inr hu) q
theorem rc_dict_str (z : Str) (tk : Tok) (ho : s.heap.get? l = some { cls := .type "dict", dict := dd, data := .dict es ep, slots := sl }) (hu : A.units < cLine) : SeqAt.RcAt A s (.ref l) (.str z tk) false := fun prog w E Q q =>
  SeqAt.rc_eq_decline_or (k := false) ⟨_, ho, rfl⟩ (typeIs_str s z tk) (by decide) F.sub_str_dict F.slot_dict_eq F.slot_str_eq_refl
    (fun _ hq => call_meets F.slot_dict_eq ⟨_, ho, rfl⟩ F.entry_dict_eq (F.args_dict_eq_2 _ _) (dict_dec l es ep dd sl z tk) ⟨ho, hq⟩)
    (fun _ hq => call_meets F.slot_str_eq_refl (typeIs_str s z tk) F.entry_str_eq (F.args_str_eq_2 _ _) (str_dec z tk l (.type "dict") es ep dd sl) ⟨ho, hq⟩)
    (fun _ hq => wpAny_of_eq (rfl : isSame (.ref l) (.str z tk) = pure false) hq) (.inr hu) q
theorem eqAt_str_dict (z : Str) (tk : Tok) (ho : s.heap.get? l = some { cls := .type "dict", dict := dd, data := .dict es ep, slots := sl }) (hu : A.units < cLine) : SeqAt.EqAt A s (.str z tk) (.ref l) false := fun prog w E Q q => by
  unfold eqBool
  refine wpAny_holding ?_
  refine wpAny_ite_split (fun e => absurd (eq_of_beq e) nofun) (fun _ => ?_)
  exact wpAny_bind (rc_str_dict z tk ho hu prog w E _ (wpAny_truthy_bool q))
end
section
variable {X : Cx} {pins : List (Addr × Obj)} {σ : L2.St} {H : Hp} {s : Shared} {A : Addr → Prop} {v : V} {d : PyData} {u : Value}
theorem dct_at {a : Addr} {kvs : List (Key × V)} (I : Inv X pins σ H s) (e : H a = some (.dK kvs)) : ∃ dd es ep sl, s.heap.get? a = some ({ cls := .type "dict", dict := dd, data := .dict es ep, slots := sl } : Obj) := by
  obtain ⟨_, _, vs, _, ob, es, ep, h1, h2, h3, _⟩ := (show ObjOk X.prog X.w H s.heap a (.dK kvs) from I.hok a _ e)
  obtain ⟨c, dd, dat, sl⟩ := ob
  have hc : c = .type "dict" := h2.1
  have hd : dat = .dict es ep := h3
  subst hc hd
  exact ⟨dd, es, ep, sl, h1⟩
theorem ob_rc (I : Inv X pins σ H s) (o : Ob X.K A H v d) (r : L2.RelV v u) (hu : X.A.units < cLine) (z : Str) (tk : Tok) : SeqAt.RcAt X.A s u (.str z tk) (isS z d) := by
  cases o with
  | non => cases r; exact SeqAt.RcAt.none_str z tk
  | bl b => cases r; exact SeqAt.RcAt.bool_str b z tk
  | int i => obtain ⟨t, rfl⟩ := r; exact SeqAt.RcAt.int_str i t z tk
  | str y _ => obtain ⟨t, rfl⟩ := r; exact SeqAt.RcAt.str_str y t z tk
  | lst _ hs _ _ => cases r; obtain ⟨its, _, pl, _⟩ := I.list hs; exact SeqAt.RcAt.list_str z tk pl.isList hu
  | tup hs _ => cases r; obtain ⟨its, _, pl, _⟩ := I.tuple hs; exact SeqAt.RcAt.tuple_str z tk pl hu
  | dct _ e =>
    cases r
    obtain ⟨dd, es, ep, sl, h1⟩ := dct_at I e
    exact rc_dict_str z tk h1 hu
theorem ob_eq {A0 : Around} (I : Inv X pins σ H s) (o : Ob X.K A H v d) (r : L2.RelV v u) (hu : A0.units < cLine) (z : Str) (tk : Tok) : SeqAt.EqAt A0 s (.str z tk) u (isS z d) := by
  cases o with
  | non => cases r; exact SeqAt.EqAt.str_none z tk
  | bl b => cases r; exact SeqAt.EqAt.str_bool z tk b
  | int i => obtain ⟨t, rfl⟩ := r; exact SeqAt.EqAt.str_int z tk i t
  | str y _ =>
    obtain ⟨t, rfl⟩ := r
    have e : isS z (.str y) = (z == y) := by
      show (y == z) = (z == y)
      rw [Bool.eq_iff_iff, beq_iff_eq, beq_iff_eq]; exact eq_comm
    rw [e]
    exact SeqAt.EqAt.str_str z tk y t
  | lst _ hs _ _ => cases r; obtain ⟨its, _, pl, _⟩ := I.list hs; exact SeqAt.EqAt.str_list z tk pl.isList hu
  | tup hs _ => cases r; obtain ⟨its, _, pl, _⟩ := I.tuple hs; exact SeqAt.EqAt.str_tuple z tk pl hu
  | dct _ e =>
    cases r
    obtain ⟨dd, es, ep, sl, h1⟩ := dct_at I e
    exact eqAt_str_dict z tk h1 hu
end
section
variable {m : Md} {N : List Str} {sc : Scope} {k : Nat} {X : Cx} {H : Hp} {Q : VK} {A : Addr → Prop} {v : V} {d : PyData}
/-- x == z, z a text -/
theorem g_eqOb (h : At m N sc k X) {z : Str} (o : Ob m.K A H v d) (q : Q (.bl (isS z d)) H) : gOp X (compareOp .Eq) v (.str z) H Q := fun pins s σ u w I r rz => by
  obtain ⟨tk, rfl⟩ := rz
  have hu := h.hu
  exact ob_rc I (by rw [h.kk]; exact o) r (by omega) z tk X.prog X.w X.xe _ ⟨.bl (isS z d), H, I, rfl, q⟩
/-- x in (z1, z2), two texts -/
theorem g_inOb (h : At m N sc k X) {a : Addr} {z1 z2 : Str} (o : Ob m.K A H v d) (ht : H a = some (.tup [.str z1, .str z2])) (q : Q (.bl (isS z1 d || isS z2 d)) H) : gOp X (compareOp .In) v (.ref a) H Q := fun pins s σ u w I r rz => by
  cases rz
  have hu := h.hu
  obtain ⟨its, rv, pl, hz⟩ := I.tuple (SqT.of ht)
  cases rv with | cons r1 rv => cases rv with | cons r2 rv =>
  cases rv
  obtain ⟨t1, rfl⟩ := r1
  obtain ⟨t2, rfl⟩ := r2
  have o' : Ob X.K A H v d := by rw [h.kk]; exact o
  refine SeqAt.in_tupleAt (fun y => match y with | .str z _ => isS z d | _ => false) pl (fun y hy => ?_) ⟨.bl (isS z1 d || isS z2 d), H, I, by simp [L2.RelV], q⟩
  have hy2 : y = .str z1 t1 ∨ y = .str z2 t2 := by simpa using hy
  rcases hy2 with e | e
  · subst e; exact ob_eq I o' r (by show X.A.units + 1 < cLine; omega) z1 t1
  · subst e; exact ob_eq I o' r (by show X.A.units + 1 < cLine; omega) z2 t2
end
end Vf
set_option maxRecDepth 100000
set_option maxHeartbeats 4000000
/-! Tp: slices and sums of tuples. Own work. -/
namespace Vf
open PySem PySem.Spec PyProof.Rows L2 LamX
section
variable {m : Md} {N : List Str} {sc : Scope} {k : Nat} {X : Cx} {a b c e o : Expr} {σ : L2.St} {H : Hp} {Q : VK} {pos p2 : Pos}
/-- e[:hi] of a tuple, not the whole of it -/
theorem w_sliceToT {hi : Expr} (h : At m N sc k X) (q : wE X e σ H fun x H1 => wE X hi σ H1 fun u H3 => ∃ j : Int, u = .int j ∧ ∃ (a : Addr) (xs : List V), x = .ref a ∧ SqT m.K H3 a xs ∧ HT.sIx xs.length xs.length (some j) ≠ xs.length ∧ ∀ p, H3 p = none → Q (.ref p) (upd H3 p (.tup (cutV xs none (some j))))) :
    wE X (.Subscript e (.Slice none (some hi) none p2) pos) σ H Q := by
  refine toE (pe_slice sl_tup cE po_none (po_some cE)) ?_
  refine wE.mono q fun x H1 q1 => ?_
  show wE X hi σ H1 _
  exact wE.mono q1 fun u H3 ⟨j, ej, a, xs, ea, hs, hn, q3⟩ => ⟨j, ej, a, xs, ea, by rw [h.kk]; exact hs, fun z => hn z.2, q3⟩
theorem g_catT (h : At m N sc k X) {l r : Addr} {xs ys : List V} (h1 : SqT m.K H l xs) (h2 : SqT m.K H r ys) (n1 : xs ≠ []) (n2 : ys ≠ []) (hz : xs.length + ys.length ≤ sizeLine) (q : ∀ p, H p = none → Q (.ref p) (upd H p (.tup (xs ++ ys)))) : gOp X (binaryOp .Add) (.ref l) (.ref r) H Q :=
  gOp.of op_catT ⟨l, r, xs, ys, rfl, rfl, by rw [h.kk]; exact h1, by rw [h.kk]; exact h2, n1, hz, fun e => absurd e n2, fun _ => q⟩
end
theorem six_val (hd : List V) (x : V) : HT.sIx (hd ++ [x]).length (hd ++ [x]).length (some (-1)) = hd.length := by
  have e : (hd ++ [x]).length = hd.length + 1 := by simp
  rw [e]
  unfold HT.sIx
  dsimp only
  rw [if_pos (by decide)]
  omega
theorem cut_last (hd : List V) (x : V) : cutV (hd ++ [x]) none (some (-1)) = hd := by
  unfold cutV
  rw [HT.sIx_none, List.drop_zero, Nat.sub_zero, six_val, List.take_left']
  rfl
theorem six_last (hd : List V) (x : V) : HT.sIx (hd ++ [x]).length (hd ++ [x]).length (some (-1)) ≠ (hd ++ [x]).length := by
  rw [six_val]
  simp
theorem at_last (hd : List V) (x : V) : atI (hd ++ [x]) (-1) = some x := by
  unfold atI ixN
  rw [if_neg (by decide), List.length_append, List.length_singleton, if_pos (by omega)]
  show (hd ++ [x])[((-1 : Int) + ((hd.length + 1 : Nat) : Int)).toNat]? = some x
  rw [show ((-1 : Int) + ((hd.length + 1 : Nat) : Int)).toNat = hd.length from by omega]
  simp
end Vf
set_option maxRecDepth 100000
set_option maxHeartbeats 4000000
/-! Dn: data with the places of its lists, told one by one. Own work. -/
namespace Vf
open PySem PySem.Spec PyProof.Rows L2 LamX
mutual
/-- v is the data d; L: where its lists lie, from the left -/
inductive Dn (K : PySem.W.Frag) (H : Hp) : V → PyData → List Addr → Prop
  | non : Dn K H .non .none []
  | bl (b : Bool) : Dn K H (.bl b) (.bool b) []
  | int (i : Int) : Dn K H (.int i) (.int i) []
  | str (x : Str) : Dn K H (.str x) (.str x) []
  | lst {a : Addr} {xs : List V} {ds : List PyData} {L : List Addr} : H a = some (.lst xs) → DnAll K H xs ds L → Dn K H (.ref a) (.list ds) (a :: L)
  | tup {a : Addr} {xs : List V} {ds : List PyData} {L : List Addr} : SqT K H a xs → DnAll K H xs ds L → Dn K H (.ref a) (.tuple ds) L
inductive DnAll (K : PySem.W.Frag) (H : Hp) : List V → List PyData → List Addr → Prop
  | nil : DnAll K H [] [] []
  | cons {v : V} {vs : List V} {d : PyData} {ds : List PyData} {L M : List Addr} : Dn K H v d L → DnAll K H vs ds M → DnAll K H (v :: vs) (d :: ds) (L ++ M)
end
section
variable {K : PySem.W.Frag} {H H' : Hp} {A : Addr → Prop}
mutual
theorem Dn.da : ∀ {v : V} {d : PyData} {L : List Addr}, Dn K H v d L → (∀ a ∈ L, A a) → Da K A H v d
  | _, _, _, .non, _ => .non
  | _, _, _, .bl b, _ => .bl b
  | _, _, _, .int i, _ => .int i
  | _, _, _, .str x, _ => .str x
  | _, _, _, .lst h r, z => .lst (z _ (by simp)) (SqL.of h) (DnAll.da r fun a ha => z a (by simp [ha]))
  | _, _, _, .tup h r, z => .tup h (DnAll.da r z)
theorem DnAll.da : ∀ {v : List V} {d : List PyData} {L : List Addr}, DnAll K H v d L → (∀ a ∈ L, A a) → DaAll K A H v d
  | _, _, _, .nil, _ => .nil
  | _, _, _, .cons a r, z => .cons (Dn.da a fun b hb => z b (by simp [hb])) (DnAll.da r fun b hb => z b (by simp [hb]))
end
mutual
theorem Dn.mono (hL : ∀ a xs, H a = some (.lst xs) → A a → H' a = some (.lst xs)) (hT : ∀ a xs, SqT K H a xs → SqT K H' a xs) : ∀ {v : V} {d : PyData} {L : List Addr}, Dn K H v d L → (∀ a ∈ L, A a) → Dn K H' v d L
  | _, _, _, .non, _ => .non
  | _, _, _, .bl b, _ => .bl b
  | _, _, _, .int i, _ => .int i
  | _, _, _, .str x, _ => .str x
  | _, _, _, .lst h r, z => .lst (hL _ _ h (z _ (by simp))) (DnAll.mono hL hT r fun a ha => z a (by simp [ha]))
  | _, _, _, .tup h r, z => .tup (hT _ _ h) (DnAll.mono hL hT r z)
theorem DnAll.mono (hL : ∀ a xs, H a = some (.lst xs) → A a → H' a = some (.lst xs)) (hT : ∀ a xs, SqT K H a xs → SqT K H' a xs) : ∀ {v : List V} {d : List PyData} {L : List Addr}, DnAll K H v d L → (∀ a ∈ L, A a) → DnAll K H' v d L
  | _, _, _, .nil, _ => .nil
  | _, _, _, .cons a r, z => .cons (Dn.mono hL hT a fun b hb => z b (by simp [hb])) (DnAll.mono hL hT r fun b hb => z b (by simp [hb]))
end
mutual
theorem Dn.some : ∀ {v : V} {d : PyData} {L : List Addr}, Dn K H v d L → ∀ a ∈ L, ∃ xs, H a = some (.lst xs)
  | _, _, _, .non, _, h => by simp at h
  | _, _, _, .bl _, _, h => by simp at h
  | _, _, _, .int _, _, h => by simp at h
  | _, _, _, .str _, _, h => by simp at h
  | _, _, _, .lst h r, a, ha => by
    rcases List.mem_cons.1 ha with e | e
    · exact ⟨_, e ▸ h⟩
    · exact DnAll.some r a e
  | _, _, _, .tup _ r, a, ha => DnAll.some r a ha
theorem DnAll.some : ∀ {v : List V} {d : List PyData} {L : List Addr}, DnAll K H v d L → ∀ a ∈ L, ∃ xs, H a = some (.lst xs)
  | _, _, _, .nil, _, h => by simp at h
  | _, _, _, .cons a r, b, hb => by
    rcases List.mem_append.1 hb with e | e
    · exact Dn.some a b e
    · exact DnAll.some r b e
end
theorem DnAll.length : ∀ {vs : List V} {ds : List PyData} {L : List Addr}, DnAll K H vs ds L → vs.length = ds.length
  | _, _, _, .nil => rfl
  | _, _, _, .cons _ r => congrArg (· + 1) (DnAll.length r)
theorem DnAll.append : ∀ {vs ws : List V} {ds es : List PyData} {L M : List Addr}, DnAll K H vs ds L → DnAll K H ws es M → DnAll K H (vs ++ ws) (ds ++ es) (L ++ M)
  | _, _, _, _, _, _, .nil, s => s
  | _, _, _, _, _, _, .cons a r, s => by rw [List.append_assoc]; exact .cons a (DnAll.append r s)
theorem GrowX.dn {T : List (Addr × Str)} {S : Addr → Prop} {v : V} {d : PyData} {L : List Addr} (g : GrowX T S H H') (h : Dn K H v d L) (n : ∀ a ∈ L, ¬ S a) : Dn K H' v d L :=
  Dn.mono (A := fun a => ¬ S a) (fun a xs e z => g.ext _ _ z e (fun _ w => by cases w)) (fun a xs e => g.seqT e) h n
theorem GrowX.dnAll {T : List (Addr × Str)} {S : Addr → Prop} {v : List V} {d : List PyData} {L : List Addr} (g : GrowX T S H H') (h : DnAll K H v d L) (n : ∀ a ∈ L, ¬ S a) : DnAll K H' v d L :=
  DnAll.mono (A := fun a => ¬ S a) (fun a xs e z => g.ext _ _ z e (fun _ w => by cases w)) (fun a xs e => g.seqT e) h n
/-- fresh data: all its lists are new and apart -/
def Fr (K : PySem.W.Frag) (H H' : Hp) (v : V) (d : PyData) : Prop := ∃ L, Dn K H' v d L ∧ L.Nodup ∧ ∀ a ∈ L, New H a
theorem Fr.da {v : V} {d : PyData} (h : Fr K H H' v d) : Da K (New H) H' v d := by
  obtain ⟨L, h, _, n⟩ := h
  exact h.da n
theorem Fr.pre {T : List (Addr × Str)} {H0 : Hp} {v : V} {d : PyData} (g : Grow T H0 H) (h : Fr K H H' v d) : Fr K H0 H' v d := by
  obtain ⟨L, h, nd, n⟩ := h
  exact ⟨L, h, nd, fun a ha => g.keep _ (n a ha)⟩
theorem Fr.post {T : List (Addr × Str)} {H2 : Hp} {v : V} {d : PyData} (h : Fr K H H' v d) (g : Grow T H' H2) : Fr K H H2 v d := by
  obtain ⟨L, h, nd, n⟩ := h
  exact ⟨L, GrowX.dn g h fun _ _ z => z, nd, n⟩
end
end Vf
set_option maxRecDepth 100000
set_option maxHeartbeats 4000000
/-! Lit: displays of constants, tuples, lists and known names, at once. Own work. -/
namespace Vf
open PySem PySem.Spec PyProof.Rows L2 LamX
mutual
/-- the data that a display is; env: what names hold -/
def lit (env : List (Str × PyData)) : Expr → Option PyData
  | .Constant (.int i) _ _ => some (.int i)
  | .Constant (.bool b) _ _ => some (.bool b)
  | .Constant (.str z) _ _ => if z.length ≤ 1000 then some (.str z) else none
  | .Constant .none _ _ => some .none
  | .Tuple es _ _ => (lits env es).bind fun ds => if ds.length ≤ 1000 then some (.tuple ds) else none
  | .UnaryOp .USub (.Constant (.int i) _ _) _ => some (.int (-i))
  | .List es _ => (lits env es).bind fun ds => if ds.length ≤ 1000 then some (.list ds) else none
  | .Dict [] [] _ => some (.dict [])
  | .Dict [some (.Constant (.str _) _ _)] [e] _ => (lit env e).map fun _ => .dict []
  | .Name x _ => env.lookup x
  | _ => none
def lits (env : List (Str × PyData)) : List Expr → Option (List PyData)
  | [] => some []
  | e :: es => (lit env e).bind fun d => (lits env es).map fun ds => d :: ds
end
section
variable {m : Md} {X : Cx} {σ : L2.St} {env : List (Str × PyData)} {H0 : Hp}
/-- the names of env hold their data, wherever the heap has grown -/
def EnvOk (m : Md) (X : Cx) (σ : L2.St) (env : List (Str × PyData)) (A : Addr → Prop) (H0 : Hp) : Prop := ∀ x d pos, env.lookup x = some d → ∃ v, Ob m.K A H0 v d ∧ ∀ H Q, Q v H → wE X (.Name x pos) σ H Q
theorem starPlain {e : Expr} {es : List Expr} {d : PyData} (h : lit env e = some d) : starEach (e :: es) X.env = (false, eval e X.env) :: starEach es X.env := by
  cases e <;> first | rfl | (simp [lit] at h)
theorem lit_neg {op : UnaryOp} {e : Expr} {pos : Pos} {d : PyData} (h : lit env (.UnaryOp op e pos) = some d) : ∃ i k ps, op = .USub ∧ e = .Constant (.int i) k ps ∧ d = .int (-i) := by
  unfold lit at h
  split at h <;> first | (cases h; done) | skip
  all_goals first
    | (rename_i hh; cases hh; cases h; exact ⟨_, _, _, rfl, rfl, rfl⟩)
    | (simp at *)
theorem lit_d0 {ks : List (Option Expr)} {pos : Pos} {d : PyData} (h : lit env (.Dict ks [] pos) = some d) : ks = [] ∧ d = .dict [] := by
  unfold lit at h
  split at h <;> first | (cases h; done) | skip
  all_goals first
    | (rename_i hh; cases hh; cases h; exact ⟨rfl, rfl⟩)
    | (simp at *)
theorem lit_d1 {ks : List (Option Expr)} {e : Expr} {pos : Pos} {d : PyData} (h : lit env (.Dict ks [e] pos) = some d) : (∃ z k ps, ks = [some (.Constant (.str z) k ps)]) ∧ (∃ d', lit env e = some d') ∧ d = .dict [] := by
  unfold lit at h
  split at h <;> first | (cases h; done) | skip
  all_goals first
    | (rename_i hh; cases hh; obtain ⟨d', h1, h2⟩ := Option.map_eq_some_iff.1 h; cases h2; exact ⟨⟨_, _, _, rfl⟩, ⟨d', h1⟩, rfl⟩)
    | (simp at *)
theorem lit_d2 {ks : List (Option Expr)} {e e2 : Expr} {es : List Expr} {pos : Pos} {d : PyData} (h : lit env (.Dict ks (e :: e2 :: es) pos) = some d) : False := by
  unfold lit at h
  split at h <;> first | (cases h; done) | skip
  all_goals first
    | (rename_i hh; cases hh; done)
    | (simp at *)
theorem grow_ob {T : List (Addr × Str)} {K : PySem.W.Frag} {A : Addr → Prop} {H H1 : Hp} {v : V} {d : PyData} (g : Grow T H H1) (h : Ob K A H v d) : Ob K A H1 v d :=
  Ob.mono (fun _ z => z) (fun a xs _ e => GrowX.seqL g e fun z => z) (fun a xs e => GrowX.seqT g e) (fun a kvs _ e => g.extN _ _ e (fun _ z => by cases z)) d v h
theorem grow_obs {T : List (Addr × Str)} {K : PySem.W.Frag} {A : Addr → Prop} {H H1 : Hp} {v : List V} {d : List PyData} (g : Grow T H H1) (h : ObAll K A H v d) : ObAll K A H1 v d :=
  ObAll.mono (fun _ z => z) (fun a xs _ e => GrowX.seqL g e fun z => z) (fun a xs e => GrowX.seqT g e) (fun a kvs _ e => g.extN _ _ e (fun _ z => by cases z)) d v h
theorem obs_sub {K : PySem.W.Frag} {A A' : Addr → Prop} {H : Hp} {v : List V} {d : List PyData} (h : ObAll K A H v d) (s : ∀ a, A a → A' a) : ObAll K A' H v d := ObAll.mono s (fun _ _ _ e => e) (fun _ _ e => e) (fun _ _ _ e => e) d v h
theorem ob_sub {K : PySem.W.Frag} {A A' : Addr → Prop} {H : Hp} {v : V} {d : PyData} (h : Ob K A H v d) (s : ∀ a, A a → A' a) : Ob K A' H v d := Ob.mono s (fun _ _ _ e => e) (fun _ _ e => e) (fun _ _ _ e => e) d v h
/-- new in H, and there in H' -/
abbrev Nw (H H' : Hp) : Addr → Prop := fun a => New H a ∧ H' a ≠ none
theorem nw_up {T : List (Addr × Str)} {A : Addr → Prop} {H H1 H2 : Hp} (g : Grow T H1 H2) : ∀ a, A a ∨ Nw H H1 a → A a ∨ Nw H H2 a := fun a z => z.imp id fun w => ⟨w.1, fun e => w.2 (g.keep _ e)⟩
mutual
theorem w_lit {A : Addr → Prop} (hE : EnvOk m X σ env A H0) : ∀ (e : Expr) (d : PyData) (H : Hp) (Q : VK), lit env e = some d → Grow m.T H0 H → (∀ v H', Grow m.T H H' → Ob m.K (fun a => A a ∨ Nw H H' a) H' v d → Q v H') → wE X e σ H Q
  | .Constant (.int i) _ _, d, H, Q, h, g0, q => by
    rw [lit] at h; cases h
    exact w_int (q _ _ GrowX.refl (.int i))
  | .Constant (.bool i) _ _, d, H, Q, h, g0, q => by
    rw [lit] at h; cases h
    exact w_bl (q _ _ GrowX.refl (.bl i))
  | .Constant .none _ _, d, H, Q, h, g0, q => by
    rw [lit] at h; cases h
    exact w_non (q _ _ GrowX.refl .non)
  | .Constant (.str z) _ _, d, H, Q, h, g0, q => by
    rw [lit] at h
    split at h
    · cases h
      refine w_str (q _ _ GrowX.refl (.str z ?_))
      rw [sizeLine_eq]; omega
    · cases h
  | .Name x _, d, H, Q, h, g0, q => by
    rw [lit] at h
    obtain ⟨v, o, r⟩ := hE x d _ h
    refine r H Q (q v H GrowX.refl ?_)
    exact Ob.mono (fun _ z => .inl z) (fun a xs _ e => GrowX.seqL g0 e fun z => z) (fun a xs e => GrowX.seqT g0 e) (fun a kvs _ e => g0.extN _ _ e (fun _ z => by cases z)) d v o
  | .Tuple es _ _, d, H, Q, h, g0, q => by
    rw [lit] at h
    obtain ⟨ds, h1, h2⟩ := Option.bind_eq_some_iff.1 h
    split at h2
    · rename_i hl
      cases h2
      refine w_tup (w_lits hE es ds H _ h1 g0 fun vs H' g o => ⟨by rw [o.length, sizeLine_eq]; omega, fun p hp => ?_⟩)
      have gn := Grow.new (T := m.T) (o := .tup vs) hp
      exact q _ _ (g.trans gn) (.tup (SqT.of upd_same) (obs_sub (grow_obs gn o) (nw_up gn)))
    · cases h2
  | .List es _, d, H, Q, h, g0, q => by
    rw [lit] at h
    obtain ⟨ds, h1, h2⟩ := Option.bind_eq_some_iff.1 h
    split at h2
    · rename_i hl
      cases h2
      refine w_lst (w_lits hE es ds H _ h1 g0 fun vs H' g o => ⟨by rw [o.length, sizeLine_eq]; omega, fun p hp => ?_⟩)
      have gn := Grow.new (T := m.T) (o := .lst vs) hp
      exact q _ _ (g.trans gn) (.lst (.inr ⟨g.keep _ hp, by rw [upd_same]; exact fun z => by cases z⟩) (SqL.of upd_same) (obs_sub (grow_obs gn o) (nw_up gn)) (by rw [o.length]; omega))
    · cases h2
  | .UnaryOp op e _, d, H, Q, h, g0, q => by
    obtain ⟨i, k, ps, rfl, rfl, rfl⟩ := lit_neg h
    exact w_neg (w_int ⟨i, rfl, q _ _ GrowX.refl (.int (-i))⟩)
  | .Constant (.float _) _ _, d, H, Q, h, g0, q => by simp [lit] at h
  | .Constant (.complex _ _) _ _, d, H, Q, h, g0, q => by simp [lit] at h
  | .Constant (.bytes _) _ _, d, H, Q, h, g0, q => by simp [lit] at h
  | .Constant .ellipsis _ _, d, H, Q, h, g0, q => by simp [lit] at h
  | .BoolOp .., d, H, Q, h, g0, q => by simp [lit] at h
  | .NamedExpr .., d, H, Q, h, g0, q => by simp [lit] at h
  | .BinOp .., d, H, Q, h, g0, q => by simp [lit] at h
  | .Lambda .., d, H, Q, h, g0, q => by simp [lit] at h
  | .IfExp .., d, H, Q, h, g0, q => by simp [lit] at h
  | .Dict ks [] _, d, H, Q, h, g0, q => by
    obtain ⟨rfl, rfl⟩ := lit_d0 h
    refine toE pe_dnewK fun p hp => ?_
    exact q _ _ (Grow.new hp) (.dct (.inr ⟨hp, by rw [upd_same]; exact fun z => by cases z⟩) upd_same)
  | .Dict ks [e] _, d, H, Q, h, g0, q => by
    obtain ⟨⟨z, k, ps, rfl⟩, ⟨d', h1⟩, rfl⟩ := lit_d1 h
    refine toE (pe_disp (pps_cons (cE (e := .Constant (.str z) k ps)) (cE (e := e)) pps_nil) rfl rfl (by simp) (show 1 ≤ 15 by decide)) fun p hp => ?_
    have g1 := Grow.new (T := m.T) (o := .dK []) hp
    refine w_str ?_
    refine w_lit hE e d' _ _ h1 (g0.trans g1) fun v H1 g2 _ => ?_
    have h2 : H1 p = some (.dK []) := g2.extN _ _ upd_same (fun _ w => by cases w)
    refine ⟨h2, [(.inr z, v)], rfl, by simp, ?_⟩
    have gX : GrowX m.T (· = p) H1 (upd H1 p (.dK (mergeK [] [(.inr z, v)]))) := GrowX.set rfl h2 (fun _ z => by cases z) (fun _ z => by unfold CodeO at z; cases z) (fun _ z => by cases z) (fun _ _ z => by cases z)
    exact q _ _ (Grow.intoNew (g1.trans g2) gX fun c w => by rw [w]; exact hp) (.dct (.inr ⟨hp, by rw [upd_same]; exact fun z => by cases z⟩) upd_same)
  | .Dict ks (e :: e2 :: es) _, d, H, Q, h, g0, q => (lit_d2 h).elim
  | .Set .., d, H, Q, h, g0, q => by simp [lit] at h
  | .ListComp .., d, H, Q, h, g0, q => by simp [lit] at h
  | .SetComp .., d, H, Q, h, g0, q => by simp [lit] at h
  | .DictComp .., d, H, Q, h, g0, q => by simp [lit] at h
  | .GeneratorExp .., d, H, Q, h, g0, q => by simp [lit] at h
  | .Await .., d, H, Q, h, g0, q => by simp [lit] at h
  | .Yield .., d, H, Q, h, g0, q => by simp [lit] at h
  | .YieldFrom .., d, H, Q, h, g0, q => by simp [lit] at h
  | .Compare .., d, H, Q, h, g0, q => by simp [lit] at h
  | .Call .., d, H, Q, h, g0, q => by simp [lit] at h
  | .FormattedValue .., d, H, Q, h, g0, q => by simp [lit] at h
  | .JoinedStr .., d, H, Q, h, g0, q => by simp [lit] at h
  | .Attribute .., d, H, Q, h, g0, q => by simp [lit] at h
  | .Subscript .., d, H, Q, h, g0, q => by simp [lit] at h
  | .Starred .., d, H, Q, h, g0, q => by simp [lit] at h
  | .Slice .., d, H, Q, h, g0, q => by simp [lit] at h
theorem w_lits {A : Addr → Prop} (hE : EnvOk m X σ env A H0) : ∀ (es : List Expr) (ds : List PyData) (H : Hp) (Q : List V → Hp → Prop), lits env es = some ds → Grow m.T H0 H → (∀ vs H', Grow m.T H H' → ObAll m.K (fun a => A a ∨ Nw H H' a) H' vs ds → Q vs H') → wA X es σ H Q
  | [], ds, H, Q, h, g0, q => by
    rw [lits] at h; cases h
    exact w_nil (q [] H GrowX.refl .nil)
  | e :: es, ds, H, Q, h, g0, q => by
    rw [lits] at h
    obtain ⟨d, h1, h2⟩ := Option.bind_eq_some_iff.1 h
    obtain ⟨ds', h3, rfl⟩ := Option.map_eq_some_iff.1 h2
    refine w_cons (w_lit hE e d H _ h1 g0 fun v H1 g1 o => ?_) (starPlain h1)
    refine w_lits hE es ds' H1 _ h3 (g0.trans g1) fun vs H2 g2 os => ?_
    refine q (v :: vs) H2 (g1.trans g2) (.cons (ob_sub (grow_ob g2 o) (nw_up g2)) (obs_sub os fun a z => ?_))
    rcases z with z | z
    · exact .inl z
    · exact .inr ⟨g1.keep _ z.1, z.2⟩
end
end
end Vf
set_option maxRecDepth 100000
set_option maxHeartbeats 4000000
/-! Zs: while, zip, reversed slices, range of two, properties. Own work. -/
namespace Vf
open PySem PySem.Spec PyProof.Rows L2 LamX
section
variable {m : Md} {N : List Str} {sc scope : Scope} {i j k : Nat} {X : Cx} {a b c e e2 o elt : Expr} {es : List Expr} {σ : L2.St} {H : Hp} {Q : VK} {pos p p1 p2 p3 tpos : Pos} {x y : Str} {body : List Stmt} {nx : L2.St → Hp → Prop} {rt : VK} {bk ct : L2.St → Hp → Prop}
/-- while c: body, by a measure; what is wanted of a turn is written out -/
theorem s_while (h : At m N sc k X) (q : ∃ (Pv : L2.St → Hp → Prop) (μ : L2.St → Hp → Nat), Pv σ H ∧ ∀ σ H, Pv σ H → wT X c σ H fun b H1 => if b = true then wB X body ⟨fun σ' H' => Pv σ' H' ∧ μ σ' H' < μ σ H, rt, nx, fun σ' H' => Pv σ' H' ∧ μ σ' H' < μ σ H⟩ σ H1 else nx σ H1) : wS X (.While c body [] pos) ⟨nx, rt, bk, ct⟩ σ H := by
  refine toS (ps_while h.pass cT cB) ?_
  obtain ⟨Pv, μ, h0, hs⟩ := q
  refine ⟨fun n σ H => n = μ σ H ∧ Pv σ H, ⟨_, rfl, h0⟩, ?_⟩
  rintro n σ H ⟨rfl, p⟩
  have t := hs σ H p
  unfold wT at t ⊢
  refine fun pins s I => wpAny_mono (t pins s I) (fun v s' z => ?_) fun _ _ z => z
  obtain ⟨H1, I1, q1⟩ := z
  refine ⟨H1, I1, ?_⟩
  cases v with
  | true => exact ⟨fun σ' H' => Pv σ' H' ∧ μ σ' H' < μ σ H, fun σ' H' ⟨p', l⟩ => ⟨_, l, rfl, p'⟩, q1⟩
  | false => exact q1
/-- for t in zip(e, e2), of two lists of one length that stand still -/
theorem s_forZ {elts : List Expr} {kk : Nat} {g : TG} {po : Pos} (h : At m N sc k X) (hg : PG X (.Tuple elts kk tpos) g) (hm : m.mg "zip" = none) (hgl : sc.names.lookup ("zip" : Str) = some .globalImplicit)
    (q : wA X [e, e2] σ H fun vs H1 => ∃ (a b : Addr) (xs ys : List V), vs = [.ref a, .ref b] ∧ SqL m.K H1 a xs ∧ SqL m.K H1 b ys ∧ xs.length = ys.length ∧ ∃ Pv : Nat → L2.St → Hp → Prop, Pv 0 σ H1 ∧ (∀ i σ H, Pv i σ H → SqL m.K H a xs ∧ SqL m.K H b ys) ∧
      (∀ (i : Nat) (x y : V) (T : Addr) (σ : L2.St) (H : Hp), xs[i]? = some x → ys[i]? = some y → Pv i σ H → H T = none → g (.ref T) σ (upd H T (.tup [x, y])) fun σ2 H2 => wB X body ⟨Pv (i + 1), rt, nx, Pv (i + 1)⟩ σ2 H2) ∧ ∀ σ H, Pv xs.length σ H → nx σ H)
    (hs : starEach [e, e2] X.env = (false, eval e X.env) :: starEach [e2] X.env := by with_unfolding_all rfl) (hpl : (backTo p2 (starEach [e2] X.env)).any (·.1) = false := by with_unfolding_all rfl)
    (hf : ∀ x, foldedSetIterable (.Call (.Name "zip" p1) [e, e2] [] p2) X.env x = pure x := by with_unfolding_all (intro _; rfl)) : wS X (.For (.Tuple elts kk tpos) (.Call (.Name "zip" p1) [e, e2] [] p2) body [] po) ⟨nx, rt, bk, ct⟩ σ H := by
  refine toS (ps_for h.pass h.calm (pi_zip (h.gl hgl) (by rw [h.mm]; exact hm) (cA (es := [e, e2])) hs hpl) hg cB hf) ?_
  unfold wA at q ⊢
  refine fun pos pins s I => wpAny_mono (q pos pins s I) (fun v s' z => ?_) fun _ _ z => z
  obtain ⟨vs, H1, I1, r1, a, b, xs, ys, ev, ha, hb, hl, Pv, p0, hq, turn, fin⟩ := z
  exact ⟨vs, H1, I1, r1, a, b, xs, ys, ev, by rw [h.kk]; exact ha, by rw [h.kk]; exact hb, RZ.for_zipL (K := X.K) hl Pv p0 (fun i σ H z => by rw [h.kk]; exact hq i σ H z) turn fin⟩
/-- e[::-1] of a list -/
theorem w_rev {k1 : Nat} (h : At m N sc k X) (q : wE X e σ H fun x H1 => ∃ (a : Addr) (xs : List V), x = .ref a ∧ SqL m.K H1 a xs ∧ ∀ p, H1 p = none → Q (.ref p) (upd H1 p (.lst xs.reverse))) :
    wE X (.Subscript e (.Slice none none (some (.UnaryOp .USub (.Constant (.int 1) k1 p1) p2)) p3) pos) σ H Q := by
  refine toE (pe_revL cE) ?_
  exact wE.mono q fun x H1 ⟨a, xs, ea, hs, q1⟩ => ⟨a, xs, ea, by rw [h.kk]; exact hs, q1⟩
/-- [elt for x in range(a, b)] -/
theorem w_lcR2 (h : At m N sc k X) (hm : m.mg "range" = none) (hgl : sc.names.lookup ("range" : Str) = some .globalImplicit) (ok : blkC N sc scope [(x, i)] = true) (n : NL N (relS scope sc) i x)
    (q : wA X [a, b] σ H fun vs H1 => ∃ z w : Int, vs = [.int z, .int w] ∧ (-(2 ^ 62) ≤ z ∧ z < 2 ^ 62 ∧ -(2 ^ 62) ≤ w ∧ w < 2 ^ 62) ∧ ∀ D, H1 D = none → ∃ Pv : Nat → Hp → Prop, Pv 0 (upd H1 D (.lst [])) ∧
      (∀ j H, j < (w - z).toNat → Pv j H → ∀ X', At m N (relS scope sc) k X' → wE X' elt (σ.set i (some (.int (z + j)))) H (App D (Pv (j + 1)))) ∧ ∀ H, Pv (w - z).toNat H → Q (.ref D) H)
    (hst : starEach [a, b] X.env = [(false, eval a X.env), (false, eval b X.env)] := by with_unfolding_all rfl) (hst2 : starEach [b] X.env = [(false, eval b X.env)] := by with_unfolding_all rfl) (hs : ∀ x, foldedSetIterable (.Call (.Name "range" p2) [a, b] [] p3) X.env x = pure x := by with_unfolding_all (intro _; rfl)) : wE X (.ListComp elt [⟨.Name x p1, .Call (.Name "range" p2) [a, b] [] p3, [], 0⟩] scope pos) σ H Q := by
  refine toE (pe_lc (own := [(x, i)]) (g := gName i) (tt := tYes) (te := inBlk m N (relS scope sc) k elt) h.calm (by rw [h.nn]; exact h.nd) (pi_range2 (h.gl hgl) (by rw [h.mm]; exact hm) (cA (es := [a, b])) hst hst2) (by rw [h.nn, h.ss]; exact blkOk_by ok) (fun s H C cl fp => pg_nl (blk_at h s H C cl fp) n) (fun _ _ _ _ _ => pts_nil) (fun s H C cl fp => blk_pe h s H C cl fp) hs) ?_
  unfold wA at q ⊢
  refine fun pos pins s I => wpAny_mono (q pos pins s I) (fun v s' z => ?_) fun _ _ z => z
  obtain ⟨vs, H1, I1, r1, z, w, ev, hb, go⟩ := z
  refine ⟨vs, H1, I1, r1, z, w, ev, hb, fun D hD => ?_⟩
  obtain ⟨Pv, p0, turn, fin⟩ := go D hD
  refine lc_range (lo := z) (n := (w - z).toNat) (g := gName i) (tt := tYes) (te := inBlk m N (relS scope sc) k elt) (vs := [i]) (σ := σ) Pv p0 (fun j H hj hp => ?_) fin
  refine ⟨by rw [wipe1]; simp [wipe, List.set_set], ?_⟩
  unfold tYes
  refine iteT fun X' hX' => ?_
  rw [set_wipe]
  exact turn j H hj hp X' hX'
/-- e.f, a property whose getter keeps sp -/
theorem w_prop {f : Str} {C q g : Addr} {fd : FuncData} {ps : List Str} {sp : Sp} (h : At m N sc k X) (c : Cls m.K C) (hp : PropOf m.K C f q g) (F : FnG m C8.CX0 j g fd ps sp) (hb : L2.Binds m.K fd ps []) (hk : j + 1 ≤ k)
    (z : wE X e σ H fun x H1 => ∃ a dx fs, x = .ref a ∧ H1 a = some (.ins C dx fs) ∧ sp [.ref a] H1 Q C8.E0)
    (hab : attributeBase e f X.env (eval e X.env) = eval e X.env := by with_unfolding_all rfl) : wE X (.Attribute e f pos) σ H Q := by
  unfold wE
  intro pins s I
  refine attr_of hab (thn ((cE (X := X) (e := e)).run pins s σ H _ I z) fun u s1 ⟨x, H1, I1, rx, a, dx, fs, ex, ea, q1⟩ => ?_)
  subst ex
  obtain rfl : u = Value.ref a := rx
  obtain ⟨mA, O, _, _, _, _⟩ := ins_get I1.hok ea
  obtain ⟨od, J, _⟩ := O.look
  obtain ⟨rest, hrec⟩ := hp.rec_
  have I2 := I1.tok (s1.toks + 1)
  have c' : Cls X.K C := by rw [h.kk]; exact c
  have hc : (PySem.W.clsIn X.K C).isSome = true := by
    obtain ⟨cd, hc, _⟩ := PySem.W.any_some c'.hd
    rw [hc]; rfl
  refine PySem.W.get_bind I1.kIn J (PySem.W.plainGet_of (c'.get f)).1 (PySem.W.findObj_data hc (by rw [h.kk]; exact hp.at_) (by rw [h.kk]; exact hp.get) (by rw [h.kk]; exact hp.tak)) (PySem.W.plainGet_of (c'.get f)).2 (wpAny_call (PySem.W.prop_get (s := { s1 with toks := s1.toks + 1 }) I1.kIn (by rw [h.kk]; exact hrec) ?_))
  have e0 := I2.env0.in1
  rw [h.pp, h.ww, h.kk, h.mm, h.bb] at e0
  have hl : [Value.ref a].length = ps.length := by
    rw [← F.len _ _ _ _ q1]; rfl
  have rc := F.run X.A.in1 X.stack { s1 with toks := s1.toks + 1 } H1 ⟨[.ref a], []⟩ [.ref a] [.ref a] Q C8.E0 (by exact h.gd) ((h.room.mono hk).in1) e0 (by have := hb { s1 with toks := s1.toks + 1 } [.ref a] (by rw [← h.kk]; exact I2.kIn) (by simpa using hl); simpa using this) (.cons rfl .nil) q1
  rw [← h.pp, ← h.ww] at rc
  refine codeAny_mono rc fun r s' hq => ?_
  match r, hq with
  | .error er, hq => exact hq.elim
  | .ok (.ret u), hq =>
    obtain ⟨v, H', I3, rv, q3⟩ := I2.after hq
    show wpAny _ _ (handedOut u) _ _ _
    rw [PySem.W.handedOut_of (handed_of rv)]
    exact wpAny_pure ⟨v, H', I3, rv, q3⟩
end
end Vf
set_option maxRecDepth 100000
set_option maxHeartbeats 4000000
/-! Sst: set(list) of texts, of whole numbers; sorted(set), len(set). Own work. -/
namespace Vs
open PySem PySem.Spec PyProof.Rows L2
/-- what set.__new__ lays -/
abbrev nSet (w : World) : Obj := { cls := .type "set", dict := none, data := .set #[] 0 (.fresh 0 0 (!w.params.followText "set-order")) }
section
variable {P : Program} {w : World} {A : Around} {E : Value → Shared → Prop} {s : Shared}
/-- what one add keeps going -/
abbrev Step (P : Program) (w : World) (S : Addr) (J : Nat → Heap → Prop) (i : Nat) (v : Value) : Prop :=
  ∀ (A' : Around) (E' : Value → Shared → Prop) (s' : Shared) (Q' : Bool → Shared → Prop), J i s'.heap → (∀ b h' tk, Heap.SameBut S s'.heap h' → s'.toks ≤ tk → J (i + 1) h' → Q' b { s' with heap := h', toks := tk }) → wpAny (model P w) A' (setAdd S v) Q' E' s'
theorem upd_loop {I : Addr} {fp wr : List Addr} {G : Array GenState → Array GenState → Prop} {n : Nat} {Pv : Nat → Value → Prop} {St : Nat → Shared → Prop} {R : Result → Shared → Prop}
    (W : WalksS P w A.in1 I fp wr G n Pv St) (S : Addr) (hSf : S ∉ fp) (J : Nat → Heap → Prop) (jk : ∀ i h h', J i h → (∀ o, h.get? S = some o → h'.get? S = some o) → J i h')
    (js : ∀ i v, i < n → Pv i v → Step P w S J i v) : ∀ (k i : Nat) (s : Shared), n - i = k → i ≤ n → St i s → J i s.heap →
      (∀ s', Moved (S :: wr) G s s' → J n s'.heap → R (.ok (.ret .none)) s') → codeAny (model P w) A (.builtin "set.update.loop" ⟨[.ref S, .ref I], []⟩) R s := by
  have nw : S ∉ wr := fun z => hSf (W.sub _ z)
  have up : ∀ b ∈ wr, b ∈ S :: wr := fun b z => List.mem_cons_of_mem _ z
  intro k
  induction k with
  | zero =>
    intro i s e hi st j hR
    obtain rfl : i = n := by omega
    refine codeAny_builtin F.entry_set_update_loop ?_
    rw [Around.under_plainId F.plain_set_update_loop _]
    show wpAny _ A.in1 (pyNext (.ref I) >>= _) _ _ s
    refine wpAny_bind (W.done s _ _ st fun s1 mv => ?_)
    show wpAny _ A.in1 (ret Value.none) _ _ s1
    exact wpAny_pure (hR s1 (mv.mono up) (jk _ _ _ j fun o z => mv.heap S o nw z))
  | succ k ih =>
    intro i s e hi st j hR
    have lt : i < n := by omega
    refine codeAny_builtin F.entry_set_update_loop ?_
    rw [Around.under_plainId F.plain_set_update_loop _]
    show wpAny _ A.in1 (pyNext (.ref I) >>= _) _ _ s
    refine wpAny_bind (W.item i s _ _ lt st fun v s1 pv st1 mv => ?_)
    show wpAny _ A.in1 (holding [v] (setAdd S v) >>= _) _ _ s1
    refine wpAny_bind (wpAny_holding (js i v lt pv _ _ s1 _ (jk _ _ _ j fun o z => mv.heap S o nw z) fun b h1 tk sb ht j1 => ?_))
    have away : ∀ c, c ≠ S → ∀ o, s1.heap.get? c = some o → h1.get? c = some o := fun c hc o z => (sb.2 c hc).trans z
    refine wpAny_pure ⟨plainId_quiet F.plain_set_update_loop _, ih (i + 1) _ (by omega) lt (W.frame _ s1 _ _ st1 ht fun b hb o z => away b (fun q => hSf (q ▸ hb)) o z) j1 fun s2 mv2 j2 => hR s2 (Moved.trans W.gtrans ((mv.mono up).then_heap ht fun b o hb z => away b (fun q => hb (q ▸ List.mem_cons_self)) o z) mv2) j2⟩

set_option maxHeartbeats 4000000 in
/-- set(xs) of a list, by what is known of the set after each item -/
theorem set_of_list {l : Addr} {items : Array Value} {Q : Value → Shared → Prop} (J : Nat → Heap → Prop) (hh : A.handled = none) (hl : s.heap.IsList l items)
    (jk : ∀ i h h', J i h → (∀ o, h.get? s.heap.objs.size = some o → h'.get? s.heap.objs.size = some o) → J i h') (j0 : ∀ h, h.get? s.heap.objs.size = some (nSet w) → J 0 h)
    (js : ∀ i v, items[i]? = some v → Step P w s.heap.objs.size J i v)
    (q : ∀ (h' : Heap) (tk : Nat), J items.size h' → (∀ b o, s.heap.get? b = some o → h'.get? b = some o) → Q (.ref s.heap.objs.size) { s with heap := h', toks := tk }) :
    wpAny (model P w) A (call (.type "set") [.ref l]) Q E s := by
  obtain ⟨c, tl, hmro⟩ := F.called_set.mro
  have hmade := F.called_set.made
  have hsub := F.called_set.sub
  refine wpAny_call (codeAny_of_tree ?_)
  show wpAny _ _ (callAny (.type "set") _) _ _ _
  refine wpAny_pure ⟨Code.quiet_builtin _ (by decide +kernel), codeAny_builtin F.entry_type_call ?_⟩
  rw [Around.under_plain (weight_type_call_type "set" [.ref l] []) rfl]
  have h1 := F.called_set.notType
  have h2 := F.called_set.canCreate
  have h3 := F.typeCall_set_1 (.ref l)
  repeat (any_goals (first | assumption | wp_step))
  refine codeAny_mono (code_set_led1 (.ref l) (E := E) (Q₁ := fun v s1 => v = .ref s.heap.objs.size ∧ s1 = { s with heap := s.heap.push (nSet w) }) ⟨rfl, rfl⟩) fun r s1 hr => ?_
  cases r with
  | error e => exact hr
  | ok fl =>
    cases fl with
    | ret obj =>
      obtain ⟨rfl, rfl⟩ := hr
      have at1 : (s.heap.push (nSet w)).get? s.heap.objs.size = some (nSet w) := Heap.get?_push_size _ rfl
      have ty1 : Shared.TypeIs { s with heap := s.heap.push (nSet w) } (.ref s.heap.objs.size) "set" := ⟨_, at1, rfl⟩
      have h4 := F.called_set.init.lookup
      have h5 := F.called_set.init.bind (.ref s.heap.objs.size)
      repeat (any_goals (first | assumption | wp_step))
      refine codeAny_mono (codeAny_call_builtin (R := wants (fun r s2 => r = .none ∧ ∃ h' tk, s2 = { s with heap := h', toks := tk } ∧ J items.size h' ∧ ∀ b o, s.heap.get? b = some o → h'.get? b = some o) E)
        F.called_set.init.plain F.entry_set_init (check_set_init_1 ty1 ?_)) fun r2 s2 hr2 => ?_
      · obtain ⟨⟨cls, dict, data, slots⟩, ol, hc, nl, hd⟩ := hl
        simp only at hc hd
        subst hc
        subst hd
        have ol' : (s.heap.push (nSet w)).get? l = some { cls := .type "list", dict := dict, data := .seq items nl, slots := slots } := Heap.get?_push_of_some _ ol
        have h6 := F.sub_list_set
        have h7 := F.sub_list_frozenset
        have h8 : (Value.type "list" == Value.type "dict") = false := by decide
        have il : (s.heap.push (nSet w)).IsList l items := ⟨_, ol', rfl, nl, rfl⟩
        unfold Builtin.«set.__init__» noKeywords Builtin.Frozenset.updateFrom
        generalize hPI : pyIter = PI
        wp_walk
        subst hPI
        refine wpAny_pyIter_list il (wpAny_bind (wpAny_runValue ?_))
        have lS : l < s.heap.objs.size := Heap.lt_size ol
        have h9 : A.in1.in1.in1.handled = none := by simp [hh]
        have sz : (s.heap.push (nSet w)).objs.size = s.heap.objs.size + 1 := Heap.size_push ..
        have neI : l ≠ (s.heap.push (nSet w)).objs.size := by rw [sz]; exact Nat.ne_of_lt (Nat.lt_succ_of_lt lS)
        have nf : s.heap.objs.size ∉ [(s.heap.push (nSet w)).objs.size, l] := by
          rw [sz]
          simp only [List.mem_cons, List.not_mem_nil, or_false, not_or]
          exact ⟨Nat.ne_of_lt (Nat.lt_succ_self _), Nat.ne_of_gt lS⟩
        refine upd_loop ((Walks.list h9 _ l neI items).toS) s.heap.objs.size nf J jk (fun i v _ pv => js i v pv) (items.size - 0) 0 _ rfl (Nat.zero_le _) ⟨⟨_, Heap.get?_push_size _ rfl, rfl, rfl⟩, il.push _⟩
          (j0 _ (Heap.get?_push_of_some _ at1)) fun s' mv j => ?_
        obtain ⟨h', g', d', tk', os'⟩ := s'
        have eg : g' = s.gens := mv.gens
        have ed : d' = s.drawn := mv.drawn
        have eo : os' = s.os := mv.os
        subst eg
        subst ed
        subst eo
        show wpAny _ _ _ _ _ _
        refine wpAny_pure ?_
        show wpAny _ _ (ret Value.none) _ _ _
        refine wpAny_pure ⟨rfl, h', tk', rfl, j, fun b o z => ?_⟩
        have b0 : b < s.heap.objs.size := Heap.lt_size z
        refine mv.heap b o ?_ (Heap.get?_push_of_some _ (Heap.get?_push_of_some _ z))
        rw [sz]
        simp only [List.mem_cons, List.not_mem_nil, or_false, not_or]
        exact ⟨Nat.ne_of_lt b0, Nat.ne_of_lt (Nat.lt_succ_of_lt b0)⟩
      · cases r2 with
        | error e => exact hr2
        | ok fl2 =>
          cases fl2 with
          | ret r =>
            obtain ⟨rfl, h', tk, rfl, j, k⟩ := hr2
            repeat (any_goals (first | assumption | wp_step))
            exact q _ _ j k
          | _ => exact hr2.elim
    | _ => exact hr.elim
end

/-! ### sets of texts -/
open PySem.Froz
/-- the set of the texts l at a: its table rises -/
def SetX (P : Program) (w : World) (h : Heap) (a : Addr) (l : List Str) : Prop :=
  l.Nodup ∧ ∃ D : SD, h.get? a = some (sObj "set" D) ∧ TxOk P w D l ∧ Ris D.2.2.place.toList ∧ (w.params.followText "set-order" = true ∨ D.2.2.led = true)
theorem tail_rl (ep : Nat) (es : Array (Int × Value)) (t : SetTable) (b : Bool) (r : Ris t.place.toList) : Ris (tailTx ep es t b).2.2.place.toList ∧ (tailTx ep es t b).2.2.led = t.led := by
  unfold tailTx
  split
  · exact ⟨relayAll_ris _ _ _, relayAll_led _ _ _⟩
  · exact ⟨r, rfl⟩
theorem add_rl (x : Int) (v : Value) (D : SD) (r : Ris D.2.2.place.toList) : Ris (addTx x v D).2.2.place.toList ∧ (addTx x v D).2.2.led = D.2.2.led := by
  have r1 := layNew_ris D.2.2 D.1 x v r
  have l1 := layNew_led D.2.2 D.1 x v
  unfold addTx
  split
  · have z := tail_rl D.2.1 (layNew D.2.2 D.1 x v).1 { (layNew D.2.2 D.1 x v).2.1 with plain := false } (layNew D.2.2 D.1 x v).2.2.1 r1
    exact ⟨z.1, z.2.trans l1⟩
  · have z := tail_rl D.2.1 (layNew D.2.2 D.1 x v).1 (layNew D.2.2 D.1 x v).2.1 (layNew D.2.2 D.1 x v).2.2.1 r1
    exact ⟨z.1, z.2.trans l1⟩
section
variable {P : Program} {w : World} {A : Around} {E : Value → Shared → Prop} {s : Shared}
theorem SetX.keep {h h' : Heap} {a : Addr} {l : List Str} (x : SetX P w h a l) (k : ∀ o, h.get? a = some o → h'.get? a = some o) : SetX P w h' a l := by
  obtain ⟨n, D, h1, r⟩ := x
  exact ⟨n, D, k _ h1, r⟩
theorem setX_new {h : Heap} {a : Addr} (z : h.get? a = some (nSet w)) : SetX P w h a [] :=
  ⟨List.nodup_nil, (#[], 0, .fresh 0 0 (!w.params.followText "set-order")), z, TxOk.nil (by rfl), List.Pairwise.nil, by
    show _ ∨ (!w.params.followText "set-order") = true
    cases w.params.followText "set-order"
    · exact .inr rfl
    · exact .inl rfl⟩
/-- a text that is there -/
theorem add_there {a : Addr} {D : SD} {l : List Str} {k : Str} {u : Tok} {Q : Bool → Shared → Prop} (ho : s.heap.get? a = some (sObj "set" D)) (F : TxOk P w D l) (hk : k ∈ l) (hb : l.length < scanBound) (h : Q false s) :
    wpAny (model P w) A (setAddHashed a (.str k u) (hashStr w k)) Q E s := by
  obtain ⟨es, ep, t⟩ := D
  have hd : (sObj "set" (es, ep, t)).data = .set es ep t := rfl
  have hf : t.fits es.size = true := F.fit
  have hel : ElemsOf (PySem.strKind P w) es.toList := F.el
  have hsz : es.size = l.length := F.sz
  have hkey : (PySem.strKind P w).is k (.str k u) = true := is_str k u
  unfold setAddHashed setAddHashedIn
  refine wpAny_holding (wpAny_bind (wpAny_setState_of ho hd hf ?_))
  dsimp only
  rw [byScan_of rfl (by rw [hsz]; exact hb) hel]
  simp only [↓reduceIte]
  unfold setAddByScan
  refine wpAny_bind (wpAny_bind (wpAny_rule ?_))
  refine wpAny_bind (wpAny_setScan_of (knd := PySem.strKind P w) (k := k) hkey ho hd hf hel ?_)
  cases hfi : List.findIdx? (fun e => (PySem.strKind P w).is k e.2) es.toList with
  | some j =>
    dsimp only
    exact wpAny_pure (wpAny_pure h)
  | none =>
    obtain ⟨e, he, z⟩ := (F.mem k).mp hk
    have c := List.findIdx?_eq_none_iff.mp hfi e he
    rw [z] at c
    cases c
/-- found.add(text) -/
theorem setX_add {a : Addr} {l : List Str} {k : Str} {u : Tok} {Q : Bool → Shared → Prop} (x : SetX P w s.heap a l) (hb : l.length + 1 < scanBound)
    (q : ∀ b h', Heap.SameBut a s.heap h' → SetX P w h' a (if k ∈ l then l else k :: l) → Q b { s with heap := h', toks := s.toks + 1 }) : wpAny (model P w) A (setAdd a (.str k u)) Q E s := by
  obtain ⟨n, D, ho, F, r, ld⟩ := x
  unfold setAdd
  refine wpAny_holding (wpAny_bind ((PySem.strKind P w).pyHash (k := k) (is_str k u) ?_))
  by_cases c : k ∈ l
  · rw [if_pos c] at q
    exact add_there (s := { s with toks := s.toks + 1 }) ho F c (by omega) (q false s.heap (Heap.SameBut.refl a s.heap) ⟨n, D, ho, F, r, ld⟩)
  · rw [if_neg c] at q
    refine add_x (s := { s with toks := s.toks + 1 }) ho F c hb (q true _ (Heap.SameBut.update ..) ⟨List.nodup_cons.mpr ⟨c, n⟩, _, get_upd _ ho rfl, add_ok u F, (add_rl _ _ _ r).1, ld.imp id fun z => (add_rl _ _ _ r).2.trans z⟩)
/-- set(xs) of a list of texts -/
theorem set_texts {p : Addr} {items : Array Value} {xs : List Str} {Q : Value → Shared → Prop} (hh : A.handled = none) (hl : s.heap.IsList p items) (hx : StrsAre items.toList xs) (hb : xs.length + 1 < scanBound)
    (q : ∀ (h' : Heap) (tk : Nat) (l : List Str), SetX P w h' s.heap.objs.size l → (∀ y, y ∈ l ↔ y ∈ xs) → l.length ≤ xs.length → (∀ b o, s.heap.get? b = some o → h'.get? b = some o) → Q (.ref s.heap.objs.size) { s with heap := h', toks := tk }) :
    wpAny (model P w) A (call (.type "set") [.ref p]) Q E s := by
  have sz : items.size = xs.length := by rw [← Array.length_toList]; exact hx.length
  refine set_of_list (fun i h => ∃ l, SetX P w h s.heap.objs.size l ∧ (∀ y, y ∈ l ↔ y ∈ xs.take i) ∧ l.length ≤ i) hh hl (fun i h h' ⟨l, x, r⟩ k => ⟨l, x.keep k, r⟩) (fun h z => ⟨[], setX_new z, by simp, Nat.le_refl _⟩)
    (fun i v hv A' E' s' Q' ⟨l, x, m, ln⟩ q' => ?_) (fun h' tk ⟨l, x, m, ln⟩ k => q h' tk l x (fun y => by rw [m y, List.take_of_length_le (by omega)]) (by omega) k)
  have hi : i < xs.length := by rw [← sz]; exact (Array.getElem?_eq_some_iff.mp hv).1
  obtain ⟨y, t, rfl, hy⟩ := hx.item i v (by rw [Array.getElem?_toList]; exact hv)
  refine setX_add x (by omega) fun b h' sb x' => q' b h' _ sb (Nat.le_succ _) ⟨_, x', fun z => ?_, ?_⟩
  · rw [List.take_add_one, hy]
    simp only [Option.toList, List.mem_append, List.mem_singleton]
    by_cases c : y ∈ l
    · rw [if_pos c, m z]
      refine ⟨.inl, fun h => h.elim id fun e => ?_⟩
      rw [e]
      exact (m y).1 c
    · rw [if_neg c, List.mem_cons, m z]
      exact Or.comm
  · split
    · omega
    · rw [List.length_cons]; omega
theorem strsAre_all : ∀ (vs : List Value), (∀ v ∈ vs, ∃ k t, v = Value.str k t) → ∃ xs, StrsAre vs xs ∧ xs = vs.map strOf
  | [], _ => ⟨[], .nil, rfl⟩
  | v :: vs, h => by
    obtain ⟨k, t, rfl⟩ := h v List.mem_cons_self
    obtain ⟨xs, h1, h2⟩ := strsAre_all vs fun u hu => h u (List.mem_cons_of_mem _ hu)
    exact ⟨k :: xs, .cons k t h1, by rw [h2]; rfl⟩
theorem perm_sub : ∀ (l r : List Str), l.Nodup → (∀ k ∈ l, k ∈ r) → r.length ≤ l.length → r.Perm l
  | [], r, _, _, h => by
    have z : r = [] := List.length_eq_zero_iff.mp (Nat.le_zero.mp h)
    rw [z]
  | k :: l, r, n, s, h => by
    obtain ⟨n1, n2⟩ := List.nodup_cons.mp n
    have hk := s k List.mem_cons_self
    have e := List.length_erase_of_mem hk
    have ih := perm_sub l (r.erase k) n2 (fun y hy => (List.mem_erase_of_ne fun (z : y = k) => n1 (by rw [← z]; exact hy)).2 (s y (List.mem_cons_of_mem _ hy))) (by rw [List.length_cons] at h; omega)
    exact (List.perm_cons_erase hk).trans (ih.cons k)
theorem tx_strs {D : SD} {l : List Str} (n : l.Nodup) (F : TxOk P w D l) : (∀ v ∈ D.1.toList.map (·.2), ∃ k t, v = Value.str k t) ∧ ((D.1.toList.map (·.2)).map strOf).Perm l := by
  have h1 : ∀ e ∈ D.1.toList, ∃ k t, e.2 = Value.str k t := fun e he => by
    obtain ⟨⟨k, z, _⟩, _⟩ := F.el e he
    obtain ⟨t, z2⟩ := Value.isStrOf_shape z
    exact ⟨k, t, z2⟩
  have h2 : ∀ e ∈ D.1.toList, ∀ k, (PySem.strKind P w).is k e.2 = true ↔ strOf e.2 = k := fun e he k => by
    obtain ⟨k0, t, z⟩ := h1 e he
    rw [z]
    exact ⟨fun q => ((PySem.strKind P w).inj (.str k0 t) k k0 q (is_str k0 t)).symm, fun q => by rw [← show k0 = k from q]; exact is_str k0 t⟩
  have hm : ∀ k, k ∈ l ↔ k ∈ (D.1.toList.map (·.2)).map strOf := fun k => by
    rw [F.mem k, List.map_map, List.mem_map]
    exact ⟨fun ⟨e, he, z⟩ => ⟨e, he, (h2 e he k).1 z⟩, fun ⟨e, he, z⟩ => ⟨e, he, (h2 e he k).2 z⟩⟩
  refine ⟨fun v hv => ?_, ?_⟩
  · obtain ⟨e, he, rfl⟩ := List.mem_map.mp hv
    exact h1 e he
  · refine perm_sub _ _ n (fun k hk => (hm k).1 hk) ?_
    have z : D.1.size = l.length := F.sz
    rw [List.length_map, List.length_map, Array.length_toList, z]
    exact Nat.le_refl _
/-- sorted(found) -/
theorem sorted_setX {a : Addr} {l : List Str} {Q : Value → Shared → Prop} (x : SetX P w s.heap a l) (hh : A.handled = none) (hb : l.length < scanBound)
    (q : ∀ s' p (out : Array Value) (c : Nat) (ys : List Str), (∀ b o, s.heap.get? b = some o → s'.heap.get? b = some o) → s'.gens = s.gens → s'.os = s.os → s.heap.objs.size ≤ p →
      s'.heap.get? p = some (seqObj "list" out c) → StrsAre out.toList ys → ys.Perm l → sortedS ys = true → Q (.ref p) s') :
    wpAny (model P w) A (call (.builtin "sorted") [.ref a]) Q E s := by
  obtain ⟨n, ⟨es, ep, t⟩, ho, F, r, ld⟩ := x
  have sz : es.size = l.length := F.sz
  obtain ⟨st, pl⟩ := tx_strs n F
  refine Calls.call_function_entry kind_sorted plain_sorted entry_sorted (args_sorted1 _) ?_
  unfold Builtin.«sorted»
  refine wpAny_bind (m := checkCount "sorted" 1 1 _) (wpAny_pure ?_)
  refine wpAny_bind (collect_set (A := A.in1) hh ⟨_, ho, rfl, rfl⟩ F.fit (by rw [sz]; exact hb) r ld fun s1 vs k1 hz g1 o1 pm => ?_)
  obtain ⟨xs, hS, ex⟩ := strsAre_all vs fun v hv => st v (pm.mem_iff.mp hv)
  have px : xs.Perm l := by rw [ex]; exact (pm.map strOf).trans pl
  have hL : vs.length ≤ sizeLine := by
    have z : scanBound ≤ sizeLine := by rw [sizeLine_eq]; decide
    rw [hS.length, px.length_eq]
    omega
  refine wpAny_bind (wpAny_newList ?_ hL)
  have hoL : (s1.heap.push (seqObj "list" vs.toArray 0)).get? s1.heap.objs.size = some (seqObj "list" vs.toArray 0) := Heap.get?_push_size _ rfl
  refine wpAny_bind (wpAny_holding (wpAny_call_entry slot_list_sort ⟨_, hoL, rfl⟩ entry_list_sort (list_sort_treeKAny strKind_oneLt hoL hS.keysOf (fun v₁ v₂ rest e => keyKind_strs (by rw [← e]; exact hS)) hL fun st' hp hs => ⟨_, rfl, ?_⟩) (args_list_sort _)))
  obtain ⟨ys, h1, h2, h3⟩ := sorted_out_str hS hp hs
  generalize (arrOf st').map (·.2) = out at h1 ⊢
  obtain ⟨c, hc⟩ := sortedHeap_at (vs := vs) (out := out) hoL
  refine wpAny_pure ⟨_, rfl, q _ s1.heap.objs.size out c ys (fun b u e => ?_) g1 o1 hz hc h1 (h2.trans px) h3⟩
  have z := k1 b u e
  have lt := Heap.lt_size z
  show (sortedHeap (s1.heap.push (seqObj "list" vs.toArray 0)) s1.heap.objs.size vs out).get? b = some u
  rw [sortedHeap_old (Nat.ne_of_lt lt) (by rw [size_push']; exact Nat.lt_succ_of_lt lt)]
  exact Heap.get?_push_of_some _ z
end
end Vs

namespace Vf
open PySem PySem.Spec PyProof.Rows L2 LamX Vs
/-- the set of the texts l, as an object -/
def SetH (P : Program) (w : World) (a : Addr) (l : List Str) : HO := .ext fun h => SetX P w h a l
theorem setH_new {P : Program} {w : World} {H : Hp} {h : Heap} {a : Addr} {l : List Str} (R : SetX P w h a l) : ObjOk P w H h a (SetH P w a l) := by
  have ⟨_, D, ho, _⟩ := R
  exact ⟨R, ⟨_, ho⟩, fun h1 h2 p k => SetX.keep p k⟩
theorem setH_get {X : Cx} {pins : List (Addr × Obj)} {σ : L2.St} {H : Hp} {s : Shared} {a : Addr} {l : List Str} (I : Inv X pins σ H s) (ha : H a = some (SetH X.prog X.w a l)) : SetX X.prog X.w s.heap a l := (I.hok a _ ha).1
section
variable {m : Md} {N : List Str} {sc : Scope} {k : Nat} {X : Cx} {H : Hp} {Q : VK}
/-- set(xs) of a list of texts -/
theorem cr_setX (hc : X.calm = true) : CallR X (.type "set") (fun vs H Q => ∃ (p : Addr) (xs : List Str), vs = [V.ref p] ∧ SqL X.K H p (xs.map V.str) ∧ xs.length < 4000 ∧
    ∀ a l, H a = none → l.Nodup → (∀ y, y ∈ l ↔ y ∈ xs) → l.length ≤ xs.length → Q (.ref a) (upd H a (SetH X.prog X.w a l))) := by
  intro pins s σ H vs us Q I r h
  obtain ⟨p, xs, rfl, hs, hb, q⟩ := h
  obtain ⟨its, rv, hl, _⟩ := I.list hs
  rw [Vals.ref1 r]
  refine set_texts (P := X.prog) (I.ok.hd hc) hl.isList (by simpa using rv.strs) (by unfold scanBound; omega) fun h' tk l x ml ll kp => ?_
  exact ⟨.ref _, upd H s.heap.objs.size (SetH X.prog X.w s.heap.objs.size l), I.laid (t' := tk) kp (Nat.le_refl _) (setH_new x), rfl, q _ l (I.hok.fresh (Nat.le_refl _)) x.1 ml ll⟩
/-- sorted(found) -/
theorem cr_sortedX (hc : X.calm = true) : CallR X (.builtin "sorted") (fun vs H Q => ∃ (a : Addr) (l : List Str), vs = [V.ref a] ∧ H a = some (SetH X.prog X.w a l) ∧ l.length < 4000 ∧
    ∀ ys p, ys.Perm l → sortedS ys = true → H p = none → Q (.ref p) (upd H p (.lst (ys.map V.str)))) := by
  intro pins s σ H vs us Q I r h
  obtain ⟨a, l, rfl, ha, hb, q⟩ := h
  have R := setH_get I ha
  rw [Vals.ref1 r]
  refine sorted_setX R (I.ok.hd hc) (by unfold scanBound; omega) fun s' p out c ys kp g o hp hg hi pm st => ?_
  have hlen : (ys.map V.str).length ≤ sizeLine := by rw [List.length_map, pm.length_eq, sizeLine_eq]; omega
  have hn : H p = none := I.hok.fresh hp
  have J : Inv X pins σ (upd H p (.lst (ys.map V.str))) { s with heap := s'.heap, gens := s'.gens, drawn := s'.drawn, toks := s'.toks } :=
    I.call (ch := []) (Un.laid kp hp hn) (I.hok.laid kp hp ⟨hlen, out.toList, c, vals_of_strs hi, hg⟩) (by rw [g]; exact I.bare) (fun _ z => nomatch z)
  have e : s' = { s with heap := s'.heap, gens := s'.gens, drawn := s'.drawn, toks := s'.toks } := by
    cases s'
    cases s
    cases o
    rfl
  rw [e]
  exact ⟨.ref p, _, J, rfl, q ys p pm st hn⟩
/-- len(found) -/
theorem cr_lenX : CallR X (.builtin "len") (fun vs H Q => ∃ (a : Addr) (l : List Str), vs = [V.ref a] ∧ H a = some (SetH X.prog X.w a l) ∧ l.length < 4000 ∧ Q (.int l.length) H) := by
  intro pins s σ H vs us Q I r h
  obtain ⟨a, l, rfl, ha, hb, q⟩ := h
  obtain ⟨_, D, ho, F, _⟩ := setH_get I ha
  rw [Vals.ref1 r]
  have sz : D.1.size = l.length := F.sz
  refine call_len_set ho ⟨rfl, rfl, rfl⟩ rfl F.fit (by rw [sz]; omega) ⟨.int l.length, H, I.tok _, ⟨_, by rw [sz]⟩, q⟩
theorem g_setX (h : At m N sc k X) {p : Addr} {xs : List Str} (hs : SqL m.K H p (xs.map V.str)) (hb : xs.length < 4000)
    (q : ∀ a l, H a = none → l.Nodup → (∀ y, y ∈ l ↔ y ∈ xs) → l.length ≤ xs.length → Q (.ref a) (upd H a (SetH m.P m.w a l))) : gCall X (.type "set") [.ref p] H Q :=
  ⟨_, cr_setX h.calm, p, xs, rfl, by rw [h.kk]; exact hs, hb, by rw [h.pp, h.ww]; exact q⟩
theorem g_sortedX (h : At m N sc k X) {a : Addr} {l : List Str} (ha : H a = some (SetH m.P m.w a l)) (hb : l.length < 4000)
    (q : ∀ ys p, ys.Perm l → sortedS ys = true → H p = none → Q (.ref p) (upd H p (.lst (ys.map V.str)))) : gCall X (.builtin "sorted") [.ref a] H Q :=
  ⟨_, cr_sortedX h.calm, a, l, rfl, by rw [h.pp, h.ww]; exact ha, hb, q⟩
theorem g_lenX (h : At m N sc k X) {a : Addr} {l : List Str} (ha : H a = some (SetH m.P m.w a l)) (hb : l.length < 4000) (q : Q (.int l.length) H) : gCall X (.builtin "len") [.ref a] H Q :=
  ⟨_, cr_lenX, a, l, rfl, by rw [h.pp, h.ww]; exact ha, hb, q⟩
end
end Vf
set_option maxRecDepth 100000
set_option maxHeartbeats 4000000
/-! Dct: dicts that are walked, looked up, stored, copied, displayed; pairs as targets in comprehensions; enumerate. Own work. -/
namespace Vf
open PySem PySem.Spec PyProof.Rows L2 LamX
/-- what a dict walked over asks: it is locked while the block runs -/
theorem Grow.unlock {T : List (Addr × Str)} {H H' : Hp} {d : Addr} {od : Obj} {kvs : List (Key × V)} (hd : H d = some (.dK kvs)) (g : Grow T (upd H d (.frz od (.dK kvs))) H') : Grow T H (upd H' d (.dK kvs)) ∧ H' d = some (.frz od (.dK kvs)) := by
  have fz := g.frz d od (.dK kvs) upd_same
  refine ⟨⟨fun b o _ e n => ?_, fun t => ?_, fun b e => ?_, fun b xs e => ?_, fun b o u e => ?_⟩, fz⟩
  · by_cases c : b = d
    · subst c
      rw [hd] at e
      rw [upd_same, e]
    · rw [upd_ne c]
      exact g.ext b o (fun z => z) (by rw [upd_ne c]; exact e) n
  · have t1 : Tabs T (upd H d (.frz od (.dK kvs))) := by
      intro q hq
      obtain ⟨ps, h1, h2, h3⟩ := t q hq
      refine ⟨ps, by rw [upd_ne (fun z => by rw [z, hd] at h1; cases h1)]; exact h1, h2, fun pos cv hc => ?_⟩
      obtain ⟨c, e1, e2⟩ := h3 pos cv hc
      exact ⟨c, e1, by rw [upd_ne (fun z => by rw [z, hd] at e2; unfold CodeO at e2; cases e2)]; exact e2⟩
    have t2 := g.tab t1
    intro q hq
    obtain ⟨ps, h1, h2, h3⟩ := t2 q hq
    refine ⟨ps, by rw [upd_ne (fun z => by rw [z, fz] at h1; cases h1)]; exact h1, h2, fun pos cv hc => ?_⟩
    obtain ⟨c, e1, e2⟩ := h3 pos cv hc
    exact ⟨c, e1, by rw [upd_ne (fun z => by rw [z, fz] at e2; unfold CodeO at e2; cases e2)]; exact e2⟩
  · exact NdefX.upd_none (g.keep b (NdefX.upd_none e))
  · have c : b ≠ d := fun z => by rw [z, hd] at e; cases e
    rw [upd_ne c]
    exact g.tup b xs (by rw [upd_ne c]; exact e)
  · have c : b ≠ d := fun z => by rw [z, hd] at e; cases e
    rw [upd_ne c]
    exact g.frz b o u (by rw [upd_ne c]; exact e)
section
variable {m : Md} {N : List Str} {sc scope : Scope} {k i j : Nat} {X : Cx} {a b c e f o elt iter : Expr} {es : List Expr} {σ : L2.St} {H : Hp} {Q : VK} {pos p p1 p2 p3 apos tpos : Pos} {x y : Str} {nx : L2.St → Hp → Prop} {rt : VK} {bk ct : L2.St → Hp → Prop}
/-- [elt for x in d], d a dict -/
theorem w_lcDk (h : At m N sc k X) (ok : blkC N sc scope [(x, i)] = true) (n : NL N (relS scope sc) i x)
    (q : ∃ (d : Addr) (kvs : List (Key × V)), H d = some (.dK kvs) ∧ ∀ od, wE X iter σ (upd H d (.frz od (.dK kvs))) fun v H1 => v = .ref d ∧ H1 = upd H d (.frz od (.dK kvs)) ∧ ∀ D, H1 D = none → ∃ Pv : Nat → Hp → Prop, Pv 0 (upd H1 D (.lst [])) ∧ (∀ t H, t ≤ kvs.length → Pv t H → H d = some (.frz od (.dK kvs))) ∧
      (∀ t p H, kvs[t]? = some p → Pv t H → ∀ X', At m N (relS scope sc) k X' → wE X' elt (σ.set i (some (kV p.1))) H (App D (Pv (t + 1)))) ∧ ∀ H, Pv kvs.length H → Q (.ref D) (upd H d (.dK kvs)))
    (hs : ∀ x, foldedSetIterable iter X.env x = pure x := by with_unfolding_all (intro _; rfl)) : wE X (.ListComp elt [⟨.Name x p1, iter, [], 0⟩] scope pos) σ H Q := by
  refine toE (pe_lock (pe_lc (own := [(x, i)]) (g := gName i) (tt := tYes) (te := inBlk m N (relS scope sc) k elt) h.calm (by rw [h.nn]; exact h.nd) (pi_keys cE) (by rw [h.nn, h.ss]; exact blkOk_by ok) (fun s H C cl fp => pg_nl (blk_at h s H C cl fp) n) (fun _ _ _ _ _ => pts_nil) (fun s H C cl fp => blk_pe h s H C cl fp) hs)) ?_
  obtain ⟨d, kvs, hd, q⟩ := q
  refine ⟨d, .dK kvs, hd, trivial, fun od => ?_⟩
  refine wE.mono (q od) fun v H1 ⟨ev, eH, go⟩ => ?_
  refine ⟨d, od, ev, .inl ⟨kvs, by rw [eH]; exact upd_same, fun D hD => ?_⟩⟩
  obtain ⟨Pv, p0, st, turn, fin⟩ := go D hD
  refine lc_it walk_keys (g := gName i) (tt := tYes) (te := inBlk m N (relS scope sc) k elt) (vs := [i]) (σ := σ) Pv p0 st (fun t z H H' ht hp y => ?_) fun H hp => ⟨st _ _ (Nat.le_refl _) hp, fin H hp⟩
  obtain ⟨rfl, kk, v, hk, rfl⟩ := y
  refine ⟨by rw [wipe1]; simp [wipe, List.set_set], ?_⟩
  unfold tYes
  refine iteT fun X' hX' => ?_
  rw [set_wipe]
  exact turn t (kk, v) H' hk hp X' hX'
/-- [elt for x in d.values()] -/
theorem w_lcDv (h : At m N sc k X) (ok : blkC N sc scope [(x, i)] = true) (n : NL N (relS scope sc) i x)
    (q : ∃ (d : Addr) (kvs : List (Key × V)), H d = some (.dK kvs) ∧ ∀ od, wE X e σ (upd H d (.frz od (.dK kvs))) fun v H1 => v = .ref d ∧ H1 = upd H d (.frz od (.dK kvs)) ∧ ∀ D, H1 D = none → ∃ Pv : Nat → Hp → Prop, Pv 0 (upd H1 D (.lst [])) ∧ (∀ t H, t ≤ kvs.length → Pv t H → H d = some (.frz od (.dK kvs))) ∧
      (∀ t p H, kvs[t]? = some p → Pv t H → ∀ X', At m N (relS scope sc) k X' → wE X' elt (σ.set i (some p.2)) H (App D (Pv (t + 1)))) ∧ ∀ H, Pv kvs.length H → Q (.ref D) (upd H d (.dK kvs)))
    (hbase : attributeBase e "values" X.env (eval e X.env) = eval e X.env := by with_unfolding_all rfl) (hline : (apos.endLine == p2.line) = true := by with_unfolding_all rfl)
    (hs : ∀ x, foldedSetIterable (.Call (.Attribute e "values" apos) [] [] p2) X.env x = pure x := by with_unfolding_all (intro _; rfl)) : wE X (.ListComp elt [⟨.Name x p1, .Call (.Attribute e "values" apos) [] [] p2, [], 0⟩] scope pos) σ H Q := by
  refine toE (pe_lock (pe_lc (own := [(x, i)]) (g := gName i) (tt := tYes) (te := inBlk m N (relS scope sc) k elt) h.calm (by rw [h.nn]; exact h.nd) (pi_values cE hbase hline) (by rw [h.nn, h.ss]; exact blkOk_by ok) (fun s H C cl fp => pg_nl (blk_at h s H C cl fp) n) (fun _ _ _ _ _ => pts_nil) (fun s H C cl fp => blk_pe h s H C cl fp) hs)) ?_
  obtain ⟨d, kvs, hd, q⟩ := q
  refine ⟨d, .dK kvs, hd, trivial, fun od => ?_⟩
  refine wE.mono (q od) fun v H1 ⟨ev, eH, go⟩ => ?_
  refine ⟨d, od, kvs, ev, by rw [eH]; exact upd_same, fun D hD => ?_⟩
  obtain ⟨Pv, p0, st, turn, fin⟩ := go D hD
  refine lc_it walk_values (g := gName i) (tt := tYes) (te := inBlk m N (relS scope sc) k elt) (vs := [i]) (σ := σ) Pv p0 st (fun t z H H' ht hp y => ?_) fun H hp => ⟨st _ _ (Nat.le_refl _) hp, fin H hp⟩
  obtain ⟨rfl, kk, hk⟩ := y
  refine ⟨by rw [wipe1]; simp [wipe, List.set_set], ?_⟩
  unfold tYes
  refine iteT fun X' hX' => ?_
  rw [set_wipe]
  exact turn t (kk, z) H' hk hp X' hX'
theorem set2_wipe {u w : V} : ((wipe σ [i, j]).set i (some u)).set j (some w) = (σ.set i (some u)).set j (some w) := by
  by_cases c : i = j
  · subst c; simp [wipe, List.set_set]
  · simp [wipe, List.set_set, List.set_comm _ _ c]
theorem wipe2 {u w : V} : wipe ((σ.set i (some u)).set j (some w)) [i, j] = wipe σ [i, j] := by
  by_cases c : i = j
  · subst c; simp [wipe, List.set_set]
  · simp [wipe, List.set_set, List.set_comm _ _ c]
/-- [elt for x, y in xs], xs a list of pairs -/
theorem w_lcP {k1 : Nat} (h : At m N sc k X) (ok : blkC N sc scope [(x, i), (y, j)] = true) (n1 : NL N (relS scope sc) i x) (n2 : NL N (relS scope sc) j y)
    (q : wE X iter σ H fun v H1 => ∃ (a : Addr) (xs : List V), v = .ref a ∧ SqL m.K H1 a xs ∧ ∀ D, H1 D = none → ∃ Pv : Nat → Hp → Prop, Pv 0 (upd H1 D (.lst [])) ∧ (∀ t H, t ≤ xs.length → Pv t H → SqL m.K H a xs) ∧
      (∀ t z H, xs[t]? = some z → Pv t H → ∃ p u w, z = .ref p ∧ SqT m.K H p [u, w] ∧ ∀ X', At m N (relS scope sc) k X' → wE X' elt ((σ.set i (some u)).set j (some w)) H (App D (Pv (t + 1)))) ∧ ∀ H, Pv xs.length H → Q (.ref D) H)
    (hs : ∀ x, foldedSetIterable iter X.env x = pure x := by with_unfolding_all (intro _; rfl)) : wE X (.ListComp elt [⟨.Tuple [.Name x p1, .Name y p2] k1 p3, iter, [], 0⟩] scope pos) σ H Q := by
  refine toE (pe_lc (own := [(x, i), (y, j)]) (g := gTup X.K 2 (gCons (gName i) (gCons (gName j) gNil))) (tt := tYes) (te := inBlk m N (relS scope sc) k elt) h.calm (by rw [h.nn]; exact h.nd) (pi_list cE) (by rw [h.nn, h.ss]; exact blkOk_by ok) (fun s H C cl fp => pg_tup (blk_at h s H C cl fp).calm (pgs_cons (pg_nl (blk_at h s H C cl fp) n1) (pgs_cons (pg_nl (blk_at h s H C cl fp) n2) pgs_nil (by with_unfolding_all rfl)) (by with_unfolding_all rfl)) (by with_unfolding_all rfl) (by with_unfolding_all rfl)) (fun _ _ _ _ _ => pts_nil) (fun s H C cl fp => blk_pe h s H C cl fp) hs) ?_
  refine wE.mono q fun v H1 ⟨a, xs, ea, hl, go⟩ => ⟨a, ea, ⟨xs, by rw [h.kk]; exact hl⟩, fun D hD => ?_⟩
  obtain ⟨Pv, p0, st, turn, fin⟩ := go D hD
  refine lc_list (K := X.K) (a := a) (xs := xs) (g := gTup X.K 2 (gCons (gName i) (gCons (gName j) gNil))) (tt := tYes) (te := inBlk m N (relS scope sc) k elt) (vs := [i, j]) (σ := σ) Pv p0 (fun j H hj hp => by rw [h.kk]; exact st j H hj hp) (fun t z H hz hp => ?_) fin
  obtain ⟨p, u, w, rfl, hp2, go2⟩ := turn t z H hz hp
  refine ⟨p, [u, w], rfl, by show SqT X.K H p [u, w]; rw [h.kk]; exact hp2, rfl, u, [w], rfl, w, [], rfl, rfl, ?_⟩
  rw [set2_wipe]
  refine ⟨wipe2, ?_⟩
  unfold tYes
  exact iteT fun X' hX' => go2 X' hX'
/-- z = [elt for x, y in xs] -/
theorem s_lcP {k1 l : Nat} {y0 : Str} {py spos : Pos} (h : At m N sc k X) (nl : NL N sc l y0) (ok : blkC N sc scope [(x, i), (y, j)] = true) (n1 : NL N (relS scope sc) i x) (n2 : NL N (relS scope sc) j y)
    (q : wE X iter σ H fun v H1 => ∃ (a : Addr) (xs : List V), v = .ref a ∧ SqL m.K H1 a xs ∧ ∀ D, H1 D = none → ∃ Pv : Nat → Hp → Prop, Pv 0 (upd H1 D (.lst [])) ∧ (∀ t H, t ≤ xs.length → Pv t H → SqL m.K H a xs) ∧
      (∀ t z H, xs[t]? = some z → Pv t H → ∃ p u w, z = .ref p ∧ SqT m.K H p [u, w] ∧ ∀ X', At m N (relS scope sc) k X' → wE X' elt ((σ.set i (some u)).set j (some w)) H (App D (Pv (t + 1)))) ∧ ∀ H, Pv xs.length H → nx (σ.set l (some (.ref D))) H)
    (hs : ∀ x, foldedSetIterable iter X.env x = pure x := by with_unfolding_all (intro _; rfl)) (hk : sc.kind = .function := by with_unfolding_all rfl) (hl : (py.line == pos.line) = true := by with_unfolding_all rfl) (ha : (scope.names.any fun (n, k) => n == y0 && (k == .local || k == .cell)) = false := by with_unfolding_all (decide +kernel)) : wS X (.Assign [.Name y0 py] (.ListComp elt [⟨.Tuple [.Name x p1, .Name y p2] k1 p3, iter, [], 0⟩] scope pos) spos) ⟨nx, rt, bk, ct⟩ σ H := by
  refine toS (ps_setLc (i := l) (y := y0) (py := py) (own := [(x, i), (y, j)]) (g := gTup X.K 2 (gCons (gName i) (gCons (gName j) gNil))) (tt := tYes) (te := inBlk m N (relS scope sc) k elt) h.calm (by rw [h.nn]; exact h.nd) (by rw [h.nn]; exact nl.ix) (by rw [h.ss]; exact nl.loc) (sw_true (by rw [h.ss]; exact hk) (by rw [h.ss]; exact nl.loc) hl ha) (pi_list cE) (by rw [h.nn, h.ss]; exact blkOk_by ok) (fun s H C cl fp => pg_tup (blk_at h s H C cl fp).calm (pgs_cons (pg_nl (blk_at h s H C cl fp) n1) (pgs_cons (pg_nl (blk_at h s H C cl fp) n2) pgs_nil (by with_unfolding_all rfl)) (by with_unfolding_all rfl)) (by with_unfolding_all rfl) (by with_unfolding_all rfl)) (fun _ _ _ _ _ => pts_nil) (fun s H C cl fp => blk_pe h s H C cl fp) hs) ?_
  refine wE.mono q fun v H1 ⟨a, xs, ea, hl, go⟩ => ⟨a, ea, ⟨xs, by rw [h.kk]; exact hl⟩, fun D hD => ?_⟩
  obtain ⟨Pv, p0, st, turn, fin⟩ := go D hD
  refine lc_list (K := X.K) (a := a) (xs := xs) (g := gTup X.K 2 (gCons (gName i) (gCons (gName j) gNil))) (tt := tYes) (te := inBlk m N (relS scope sc) k elt) (vs := [i, j]) (σ := σ) Pv p0 (fun j H hj hp => by rw [h.kk]; exact st j H hj hp) (fun t z H hz hp => ?_) fin
  obtain ⟨p, u, w, rfl, hp2, go2⟩ := turn t z H hz hp
  refine ⟨p, [u, w], rfl, by show SqT X.K H p [u, w]; rw [h.kk]; exact hp2, rfl, u, [w], rfl, w, [], rfl, rfl, ?_⟩
  rw [set2_wipe]
  refine ⟨wipe2, ?_⟩
  unfold tYes
  exact iteT fun X' hX' => go2 X' hX'
/-- [elt for x, y in xs if c] -/
theorem w_lcPi {k1 : Nat} (h : At m N sc k X) (ok : blkC N sc scope [(x, i), (y, j)] = true) (n1 : NL N (relS scope sc) i x) (n2 : NL N (relS scope sc) j y)
    (q : wE X iter σ H fun v H1 => ∃ (a : Addr) (xs : List V), v = .ref a ∧ SqL m.K H1 a xs ∧ ∀ D, H1 D = none → ∃ Pv : Nat → Hp → Prop, Pv 0 (upd H1 D (.lst [])) ∧ (∀ t H, t ≤ xs.length → Pv t H → SqL m.K H a xs) ∧
      (∀ t z H, xs[t]? = some z → Pv t H → ∃ p u w, z = .ref p ∧ SqT m.K H p [u, w] ∧ ∀ X', At m N (relS scope sc) k X' → wT X' c ((σ.set i (some u)).set j (some w)) H fun b H3 => if b = true then (∀ X', At m N (relS scope sc) k X' → wE X' elt ((σ.set i (some u)).set j (some w)) H3 (App D (Pv (t + 1)))) else Pv (t + 1) H3) ∧ ∀ H, Pv xs.length H → Q (.ref D) H)
    (hs : ∀ x, foldedSetIterable iter X.env x = pure x := by with_unfolding_all (intro _; rfl)) : wE X (.ListComp elt [⟨.Tuple [.Name x p1, .Name y p2] k1 p3, iter, [c], 0⟩] scope pos) σ H Q := by
  refine toE (pe_lc (own := [(x, i), (y, j)]) (g := gTup X.K 2 (gCons (gName i) (gCons (gName j) gNil))) (tt := inBlkT m N (relS scope sc) k c) (te := inBlk m N (relS scope sc) k elt) h.calm (by rw [h.nn]; exact h.nd) (pi_list cE) (by rw [h.nn, h.ss]; exact blkOk_by ok) (fun s H C cl fp => pg_tup (blk_at h s H C cl fp).calm (pgs_cons (pg_nl (blk_at h s H C cl fp) n1) (pgs_cons (pg_nl (blk_at h s H C cl fp) n2) pgs_nil (by with_unfolding_all rfl)) (by with_unfolding_all rfl)) (by with_unfolding_all rfl) (by with_unfolding_all rfl)) (fun s H C cl fp => pts_one (blk_pt h s H C cl fp)) (fun s H C cl fp => blk_pe h s H C cl fp) hs) ?_
  refine wE.mono q fun v H1 ⟨a, xs, ea, hl, go⟩ => ⟨a, ea, ⟨xs, by rw [h.kk]; exact hl⟩, fun D hD => ?_⟩
  obtain ⟨Pv, p0, st, turn, fin⟩ := go D hD
  refine lc_list (K := X.K) (a := a) (xs := xs) (g := gTup X.K 2 (gCons (gName i) (gCons (gName j) gNil))) (tt := inBlkT m N (relS scope sc) k c) (te := inBlk m N (relS scope sc) k elt) (vs := [i, j]) (σ := σ) Pv p0 (fun j H hj hp => by rw [h.kk]; exact st j H hj hp) (fun t z H hz hp => ?_) fin
  obtain ⟨p, u, w, rfl, hp2, go2⟩ := turn t z H hz hp
  refine ⟨p, [u, w], rfl, by show SqT X.K H p [u, w]; rw [h.kk]; exact hp2, rfl, u, [w], rfl, w, [], rfl, rfl, ?_⟩
  rw [set2_wipe]
  exact ⟨wipe2, fun X' hX' => go2 X' hX'⟩
/-- for x, y in enumerate(e): the pair is new each time -/
theorem s_forEn {elts : List Expr} {kk : Nat} {g : TG} {po : Pos} {body : List Stmt} (h : At m N sc k X) (hg : PG X (.Tuple elts kk tpos) g) (hm : m.mg "enumerate" = none) (hgl : sc.names.lookup ("enumerate" : Str) = some .globalImplicit)
    (q : wE X e σ H fun v H1 => ∃ (a : Addr) (xs : List V), v = .ref a ∧ SqL m.K H1 a xs ∧ ∃ Pv : Nat → L2.St → Hp → Prop, Pv 0 σ H1 ∧ (∀ t σ H, t ≤ xs.length → Pv t σ H → SqL m.K H a xs) ∧
      (∀ (t : Nat) (z : V) (T : Addr) (σ : L2.St) (H : Hp), xs[t]? = some z → Pv t σ H → H T = none → g (.ref T) σ (upd H T (.tup [.int t, z])) fun σ2 H2 => wB X body ⟨Pv (t + 1), rt, nx, Pv (t + 1)⟩ σ2 H2) ∧ ∀ σ H, Pv xs.length σ H → nx σ H)
    (hs : starEach [e] X.env = [(false, eval e X.env)] := by with_unfolding_all rfl) (hf : ∀ x, foldedSetIterable (.Call (.Name "enumerate" p1) [e] [] p2) X.env x = pure x := by with_unfolding_all (intro _; rfl)) :
    wS X (.For (.Tuple elts kk tpos) (.Call (.Name "enumerate" p1) [e] [] p2) body [] po) ⟨nx, rt, bk, ct⟩ σ H := by
  refine toS (ps_for h.pass h.calm (pi_enum (h.gl hgl) (by rw [h.mm]; exact hm) (pa_cons cE pa_nil hs) hs) hg cB hf) ?_
  refine wE.mono q fun v H1 ⟨a, xs, ea, hl, Pv, p0, st, turn, fin⟩ => ⟨a, xs, by rw [ea], by rw [h.kk]; exact hl, ?_⟩
  refine for_it (walk_enum (K := X.K) (a := a) (xs := xs)) Pv p0 (fun t σ H ht hp => by rw [h.kk]; exact st t σ H ht hp) (fun t z σ H H' ht hp y => ?_) fin
  obtain ⟨T, u, w, rfl, hT, rfl, hu, hw⟩ := y
  have eu : V.int (t : Nat) = u := Option.some.inj hu
  rw [← eu]
  exact turn t w T σ H hw hp hT
/-- xs.extend(e) -/
theorem g_extend (q : wE X o σ H fun x H1 => tyV X.K "list" x H1 ∧ wA X [e] σ H1 fun ys H2 => ∃ l b xs zs, x = .ref l ∧ ys = [.ref b] ∧ H2 l = some (.lst xs) ∧ H2 b = some (.lst zs) ∧ xs.length + zs.length ≤ sizeLine ∧ Q .non (upd H2 l (.lst (xs ++ zs))))
    (hbase : attributeBase o "extend" X.env (eval o X.env) = eval o X.env := by with_unfolding_all rfl)
    (hfew : ((backTo pos (starEach [e] X.env)).all (fun x => !x.1) && (backToKw pos (keywordEach [] X.env)).all (fun x => x.1.isSome) && decide ([e].length + ([] : List Keyword).length + (if ([] : List Keyword).isEmpty then 0 else 1) < 30)) = true := by with_unfolding_all rfl)
    (hline : (apos.endLine == pos.line) = true := by with_unfolding_all rfl) (hs : starEach [e] X.env = (false, eval e X.env) :: starEach [] X.env := by with_unfolding_all rfl) (hplain : (backTo pos (starEach [] X.env)).any (·.1) = false := by with_unfolding_all rfl) : wE X (.Call (.Attribute o "extend" apos) [e] [] pos) σ H Q :=
  toE (pe_bm PySem.F.plainAttrs_list PySem.F.slot_list_extend PySem.F.type_list_extend mt_extend cE cA hbase hfew hline hs hplain) q
/-! dicts of texts -/
theorem w_dget (h : At m N sc k X) {ix : Expr} (q : wE X o σ H fun x H1 => wE X ix σ H1 fun y H2 => ∃ a v, x = .ref a ∧ DGet H2 a y (some v) ∧ Q v H2) (hns : NoSl ix := by with_unfolding_all exact fun _ _ => rfl) : wE X (.Subscript o ix pos) σ H Q := by
  refine toE (pe_dget h.hu cE cE hns) ?_
  exact wE.mono q fun x H1 q1 => wE.mono q1 fun y H2 q2 => q2
/-- d[y] at values -/
theorem g_ixD (h : At m N sc k X) {d : Addr} {y r : V} (g : DGet H d y (some r)) (q : Q r H) : gIx X (.ref d) y H Q := fun value slice pins s σ v u I rx ry hs => by
  obtain rfl : v = Value.ref d := rx
  have hT := dict_typeIs I g
  have h2 := d_getItem (E := X.xe) (A := X.A) h.hu I g ry (Q := EP X pins σ Q) fun w' s3 I3 rw' => ⟨r, H, I3, rw', q⟩
  unfold subscriptTail
  refine wpAny_bind ?_
  rw [getitemInPython_of_ne hT.not_modules]
  refine wpAny_bind (wpAny_specialOf hT PySem.F.slot_dict_getitem.lookup ?_)
  have fin : wpAny (model X.prog X.w) X.A (subscripted slice false (.ref d) u) (fun r s3 => wpAny (model X.prog X.w) X.A (letTemporaryGo value (.ref d) r >>= fun _ => pure r) (EP X pins σ Q) X.xe s3) X.xe s := by
    rw [hs]
    exact wpAny_operating (wpAny_mono h2 (fun r s3 h3 => wpAny_bind (wpAny_letTemporaryGo (wpAny_pure h3))) fun _ _ x => x)
  first
    | exact wpAny_pure (wpAny_bind fin)
    | exact wpAny_bind (wpAny_pure (wpAny_bind fin))
    | exact wpAny_bind fin
theorem g_notInD (h : At m N sc k X) {d : Addr} {kvs : List (Key × V)} {z : Str} (hd : H d = some (.dK kvs)) (q : Q (.bl (!(valV kvs (.inr z)).isSome)) H) : gOp X (compareOp .NotIn) (.str z) (.ref d) H Q := by
  intro pins s σ v u I rx ry
  obtain rfl : u = Value.ref d := ry
  have hu := h.hu
  exact d_notIn hu I (DGet.k (k := .inr z) hd) rx fun s3 I3 => ⟨.bl _, _, I3, rfl, q⟩
theorem g_inD (h : At m N sc k X) {d : Addr} {kvs : List (Key × V)} {z : Str} (hd : H d = some (.dK kvs)) (q : Q (.bl (valV kvs (.inr z)).isSome) H) : gOp X (compareOp .In) (.str z) (.ref d) H Q := by
  intro pins s σ v u I rx ry
  obtain rfl : u = Value.ref d := ry
  have hu := h.hu
  exact d_in hu I (DGet.k (k := .inr z) hd) rx fun s3 I3 => ⟨.bl _, _, I3, rfl, q⟩
theorem s_dput (h : At m N sc k X) {ix : Expr} (q : wE X e σ H fun v H1 => wE X o σ H1 fun x H2 => wE X ix σ H2 fun y H3 => ∃ a H4, x = .ref a ∧ DPut H3 a y v H4 ∧ nx σ H4)
    (hs : swapsWith e (some (.Subscript o ix p1)) pos.line X.env = pure false := by with_unfolding_all rfl) : wS X (.Assign [.Subscript o ix p1] e pos) ⟨nx, rt, bk, ct⟩ σ H := by
  refine toS (ps_dput h.hu cE cE cE hs) ?_
  exact wE.mono q fun v H1 q1 => wE.mono q1 fun x H2 q2 => wE.mono q2 fun y H3 q3 => q3
theorem g_dictD (h : At m N sc k X) {d : Addr} {kvs : List (Key × V)} (hd : H d = some (.dK kvs)) (q : ∀ p, H p = none → Q (.ref p) (upd H p (.dK kvs))) : gCall X (.type "dict") [.ref d] H Q := ⟨_, call_dictD, d, kvs, rfl, .inl hd, q⟩
theorem g_dictP (h : At m N sc k X) {l : Addr} {ps : List Addr} {kvs : List (Key × V)} (hl : SqL m.K H l (ps.map V.ref)) (hp : Paired (fun p kv => SqT m.K H p [kV kv.1, kv.2]) ps kvs) (q : ∀ p, H p = none → Q (.ref p) (upd H p (.dK (mergeK [] kvs)))) : gCall X (.type "dict") [.ref l] H Q :=
  ⟨_, call_dictP h.calm, l, ps, kvs, rfl, by rw [h.kk]; exact hl, by rw [h.kk]; exact hp, q⟩
theorem g_sortedD (h : At m N sc k X) {d : Addr} {kvs : List (Key × V)} {ks : List Str} (hd : H d = some (.dK kvs)) (hk : kvs.map (·.1) = ks.map Sum.inr) (hl : ks.length < 64) (q : ∀ ys p, ys.Perm ks → sortedS ys = true → H p = none → Q (.ref p) (upd H p (.lst (ys.map V.str)))) : gCall X (.builtin "sorted") [.ref d] H Q :=
  ⟨_, call_sortedD h.calm, d, kvs, ks, rfl, .inl hd, hk, hl, q⟩
theorem g_sortedI (h : At m N sc k X) {l : Addr} {ns : List Int} (hl : SqL m.K H l (ns.map V.int)) (q : ∀ (ns' : List Int) (p : Addr), ns'.Perm ns → ns'.Pairwise (· ≤ ·) → H p = none → Q (.ref p) (upd H p (.lst (ns'.map V.int)))) : gCall X (.builtin "sorted") [.ref l] H Q :=
  ⟨_, cr_sortedI, l, ns, rfl, by rw [h.kk]; exact hl, q⟩
theorem g_sortedS (h : At m N sc k X) {l : Addr} {xs : List Str} (hl : SqL m.K H l (xs.map V.str)) (h64 : xs.length < 64) (q : ∀ (ys : List Str) (p : Addr), ys.Perm xs → sortedS ys = true → H p = none → Q (.ref p) (upd H p (.lst (ys.map V.str)))) : gCall X (.builtin "sorted") [.ref l] H Q :=
  ⟨_, cr_sortedS, l, xs, rfl, by rw [h.kk]; exact hl, h64, q⟩
end
theorem ltCps_total {a b : Str} (h1 : ltCps a.cps.toList b.cps.toList = false) (h2 : ltCps b.cps.toList a.cps.toList = false) : a = b := by
  rw [ltCps_eq, decide_eq_false_iff_not] at h1 h2
  have e : a.cps.toList = b.cps.toList := List.le_antisymm (List.not_lt.mp h2) (List.not_lt.mp h1)
  cases a
  cases b
  have e2 := Array.toList_inj.mp e
  simp only at e2
  rw [e2]
theorem rising_pw : ∀ (l : List Str) (p : Str), risingS p l = true → (p :: l).Pairwise (fun a b => ltCps b.cps.toList a.cps.toList = false)
  | [], p, _ => List.pairwise_singleton _ _
  | x :: r, p, h => by
    have h' : (!ltCps x.cps.toList p.cps.toList && risingS x r) = true := h
    rw [Bool.and_eq_true, Bool.not_eq_true'] at h'
    have ih := rising_pw r x h'.2
    refine List.pairwise_cons.mpr ⟨fun y hy => ?_, ih⟩
    rcases List.mem_cons.mp hy with e | e
    · rw [e]; exact h'.1
    · have h2 := List.rel_of_pairwise_cons ih e
      have h1 := h'.1
      rw [ltCps_eq, decide_eq_false_iff_not] at h1 h2 ⊢
      exact List.not_lt.mpr (List.le_trans (List.not_lt.mp h1) (List.not_lt.mp h2))
theorem sorted_pw : ∀ (l : List Str), sortedS l = true → l.Pairwise (fun a b => ltCps b.cps.toList a.cps.toList = false)
  | [], _ => List.Pairwise.nil
  | x :: r, h => rising_pw r x h
/-- sorted lists of the same texts are one list -/
theorem sorted_same {l r : List Str} (p : l.Perm r) (h1 : sortedS l = true) (h2 : sortedS r = true) : l = r :=
  p.eq_of_pairwise (le := fun a b => ltCps b.cps.toList a.cps.toList = false) (fun a b _ _ x y => ltCps_total y x) (sorted_pw l h1) (sorted_pw r h2)
theorem perm_nodup {l r : List Str} (n1 : l.Nodup) (n2 : r.Nodup) (h : ∀ y, y ∈ l ↔ y ∈ r) : l.Perm r := (List.perm_ext_iff_of_nodup n1 n2).mpr h
end Vf
set_option maxRecDepth 100000
set_option maxHeartbeats 4000000
/-! Nel: != of two lists whose items are equal at any depth, dicts among them. Own work. -/
namespace Vq
open PySem PySem.SeqAt
open AutoSeq1 (wpAny_loadPart')
open MeetsSeq MeetsSeq2 MeetsSeq3 SeqRoads2
section
variable {prog : Program} {w : World}
theorem ne_loop (l b : Addr) (xs ys : Array Value) (n n2 : Nat) (dd dd2 : Option Addr) (sl sl2 : Array (Option Value)) (sz : xs.size = ys.size) (k : Nat) :
    ∀ i : Nat, xs.size - i = k → MeetsIn prog w (Builtin.«list.__eq__.loop» ⟨[.ref l, .ref b, rawInt i, rawInt 3], []⟩)
      (fun A R s => s.heap.get? l = some { cls := .type "list", dict := dd, data := .seq xs n, slots := sl } ∧ s.heap.get? b = some { cls := .type "list", dict := dd2, data := .seq ys n2, slots := sl2 } ∧
        (∀ j (h1 : j < xs.size) (h2 : j < ys.size), EqP prog w A.in1 s xs[j] ys[j] true) ∧ R (.ok (.ret (.bool false))) s) := by
  induction k with
  | zero =>
    rintro i hk A R ⟨hp, g, d, tk, os⟩ ⟨hl, hb, he, h⟩
    wp_walk using wpAny_loadPart' hl, wpAny_loadPart' hb
    rw [show xs[((i : Nat) : Int).toNat]? = none from by simp; omega, show ys[((i : Nat) : Int).toNat]? = none from by simp; omega]
    wp_walk using wpAny_loadPart' hl, wpAny_loadPart' hb
    show R (.ok (.ret (.bool (xs.size != ys.size)))) _
    rw [show (xs.size != ys.size) = false from by simp [sz]]
    exact h
  | succ k ih =>
    rintro i hk A R ⟨hp, g, d, tk, os⟩ ⟨hl, hb, he, h⟩
    wp_walk using wpAny_loadPart' hl, wpAny_loadPart' hb
    have l1 : i < xs.size := by omega
    have l2 : i < ys.size := by omega
    rw [show xs[((i : Nat) : Int).toNat]? = some xs[i] from by simp [l1], show ys[((i : Nat) : Int).toNat]? = some ys[i] from by simp [l2]]
    refine wpAny_bind (he i l1 l2 _ _ ?_)
    wp_walk
    rw [show ((i : Int) + 1) = ((i + 1 : Nat) : Int) from by push_cast; rfl]
    exact ⟨plainId_quiet plain_eq_loop _, codeAny_builtin entry_eq_loop (by
      rw [Around.under_plainId plain_eq_loop _]
      exact ih (i + 1) (by omega) A R _ ⟨hl, hb, he, h⟩)⟩
theorem list_ne (l b : Addr) (xs ys : Array Value) (n n2 : Nat) (dd dd2 : Option Addr) (sl sl2 : Array (Option Value)) (sz : xs.size = ys.size) :
    MeetsIn prog w (Builtin.«list.__ne__» ⟨[.ref l, .ref b], []⟩)
      (fun A R s => s.heap.get? l = some { cls := .type "list", dict := dd, data := .seq xs n, slots := sl } ∧ s.heap.get? b = some { cls := .type "list", dict := dd2, data := .seq ys n2, slots := sl2 } ∧
        (∀ j (h1 : j < xs.size) (h2 : j < ys.size), EqP prog w A.in1 s xs[j] ys[j] true) ∧ R (.ok (.ret (.bool false))) s) := by
  rintro A R ⟨hp, g, d, tk, os⟩ ⟨hl, hb, he, h⟩
  have f3 := AutoSeq1.sub_list_list
  have hne : ¬ (xs.size != ys.size) = true := by simp [sz]
  wp_walk using wpAny_loadPart' hl, wpAny_loadPart' hb
  exact ⟨plainId_quiet plain_eq_loop _, codeAny_builtin entry_eq_loop (by
    rw [Around.under_plainId plain_eq_loop _]
    exact ne_loop l b xs ys n n2 dd dd2 sl sl2 sz _ 0 rfl A R _ ⟨hl, hb, he, h⟩)⟩
theorem ne_lists {A : Around} {s : Shared} {l b : Addr} {xs ys : Array Value} (hl : s.heap.IsList l xs) (hb : s.heap.IsList b ys) (sz : xs.size = ys.size) (hu : A.units < cLine)
    (he : ∀ j (h1 : j < xs.size) (h2 : j < ys.size), EqP prog w A.in1 s xs[j] ys[j] true) (E Q : Value → Shared → Prop) (h : Q (.bool false) s) : wpAny (model prog w) A (richCompare .NotEq (.ref l) (.ref b)) Q E s := by
  obtain ⟨⟨c1, d1, a1, s1⟩, o1, e1, n, f1⟩ := id hl
  obtain ⟨⟨c2, d2, a2, s2⟩, o2, e2, n2, f2⟩ := id hb
  simp only at e1 f1 e2 f2
  subst e1 f1 e2 f2
  have ta : s.TypeIs (.ref l) "list" := ⟨_, o1, rfl⟩
  exact wpAny_richCompare_same_room (op := .NotEq) ta ⟨_, o2, rfl⟩ F.slot_list_ne (call_meetsIn F.slot_list_ne ta F.entry_list_ne (F.args_list_ne_2 _ _) (list_ne l b xs ys n n2 d1 d2 s1 s2 sz)
    ⟨o1, o2, he, show Value.bool false ≠ Value.notImplemented ∧ Q (.bool false) s from ⟨(fun x => nomatch x), h⟩⟩) hu
end
end Vq
namespace Vf
open PySem PySem.Spec PyProof.Rows L2 LamX
/-- xs != ys, lists of equal items -/
theorem g_neLV {m : Md} {N : List Str} {sc : Scope} {k n : Nat} {X : Cx} {H : Hp} {Q : VK} (h : At m N sc k X) {a b : Addr} {xs ys : List V} (ha : SqL m.K H a xs) (hb : SqL m.K H b ys) (hn : n ≤ 60) (hp : Paired (EqV m.K H n) xs ys) (q : Q (.bl false) H) : gOp X (compareOp .NotEq) (.ref a) (.ref b) H Q := fun pins s σ v u I rx ry => by
  cases rx
  cases ry
  have hu := h.room.un
  obtain ⟨us, r1, p1, _⟩ := I.list (by rw [h.kk]; exact ha)
  obtain ⟨ws, r2, p2, _⟩ := I.list (by rw [h.kk]; exact hb)
  have sz : us.toArray.size = ws.toArray.size := by
    rw [List.size_toArray, List.size_toArray, ← r1.length, ← r2.length]
    exact Paired.length hp
  refine Vq.ne_lists p1.isList p2.isList sz (by omega) (fun j h1 h2 => ?_) _ _ ⟨.bl false, H, I, rfl, q⟩
  have key := items_run (P := X.prog) (w := X.w) (A := X.A.in1) (s := s) (F := EqV X.K H n) (fun x y v u e rx ry => eqV_run I n X.A.in1 (by show X.A.units + 1 + n < cLine; omega) x y v u e rx ry) (by rw [h.kk]; exact hp) r1 r2 j (by simpa using h1) (by simpa using h2)
  simpa using key
section
variable {m : Md} {N : List Str} {sc scope : Scope} {i j k : Nat} {X : Cx} {a b c e e2 o elt : Expr} {es : List Expr} {σ : L2.St} {H : Hp} {Q : VK} {pos p p1 p2 p3 tpos : Pos} {x y : Str} {body : List Stmt} {nx : L2.St → Hp → Prop} {rt : VK} {bk ct : L2.St → Hp → Prop} {k1 k2 v1 v2 : Expr}
/-- {k: v} -/
theorem w_disp1 (q : ∀ p, H p = none → wE X k1 σ (upd H p (.dK [])) fun x H1 => wE X v1 σ H1 fun v H2 => H2 p = some (.dK []) ∧ ∃ z : Str, x = .str z ∧ Q (.ref p) (upd H2 p (.dK [(.inr z, v)]))) : wE X (.Dict [some k1] [v1] pos) σ H Q := by
  refine toE (pe_disp (pps_cons (cE (X := X) (e := k1)) (cE (X := X) (e := v1)) pps_nil) rfl rfl (by simp) (by simp)) ?_
  intro p hp
  refine wE.mono (q p hp) fun x H1 q1 => wE.mono q1 fun v H2 ⟨h2, z, ex, q2⟩ => ?_
  subst ex
  exact ⟨h2, [(.inr z, v)], rfl, by simp, q2⟩
/-- {k: v, l: w}, two different texts -/
theorem w_disp2 (q : ∀ p, H p = none → wE X k1 σ (upd H p (.dK [])) fun x H1 => wE X v1 σ H1 fun v H2 => wE X k2 σ H2 fun y H3 => wE X v2 σ H3 fun w H4 => H4 p = some (.dK []) ∧ ∃ z1 z2 : Str, x = .str z1 ∧ y = .str z2 ∧ z1 ≠ z2 ∧ Q (.ref p) (upd H4 p (.dK [(.inr z1, v), (.inr z2, w)]))) : wE X (.Dict [some k1, some k2] [v1, v2] pos) σ H Q := by
  refine toE (pe_disp (pps_cons (cE (X := X) (e := k1)) (cE (X := X) (e := v1)) (pps_cons (cE (X := X) (e := k2)) (cE (X := X) (e := v2)) pps_nil)) rfl rfl (by simp) (by simp)) ?_
  intro p hp
  refine wE.mono (q p hp) fun x H1 q1 => wE.mono q1 fun v H2 q2 => wE.mono q2 fun y H3 q3 => wE.mono q3 fun w H4 ⟨h4, z1, z2, ex, ey, ne, q4⟩ => ?_
  subst ex
  subst ey
  refine ⟨h4, [(.inr z1, v), (.inr z2, w)], rfl, by simp, ?_⟩
  have e : mergeK [] [((.inr z1 : Key), v), (.inr z2, w)] = [(.inr z1, v), (.inr z2, w)] := by
    have n2 : (Sum.inr z1 : Key) ≠ .inr z2 := fun h => ne (by injection h)
    simp [mergeK, putK, n2]
  rw [e]
  exact q4
/-- y = [elt for x in range(a, b)] -/
theorem s_lcR2 {l : Nat} {y0 : Str} {py spos : Pos} (h : At m N sc k X) (hm : m.mg "range" = none) (hgl : sc.names.lookup ("range" : Str) = some .globalImplicit) (nl : NL N sc l y0) (ok : blkC N sc scope [(x, i)] = true) (n : NL N (relS scope sc) i x)
    (q : wA X [a, b] σ H fun vs H1 => ∃ z w : Int, vs = [.int z, .int w] ∧ (-(2 ^ 62) ≤ z ∧ z < 2 ^ 62 ∧ -(2 ^ 62) ≤ w ∧ w < 2 ^ 62) ∧ ∀ D, H1 D = none → ∃ Pv : Nat → Hp → Prop, Pv 0 (upd H1 D (.lst [])) ∧
      (∀ j H, j < (w - z).toNat → Pv j H → ∀ X', At m N (relS scope sc) k X' → wE X' elt (σ.set i (some (.int (z + j)))) H (App D (Pv (j + 1)))) ∧ ∀ H, Pv (w - z).toNat H → nx (σ.set l (some (.ref D))) H)
    (hst : starEach [a, b] X.env = [(false, eval a X.env), (false, eval b X.env)] := by with_unfolding_all rfl) (hst2 : starEach [b] X.env = [(false, eval b X.env)] := by with_unfolding_all rfl) (hs : ∀ x, foldedSetIterable (.Call (.Name "range" p2) [a, b] [] p3) X.env x = pure x := by with_unfolding_all (intro _; rfl)) (hk : sc.kind = .function := by with_unfolding_all rfl) (hl0 : (py.line == pos.line) = true := by with_unfolding_all rfl) (ha0 : (scope.names.any fun (n, k) => n == y0 && (k == .local || k == .cell)) = false := by with_unfolding_all (decide +kernel)) : wS X (.Assign [.Name y0 py] (.ListComp elt [⟨.Name x p1, .Call (.Name "range" p2) [a, b] [] p3, [], 0⟩] scope pos) spos) ⟨nx, rt, bk, ct⟩ σ H := by
  refine toS (ps_setLc (i := l) (y := y0) (py := py) (own := [(x, i)]) (g := gName i) (tt := tYes) (te := inBlk m N (relS scope sc) k elt) h.calm (by rw [h.nn]; exact h.nd) (by rw [h.nn]; exact nl.ix) (by rw [h.ss]; exact nl.loc) (sw_true (by rw [h.ss]; exact hk) (by rw [h.ss]; exact nl.loc) hl0 ha0) (pi_range2 (h.gl hgl) (by rw [h.mm]; exact hm) (cA (es := [a, b])) hst hst2) (by rw [h.nn, h.ss]; exact blkOk_by ok) (fun s H C cl fp => pg_nl (blk_at h s H C cl fp) n) (fun _ _ _ _ _ => pts_nil) (fun s H C cl fp => blk_pe h s H C cl fp) hs) ?_
  unfold wA at q ⊢
  refine fun pos pins s I => wpAny_mono (q pos pins s I) (fun v s' z => ?_) fun _ _ z => z
  obtain ⟨vs, H1, I1, r1, z, w, ev, hb, go⟩ := z
  refine ⟨vs, H1, I1, r1, z, w, ev, hb, fun D hD => ?_⟩
  obtain ⟨Pv, p0, turn, fin⟩ := go D hD
  refine lc_range (lo := z) (n := (w - z).toNat) (g := gName i) (tt := tYes) (te := inBlk m N (relS scope sc) k elt) (vs := [i]) (σ := σ) Pv p0 (fun j H hj hp => ?_) fin
  refine ⟨by rw [wipe1]; simp [wipe, List.set_set], ?_⟩
  unfold tYes
  refine iteT fun X' hX' => ?_
  rw [set_wipe]
  exact turn j H hj hp X' hX'
end
end Vf
set_option maxRecDepth 100000
set_option maxHeartbeats 4000000
/-! Dci: comprehensions over the items of a dict. Own work. -/
namespace Vf
open PySem PySem.Spec PyProof.Rows L2 LamX
section
variable {m : Md} {N : List Str} {sc scope : Scope} {k i j : Nat} {X : Cx} {a b c e f o elt iter : Expr} {es : List Expr} {σ : L2.St} {H : Hp} {Q : VK} {pos p p1 p2 p3 p4 apos tpos : Pos} {x y : Str} {nx : L2.St → Hp → Prop} {rt : VK} {bk ct : L2.St → Hp → Prop}
/-- [elt for x, y in d.items()]: the pair is new each time -/
theorem w_lcDi {k1 : Nat} (h : At m N sc k X) (ok : blkC N sc scope [(x, i), (y, j)] = true) (n1 : NL N (relS scope sc) i x) (n2 : NL N (relS scope sc) j y)
    (q : ∃ (d : Addr) (kvs : List (Key × V)), H d = some (.dK kvs) ∧ ∀ od, wE X e σ (upd H d (.frz od (.dK kvs))) fun v H1 => v = .ref d ∧ H1 = upd H d (.frz od (.dK kvs)) ∧ ∀ D, H1 D = none → ∃ Pv : Nat → Hp → Prop, Pv 0 (upd H1 D (.lst [])) ∧ (∀ t H, t ≤ kvs.length → Pv t H → H d = some (.frz od (.dK kvs))) ∧
      (∀ t p T H, kvs[t]? = some p → Pv t H → H T = none → ∀ X', At m N (relS scope sc) k X' → wE X' elt ((σ.set i (some (kV p.1))).set j (some p.2)) (upd H T (.tup [kV p.1, p.2])) (App D (Pv (t + 1)))) ∧ ∀ H, Pv kvs.length H → Q (.ref D) (upd H d (.dK kvs)))
    (hbase : attributeBase e "items" X.env (eval e X.env) = eval e X.env := by with_unfolding_all rfl) (hline : (apos.endLine == p4.line) = true := by with_unfolding_all rfl)
    (hs : ∀ x, foldedSetIterable (.Call (.Attribute e "items" apos) [] [] p4) X.env x = pure x := by with_unfolding_all (intro _; rfl)) : wE X (.ListComp elt [⟨.Tuple [.Name x p1, .Name y p2] k1 p3, .Call (.Attribute e "items" apos) [] [] p4, [], 0⟩] scope pos) σ H Q := by
  refine toE (pe_lock (pe_lc (own := [(x, i), (y, j)]) (g := gTup X.K 2 (gCons (gName i) (gCons (gName j) gNil))) (tt := tYes) (te := inBlk m N (relS scope sc) k elt) h.calm (by rw [h.nn]; exact h.nd) (pi_items cE hbase hline) (by rw [h.nn, h.ss]; exact blkOk_by ok) (fun s H C cl fp => pg_tup (blk_at h s H C cl fp).calm (pgs_cons (pg_nl (blk_at h s H C cl fp) n1) (pgs_cons (pg_nl (blk_at h s H C cl fp) n2) pgs_nil (by with_unfolding_all rfl)) (by with_unfolding_all rfl)) (by with_unfolding_all rfl) (by with_unfolding_all rfl)) (fun _ _ _ _ _ => pts_nil) (fun s H C cl fp => blk_pe h s H C cl fp) hs)) ?_
  obtain ⟨d, kvs, hd, q⟩ := q
  refine ⟨d, .dK kvs, hd, trivial, fun od => ?_⟩
  refine wE.mono (q od) fun v H1 ⟨ev, eH, go⟩ => ?_
  refine ⟨d, od, kvs, ev, by rw [eH]; exact upd_same, fun D hD => ?_⟩
  obtain ⟨Pv, p0, st, turn, fin⟩ := go D hD
  refine lc_it walk_items (g := gTup X.K 2 (gCons (gName i) (gCons (gName j) gNil))) (tt := tYes) (te := inBlk m N (relS scope sc) k elt) (vs := [i, j]) (σ := σ) Pv p0 st (fun t z H H' ht hp y => ?_) fun H hp => ⟨st _ _ (Nat.le_refl _) hp, fin H hp⟩
  obtain ⟨T, u, w, rfl, hT, rfl, hu, hw⟩ := y
  obtain ⟨q1, h1, h2⟩ := Option.map_eq_some_iff.1 hu
  obtain ⟨q2, h3, h4⟩ := Option.map_eq_some_iff.1 hw
  rw [h1] at h3
  cases h3
  subst h2 h4
  refine ⟨T, [kV q1.1, q1.2], rfl, SqT.of upd_same, rfl, kV q1.1, [q1.2], rfl, q1.2, [], rfl, rfl, ?_⟩
  rw [set2_wipe]
  refine ⟨wipe2, ?_⟩
  unfold tYes
  exact iteT fun X' hX' => turn t q1 T H h1 hp hT X' hX'
end
/-- d != e, two dicts of the same keys and equal values -/
theorem g_neDK {m : Md} {N : List Str} {sc : Scope} {k n : Nat} {X : Cx} {H : Hp} {Q : VK} (h : At m N sc k X) {a b : Addr} {ks ls : List (Key × V)} (ha : H a = some (.dK ks)) (hb : H b = some (.dK ls)) (hn : n ≤ 60) (hl : ks.length = ls.length) (hp : ∀ p ∈ ks, ∃ u, valV ls p.1 = some u ∧ EqV m.K H n p.2 u) (q : Q (.bl false) H) : gOp X (compareOp .NotEq) (.ref a) (.ref b) H Q := fun pins s σ v u I rx ry => by
  cases rx
  cases ry
  have hu := h.room.un
  obtain ⟨_, ya, va, ra, da⟩ := (show ObjOk X.prog X.w H s.heap a (.dK ks) from I.hok a _ ha)
  obtain ⟨_, yb, vb, rb, db⟩ := (show ObjOk X.prog X.w H s.heap b (.dK ls) from I.hok b _ hb)
  have e : va.length = vb.length := by rw [← ra.length, ← rb.length]; exact hl
  have hits : PySem.W.KeqHitsP X.prog X.w X.A.in1 s vb va true := hits_run (F := EqV X.K H n) (fun x y v u e rx ry => eqV_run I n X.A.in1 (by show X.A.units + 1 + n < cLine; omega) x y v u e rx ry) rb ra (by rw [h.kk]; exact hp)
  refine wpAny_richCompare_same_room (op := .NotEq) da.typeIs db.typeIs PySem.F.slot_dict_ne (wpAny_call_entry PySem.F.slot_dict_ne da.typeIs PySem.F.entry_dict_ne ?_ (PySem.F.args_dict_ne_2 _ _)) (by omega)
  show wpAny _ _ (Builtin.Dict.dictSlotArgs "__ne__" ⟨[.ref a, .ref b], []⟩ >>= _) _ _ s
  refine wpAny_bind ?_
  unfold Builtin.Dict.dictSlotArgs
  refine wpAny_bind (wpAny_notOrdered_dict da.typeIs ?_)
  show wpAny _ _ (pure (Value.ref a, Value.ref b)) _ _ s
  refine wpAny_pure ?_
  refine wpAny_bind (wpAny_isInstance (T := "dict") db.typeIs PySem.F.sub_dict_dict ?_)
  simp only [Bool.not_true, Bool.false_eq_true, if_false]
  refine wpAny_bind (wpAny_pure (wpAny_bind (wpAny_pure ?_)))
  refine wpAny_bind (PySem.W.samePairsP (knd := mixKind X.prog X.w) (r := true) ya yb da db (fun _ => hits) ?_)
  rw [show (va.length == vb.length && true) = true from by rw [e]; simp]
  refine wpAny_pure ⟨_, rfl, ?_, ?_⟩
  · exact fun x => nomatch x
  · exact ⟨.bl false, H, I, rfl, q⟩
end Vf
set_option maxRecDepth 100000
set_option maxHeartbeats 4000000
/-! Frd: for over a dict's keys; comprehensions over tuples with a test. Own work. -/
namespace Vf
open PySem PySem.Spec PyProof.Rows L2 LamX
section
variable {m : Md} {N : List Str} {sc scope : Scope} {k i j : Nat} {X : Cx} {a b c e f o elt iter tg : Expr} {es : List Expr} {body : List Stmt} {σ : L2.St} {H : Hp} {Q : VK} {pos po p p1 p2 p3 p4 apos tpos : Pos} {x y : Str} {nx : L2.St → Hp → Prop} {rt : VK} {bk ct : L2.St → Hp → Prop} {g : TG}
/-- for x in d, d a dict that the body leaves as it is -/
theorem s_forDk (h : At m N sc k X) (hg : PG X tg g)
    (q : ∃ (d : Addr) (kvs : List (Key × V)), H d = some (.dK kvs) ∧ ∀ od, wE X e σ (upd H d (.frz od (.dK kvs))) fun v H1 => v = .ref d ∧ H1 = upd H d (.frz od (.dK kvs)) ∧ ∃ Pv : Nat → L2.St → Hp → Prop, Pv 0 σ H1 ∧ (∀ t σ H, t ≤ kvs.length → Pv t σ H → H d = some (.frz od (.dK kvs))) ∧
      (∀ t p σ H, kvs[t]? = some p → Pv t σ H → g (kV p.1) σ H fun σ2 H2 => wB X body ⟨Pv (t + 1), fun v H' => H' d = some (.frz od (.dK kvs)) ∧ rt v (upd H' d (.dK kvs)), fun σ' H' => H' d = some (.frz od (.dK kvs)) ∧ nx σ' (upd H' d (.dK kvs)), Pv (t + 1)⟩ σ2 H2) ∧ ∀ σ H, Pv kvs.length σ H → nx σ (upd H d (.dK kvs)))
    (hf : ∀ x, foldedSetIterable e X.env x = pure x := by with_unfolding_all (intro _; rfl)) : wS X (.For tg e body [] po) ⟨nx, rt, bk, ct⟩ σ H := by
  refine toS (ps_lock (ps_for h.pass h.calm (pi_keys cE) hg cB hf)) ?_
  obtain ⟨d, kvs, hd, q⟩ := q
  refine ⟨d, .dK kvs, hd, trivial, fun od => ?_⟩
  refine wE.mono (q od) fun v H1 ⟨ev, eH, Pv, p0, st, turn, fin⟩ => ?_
  refine ⟨d, od, ev, .inl ⟨kvs, by rw [eH]; exact upd_same, ?_⟩⟩
  refine for_it walk_keys Pv p0 st (fun t z σ H H' ht hp y => ?_) fun σ H hp => ⟨st _ _ _ (Nat.le_refl _) hp, fin σ H hp⟩
  obtain ⟨rfl, kk, v, hk, rfl⟩ := y
  exact turn t (kk, v) σ H' hk hp
/-- [elt for x in t if c], t a tuple -/
theorem w_lcTi (h : At m N sc k X) (ok : blkC N sc scope [(x, i)] = true) (n : NL N (relS scope sc) i x)
    (q : wE X iter σ H fun v H1 => ∃ (a : Addr) (xs : List V), v = .ref a ∧ SqT m.K H1 a xs ∧ ∀ D, H1 D = none → ∃ Pv : Nat → Hp → Prop, Pv 0 (upd H1 D (.lst [])) ∧ (∀ j H, j ≤ xs.length → Pv j H → SqT m.K H a xs) ∧
      (∀ j x H, xs[j]? = some x → Pv j H → ∀ X', At m N (relS scope sc) k X' → wT X' c (σ.set i (some x)) H fun b H3 => if b = true then (∀ X', At m N (relS scope sc) k X' → wE X' elt (σ.set i (some x)) H3 (App D (Pv (j + 1)))) else Pv (j + 1) H3) ∧
      ∀ H, Pv xs.length H → Q (.ref D) H)
    (hs : ∀ x, foldedSetIterable iter X.env x = pure x := by with_unfolding_all (intro _; rfl)) : wE X (.ListComp elt [⟨.Name x p1, iter, [c], 0⟩] scope pos) σ H Q := by
  refine toE (pe_lc (own := [(x, i)]) (g := gName i) (tt := inBlkT m N (relS scope sc) k c) (te := inBlk m N (relS scope sc) k elt) h.calm (by rw [h.nn]; exact h.nd) (pi_tup cE) (by rw [h.nn, h.ss]; exact blkOk_by ok) (fun s H C cl fp => pg_nl (blk_at h s H C cl fp) n) (fun s H C cl fp => pts_one (blk_pt h s H C cl fp)) (fun s H C cl fp => blk_pe h s H C cl fp) hs) ?_
  refine wE.mono q fun v H1 ⟨a, xs, ea, hl, go⟩ => ⟨a, ea, ⟨xs, by rw [h.kk]; exact hl⟩, fun D hD => ?_⟩
  obtain ⟨Pv, p0, st, turn, fin⟩ := go D hD
  refine lc_tup (K := X.K) (a := a) (xs := xs) (g := gName i) (tt := inBlkT m N (relS scope sc) k c) (te := inBlk m N (relS scope sc) k elt) (vs := [i]) (σ := σ) Pv p0 (fun j H hj hp => by rw [h.kk]; exact st j H hj hp) (fun j z H hz hp => ?_) fin
  refine ⟨by rw [wipe1]; simp [wipe, List.set_set], fun X' hX' => ?_⟩
  have t := turn j z H hz hp X' hX'
  rw [set_wipe]
  exact t
/-- [elt for x in t], t a tuple -/
theorem w_lcT (h : At m N sc k X) (ok : blkC N sc scope [(x, i)] = true) (n : NL N (relS scope sc) i x)
    (q : wE X iter σ H fun v H1 => ∃ (a : Addr) (xs : List V), v = .ref a ∧ SqT m.K H1 a xs ∧ ∀ D, H1 D = none → ∃ Pv : Nat → Hp → Prop, Pv 0 (upd H1 D (.lst [])) ∧ (∀ j H, j ≤ xs.length → Pv j H → SqT m.K H a xs) ∧
      (∀ j x H, xs[j]? = some x → Pv j H → ∀ X', At m N (relS scope sc) k X' → wE X' elt (σ.set i (some x)) H (App D (Pv (j + 1)))) ∧ ∀ H, Pv xs.length H → Q (.ref D) H)
    (hs : ∀ x, foldedSetIterable iter X.env x = pure x := by with_unfolding_all (intro _; rfl)) : wE X (.ListComp elt [⟨.Name x p1, iter, [], 0⟩] scope pos) σ H Q := by
  refine toE (pe_lc (own := [(x, i)]) (g := gName i) (tt := tYes) (te := inBlk m N (relS scope sc) k elt) h.calm (by rw [h.nn]; exact h.nd) (pi_tup cE) (by rw [h.nn, h.ss]; exact blkOk_by ok) (fun s H C cl fp => pg_nl (blk_at h s H C cl fp) n) (fun _ _ _ _ _ => pts_nil) (fun s H C cl fp => blk_pe h s H C cl fp) hs) ?_
  refine wE.mono q fun v H1 ⟨a, xs, ea, hl, go⟩ => ⟨a, ea, ⟨xs, by rw [h.kk]; exact hl⟩, fun D hD => ?_⟩
  obtain ⟨Pv, p0, st, turn, fin⟩ := go D hD
  refine lc_tup (K := X.K) (a := a) (xs := xs) (g := gName i) (tt := tYes) (te := inBlk m N (relS scope sc) k elt) (vs := [i]) (σ := σ) Pv p0 (fun j H hj hp => by rw [h.kk]; exact st j H hj hp) (fun j z H hz hp => ?_) fin
  refine ⟨by rw [wipe1]; simp [wipe, List.set_set], ?_⟩
  unfold tYes
  refine iteT fun X' hX' => ?_
  rw [set_wipe]
  exact turn j z H hz hp X' hX'
end
end Vf
set_option maxRecDepth 100000
set_option maxHeartbeats 4000000
/-! Lam1: a lambda with one captured cell, handed on; what a lock changes. Own work. -/
namespace Vf
open PySem PySem.Spec PyProof.Rows L2 LamX NdefX
/-- a lambda that captures one name, handed to a def by its last argument: g(e1, lambda ..: ..) -/
theorem w_lamC {m : Md} {N : List Str} {sc : Scope} {j k kg iy : Nat} {X : Cx} {T : List (Addr × Str)} {c P : Addr} {x y xg : Str} {cdv : Value} {NL ps : List Str} {params : Arguments} {body e1 : Expr} {scope : Scope} {lpos p pos : Pos} {spw spg : Sp} {v : V} {σ : L2.St} {H : Hp} {Q : VK}
    (h : At m N sc j X) (hm' : AtM X x cdv) (TB : TabB m.base m.mg c P) (hcode : cdv = .ref c) (hm : (P, x ++ ".<locals>." ++ "<lambda>") ∈ T) (hu : ∀ p ∈ T, p.1 = P → p.2 = x ++ ".<locals>." ++ "<lambda>") (S : NScope NL ps [y] scope) (hy : (y, NameKind.free) ∈ scope.names)
    (hyN : N[iy]? = some y) (hyc : sc.names.lookup y = some .cell) (hyv : σ[iy]? = some (some v))
    (hb : ∀ (c' : Addr) (cl : List (Str × Addr)) (pm ctv : Value) (us : List Value), us.length = ps.length → bindArgs (LF.fd ⟨x ++ ".<locals>." ++ "<lambda>", params, body, scope, cl, c'⟩ pm ctv) ⟨us, []⟩ = pure (ps.zip us))
    (hlen : ∀ vs H Q E, spw vs H Q E → vs.length = ps.length) (hbody : ∀ (X : Cx) (vs : List V) (H : Hp) (Q : VK), At m NL scope k X → spw vs H Q C8.E0 → wE X body (startF NL vs [some v]) H Q)
    (g : Cal m kg xg spg) (hkg : kg ≤ j) (hgl : sc.names.lookup xg = some .globalImplicit)
    (q : wE X e1 σ H fun v1 H1 => Tabs T H1 ∧ ∀ (f ca : Addr) (o : Obj) (H2 : Hp), H1 ca = none → ExtN H1 H2 → (∀ b, H2 b = none → H1 b = none) → Tabs T H2 → H2 ca = some (lkO o) →
      Callable m (k + 1) f (fun vs H Q E => H ca = some (lkO o) ∧ spw vs (dl H ca) (fun v H' => H' ca = none → Q v (upd H' ca (lkO o))) E) H2 → spg [v1, .ref f] H2 (fun v H3 => Q v (dl H3 ca)) C8.E0)
    (hdef : defaultsOf params X.env = ([], []) := by with_unfolding_all rfl) (hdb : (xg == ("__debug__" : Str)) = false := by with_unfolding_all decide)
    (he : starEach [e1, .Lambda params body scope lpos] X.env = (false, eval e1 X.env) :: starEach [.Lambda params body scope lpos] X.env := by with_unfolding_all rfl) (he2 : starEach [.Lambda params body scope lpos] X.env = [(false, eval (.Lambda params body scope lpos) X.env)] := by with_unfolding_all rfl)
    (hpl : (backTo pos (starEach [.Lambda params body scope lpos] X.env)).any (·.1) = false := by with_unfolding_all rfl) : wE X (.Call (.Name xg p) [e1, .Lambda params body scope lpos] [] pos) σ H Q := by
  subst hcode
  obtain ⟨fg, fdg, psg, dsg, Fg, hmg, kpg, bg, dg⟩ := g.ex
  unfold wE
  intro pins s I
  have bs0 := I.ok
  refine wpAny_Call_Name_kw (ld_glob (u := .ref fg) I (h.gl hgl) (by rw [h.mm]; exact hmg) ?_ hdb)
  refine PySem.W.callWith_K (h₀ := X.base) I.ok.mod.kin (by rw [h.kk]; exact kpg) ?_ he hpl
  rw [he]
  show wpAny _ _ (spliced ((false, eval e1 X.env) :: backTo pos (starEach [.Lambda params body scope lpos] X.env))) _ _ s
  refine Calls.spliced_cons (thn ((cE (X := X) (e := e1)).run pins s σ H _ I q) fun u1 s1 ⟨v1, H1, I1, r1, hT, q1⟩ => ?_)
  rw [he2]
  show wpAny _ _ (spliced ((false, eval (.Lambda params body scope lpos) X.env) :: backTo pos [])) _ _ s1
  have hq : X.env.qual ++ "<lambda>" = x ++ ".<locals>." ++ "<lambda>" := by rw [hm'.qual]
  have hfree : ∀ z ∈ scope.names, z.2 = .free → X.env.scope.names.lookup z.1 = some .cell ∨ X.env.scope.names.lookup z.1 = some .free := fun z hz e => by
    have := S.free z hz e
    simp only [List.mem_singleton] at this
    rw [this, h.ss]; exact .inl hyc
  have hfree' : ∀ z ∈ scope.names, z.2 = .free → ∃ c, X.env.cells.lookup z.1 = some c := fun z hz e => (hfree z hz e).elim (fun k => I1.ok.has _ (.inl k)) fun k => I1.ok.has _ (.inr k)
  refine Calls.spliced_cons (lam_make3 (T := T) (c := c) (P := P) I1 (by rw [h.bb, h.mm]; exact TB) hm'.code (by rw [hq]; exact hm) (by rw [hq]; exact hu) hT hdef hfree' fun f c' H2 s2 I2 eN T2 f0 f1 c1 nn => ?_)
  refine Calls.spliced_nil ⟨I2.kIn, ?_⟩
  rw [hq] at f1 c1
  -- the captured cell
  have cp : Caps X (cloFrom X.env.cells scope.names []) [y] [iy] := Caps.made I2.ok hfree (fun z hz => by simp only [List.mem_singleton] at hz; subst hz; exact hy) (by simp [h.nn, hyN])
  have C := cells_of I2 cp
  obtain ⟨ca, hca, hval⟩ := C.has 0 y rfl
  have eslot : slotAt σ iy = some v := slotAt_of hyv
  obtain ⟨u, ru, o, ho, hod⟩ := hval v (by show ([iy].map (slotAt σ))[0]? = _; simp [eslot])
  have nca : H2 ca = none := (C.all y ca hca).1
  have nca1 : H1 ca = none := nn ca nca
  have hX : X.env.cells.lookup y = some ca := cp.sub y ca hca
  have only : ∀ y' c'', (cloFrom X.env.cells scope.names []).lookup y' = some c'' → y' = y := fun y' c'' e => by
    rcases cloFrom_mem (PySem.mem_of_lookup e) with z | ⟨z, _⟩
    · cases z
    · simpa using S.free (y', .free) z rfl
  have cs0 : X.s_0.heap.objs.size ≤ ca := I2.ok.cab y ca (hm'.fn y) hX
  have ncb : ∀ b ob, X.base.get? b = some ob → b ≠ ca := fun b ob e z => by
    subst z
    exact absurd (Nat.lt_of_lt_of_le (Heap.lt_size e) (Nat.le_trans I2.ok.bsz cs0)) (Nat.lt_irrefl _)
  have nfs : ca ∉ frs X.stack := fun z => by
    rcases List.mem_cons.mp (I2.stkSub _ z) with e | hb'
    · exact I2.cne y ca hX e
    · obtain ⟨_, ob, hob, _⟩ := I2.ok.funs.mem hb'
      exact absurd (Nat.lt_of_lt_of_le (Heap.lt_size hob) cs0) (Nat.lt_irrefl _)
  let H3 := upd H2 ca (lkO o)
  have ok3 : HOk X.prog X.w H3 s2.heap := HOk.lock I2.hok nca ho
  have e0 := I2.env0
  have e03 : Env0 X.prog X.w X.K X.mg X.base X.A X.stack s2 H3 := ⟨e0.frames, e0.mod, fun b ob e => ⟨(e0.bs b ob e).1, by show upd H2 ca (lkO o) b = none; rw [upd_ne (ncb b ob e)]; exact (e0.bs b ob e).2⟩, e0.bsz, e0.funs,
    fun b hb' => by show upd H2 ca (lkO o) b = none; rw [upd_ne (fun z => nfs (by rw [← z]; exact hb'))]; exact e0.frf b hb', ok3, e0.bare⟩
  have x23 : ExtN H2 H3 := fun b ob e _ => by show upd H2 ca (lkO o) b = _; rw [upd_ne (ne_of_none e nca)]; exact e
  have t3 : Tabs T H3 := Tabs.ext T2 fun b ob e => by show upd H2 ca (lkO o) b = _; rw [upd_ne (ne_of_none e nca)]; exact e
  have F3 : H3 f = some (LamO f _) := x23 _ _ f1 lamO_tbl
  have C3 : H3 c' = some (CodeO c' _) := x23 _ _ c1 codeO_ne
  have hcall : Callable m (k + 1) f (fun vs H Q E => H ca = some (lkO o) ∧ spw vs (dl H ca) (fun v H' => H' ca = none → Q v (upd H' ca (lkO o))) E) H3 := by
    refine ⟨⟨_, F3⟩, fun H4 e4 A outer s4 us vs Q4 hg hr e04 r hsp => ?_⟩
    obtain ⟨hc4, hsp⟩ := hsp
    have ho4 : s4.heap.get? ca = some o := (e04.hok ca _ hc4).1
    have nf4 : ca ∉ frs outer := fun z => by have := e04.frf ca z; rw [hc4] at this; cases this
    have e05 : Env0 m.P m.w m.K m.mg m.base A outer s4 (dl H4 ca) := ⟨e04.frames, e04.mod, fun b ob e => ⟨(e04.bs b ob e).1, by
        by_cases hb' : b = ca
        · subst hb'; exact dl_same
        · rw [dl_ne hb']; exact (e04.bs b ob e).2⟩, e04.bsz, e04.funs, fun b hb' => by rw [dl_ne (fun z => nf4 (by rw [← z]; exact hb'))]; exact e04.frf b hb', HOk.unlock e04.hok hc4, e04.bare⟩
    have nef : c' ≠ ca := ne_of C3 (show H3 ca = some (lkO o) from upd_same) (by unfold CodeO; intro z; cases z)
    have F4 := e4 _ _ F3 lamO_tbl
    have C4 : dl H4 ca c' = some (CodeO c' (x ++ ".<locals>." ++ "<lambda>")) := by rw [dl_ne nef]; exact e4 _ _ C3 codeO_ne
    have run := lam_run (m := m) (N := NL) (ps := ps) (fr := [y]) (ws := [some v]) (F := ⟨x ++ ".<locals>." ++ "<lambda>", params, body, scope, cloFrom X.env.cells scope.names [], c'⟩) (f := f) (Q := fun v H' => H' ca = none → Q4 v (upd H' ca (lkO o))) S (fun pm ctv us hl => hb c' _ pm ctv us hl) hg hr e05 (lamO_at e04.hok F4) C4
      ⟨rfl, fun y' c'' e => ?_, fun a b c0 h1 h2 => by rw [only a c0 h1, only b c0 h2], fun i y' e => ?_⟩ r (hlen _ _ _ _ hsp) fun X' hA => hbody X' vs _ _ hA hsp
    · refine codeAny_mono run fun r s' hq => ?_
      cases r with
      | error e => exact hq
      | ok fl =>
        cases fl with
        | ret u' =>
          obtain ⟨v', H', os, bare, un, hok, rv, qq⟩ := hq
          exact ⟨v', upd H' ca (lkO o), os, bare, Un.relock un hc4 ho4 nf4 (by simp), HOk.relock hok un ho4 nf4 (by simp), rv, qq (un.free ca o ho4 dl_same (by simp))⟩
        | next => exact hq
        | brk => exact hq
        | cont => exact hq
    · have := only y' c'' e
      subst this
      rw [hca] at e; cases e
      exact ⟨dl_same, _, o, ho4, hod⟩
    · match i, e with
      | 0, e =>
        cases e
        exact ⟨ca, hca, fun v' ev => by cases ev; exact ⟨u, ru, o, ho4, hod⟩⟩
  have nn3 : ∀ b, H3 b = none → H1 b = none := fun b e => by
    by_cases hb : b = ca
    · rw [hb]; exact nca1
    · exact nn b (by rw [← show H3 b = H2 b from upd_ne hb]; exact e)
  have hsp := q1 f ca o H3 nca1 (eN.trans x23) nn3 t3 upd_same hcall
  have r2 : Vals ([v1, .ref f] ++ []) ([u1, .ref f] ++ dsg) := Vals.append (Paired.cons r1 (Paired.cons rfl .nil) : Vals [v1, .ref f] [u1, .ref f]) dg
  have rc := Fg.run X.A X.stack s2 H3 ⟨[u1, .ref f], []⟩ ([u1, .ref f] ++ dsg) [v1, .ref f] (fun v H3 => Q v (dl H3 ca)) C8.E0 h.gd (h.room.mono hkg) (by rw [← h.pp, ← h.ww, ← h.kk, ← h.mm, ← h.bb]; exact e03)
    (bg s2 [u1, .ref f] (by rw [← h.kk]; exact I2.kIn) (by rw [← r2.length]; have := Fg.len _ _ _ _ hsp; simpa using this)) (by simpa using r2) hsp
  show wpAny _ _ (call (.ref fg) [u1, .ref f]) _ _ _
  rw [← h.pp, ← h.ww] at rc
  refine wpAny_call (codeAny_mono rc fun r s' hq => ?_)
  cases r with
  | error e => exact (show False from hq).elim
  | ok fl =>
    cases fl with
    | ret u' =>
      obtain ⟨v', H', os, bare, un, hok, rv, qq⟩ := hq
      exact I2.after ⟨v', dl H' ca, os, bare, Un.unlock un hok nca ho nfs (by simp), HOk.unlock hok (un.frzs ca o _ upd_same), rv, qq⟩
    | next => exact False.elim hq
    | brk => exact False.elim hq
    | cont => exact False.elim hq
section
variable {T : List (Addr × Str)} {K : PySem.W.Frag} {A : Addr → Prop} {H H1 H2 H' : Hp} {ca : Addr} {o : Obj} {v : V} {d : PyData} {u : HO}
theorem dl_at (h : H ca = some (lkO o)) {b : Addr} (e : H b = some u) (n : u ≠ lkO o) : dl H ca b = some u := by
  rw [dl_ne (fun z => by rw [z, h] at e; exact n (Option.some.inj e).symm)]
  exact e
theorem dl_tabs (h : H ca = some (lkO o)) (t : Tabs T H) : Tabs T (dl H ca) := fun q hq => by
  obtain ⟨ps, h1, h2, h3⟩ := t q hq
  refine ⟨ps, dl_at h h1 (fun z => by cases z), h2, fun pos cv hc => ?_⟩
  obtain ⟨c, e1, e2⟩ := h3 pos cv hc
  exact ⟨c, e1, dl_at h e2 (fun z => by unfold CodeO at z; cases z)⟩
theorem dl_tup (h : H ca = some (lkO o)) {a : Addr} {xs : List V} (t : SqT K H a xs) : SqT K (dl H ca) a xs := by
  rcases t with (t | ⟨o', t⟩) | t
  · exact .inl (.inl (dl_at h t (fun z => by cases z)))
  · exact .inl (.inr ⟨o', dl_at h t (fun z => by injection z with _ z; cases z)⟩)
  · exact .inr t
theorem dl_lst (h : H ca = some (lkO o)) {a : Addr} {xs : List V} (t : SqL K H a xs) : SqL K (dl H ca) a xs := by
  rcases t with (t | ⟨o', t⟩) | t
  · exact .inl (.inl (dl_at h t (fun z => by cases z)))
  · exact .inl (.inr ⟨o', dl_at h t (fun z => by injection z with _ z; cases z)⟩)
  · exact .inr t
theorem dl_da (h : H ca = some (lkO o)) (x : Da K A H v d) : Da K A (dl H ca) v d := Da.mono (fun _ z => z) (fun _ _ _ e => dl_lst h e) (fun _ _ e => dl_tup h e) d v x
/-- under the lock: what a run without it leaves, with it again -/
theorem Grow.relock (h : H ca = some (lkO o)) (g : Grow T (dl H ca) H') (n : H' ca = none) : Grow T H (upd H' ca (lkO o)) := by
  refine ⟨fun b u _ e k => ?_, fun t => ?_, fun b e => ?_, fun b xs e => ?_, fun b o' u e => ?_⟩
  · by_cases c : b = ca
    · rw [c] at e ⊢; rw [upd_same, ← e, h]
    · rw [upd_ne c]; exact g.ext b u (fun z => z) (by rw [dl_ne c]; exact e) k
  · exact (g.tab (dl_tabs h t)).ext fun b u e => by rw [upd_ne (fun z => by rw [z, n] at e; cases e)]; exact e
  · have c : b ≠ ca := fun z => by rw [z, upd_same] at e; cases e
    rw [upd_ne c] at e
    have := g.keep b e
    rw [dl_ne c] at this
    exact this
  · have c : b ≠ ca := fun z => by rw [z, h] at e; cases e
    rw [upd_ne c]; exact g.tup b xs (by rw [dl_ne c]; exact e)
  · by_cases c : b = ca
    · rw [c] at e ⊢; rw [upd_same, ← e, h]
    · rw [upd_ne c]; exact g.frz b o' u (by rw [dl_ne c]; exact e)
theorem Fr.relock (h : H ca = some (lkO o)) (n : H' ca = none) (x : Fr K (dl H ca) H' v d) : Fr K H (upd H' ca (lkO o)) v d := by
  obtain ⟨L, x, nd, nw⟩ := x
  have ne : ∀ a ∈ L, a ≠ ca := fun a ha z => by
    obtain ⟨xs, e⟩ := x.some a ha
    rw [z, n] at e; cases e
  refine ⟨L, Dn.mono (A := fun a => a ≠ ca) (fun a xs e z => by rw [upd_ne z]; exact e) (fun a xs e => ?_) x ne, nd, fun a ha => ?_⟩
  · rcases e with (e | ⟨o', e⟩) | e
    · exact .inl (.inl (by rw [upd_ne (fun z => by rw [z, n] at e; cases e)]; exact e))
    · exact .inl (.inr ⟨o', by rw [upd_ne (fun z => by rw [z, n] at e; cases e)]; exact e⟩)
    · exact .inr e
  · have := nw a ha
    rw [New, dl_ne (ne a ha)] at this
    exact this
/-- behind the call: the lock is taken away -/
theorem Grow.undl (n : H ca = none) (x : ExtN H H2) (k : ∀ b, H2 b = none → H b = none) (t : Tabs T H2) (h : H2 ca = some (lkO o)) (g : Grow T H2 H') : Grow T H (dl H' ca) := by
  have h' := g.frz ca o _ h
  refine ⟨fun b u _ e k => ?_, fun _ => dl_tabs h' (g.tab t), fun b e => ?_, fun b xs e => ?_, fun b o' u e => ?_⟩
  · rw [dl_ne (fun z => by rw [z, n] at e; cases e)]
    exact g.ext b u (fun z => z) (x b u e k) k
  · by_cases c : b = ca
    · rw [c]; exact n
    · rw [dl_ne c] at e; exact k b (g.keep b e)
  · rw [dl_ne (fun z => by rw [z, n] at e; cases e)]
    exact g.tup b xs (x b _ e (fun _ z => by cases z))
  · rw [dl_ne (fun z => by rw [z, n] at e; cases e)]
    exact g.frz b o' u (x b _ e (fun _ z => by cases z))
theorem Fr.undl (k : ∀ b, H2 b = none → H b = none) (h : H2 ca = some (lkO o)) (g : Grow T H2 H') (x : Fr K H2 H' v d) : Fr K H (dl H' ca) v d := by
  have h' := g.frz ca o _ h
  obtain ⟨L, x, nd, nw⟩ := x
  exact ⟨L, Dn.mono (A := Any) (fun a xs e _ => dl_at h' e (fun z => by cases z)) (fun a xs e => dl_tup h' e) x (fun _ _ => trivial), nd, fun a ha => k a (nw a ha)⟩
end
end Vf
namespace Vf
open PySem PySem.Spec PyProof.Rows L2 LamX
local macro_rules | `(tactic| walk_at "v") => `(tactic| first
  | ((with_reducible show wE _ _ _ _ _); first
      | with_reducible refine w_int ?_
      | with_reducible refine w_str ?_
      | with_reducible refine w_bl ?_
      | with_reducible refine w_non ?_
      | ((with_reducible refine' w_nl ?h ?n ?s ?q); (case h => with_reducible assumption); (case n => with_reducible assumption); (case s => rfl))
      | ((with_reducible refine' w_nc ?h ?n ?s ?q); (case h => with_reducible assumption); (case n => with_reducible assumption); (case s => rfl))
      | ((with_reducible refine' w_nf ?h ?n ?s ?q); (case h => with_reducible assumption); (case n => with_reducible assumption); (case s => rfl))
      | with_reducible refine g_bin ?_
      | with_reducible refine g_ix ?_
      | with_reducible refine w_lst ?_
      | with_reducible refine w_tup ?_
      | with_reducible refine g_cmp ?_
      | with_reducible refine w_if ?_
      | with_reducible refine w_not ?_
      | with_reducible refine w_and ?_
      | with_reducible refine w_or ?_
      | with_reducible refine w_one ?_
      | with_reducible refine w_neg ?_)
  | ((with_reducible show wA _ _ _ _ _); first
      | with_reducible refine w_nil ?_
      | with_reducible refine w_cons ?_)
  | ((with_reducible show gOp _ _ _ _ _ _); first
      | with_reducible refine g_addI ?_
      | with_reducible refine g_subI ?_
      | with_reducible refine g_gtI ?_
      | with_reducible refine g_ltI ?_
      | with_reducible refine g_leI ?_
      | with_reducible refine g_geI ?_
      | with_reducible refine g_eqI ?_
      | with_reducible refine g_neI ?_
      | with_reducible refine g_isN ?_
      | with_reducible refine g_notN ?_
      | with_reducible refine g_eqS ?_
      | with_reducible refine g_neS ?_)
  | ((with_reducible show wS _ _ _ _ _); first
      | with_reducible refine s_ret ?_
      | with_reducible refine s_if ?_
      | with_reducible refine s_expr ?_
      | ((with_reducible refine' s_nl ?h ?n ?q); (case h => with_reducible assumption); (case n => with_reducible assumption))
      | with_reducible refine s_subL ?_
      | with_reducible refine s_retN ?_)
  | ((with_reducible show wB _ _ _ _ _); first
      | with_reducible refine b_nil ?_
      | with_reducible refine b_one ?_
      | with_reducible refine b_cons ?_)
  | ((with_reducible show wT _ _ _ _ _); first
      | with_reducible refine gt_cmp ?_
      | with_reducible refine t_not ?_
      | with_reducible refine t_and ?_
      | with_reducible refine t_or ?_
      | with_reducible refine gt_tru ?_)
  | ((with_reducible show gTru _ _ _ _); first
      | with_reducible refine g_truB ?_)
  | ((with_reducible show wW _ _ _ _ _); first
      | with_reducible refine k_and ?_
      | with_reducible refine k_or ?_
      | with_reducible refine k_and1 ?_
      | with_reducible refine k_or1 ?_)
  | with_reducible refine ⟨_, rfl, ?_⟩)
local macro_rules | `(tactic| walk_at "e") => `(tactic| first
  | ((with_reducible show wE _ _ _ _ _); first
      | with_reducible refine w_int ?_
      | with_reducible refine w_str ?_
      | with_reducible refine w_bl ?_
      | with_reducible refine w_non ?_
      | ((with_reducible refine' w_nl ?h ?n ?s ?q); (case h => with_reducible assumption); (case n => with_reducible assumption); (case s => rfl))
      | ((with_reducible refine' w_nc ?h ?n ?s ?q); (case h => with_reducible assumption); (case n => with_reducible assumption); (case s => rfl))
      | ((with_reducible refine' w_nf ?h ?n ?s ?q); (case h => with_reducible assumption); (case n => with_reducible assumption); (case s => rfl))
      | with_reducible refine g_bin ?_
      | with_reducible refine g_ix ?_
      | with_reducible refine w_lst ?_
      | with_reducible refine w_tup ?_
      | with_reducible refine g_cmp ?_
      | with_reducible refine w_if ?_
      | with_reducible refine w_not ?_
      | with_reducible refine w_and ?_
      | with_reducible refine w_or ?_
      | with_reducible refine w_one ?_
      | with_reducible refine w_neg ?_)
  | ((with_reducible show wA _ _ _ _ _); first
      | with_reducible refine w_nil ?_
      | with_reducible refine w_cons ?_)
  | ((with_reducible show gOp _ _ _ _ _ _); first
      | with_reducible refine g_addI ?_
      | with_reducible refine g_subI ?_
      | with_reducible refine g_gtI ?_
      | with_reducible refine g_ltI ?_
      | with_reducible refine g_leI ?_
      | with_reducible refine g_geI ?_
      | with_reducible refine g_eqI ?_
      | with_reducible refine g_neI ?_
      | with_reducible refine g_isN ?_
      | with_reducible refine g_notN ?_
      | with_reducible refine g_eqS ?_
      | with_reducible refine g_neS ?_)
  | ((with_reducible show wT _ _ _ _ _); first
      | with_reducible refine gt_cmp ?_
      | with_reducible refine t_not ?_
      | with_reducible refine t_and ?_
      | with_reducible refine t_or ?_
      | with_reducible refine gt_tru ?_)
  | ((with_reducible show gTru _ _ _ _); first
      | with_reducible refine g_truB ?_)
  | ((with_reducible show wW _ _ _ _ _); first
      | with_reducible refine k_and ?_
      | with_reducible refine k_or ?_
      | with_reducible refine k_and1 ?_
      | with_reducible refine k_or1 ?_)
  | with_reducible refine ⟨_, rfl, ?_⟩)
local macro_rules | `(tactic| walk_at "E") => `(tactic| repeat (walk_at "e"))
local macro_rules | `(tactic| walk_at "V") => `(tactic| repeat (walk_at "v"))
local macro_rules | `(tactic| walk_at "B") => `(tactic| first | refine b_cons ?_ | refine b_one ?_)
local macro_rules | `(tactic| walk_at "S") => `(tactic| (simp only [List.length_cons, List.length_nil, List.length_append, List.length_map, sizeLine_eq] <;> omega))
def top (i : Nat) : Stmt := PySem.Challenge.pw_leafwaits_k04_whole_rules_turned_about_a.main.body.getD i (.Pass ⟨0, 0, 0, 0⟩)
abbrev st_InvalidTerm_init : Stmt := inClass (top 2) 0
abbrev nl_InvalidTerm_init : List Str := ["self", "value"]
abbrev ps_InvalidTerm_init : List Str := ["self", "value"]
theorem sc_InvalidTerm_init : FnScope nl_InvalidTerm_init ps_InvalidTerm_init (C8.fnScope st_InvalidTerm_init) := ⟨rfl, rfl, rfl, by decide +kernel, rfl, by decide +kernel, by decide +kernel⟩
-- 0:self 1:value
theorem nv_InvalidTerm_init : NL nl_InvalidTerm_init (C8.fnScope st_InvalidTerm_init) 0 "self" ∧ NL nl_InvalidTerm_init (C8.fnScope st_InvalidTerm_init) 1 "value" := ⟨⟨rfl, rfl⟩, ⟨rfl, rfl⟩⟩
abbrev st_InvalidRule_init : Stmt := inClass (top 3) 0
abbrev nl_InvalidRule_init : List Str := ["self", "value"]
abbrev ps_InvalidRule_init : List Str := ["self", "value"]
theorem sc_InvalidRule_init : FnScope nl_InvalidRule_init ps_InvalidRule_init (C8.fnScope st_InvalidRule_init) := ⟨rfl, rfl, rfl, by decide +kernel, rfl, by decide +kernel, by decide +kernel⟩
-- 0:self 1:value
theorem nv_InvalidRule_init : NL nl_InvalidRule_init (C8.fnScope st_InvalidRule_init) 0 "self" ∧ NL nl_InvalidRule_init (C8.fnScope st_InvalidRule_init) 1 "value" := ⟨⟨rfl, rfl⟩, ⟨rfl, rfl⟩⟩
abbrev st_InvalidHours_init : Stmt := inClass (top 4) 0
abbrev nl_InvalidHours_init : List Str := ["self", "value"]
abbrev ps_InvalidHours_init : List Str := ["self", "value"]
theorem sc_InvalidHours_init : FnScope nl_InvalidHours_init ps_InvalidHours_init (C8.fnScope st_InvalidHours_init) := ⟨rfl, rfl, rfl, by decide +kernel, rfl, by decide +kernel, by decide +kernel⟩
-- 0:self 1:value
theorem nv_InvalidHours_init : NL nl_InvalidHours_init (C8.fnScope st_InvalidHours_init) 0 "self" ∧ NL nl_InvalidHours_init (C8.fnScope st_InvalidHours_init) 1 "value" := ⟨⟨rfl, rfl⟩, ⟨rfl, rfl⟩⟩
abbrev st_InvalidWhole_init : Stmt := inClass (top 5) 0
abbrev nl_InvalidWhole_init : List Str := ["self", "value"]
abbrev ps_InvalidWhole_init : List Str := ["self", "value"]
theorem sc_InvalidWhole_init : FnScope nl_InvalidWhole_init ps_InvalidWhole_init (C8.fnScope st_InvalidWhole_init) := ⟨rfl, rfl, rfl, by decide +kernel, rfl, by decide +kernel, by decide +kernel⟩
-- 0:self 1:value
theorem nv_InvalidWhole_init : NL nl_InvalidWhole_init (C8.fnScope st_InvalidWhole_init) 0 "self" ∧ NL nl_InvalidWhole_init (C8.fnScope st_InvalidWhole_init) 1 "value" := ⟨⟨rfl, rfl⟩, ⟨rfl, rfl⟩⟩
abbrev st_InvalidRules_init : Stmt := inClass (top 6) 0
abbrev nl_InvalidRules_init : List Str := ["self", "value"]
abbrev ps_InvalidRules_init : List Str := ["self", "value"]
theorem sc_InvalidRules_init : FnScope nl_InvalidRules_init ps_InvalidRules_init (C8.fnScope st_InvalidRules_init) := ⟨rfl, rfl, rfl, by decide +kernel, rfl, by decide +kernel, by decide +kernel⟩
-- 0:self 1:value
theorem nv_InvalidRules_init : NL nl_InvalidRules_init (C8.fnScope st_InvalidRules_init) 0 "self" ∧ NL nl_InvalidRules_init (C8.fnScope st_InvalidRules_init) 1 "value" := ⟨⟨rfl, rfl⟩, ⟨rfl, rfl⟩⟩
abbrev st_is_whole : Stmt := top 9
abbrev nl_is_whole : List Str := ["value"]
abbrev ps_is_whole : List Str := ["value"]
theorem sc_is_whole : FnScope nl_is_whole ps_is_whole (C8.fnScope st_is_whole) := ⟨rfl, rfl, rfl, by decide +kernel, rfl, by decide +kernel, by decide +kernel⟩
-- 0:value
theorem nv_is_whole : NL nl_is_whole (C8.fnScope st_is_whole) 0 "value" := ⟨rfl, rfl⟩
abbrev st_is_name : Stmt := top 10
abbrev nl_is_name : List Str := ["value", "sign"]
abbrev ps_is_name : List Str := ["value"]
theorem sc_is_name : FnScope nl_is_name ps_is_name (C8.fnScope st_is_name) := ⟨rfl, rfl, rfl, by decide +kernel, rfl, by decide +kernel, by decide +kernel⟩
-- 0:value
theorem nv_is_name : NL nl_is_name (C8.fnScope st_is_name) 0 "value" := ⟨rfl, rfl⟩
abbrev st_is_hours : Stmt := top 11
abbrev nl_is_hours : List Str := ["value", "names", "key", "hour", "name"]
abbrev ps_is_hours : List Str := ["value", "names"]
theorem sc_is_hours : FnScope nl_is_hours ps_is_hours (C8.fnScope st_is_hours) := ⟨rfl, rfl, rfl, by decide +kernel, rfl, by decide +kernel, by decide +kernel⟩
-- 1:names 0:value*
theorem nv_is_hours : NL nl_is_hours (C8.fnScope st_is_hours) 1 "names" ∧ NC nl_is_hours (C8.fnScope st_is_hours) 0 "value" := ⟨⟨rfl, rfl⟩, ⟨rfl, rfl⟩⟩
abbrev st_need_whole : Stmt := top 12
abbrev nl_need_whole : List Str := ["value"]
abbrev ps_need_whole : List Str := ["value"]
theorem sc_need_whole : FnScope nl_need_whole ps_need_whole (C8.fnScope st_need_whole) := ⟨rfl, rfl, rfl, by decide +kernel, rfl, by decide +kernel, by decide +kernel⟩
-- 0:value
theorem nv_need_whole : NL nl_need_whole (C8.fnScope st_need_whole) 0 "value" := ⟨rfl, rfl⟩
abbrev st_need_hours : Stmt := top 13
abbrev nl_need_hours : List Str := ["value", "names"]
abbrev ps_need_hours : List Str := ["value", "names"]
theorem sc_need_hours : FnScope nl_need_hours ps_need_hours (C8.fnScope st_need_hours) := ⟨rfl, rfl, rfl, by decide +kernel, rfl, by decide +kernel, by decide +kernel⟩
-- 0:value 1:names
theorem nv_need_hours : NL nl_need_hours (C8.fnScope st_need_hours) 0 "value" ∧ NL nl_need_hours (C8.fnScope st_need_hours) 1 "names" := ⟨⟨rfl, rfl⟩, ⟨rfl, rfl⟩⟩
abbrev st_is_term : Stmt := top 15
abbrev nl_is_term : List Str := ["value", "word"]
abbrev ps_is_term : List Str := ["value"]
theorem sc_is_term : FnScope nl_is_term ps_is_term (C8.fnScope st_is_term) := ⟨rfl, rfl, rfl, by decide +kernel, rfl, by decide +kernel, by decide +kernel⟩
-- 0:value 1:word
theorem nv_is_term : NL nl_is_term (C8.fnScope st_is_term) 0 "value" ∧ NL nl_is_term (C8.fnScope st_is_term) 1 "word" := ⟨⟨rfl, rfl⟩, ⟨rfl, rfl⟩⟩
abbrev st_x_is_term_list : Stmt := top 16
abbrev nl_x_is_term_list : List Str := ["value", "term"]
abbrev ps_x_is_term_list : List Str := ["value"]
theorem sc_x_is_term_list : FnScope nl_x_is_term_list ps_x_is_term_list (C8.fnScope st_x_is_term_list) := ⟨rfl, rfl, rfl, by decide +kernel, rfl, by decide +kernel, by decide +kernel⟩
-- 0:value
theorem nv_x_is_term_list : NL nl_x_is_term_list (C8.fnScope st_x_is_term_list) 0 "value" := ⟨rfl, rfl⟩
abbrev st_is_part : Stmt := top 17
abbrev nl_is_part : List Str := ["term"]
abbrev ps_is_part : List Str := ["term"]
theorem sc_is_part : FnScope nl_is_part ps_is_part (C8.fnScope st_is_part) := ⟨rfl, rfl, rfl, by decide +kernel, rfl, by decide +kernel, by decide +kernel⟩
-- 0:term
theorem nv_is_part : NL nl_is_part (C8.fnScope st_is_part) 0 "term" := ⟨rfl, rfl⟩
abbrev st_rank_of_term : Stmt := top 18
abbrev nl_rank_of_term : List Str := ["term"]
abbrev ps_rank_of_term : List Str := ["term"]
theorem sc_rank_of_term : FnScope nl_rank_of_term ps_rank_of_term (C8.fnScope st_rank_of_term) := ⟨rfl, rfl, rfl, by decide +kernel, rfl, by decide +kernel, by decide +kernel⟩
-- 0:term
theorem nv_rank_of_term : NL nl_rank_of_term (C8.fnScope st_rank_of_term) 0 "term" := ⟨rfl, rfl⟩
abbrev st_with_terms : Stmt := top 19
abbrev nl_with_terms : List Str := ["term", "terms"]
abbrev ps_with_terms : List Str := ["term", "terms"]
theorem sc_with_terms : FnScope nl_with_terms ps_with_terms (C8.fnScope st_with_terms) := ⟨rfl, rfl, rfl, by decide +kernel, rfl, by decide +kernel, by decide +kernel⟩
-- 0:term 1:terms
theorem nv_with_terms : NL nl_with_terms (C8.fnScope st_with_terms) 0 "term" ∧ NL nl_with_terms (C8.fnScope st_with_terms) 1 "terms" := ⟨⟨rfl, rfl⟩, ⟨rfl, rfl⟩⟩
abbrev st_rebuilt : Stmt := top 20
abbrev nl_rebuilt : List Str := ["term", "change", "inner"]
abbrev ps_rebuilt : List Str := ["term", "change"]
theorem sc_rebuilt : FnScope nl_rebuilt ps_rebuilt (C8.fnScope st_rebuilt) := ⟨rfl, rfl, rfl, by decide +kernel, rfl, by decide +kernel, by decide +kernel⟩
-- 0:term 1:change*
theorem nv_rebuilt : NL nl_rebuilt (C8.fnScope st_rebuilt) 0 "term" ∧ NC nl_rebuilt (C8.fnScope st_rebuilt) 1 "change" := ⟨⟨rfl, rfl⟩, ⟨rfl, rfl⟩⟩
abbrev st_copied : Stmt := top 21
abbrev nl_copied : List Str := ["term"]
abbrev ps_copied : List Str := ["term"]
theorem sc_copied : FnScope nl_copied ps_copied (C8.fnScope st_copied) := ⟨rfl, rfl, rfl, by decide +kernel, rfl, by decide +kernel, by decide +kernel⟩
-- 0:term
theorem nv_copied : NL nl_copied (C8.fnScope st_copied) 0 "term" := ⟨rfl, rfl⟩
abbrev st_shifted_term : Stmt := top 22
abbrev nl_shifted_term : List Str := ["term", "by"]
abbrev ps_shifted_term : List Str := ["term", "by"]
theorem sc_shifted_term : FnScope nl_shifted_term ps_shifted_term (C8.fnScope st_shifted_term) := ⟨rfl, rfl, rfl, by decide +kernel, rfl, by decide +kernel, by decide +kernel⟩
-- 0:term 1:by*
theorem nv_shifted_term : NL nl_shifted_term (C8.fnScope st_shifted_term) 0 "term" ∧ NC nl_shifted_term (C8.fnScope st_shifted_term) 1 "by" := ⟨⟨rfl, rfl⟩, ⟨rfl, rfl⟩⟩
abbrev st_mirrored_term : Stmt := top 23
abbrev nl_mirrored_term : List Str := ["term", "terms", "inner"]
abbrev ps_mirrored_term : List Str := ["term"]
theorem sc_mirrored_term : FnScope nl_mirrored_term ps_mirrored_term (C8.fnScope st_mirrored_term) := ⟨rfl, rfl, rfl, by decide +kernel, rfl, by decide +kernel, by decide +kernel⟩
-- 0:term 1:terms
theorem nv_mirrored_term : NL nl_mirrored_term (C8.fnScope st_mirrored_term) 0 "term" ∧ NL nl_mirrored_term (C8.fnScope st_mirrored_term) 1 "terms" := ⟨⟨rfl, rfl⟩, ⟨rfl, rfl⟩⟩
abbrev st_told_by : Stmt := top 24
abbrev nl_told_by : List Str := ["term", "hours", "now", "told", "inner"]
abbrev ps_told_by : List Str := ["term", "hours", "now"]
theorem sc_told_by : FnScope nl_told_by ps_told_by (C8.fnScope st_told_by) := ⟨rfl, rfl, rfl, by decide +kernel, rfl, by decide +kernel, by decide +kernel⟩
-- 0:term 3:told 1:hours* 2:now*
theorem nv_told_by : NL nl_told_by (C8.fnScope st_told_by) 0 "term" ∧ NL nl_told_by (C8.fnScope st_told_by) 3 "told" ∧ NC nl_told_by (C8.fnScope st_told_by) 1 "hours" ∧ NC nl_told_by (C8.fnScope st_told_by) 2 "now" := ⟨⟨rfl, rfl⟩, ⟨rfl, rfl⟩, ⟨rfl, rfl⟩, ⟨rfl, rfl⟩⟩
abbrev st_parts_at : Stmt := top 25
abbrev nl_parts_at : List Str := ["term", "path", "found", "at", "inner"]
abbrev ps_parts_at : List Str := ["term", "path"]
theorem sc_parts_at : FnScope nl_parts_at ps_parts_at (C8.fnScope st_parts_at) := ⟨rfl, rfl, rfl, by decide +kernel, rfl, by decide +kernel, by decide +kernel⟩
-- 0:term 1:path 2:found 3:at 4:inner
theorem nv_parts_at : NL nl_parts_at (C8.fnScope st_parts_at) 0 "term" ∧ NL nl_parts_at (C8.fnScope st_parts_at) 1 "path" ∧ NL nl_parts_at (C8.fnScope st_parts_at) 2 "found" ∧ NL nl_parts_at (C8.fnScope st_parts_at) 3 "at" ∧ NL nl_parts_at (C8.fnScope st_parts_at) 4 "inner" := ⟨⟨rfl, rfl⟩, ⟨rfl, rfl⟩, ⟨rfl, rfl⟩, ⟨rfl, rfl⟩, ⟨rfl, rfl⟩⟩
abbrev st_Rule_init : Stmt := inClass (top 27) 0
abbrev nl_Rule_init : List Str := ["self", "term"]
abbrev ps_Rule_init : List Str := ["self", "term"]
theorem sc_Rule_init : FnScope nl_Rule_init ps_Rule_init (C8.fnScope st_Rule_init) := ⟨rfl, rfl, rfl, by decide +kernel, rfl, by decide +kernel, by decide +kernel⟩
-- 0:self 1:term
theorem nv_Rule_init : NL nl_Rule_init (C8.fnScope st_Rule_init) 0 "self" ∧ NL nl_Rule_init (C8.fnScope st_Rule_init) 1 "term" := ⟨⟨rfl, rfl⟩, ⟨rfl, rfl⟩⟩
abbrev st_Rule_term : Stmt := inClass (top 27) 1
abbrev nl_Rule_term : List Str := ["self"]
abbrev ps_Rule_term : List Str := ["self"]
theorem sc_Rule_term : FnScope nl_Rule_term ps_Rule_term (C8.fnScope st_Rule_term) := ⟨rfl, rfl, rfl, by decide +kernel, rfl, by decide +kernel, by decide +kernel⟩
-- 0:self
theorem nv_Rule_term : NL nl_Rule_term (C8.fnScope st_Rule_term) 0 "self" := ⟨rfl, rfl⟩
abbrev st_Rule_eq : Stmt := inClass (top 27) 2
abbrev nl_Rule_eq : List Str := ["self", "other"]
abbrev ps_Rule_eq : List Str := ["self", "other"]
theorem sc_Rule_eq : FnScope nl_Rule_eq ps_Rule_eq (C8.fnScope st_Rule_eq) := ⟨rfl, rfl, rfl, by decide +kernel, rfl, by decide +kernel, by decide +kernel⟩
-- 0:self 1:other
theorem nv_Rule_eq : NL nl_Rule_eq (C8.fnScope st_Rule_eq) 0 "self" ∧ NL nl_Rule_eq (C8.fnScope st_Rule_eq) 1 "other" := ⟨⟨rfl, rfl⟩, ⟨rfl, rfl⟩⟩
abbrev st_need_rule : Stmt := top 28
abbrev nl_need_rule : List Str := ["rule"]
abbrev ps_need_rule : List Str := ["rule"]
theorem sc_need_rule : FnScope nl_need_rule ps_need_rule (C8.fnScope st_need_rule) := ⟨rfl, rfl, rfl, by decide +kernel, rfl, by decide +kernel, by decide +kernel⟩
-- 0:rule
theorem nv_need_rule : NL nl_need_rule (C8.fnScope st_need_rule) 0 "rule" := ⟨rfl, rfl⟩
abbrev st_told : Stmt := top 29
abbrev nl_told : List Str := ["rule", "hours", "now", "leaned", "hung"]
abbrev ps_told : List Str := ["rule", "hours", "now"]
theorem sc_told : FnScope nl_told ps_told (C8.fnScope st_told) := ⟨rfl, rfl, rfl, by decide +kernel, rfl, by decide +kernel, by decide +kernel⟩
-- 0:rule 1:hours 2:now 3:leaned 4:hung
theorem nv_told : NL nl_told (C8.fnScope st_told) 0 "rule" ∧ NL nl_told (C8.fnScope st_told) 1 "hours" ∧ NL nl_told (C8.fnScope st_told) 2 "now" ∧ NL nl_told (C8.fnScope st_told) 3 "leaned" ∧ NL nl_told (C8.fnScope st_told) 4 "hung" := ⟨⟨rfl, rfl⟩, ⟨rfl, rfl⟩, ⟨rfl, rfl⟩, ⟨rfl, rfl⟩, ⟨rfl, rfl⟩⟩
abbrev st_named : Stmt := top 30
abbrev nl_named : List Str := ["rule", "found", "leaned", "hung", "_", "part"]
abbrev ps_named : List Str := ["rule"]
theorem sc_named : FnScope nl_named ps_named (C8.fnScope st_named) := ⟨rfl, rfl, rfl, by decide +kernel, rfl, by decide +kernel, by decide +kernel⟩
-- 0:rule 1:found 2:leaned 3:hung
theorem nv_named : NL nl_named (C8.fnScope st_named) 0 "rule" ∧ NL nl_named (C8.fnScope st_named) 1 "found" ∧ NL nl_named (C8.fnScope st_named) 2 "leaned" ∧ NL nl_named (C8.fnScope st_named) 3 "hung" := ⟨⟨rfl, rfl⟩, ⟨rfl, rfl⟩, ⟨rfl, rfl⟩, ⟨rfl, rfl⟩⟩
abbrev st_shifted : Stmt := top 31
abbrev nl_shifted : List Str := ["rule", "by"]
abbrev ps_shifted : List Str := ["rule", "by"]
theorem sc_shifted : FnScope nl_shifted ps_shifted (C8.fnScope st_shifted) := ⟨rfl, rfl, rfl, by decide +kernel, rfl, by decide +kernel, by decide +kernel⟩
-- 0:rule 1:by
theorem nv_shifted : NL nl_shifted (C8.fnScope st_shifted) 0 "rule" ∧ NL nl_shifted (C8.fnScope st_shifted) 1 "by" := ⟨⟨rfl, rfl⟩, ⟨rfl, rfl⟩⟩
abbrev st_mirrored : Stmt := top 32
abbrev nl_mirrored : List Str := ["rule"]
abbrev ps_mirrored : List Str := ["rule"]
theorem sc_mirrored : FnScope nl_mirrored ps_mirrored (C8.fnScope st_mirrored) := ⟨rfl, rfl, rfl, by decide +kernel, rfl, by decide +kernel, by decide +kernel⟩
-- 0:rule
theorem nv_mirrored : NL nl_mirrored (C8.fnScope st_mirrored) 0 "rule" := ⟨rfl, rfl⟩
abbrev st_put_in : Stmt := top 33
abbrev nl_put_in : List Str := ["rule", "rules"]
abbrev ps_put_in : List Str := ["rule", "rules"]
theorem sc_put_in : FnScope nl_put_in ps_put_in (C8.fnScope st_put_in) := ⟨rfl, rfl, rfl, by decide +kernel, rfl, by decide +kernel, by decide +kernel⟩
-- 0:rule 1:rules*
theorem nv_put_in : NL nl_put_in (C8.fnScope st_put_in) 0 "rule" ∧ NC nl_put_in (C8.fnScope st_put_in) 1 "rules" := ⟨⟨rfl, rfl⟩, ⟨rfl, rfl⟩⟩
abbrev st_x_is_rule_table : Stmt := top 34
abbrev nl_x_is_rule_table : List Str := ["value", "name", "rule"]
abbrev ps_x_is_rule_table : List Str := ["value"]
theorem sc_x_is_rule_table : FnScope nl_x_is_rule_table ps_x_is_rule_table (C8.fnScope st_x_is_rule_table) := ⟨rfl, rfl, rfl, by decide +kernel, rfl, by decide +kernel, by decide +kernel⟩
-- 0:value
theorem nv_x_is_rule_table : NL nl_x_is_rule_table (C8.fnScope st_x_is_rule_table) 0 "value" := ⟨rfl, rfl⟩
abbrev st_x_put_in_part : Stmt := top 35
abbrev nl_x_put_in_part : List Str := ["part", "rules", "word", "name", "wait"]
abbrev ps_x_put_in_part : List Str := ["part", "rules"]
theorem sc_x_put_in_part : FnScope nl_x_put_in_part ps_x_put_in_part (C8.fnScope st_x_put_in_part) := ⟨rfl, rfl, rfl, by decide +kernel, rfl, by decide +kernel, by decide +kernel⟩
-- 0:part 1:rules 2:word 3:name 4:wait
theorem nv_x_put_in_part : NL nl_x_put_in_part (C8.fnScope st_x_put_in_part) 0 "part" ∧ NL nl_x_put_in_part (C8.fnScope st_x_put_in_part) 1 "rules" ∧ NL nl_x_put_in_part (C8.fnScope st_x_put_in_part) 2 "word" ∧ NL nl_x_put_in_part (C8.fnScope st_x_put_in_part) 3 "name" ∧ NL nl_x_put_in_part (C8.fnScope st_x_put_in_part) 4 "wait" := ⟨⟨rfl, rfl⟩, ⟨rfl, rfl⟩, ⟨rfl, rfl⟩, ⟨rfl, rfl⟩, ⟨rfl, rfl⟩⟩
abbrev st_parts : Stmt := top 36
abbrev nl_parts : List Str := ["rule"]
abbrev ps_parts : List Str := ["rule"]
theorem sc_parts : FnScope nl_parts ps_parts (C8.fnScope st_parts) := ⟨rfl, rfl, rfl, by decide +kernel, rfl, by decide +kernel, by decide +kernel⟩
-- 0:rule
theorem nv_parts : NL nl_parts (C8.fnScope st_parts) 0 "rule" := ⟨rfl, rfl⟩
abbrev st_purse : Stmt := top 38
abbrev nl_purse : List Str := ["_law_script", "_law_at", "_law_seed"]
abbrev ps_purse : List Str := ["_law_script", "_law_at"]
theorem sc_purse : FnScope nl_purse ps_purse (C8.fnScope st_purse) := ⟨rfl, rfl, rfl, by decide +kernel, rfl, by decide +kernel, by decide +kernel⟩
-- 0:_law_script 1:_law_at 2:_law_seed
theorem nv_purse : NL nl_purse (C8.fnScope st_purse) 0 "_law_script" ∧ NL nl_purse (C8.fnScope st_purse) 1 "_law_at" ∧ NL nl_purse (C8.fnScope st_purse) 2 "_law_seed" := ⟨⟨rfl, rfl⟩, ⟨rfl, rfl⟩, ⟨rfl, rfl⟩⟩
abbrev st_mixed : Stmt := top 39
abbrev nl_mixed : List Str := ["_law_seed", "_law_turn", "_law_at", "_law_mixed_here"]
abbrev ps_mixed : List Str := ["_law_seed", "_law_turn", "_law_at"]
theorem sc_mixed : FnScope nl_mixed ps_mixed (C8.fnScope st_mixed) := ⟨rfl, rfl, rfl, by decide +kernel, rfl, by decide +kernel, by decide +kernel⟩
-- 0:_law_seed 1:_law_turn 2:_law_at 3:_law_mixed_here
theorem nv_mixed : NL nl_mixed (C8.fnScope st_mixed) 0 "_law_seed" ∧ NL nl_mixed (C8.fnScope st_mixed) 1 "_law_turn" ∧ NL nl_mixed (C8.fnScope st_mixed) 2 "_law_at" ∧ NL nl_mixed (C8.fnScope st_mixed) 3 "_law_mixed_here" := ⟨⟨rfl, rfl⟩, ⟨rfl, rfl⟩, ⟨rfl, rfl⟩, ⟨rfl, rfl⟩⟩
abbrev st_draw : Stmt := top 40
abbrev nl_draw : List Str := ["_law_purse_here", "_law_many", "_law_drawn", "_law_found", "_law_piece"]
abbrev ps_draw : List Str := ["_law_purse_here", "_law_many"]
theorem sc_draw : FnScope nl_draw ps_draw (C8.fnScope st_draw) := ⟨rfl, rfl, rfl, by decide +kernel, rfl, by decide +kernel, by decide +kernel⟩
-- 0:_law_purse_here 1:_law_many 2:_law_drawn 3:_law_found 4:_law_piece
theorem nv_draw : NL nl_draw (C8.fnScope st_draw) 0 "_law_purse_here" ∧ NL nl_draw (C8.fnScope st_draw) 1 "_law_many" ∧ NL nl_draw (C8.fnScope st_draw) 2 "_law_drawn" ∧ NL nl_draw (C8.fnScope st_draw) 3 "_law_found" ∧ NL nl_draw (C8.fnScope st_draw) 4 "_law_piece" := ⟨⟨rfl, rfl⟩, ⟨rfl, rfl⟩, ⟨rfl, rfl⟩, ⟨rfl, rfl⟩, ⟨rfl, rfl⟩⟩
abbrev st_purses : Stmt := top 41
abbrev nl_purses : List Str := ["_law_script", "_law_few", "_law_at"]
abbrev ps_purses : List Str := ["_law_script", "_law_few"]
theorem sc_purses : FnScope nl_purses ps_purses (C8.fnScope st_purses) := ⟨rfl, rfl, rfl, by decide +kernel, rfl, by decide +kernel, by decide +kernel⟩
-- 1:_law_few 0:_law_script*
theorem nv_purses : NL nl_purses (C8.fnScope st_purses) 1 "_law_few" ∧ NC nl_purses (C8.fnScope st_purses) 0 "_law_script" := ⟨⟨rfl, rfl⟩, ⟨rfl, rfl⟩⟩
abbrev st_one_of : Stmt := top 42
abbrev nl_one_of : List Str := ["_law_purse_here", "_law_some"]
abbrev ps_one_of : List Str := ["_law_purse_here", "_law_some"]
theorem sc_one_of : FnScope nl_one_of ps_one_of (C8.fnScope st_one_of) := ⟨rfl, rfl, rfl, by decide +kernel, rfl, by decide +kernel, by decide +kernel⟩
-- 0:_law_purse_here 1:_law_some
theorem nv_one_of : NL nl_one_of (C8.fnScope st_one_of) 0 "_law_purse_here" ∧ NL nl_one_of (C8.fnScope st_one_of) 1 "_law_some" := ⟨⟨rfl, rfl⟩, ⟨rfl, rfl⟩⟩
abbrev st_shuffled : Stmt := top 43
abbrev nl_shuffled : List Str := ["_law_purse_here", "_law_some", "_law_found", "_law_item"]
abbrev ps_shuffled : List Str := ["_law_purse_here", "_law_some"]
theorem sc_shuffled : FnScope nl_shuffled ps_shuffled (C8.fnScope st_shuffled) := ⟨rfl, rfl, rfl, by decide +kernel, rfl, by decide +kernel, by decide +kernel⟩
-- 0:_law_purse_here 1:_law_some 2:_law_found 3:_law_item
theorem nv_shuffled : NL nl_shuffled (C8.fnScope st_shuffled) 0 "_law_purse_here" ∧ NL nl_shuffled (C8.fnScope st_shuffled) 1 "_law_some" ∧ NL nl_shuffled (C8.fnScope st_shuffled) 2 "_law_found" ∧ NL nl_shuffled (C8.fnScope st_shuffled) 3 "_law_item" := ⟨⟨rfl, rfl⟩, ⟨rfl, rfl⟩, ⟨rfl, rfl⟩, ⟨rfl, rfl⟩⟩
abbrev st_word : Stmt := top 44
abbrev nl_word : List Str := ["_law_purse_here", "_law_found", "_law_turn"]
abbrev ps_word : List Str := ["_law_purse_here"]
theorem sc_word : FnScope nl_word ps_word (C8.fnScope st_word) := ⟨rfl, rfl, rfl, by decide +kernel, rfl, by decide +kernel, by decide +kernel⟩
-- 0:_law_purse_here 1:_law_found 2:_law_turn
theorem nv_word : NL nl_word (C8.fnScope st_word) 0 "_law_purse_here" ∧ NL nl_word (C8.fnScope st_word) 1 "_law_found" ∧ NL nl_word (C8.fnScope st_word) 2 "_law_turn" := ⟨⟨rfl, rfl⟩, ⟨rfl, rfl⟩, ⟨rfl, rfl⟩⟩
abbrev st_names : Stmt := top 45
abbrev nl_names : List Str := ["_law_purse_here", "_law_many", "_law_fresh", "_law_some", "_law_word_here"]
abbrev ps_names : List Str := ["_law_purse_here", "_law_many"]
theorem sc_names : FnScope nl_names ps_names (C8.fnScope st_names) := ⟨rfl, rfl, rfl, by decide +kernel, rfl, by decide +kernel, by decide +kernel⟩
-- 0:_law_purse_here 1:_law_many 2:_law_fresh 3:_law_some*
theorem nv_names : NL nl_names (C8.fnScope st_names) 0 "_law_purse_here" ∧ NL nl_names (C8.fnScope st_names) 1 "_law_many" ∧ NL nl_names (C8.fnScope st_names) 2 "_law_fresh" ∧ NC nl_names (C8.fnScope st_names) 3 "_law_some" := ⟨⟨rfl, rfl⟩, ⟨rfl, rfl⟩, ⟨rfl, rfl⟩, ⟨rfl, rfl⟩⟩
abbrev st_wait : Stmt := top 46
abbrev nl_wait : List Str := ["_law_purse_here", "_law_some"]
abbrev ps_wait : List Str := ["_law_purse_here"]
theorem sc_wait : FnScope nl_wait ps_wait (C8.fnScope st_wait) := ⟨rfl, rfl, rfl, by decide +kernel, rfl, by decide +kernel, by decide +kernel⟩
-- 0:_law_purse_here 1:_law_some
theorem nv_wait : NL nl_wait (C8.fnScope st_wait) 0 "_law_purse_here" ∧ NL nl_wait (C8.fnScope st_wait) 1 "_law_some" := ⟨⟨rfl, rfl⟩, ⟨rfl, rfl⟩⟩
abbrev st_small_wait : Stmt := top 47
abbrev nl_small_wait : List Str := ["_law_purse_here"]
abbrev ps_small_wait : List Str := ["_law_purse_here"]
theorem sc_small_wait : FnScope nl_small_wait ps_small_wait (C8.fnScope st_small_wait) := ⟨rfl, rfl, rfl, by decide +kernel, rfl, by decide +kernel, by decide +kernel⟩
-- 0:_law_purse_here
theorem nv_small_wait : NL nl_small_wait (C8.fnScope st_small_wait) 0 "_law_purse_here" := ⟨rfl, rfl⟩
abbrev st_part : Stmt := top 48
abbrev nl_part : List Str := ["_law_purse_here", "_law_names_here", "_law_hung", "_law_is_small", "_law_wait_here"]
abbrev ps_part : List Str := ["_law_purse_here", "_law_names_here", "_law_hung", "_law_is_small"]
theorem sc_part : FnScope nl_part ps_part (C8.fnScope st_part) := ⟨rfl, rfl, rfl, by decide +kernel, rfl, by decide +kernel, by decide +kernel⟩
-- 0:_law_purse_here 1:_law_names_here 2:_law_hung 3:_law_is_small 4:_law_wait_here
theorem nv_part : NL nl_part (C8.fnScope st_part) 0 "_law_purse_here" ∧ NL nl_part (C8.fnScope st_part) 1 "_law_names_here" ∧ NL nl_part (C8.fnScope st_part) 2 "_law_hung" ∧ NL nl_part (C8.fnScope st_part) 3 "_law_is_small" ∧ NL nl_part (C8.fnScope st_part) 4 "_law_wait_here" := ⟨⟨rfl, rfl⟩, ⟨rfl, rfl⟩, ⟨rfl, rfl⟩, ⟨rfl, rfl⟩, ⟨rfl, rfl⟩⟩
abbrev st_term : Stmt := top 49
abbrev nl_term : List Str := ["_law_purse_here", "_law_names_here", "_law_hung", "_law_many", "_law_is_small", "_law_word_here", "_law_way", "_law_count", "_law_sizes", "_law_turn", "_law_at", "_law_inner", "_law_size"]
abbrev ps_term : List Str := ["_law_purse_here", "_law_names_here", "_law_hung", "_law_many", "_law_is_small"]
theorem sc_term : FnScope nl_term ps_term (C8.fnScope st_term) := ⟨rfl, rfl, rfl, by decide +kernel, rfl, by decide +kernel, by decide +kernel⟩
-- 3:_law_many 5:_law_word_here 6:_law_way 7:_law_count 8:_law_sizes 9:_law_turn 10:_law_at 11:_law_inner 0:_law_purse_here* 1:_law_names_here* 2:_law_hung* 4:_law_is_small*
theorem nv_term : NL nl_term (C8.fnScope st_term) 3 "_law_many" ∧ NL nl_term (C8.fnScope st_term) 5 "_law_word_here" ∧ NL nl_term (C8.fnScope st_term) 6 "_law_way" ∧ NL nl_term (C8.fnScope st_term) 7 "_law_count" ∧ NL nl_term (C8.fnScope st_term) 8 "_law_sizes" ∧ NL nl_term (C8.fnScope st_term) 9 "_law_turn" ∧ NL nl_term (C8.fnScope st_term) 10 "_law_at" ∧ NL nl_term (C8.fnScope st_term) 11 "_law_inner" ∧ NC nl_term (C8.fnScope st_term) 0 "_law_purse_here" ∧ NC nl_term (C8.fnScope st_term) 1 "_law_names_here" ∧ NC nl_term (C8.fnScope st_term) 2 "_law_hung" ∧ NC nl_term (C8.fnScope st_term) 4 "_law_is_small" := ⟨⟨rfl, rfl⟩, ⟨rfl, rfl⟩, ⟨rfl, rfl⟩, ⟨rfl, rfl⟩, ⟨rfl, rfl⟩, ⟨rfl, rfl⟩, ⟨rfl, rfl⟩, ⟨rfl, rfl⟩, ⟨rfl, rfl⟩, ⟨rfl, rfl⟩, ⟨rfl, rfl⟩, ⟨rfl, rfl⟩⟩
abbrev st_hours : Stmt := top 50
abbrev nl_hours : List Str := ["_law_purse_here", "_law_names_here", "_law_wide", "_law_name"]
abbrev ps_hours : List Str := ["_law_purse_here", "_law_names_here"]
theorem sc_hours : FnScope nl_hours ps_hours (C8.fnScope st_hours) := ⟨rfl, rfl, rfl, by decide +kernel, rfl, by decide +kernel, by decide +kernel⟩
-- 1:_law_names_here 0:_law_purse_here* 2:_law_wide*
theorem nv_hours : NL nl_hours (C8.fnScope st_hours) 1 "_law_names_here" ∧ NC nl_hours (C8.fnScope st_hours) 0 "_law_purse_here" ∧ NC nl_hours (C8.fnScope st_hours) 2 "_law_wide" := ⟨⟨rfl, rfl⟩, ⟨rfl, rfl⟩, ⟨rfl, rfl⟩⟩
abbrev st_l_told : Stmt := top 51
abbrev nl_l_told : List Str := ["_law_term_here", "_law_hours_here", "_law_now", "_law_found", "_law_one"]
abbrev ps_l_told : List Str := ["_law_term_here", "_law_hours_here", "_law_now"]
theorem sc_l_told : FnScope nl_l_told ps_l_told (C8.fnScope st_l_told) := ⟨rfl, rfl, rfl, by decide +kernel, rfl, by decide +kernel, by decide +kernel⟩
-- 0:_law_term_here 3:_law_found 1:_law_hours_here* 2:_law_now*
theorem nv_l_told : NL nl_l_told (C8.fnScope st_l_told) 0 "_law_term_here" ∧ NL nl_l_told (C8.fnScope st_l_told) 3 "_law_found" ∧ NC nl_l_told (C8.fnScope st_l_told) 1 "_law_hours_here" ∧ NC nl_l_told (C8.fnScope st_l_told) 2 "_law_now" := ⟨⟨rfl, rfl⟩, ⟨rfl, rfl⟩, ⟨rfl, rfl⟩, ⟨rfl, rfl⟩⟩
abbrev st_moved : Stmt := top 52
abbrev nl_moved : List Str := ["_law_term_here", "_law_by", "_law_one"]
abbrev ps_moved : List Str := ["_law_term_here", "_law_by"]
theorem sc_moved : FnScope nl_moved ps_moved (C8.fnScope st_moved) := ⟨rfl, rfl, rfl, by decide +kernel, rfl, by decide +kernel, by decide +kernel⟩
-- 0:_law_term_here 1:_law_by*
theorem nv_moved : NL nl_moved (C8.fnScope st_moved) 0 "_law_term_here" ∧ NC nl_moved (C8.fnScope st_moved) 1 "_law_by" := ⟨⟨rfl, rfl⟩, ⟨rfl, rfl⟩⟩
abbrev st_l_mirrored : Stmt := top 53
abbrev nl_l_mirrored : List Str := ["_law_term_here", "_law_inner", "_law_one"]
abbrev ps_l_mirrored : List Str := ["_law_term_here"]
theorem sc_l_mirrored : FnScope nl_l_mirrored ps_l_mirrored (C8.fnScope st_l_mirrored) := ⟨rfl, rfl, rfl, by decide +kernel, rfl, by decide +kernel, by decide +kernel⟩
-- 0:_law_term_here 1:_law_inner
theorem nv_l_mirrored : NL nl_l_mirrored (C8.fnScope st_l_mirrored) 0 "_law_term_here" ∧ NL nl_l_mirrored (C8.fnScope st_l_mirrored) 1 "_law_inner" := ⟨⟨rfl, rfl⟩, ⟨rfl, rfl⟩⟩
abbrev st_put : Stmt := top 54
abbrev nl_put : List Str := ["_law_term_here", "_law_terms", "_law_one"]
abbrev ps_put : List Str := ["_law_term_here", "_law_terms"]
theorem sc_put : FnScope nl_put ps_put (C8.fnScope st_put) := ⟨rfl, rfl, rfl, by decide +kernel, rfl, by decide +kernel, by decide +kernel⟩
-- 0:_law_term_here 1:_law_terms*
theorem nv_put : NL nl_put (C8.fnScope st_put) 0 "_law_term_here" ∧ NC nl_put (C8.fnScope st_put) 1 "_law_terms" := ⟨⟨rfl, rfl⟩, ⟨rfl, rfl⟩⟩
abbrev st_turned : Stmt := top 55
abbrev nl_turned : List Str := ["_law_hours_here", "_law_name"]
abbrev ps_turned : List Str := ["_law_hours_here"]
theorem sc_turned : FnScope nl_turned ps_turned (C8.fnScope st_turned) := ⟨rfl, rfl, rfl, by decide +kernel, rfl, by decide +kernel, by decide +kernel⟩
-- 0:_law_hours_here*
theorem nv_turned : NC nl_turned (C8.fnScope st_turned) 0 "_law_hours_here" := ⟨rfl, rfl⟩
abbrev st_one_right : Stmt := top 56
abbrev nl_one_right : List Str := ["_law_purse_here", "_law_rule", "_law_names_here", "_law_term_here", "_law_by", "_law_later", "_law_other", "_law_turn", "_law_hours_here", "_law_now"]
abbrev ps_one_right : List Str := ["_law_purse_here", "_law_rule", "_law_names_here"]
theorem sc_one_right : FnScope nl_one_right ps_one_right (C8.fnScope st_one_right) := ⟨rfl, rfl, rfl, by decide +kernel, rfl, by decide +kernel, by decide +kernel⟩
-- 0:_law_purse_here 1:_law_rule 2:_law_names_here 3:_law_term_here 4:_law_by 5:_law_later 6:_law_other 7:_law_turn 8:_law_hours_here 9:_law_now
theorem nv_one_right : NL nl_one_right (C8.fnScope st_one_right) 0 "_law_purse_here" ∧ NL nl_one_right (C8.fnScope st_one_right) 1 "_law_rule" ∧ NL nl_one_right (C8.fnScope st_one_right) 2 "_law_names_here" ∧ NL nl_one_right (C8.fnScope st_one_right) 3 "_law_term_here" ∧ NL nl_one_right (C8.fnScope st_one_right) 4 "_law_by" ∧ NL nl_one_right (C8.fnScope st_one_right) 5 "_law_later" ∧ NL nl_one_right (C8.fnScope st_one_right) 6 "_law_other" ∧ NL nl_one_right (C8.fnScope st_one_right) 7 "_law_turn" ∧ NL nl_one_right (C8.fnScope st_one_right) 8 "_law_hours_here" ∧ NL nl_one_right (C8.fnScope st_one_right) 9 "_law_now" := ⟨⟨rfl, rfl⟩, ⟨rfl, rfl⟩, ⟨rfl, rfl⟩, ⟨rfl, rfl⟩, ⟨rfl, rfl⟩, ⟨rfl, rfl⟩, ⟨rfl, rfl⟩, ⟨rfl, rfl⟩, ⟨rfl, rfl⟩, ⟨rfl, rfl⟩⟩
abbrev st_put_right : Stmt := top 57
abbrev nl_put_right : List Str := ["_law_purse_here", "_law_rule", "_law_names_here", "_law_some", "_law_terms", "_law_name", "_law_made", "_law_kept", "_law_turn", "_law_hours_here", "_law_now", "_law_later", "_law_strange", "_law_word_here"]
abbrev ps_put_right : List Str := ["_law_purse_here", "_law_rule", "_law_names_here"]
theorem sc_put_right : FnScope nl_put_right ps_put_right (C8.fnScope st_put_right) := ⟨rfl, rfl, rfl, by decide +kernel, rfl, by decide +kernel, by decide +kernel⟩
-- 0:_law_purse_here 1:_law_rule 3:_law_some 4:_law_terms 5:_law_name 6:_law_made 7:_law_kept 8:_law_turn 9:_law_hours_here 10:_law_now 11:_law_later 12:_law_strange 2:_law_names_here*
theorem nv_put_right : NL nl_put_right (C8.fnScope st_put_right) 0 "_law_purse_here" ∧ NL nl_put_right (C8.fnScope st_put_right) 1 "_law_rule" ∧ NL nl_put_right (C8.fnScope st_put_right) 3 "_law_some" ∧ NL nl_put_right (C8.fnScope st_put_right) 4 "_law_terms" ∧ NL nl_put_right (C8.fnScope st_put_right) 5 "_law_name" ∧ NL nl_put_right (C8.fnScope st_put_right) 6 "_law_made" ∧ NL nl_put_right (C8.fnScope st_put_right) 7 "_law_kept" ∧ NL nl_put_right (C8.fnScope st_put_right) 8 "_law_turn" ∧ NL nl_put_right (C8.fnScope st_put_right) 9 "_law_hours_here" ∧ NL nl_put_right (C8.fnScope st_put_right) 10 "_law_now" ∧ NL nl_put_right (C8.fnScope st_put_right) 11 "_law_later" ∧ NL nl_put_right (C8.fnScope st_put_right) 12 "_law_strange" ∧ NC nl_put_right (C8.fnScope st_put_right) 2 "_law_names_here" := ⟨⟨rfl, rfl⟩, ⟨rfl, rfl⟩, ⟨rfl, rfl⟩, ⟨rfl, rfl⟩, ⟨rfl, rfl⟩, ⟨rfl, rfl⟩, ⟨rfl, rfl⟩, ⟨rfl, rfl⟩, ⟨rfl, rfl⟩, ⟨rfl, rfl⟩, ⟨rfl, rfl⟩, ⟨rfl, rfl⟩, ⟨rfl, rfl⟩⟩
abbrev st_right : Stmt := top 58
abbrev nl_right : List Str := ["_law_purse_here", "_law_names_here", "_law_term_here", "_law_rule"]
abbrev ps_right : List Str := ["_law_purse_here"]
theorem sc_right : FnScope nl_right ps_right (C8.fnScope st_right) := ⟨rfl, rfl, rfl, by decide +kernel, rfl, by decide +kernel, by decide +kernel⟩
-- 0:_law_purse_here 1:_law_names_here 2:_law_term_here 3:_law_rule
theorem nv_right : NL nl_right (C8.fnScope st_right) 0 "_law_purse_here" ∧ NL nl_right (C8.fnScope st_right) 1 "_law_names_here" ∧ NL nl_right (C8.fnScope st_right) 2 "_law_term_here" ∧ NL nl_right (C8.fnScope st_right) 3 "_law_rule" := ⟨⟨rfl, rfl⟩, ⟨rfl, rfl⟩, ⟨rfl, rfl⟩, ⟨rfl, rfl⟩⟩
abbrev st_law : Stmt := top 59
abbrev nl_law : List Str := ["_law_script", "_law_purse_here", "_law_two", "_law_swapped"]
abbrev ps_law : List Str := ["_law_script"]
theorem sc_law : FnScope nl_law ps_law (C8.fnScope st_law) := ⟨rfl, rfl, rfl, by decide +kernel, rfl, by decide +kernel, by decide +kernel⟩
-- 0:_law_script 1:_law_purse_here 2:_law_two 3:_law_swapped
theorem nv_law : NL nl_law (C8.fnScope st_law) 0 "_law_script" ∧ NL nl_law (C8.fnScope st_law) 1 "_law_purse_here" ∧ NL nl_law (C8.fnScope st_law) 2 "_law_two" ∧ NL nl_law (C8.fnScope st_law) 3 "_law_swapped" := ⟨⟨rfl, rfl⟩, ⟨rfl, rfl⟩, ⟨rfl, rfl⟩, ⟨rfl, rfl⟩⟩
/-! ### the law's purse -/
/-- a purse at p that has been drawn from at most n times -/
def Purse (H : Hp) (p : Addr) (n : Nat) : Prop := ∃ a b c d : Int, H p = some (.lst [.int a, .int b, .int c, .int d]) ∧ 0 ≤ a ∧ a.natAbs < 2 ^ 1600 ∧ (0 ≤ b ∧ b < 2147483629) ∧ (0 ≤ c ∧ c ≤ n) ∧ (0 ≤ d ∧ d < 1000)
def sp_mixed : Sp := fun vs H Q _ => ∃ s t a : Int, vs = [.int s, .int t, .int a] ∧ (0 ≤ s ∧ s < 2147483629) ∧ (0 ≤ t ∧ t < 2 ^ 40) ∧ (0 ≤ a ∧ a < 1000) ∧ ∀ r : Int, 0 ≤ r → r < 2147483587 → Q (.int r) H
theorem c_mixed {m : Md} {f : Addr} {fd : FuncData} (F : C8.Def m.K m.mg "_law_mixed" st_mixed f fd) (b : L2.Binds m.K fd ps_mixed []) : Cal m 1 "_law_mixed" sp_mixed := by
  refine cal_of F b sc_mixed (fun vs H Q E h => by obtain ⟨_, _, _, rfl, _⟩ := h; rfl) fun X vs H Q E hA h => ?_
  obtain ⟨s, t, a, rfl, hs, ht, ha, k⟩ := h
  obtain ⟨n0, n1, n2, n3⟩ := nv_mixed
  walk_at "B"
  walk_at "V"
  refine g_mulI (.inl (by omega)) ?_
  walk_at "V"
  refine g_mulI (.inl (by omega)) ?_
  walk_at "V"
  refine g_mulI (.inl (by omega)) ?_
  walk_at "V"
  refine g_mulI (.inl (by omega)) ?_
  walk_at "V"
  refine g_modB (by omega) fun r1 h1 h1' => ?_
  walk_at "V"
  refine g_mulI (.inl (by omega)) ?_
  walk_at "V"
  refine g_modB (by omega) fun r2 h2 h2' => ?_
  walk_at "V"
  refine g_mulI (.inl (by omega)) ?_
  walk_at "V"
  refine g_modB (by omega) fun r3 h3 h3' => ?_
  exact k r3 h3 h3'
/-- the purse at p alone has changed: it was drawn from at most j times -/
structure Drew (m : Md) (p : Addr) (n j : Nat) (H H' : Hp) : Prop where
  grow : GrowX m.T (· = p) H H'
  purse : Purse H' p (n + j)
theorem Purse.mono {H : Hp} {p : Addr} {n j : Nat} (h : Purse H p n) (l : n ≤ j) : Purse H p j := by
  obtain ⟨a, b, c, d, h1, h2, h3, h4, h5, h6⟩ := h
  exact ⟨a, b, c, d, h1, h2, h3, h4, ⟨h5.1, by omega⟩, h6⟩
theorem Drew.trans {m : Md} {p : Addr} {n i j : Nat} {H H1 H2 : Hp} (a : Drew m p n i H H1) (b : Drew m p (n + i) j H1 H2) : Drew m p n (i + j) H H2 := ⟨a.grow.trans b.grow, by rw [← Nat.add_assoc]; exact b.purse⟩
theorem Drew.mono {m : Md} {p : Addr} {n i j : Nat} {H H1 : Hp} (a : Drew m p n i H H1) (l : i ≤ j) : Drew m p n j H H1 := ⟨a.grow, a.purse.mono (by omega)⟩
theorem Purse.new {m : Md} {H H' : Hp} {p : Addr} {n : Nat} (h : Purse H p n) (g : Grow m.T H H') : Purse H' p n := by
  obtain ⟨a, b, c, d, h1, r⟩ := h
  exact ⟨a, b, c, d, g.ext _ _ (fun z => z) h1 (fun _ z => by cases z), r⟩
theorem Purse.drew {m : Md} {H H' : Hp} {p : Addr} {n : Nat} (h : Purse H p n) (g : Grow m.T H H') : Drew m p n 0 H H' := ⟨g.to, h.new g⟩
def sp_draw (m : Md) : Sp := fun vs H Q _ => ∃ (p : Addr) (n : Nat) (z : Int), vs = [.ref p, .int z] ∧ Purse H p n ∧ n ≤ 2 ^ 39 ∧ 0 < z ∧ z < 2 ^ 200 ∧
  ∀ (r : Int) (H' : Hp), 0 ≤ r → r < z → Drew m p n 8 H H' → Q (.int r) H'
theorem Purse.at_ {H : Hp} {p : Addr} {n : Nat} (h : Purse H p n) : ∃ xs, H p = some (.lst xs) := ⟨_, h.choose_spec.choose_spec.choose_spec.choose_spec.1⟩
theorem Purse.x {m : Md} {S : Addr → Prop} {H H' : Hp} {p : Addr} {n : Nat} (h : Purse H p n) (g : GrowX m.T S H H') (hs : ¬ S p) : Purse H' p n := by
  obtain ⟨a, b, c, d, h1, r⟩ := h
  exact ⟨a, b, c, d, g.ext _ _ hs h1 (fun _ z => by cases z), r⟩
theorem Drew.pre {m : Md} {H H1 H2 : Hp} {p : Addr} {n j : Nat} (g : Grow m.T H H1) (d : Drew m p n j H1 H2) : Drew m p n j H H2 := ⟨g.to.trans d.grow, d.purse⟩
theorem Drew.post {m : Md} {H H1 H2 : Hp} {p : Addr} {n j : Nat} (d : Drew m p n j H H1) (g : Grow m.T H1 H2) : Drew m p n j H H2 := ⟨d.grow.trans g.to, d.purse.new g⟩
theorem c_draw {m : Md} {f : Addr} {fd : FuncData} (F : C8.Def m.K m.mg "_law_draw" st_draw f fd) (b : L2.Binds m.K fd ps_draw []) (hr : m.mg "range" = none) (M : Cal m 1 "_law_mixed" sp_mixed) : Cal m 2 "_law_draw" (sp_draw m) := by
  refine cal_of F b sc_draw (fun vs H Q E h => by obtain ⟨_, _, _, rfl, _⟩ := h; rfl) fun X vs H Q E hA h => ?_
  obtain ⟨p, n, mm, rfl, ⟨a, bb, c, d, hp, ha, ha2, hb, hc, hd⟩, hn, hm, hm2, k⟩ := h
  obtain ⟨n0, n1, n2, n3, n4⟩ := nv_draw
  walk_at "B"
  walk_at "V"
  refine g_ixL hA (SqL.of hp) (atI_at (j := 0) rfl) ?_
  walk_at "V"
  refine ite2 (fun h0 => ?_) fun h0 => ?_
  · simp only [decide_eq_true_eq] at h0
    walk_at "V"
    refine g_ixL hA (SqL.of hp) (atI_at (j := 0) rfl) ?_
    walk_at "V"
    refine g_modB hm fun r h1 h2 => ?_
    walk_at "V"
    refine g_ixL hA (SqL.of hp) (atI_at (j := 0) rfl) ?_
    walk_at "V"
    refine g_divW (wide_div (b := 200) hm (by omega) (by omega) (by omega)) ?_
    walk_at "V"
    refine ⟨p, _, _, 0, rfl, rfl, hp, rfl, ?_⟩
    walk_at "V"
    refine k r _ h1 h2 ⟨GrowX.set rfl hp (fun _ z => by cases z) (fun _ z => by unfold CodeO at z; cases z) (fun _ z => by cases z) (fun _ _ z => by cases z), a / mm, bb, c, d, by rw [upd_same]; rfl, Int.ediv_nonneg ha (by omega), ?_, hb, by omega, hd⟩
    have q1 : 0 ≤ a / mm := Int.ediv_nonneg ha (by omega)
    have q2 : a / mm ≤ a := Int.ediv_le_self _ ha
    omega
  · walk_at "V"
    have hbits : Builtin.Int.intBits mm ≤ 200 := PyProof.Rows.intBits_le (by omega)
    refine s_forR hA (pg_nl hA n4) hr rfl ?_
    walk_at "V"
    refine g_bits ?_
    walk_at "V"
    refine g_divI (by omega) ?_
    walk_at "V"
    have e : (0 : Int) ≤ (Builtin.Int.intBits mm : Int) / 28 ∧ (Builtin.Int.intBits mm : Int) / 28 ≤ 7 := by omega
    refine ⟨by omega, by omega, fun i σ H' => ∃ c' g : Int, σ = [some (.ref p), some (.int mm), none, some (.int g), σ.getD 4 none] ∧ H' = upd H p (.lst [.int a, .int bb, .int c', .int d]) ∧ 0 ≤ g ∧ 0 ≤ c' ∧ c' ≤ n + i, ?_, ?_, ?_⟩
    · refine ⟨c, 0, rfl, ?_, by omega, by omega, by omega⟩
      funext q
      by_cases z : q = p
      · rw [z, upd_same, hp]
      · rw [upd_ne z]
    · rintro i σ H' hi ⟨c', g, es, rfl, g0, c0, c1⟩
      rw [es]
      walk_at "B"
      walk_at "V"
      refine g_ixL hA (SqL.of upd_same) (atI_at (j := 2) rfl) ?_
      walk_at "V"
      refine ⟨p, _, _, 2, rfl, rfl, upd_same, rfl, ?_⟩
      rw [upd_upd]
      walk_at "V"
      refine g_mulI (.inr (by omega)) ?_
      walk_at "V"
      refine w_call hA M (by omega) rfl ?_
      walk_at "V"
      refine g_ixL hA (SqL.of upd_same) (atI_at (j := 1) rfl) ?_
      walk_at "V"
      refine g_ixL hA (SqL.of upd_same) (atI_at (j := 2) rfl) ?_
      walk_at "V"
      refine g_ixL hA (SqL.of upd_same) (atI_at (j := 3) rfl) ?_
      walk_at "V"
      refine ⟨bb, c' + 1, d, rfl, hb, by omega, by omega, fun r r0 r1 => ?_⟩
      walk_at "V"
      exact ⟨c' + 1, g * 2147483587 + r, rfl, rfl, by omega, by omega, by omega⟩
    · rintro σ H' ⟨c', g, es, rfl, g0, c0, c1⟩
      rw [es]
      walk_at "B"
      walk_at "V"
      refine g_modB hm fun r r0 r1 => ?_
      refine k r _ r0 r1 ⟨GrowX.set rfl hp (fun _ z => by cases z) (fun _ z => by unfold CodeO at z; cases z) (fun _ z => by cases z) (fun _ _ z => by cases z), a, bb, c', d, upd_same, ha, ha2, hb, by omega, hd⟩
def sp_purse (m : Md) : Sp := fun vs H Q _ => ∃ (a : Addr) (ns : List Int) (i : Int), vs = [.ref a, .int i] ∧ SqL m.K H a (ns.map V.int) ∧ 0 ≤ i ∧ i < 1000 ∧ ∀ p H', Grow m.T H H' → New H p → Purse H' p 0 → Q (.ref p) H'
theorem big_mod (z : Int) : 0 ≤ z % ((10 : Int) ^ (60 : Int).toNat) ^ (8 : Int).toNat ∧ (z % ((10 : Int) ^ (60 : Int).toNat) ^ (8 : Int).toNat).natAbs < 2 ^ 1600 := by
  have hp : (0 : Int) < ((10 : Int) ^ (60 : Int).toNat) ^ (8 : Int).toNat := by decide +kernel
  have h1 := Int.emod_nonneg z (show ((10 : Int) ^ (60 : Int).toNat) ^ (8 : Int).toNat ≠ 0 by omega)
  have h2 := Int.emod_lt_of_pos z hp
  have h3 : ((10 : Int) ^ (60 : Int).toNat) ^ (8 : Int).toNat < 2 ^ 1600 := by decide +kernel
  refine ⟨h1, ?_⟩
  have h4 : z % ((10 : Int) ^ (60 : Int).toNat) ^ (8 : Int).toNat < 2 ^ 1600 := Int.lt_trans h2 h3
  omega
theorem c_purse {m : Md} {f : Addr} {fd : FuncData} (F : C8.Def m.K m.mg "_law_purse" st_purse f fd) (b : L2.Binds m.K fd ps_purse []) (hsum : m.mg "sum" = none) (hmax : m.mg "max" = none) : Cal m 1 "_law_purse" (sp_purse m) := by
  refine cal_of F b sc_purse (fun vs H Q E h => by obtain ⟨_, _, _, rfl, _⟩ := h; rfl) fun X vs H Q E hA h => ?_
  obtain ⟨a, ns, i, rfl, hs, hi, hi2, k⟩ := h
  obtain ⟨n0, n1, n2⟩ := nv_purse
  walk_at "B"
  walk_at "V"
  refine g_blt hA hsum rfl bt_sum ?_
  walk_at "V"
  refine w_slice hA ?_
  walk_at "V"
  refine ⟨a, _, rfl, hs, fun p hp => ?_⟩
  walk_at "V"
  obtain ⟨ys, ey, _⟩ := cutV_map V.int ns (some i) (some (i + 1))
  refine g_sum (ns := ys) hA (SqL.of (by rw [← ey]; exact upd_same)) ?_
  generalize ys.sum = z
  walk_at "V"
  refine g_blt hA hmax rfl bt_max ?_
  walk_at "V"
  refine g_powI ⟨by omega, by omega, by omega⟩ ?_
  walk_at "V"
  refine g_max2 hA ?_
  walk_at "V"
  refine g_powI ⟨by omega, by omega, by omega⟩ ?_
  walk_at "V"
  refine g_powW (by omega) (by have := PyProof.Rows.intBits_le (show ((10 : Int) ^ (60 : Int).toNat).natAbs < 2 ^ 200 by decide +kernel); omega) ?_
  walk_at "V"
  refine g_modI (by decide +kernel) ?_
  walk_at "V"
  refine g_modB (by omega) fun r h1 h2 => ?_
  walk_at "V"
  refine ⟨by show 4 ≤ sizeLine; decide, fun d hd => ?_⟩
  obtain ⟨g1, g2⟩ := big_mod (if 0 > z - 10 ^ (18 : Int).toNat then 0 else z - 10 ^ (18 : Int).toNat)
  refine k d _ ((Grow.new hp).trans (Grow.new hd)) (NdefX.upd_none hd) ⟨_, r, 0, i, upd_same, g1, g2, ⟨h1, h2⟩, by omega, ⟨hi, hi2⟩⟩
def sp_one_of (m : Md) : Sp := fun vs H Q _ => ∃ (p : Addr) (n : Nat) (a : Addr) (xs : List V), vs = [.ref p, .ref a] ∧ Purse H p n ∧ n ≤ 2 ^ 39 ∧ SqL m.K H a xs ∧ a ≠ p ∧ 0 < xs.length ∧ xs.length < 1000000 ∧
  ∀ (j : Nat) (v : V) (H' : Hp), xs[j]? = some v → Drew m p n 8 H H' → Q v H'
theorem c_one_of {m : Md} {f : Addr} {fd : FuncData} (F : C8.Def m.K m.mg "_law_one_of" st_one_of f fd) (b : L2.Binds m.K fd ps_one_of []) (hlen : m.mg "len" = none) (D : Cal m 2 "_law_draw" (sp_draw m)) : Cal m 3 "_law_one_of" (sp_one_of m) := by
  refine cal_of F b sc_one_of (fun vs H Q E h => by obtain ⟨_, _, _, _, rfl, _⟩ := h; rfl) fun X vs H Q E hA h => ?_
  obtain ⟨p, n, a, xs, rfl, hp, hn, hs, hne, hl, hl2, k⟩ := h
  obtain ⟨n0, n1⟩ := nv_one_of
  walk_at "B"
  walk_at "V"
  refine w_call hA D (by omega) rfl ?_
  walk_at "V"
  refine g_blt hA hlen rfl bt_len ?_
  walk_at "V"
  refine g_lenL hA hs ?_
  walk_at "V"
  refine ⟨p, n, _, rfl, hp, hn, by omega, by omega, fun r H' r0 r1 dr => ?_⟩
  walk_at "V"
  have hr : (r.toNat : Int) = r := by omega
  rw [← hr]
  refine g_ixL hA (dr.grow.seqL hs hne) (atI_at (List.getElem?_eq_getElem (show r.toNat < xs.length by omega))) ?_
  exact k r.toNat _ H' (List.getElem?_eq_getElem (by omega)) dr
def sp_word (m : Md) : Sp := fun vs H Q _ => ∃ (p : Addr) (n : Nat), vs = [.ref p] ∧ Purse H p n ∧ n ≤ 2 ^ 38 ∧ ∀ (z : Str) (H' : Hp), IsName z → Drew m p n 72 H H' → Q (.str z) H'
theorem abc_at (r : Nat) (h : r < 26) : (("abcdefghijklmnopqrstuvwxyz" : Str).cps.toList)[r]? = some (97 + r) := by
  have e : ("abcdefghijklmnopqrstuvwxyz" : Str).cps.toList = (List.range 26).map (97 + ·) := by decide +kernel
  rw [e, List.getElem?_map, List.getElem?_range h]
  rfl
theorem c_word {m : Md} {f : Addr} {fd : FuncData} (F : C8.Def m.K m.mg "_law_word" st_word f fd) (b : L2.Binds m.K fd ps_word []) (hr : m.mg "range" = none) (D : Cal m 2 "_law_draw" (sp_draw m)) : Cal m 3 "_law_word" (sp_word m) := by
  refine cal_of F b sc_word (fun vs H Q E h => by obtain ⟨_, _, rfl, _⟩ := h; rfl) fun X vs H Q E hA h => ?_
  obtain ⟨p, n, rfl, hp, hn, k⟩ := h
  obtain ⟨n0, n1, n2⟩ := nv_word
  walk_at "B"
  walk_at "V"
  refine s_forR hA (pg_nl hA n2) hr rfl ?_
  walk_at "V"
  refine w_call hA D (by omega) rfl ?_
  walk_at "V"
  refine ⟨p, n, _, rfl, hp, by omega, by omega, by omega, fun r H1 r0 r1 d1 => ?_⟩
  walk_at "V"
  refine ⟨by omega, by omega, fun i σ H' => ∃ z : Str, σ = [some (.ref p), some (.str z), σ.getD 2 none] ∧ Drew m p n (8 + 8 * i) H H' ∧ z.length = i ∧ ∀ c ∈ z.cps.toList, 97 ≤ c ∧ c ≤ 122, ?_, ?_, ?_⟩
  · exact ⟨"", rfl, d1, rfl, fun c hc => by rw [show ("" : Str).cps.toList = [] from by decide +kernel] at hc; cases hc⟩
  · rintro i σ H' hi ⟨z, es, dr, zl, zc⟩
    rw [es]
    walk_at "B"
    walk_at "V"
    refine w_call hA D (by omega) rfl ?_
    walk_at "V"
    refine ⟨p, _, _, rfl, dr.purse, by omega, by omega, by omega, fun r2 H2 q0 q1 d2 => ?_⟩
    have hr2 : (r2.toNat : Int) = r2 := by omega
    rw [← hr2]
    refine g_ixS (by decide) (atI_at (abc_at r2.toNat (by omega))) ?_
    refine g_addS (by rw [zl]; show i + 1 ≤ sizeLine; rw [sizeLine_eq]; omega) ?_
    walk_at "V"
    refine ⟨(dr.trans d2), ?_, fun c hc => ?_⟩
    · rw [Str.length_append, zl]; rfl
    · rcases List.mem_append.1 ((show (z ++ (⟨#[97 + r2.toNat]⟩ : Str)).cps.toList = z.cps.toList ++ [97 + r2.toNat] from by show (z.cps ++ #[97 + r2.toNat]).toList = _; simp) ▸ hc) with h | h
      · exact zc c h
      · have := List.mem_singleton.1 h; omega
  · rintro σ H' ⟨z, es, dr, zl, zc⟩
    rw [es]
    walk_at "B"
    walk_at "V"
    exact k z H' ⟨by omega, by omega, zc⟩ (dr.mono (by omega))
/-- the purses of a list: apart, all new, each fresh -/
structure Purses (m : Md) (H H' : Hp) (r : Addr) (ps : List Addr) : Prop where
  grow : Grow m.T H H'
  isn : New H r
  seq : SqL m.K H' r (ps.map V.ref)
  nd : (r :: ps).Nodup
  new : ∀ p ∈ ps, New H p
  purse : ∀ p ∈ ps, Purse H' p 0
def sp_purses (m : Md) : Sp := fun vs H Q _ => ∃ (a : Addr) (ns : List Int) (few : Int), vs = [.ref a, .int few] ∧ SqL m.K H a (ns.map V.int) ∧ ns.length < 1000 ∧ 0 ≤ few ∧ few < 1000 ∧
  ∀ r ps H', Purses m H H' r ps → (ps.length : Int) = max 1 (min few ns.length) → Q (.ref r) H'
theorem c_purses {m : Md} {f : Addr} {fd : FuncData} (F : C8.Def m.K m.mg "_law_purses" st_purses f fd) (b : L2.Binds m.K fd ps_purses []) (hr : m.mg "range" = none) (hmax : m.mg "max" = none) (hmin : m.mg "min" = none) (hlen : m.mg "len" = none) (D1 : Cal m 1 "_law_purse" (sp_purse m)) : Cal m 2 "_law_purses" (sp_purses m) := by
  refine cal_of F b sc_purses (fun vs H Q E h => by obtain ⟨_, _, _, rfl, _⟩ := h; rfl) fun X vs H Q E hA h => ?_
  obtain ⟨a, ns, few, rfl, hs, hn, hf, hf2, k⟩ := h
  obtain ⟨n1, n0⟩ := nv_purses
  walk_at "B"
  walk_at "V"
  refine w_lcR hA hr rfl (by decide +kernel) (i := 2) ⟨rfl, rfl⟩ ?_
  refine g_blt hA hmax rfl bt_max ?_
  walk_at "V"
  refine g_blt hA hmin rfl bt_min ?_
  walk_at "V"
  refine g_blt hA hlen rfl bt_len ?_
  walk_at "V"
  refine g_lenL hA hs ?_
  walk_at "V"
  refine g_min2 hA ?_
  walk_at "V"
  refine g_max2 hA ?_
  rw [List.length_map]
  have e : (if (if (ns.length : Int) < few then (ns.length : Int) else few) > 1 then (if (ns.length : Int) < few then (ns.length : Int) else few) else 1) = max 1 (min few ns.length) := by omega
  rw [e]
  walk_at "V"
  refine ⟨by omega, by omega, fun D hD => ⟨fun i H' => ∃ ps : List Addr, ps.length = i ∧ Purses m H H' D ps ∧ H' D = some (.lst (ps.map V.ref)), ?_, ?_, ?_⟩⟩
  · exact ⟨[], rfl, ⟨Grow.new hD, hD, SqL.of upd_same, by simp, by simp, by simp⟩, upd_same⟩
  · rintro j H' hj ⟨ps, el, P, hl⟩ X' hX'
    have c0 := nc_of hX' 0 "_law_script"
    have c2 := nl_of hX' 2 "_law_at"
    refine w_call hX' D1 (by omega) rfl ?_
    walk_at "V"
    refine ⟨a, ns, j, rfl, P.grow.seqL hs (fun z => z), by omega, by omega, fun p H2 g np pp => ?_⟩
    have hD2 := g.extN D _ hl (fun _ z => by cases z)
    have hne : D ≠ p := (New.ne np hl).symm
    refine ⟨_, hD2, by rw [List.length_map, sizeLine_eq]; omega, ps ++ [p], by simp [el], ?_, by rw [upd_same]; simp⟩
    have gX := GrowX.lst (T := m.T) (ys := ps.map V.ref ++ [V.ref p]) hD2
    have gr := P.grow.intoNew (g.to.trans gX) (fun c z => by rw [z]; exact P.isn)
    refine ⟨gr, P.isn, by rw [List.map_append]; exact SqL.of upd_same, ?_, ?_, ?_⟩
    · have := P.nd
      have hp : p ∉ ps := fun z => by
        obtain ⟨_, e⟩ := (P.purse p z).at_
        rw [np] at e; cases e
      rw [List.nodup_cons] at this ⊢
      refine ⟨fun z => ?_, List.nodup_append.2 ⟨this.2, by simp, fun x hx y hy => ?_⟩⟩
      · rcases List.mem_append.1 z with z | z
        · exact this.1 z
        · exact hne (List.mem_singleton.1 z)
      · rw [List.mem_singleton.1 hy]; exact fun z => hp (z ▸ hx)
    · intro x hx
      rcases List.mem_append.1 hx with z | z
      · exact P.new x z
      · rw [List.mem_singleton.1 z]; exact P.grow.keep _ np
    · intro x hx
      rcases List.mem_append.1 hx with z | z
      · have nx : x ≠ D := fun w => (List.nodup_cons.1 P.nd).1 (w ▸ z)
        exact ((P.purse x z).new g).x gX nx
      · rw [List.mem_singleton.1 z]; exact pp.x gX hne.symm
  · rintro H' ⟨ps, el, P, hl⟩
    exact k D ps H' P (by omega)
def sp_shuffled (m : Md) : Sp := fun vs H Q _ => ∃ (p : Addr) (n : Nat) (a : Addr) (xs : List V), vs = [.ref p, .ref a] ∧ Purse H p n ∧ n ≤ 2 ^ 38 ∧ SqL m.K H a xs ∧ a ≠ p ∧ xs.length < 1000 ∧
  ∀ (r : Addr) (ys : List V) (H' : Hp), ys.Perm xs → Drew m p n (8 * xs.length) H H' → New H r → H' r = some (.lst ys) → Q (.ref r) H'
theorem c_shuffled {m : Md} {f : Addr} {fd : FuncData} (F : C8.Def m.K m.mg "_law_shuffled" st_shuffled f fd) (b : L2.Binds m.K fd ps_shuffled []) (hlen : m.mg "len" = none) (D : Cal m 2 "_law_draw" (sp_draw m)) : Cal m 3 "_law_shuffled" (sp_shuffled m) := by
  refine cal_of F b sc_shuffled (fun vs H Q E h => by obtain ⟨_, _, _, _, rfl, _⟩ := h; rfl) fun X vs H Q E hA h => ?_
  obtain ⟨p, n, a, xs, rfl, hp, hn, hs, hne, hl, k⟩ := h
  obtain ⟨n0, n1, n2, n3⟩ := nv_shuffled
  walk_at "B"
  walk_at "V"
  refine ⟨by decide, fun r hr => ?_⟩
  walk_at "V"
  refine s_forL hA (pg_nl hA n3) ?_
  walk_at "V"
  have hrp : r ≠ p := fun z => by obtain ⟨_, e⟩ := hp.at_; rw [← z, hr] at e; cases e
  refine ⟨a, xs, rfl, GrowX.seqL (Grow.new (T := m.T) hr) hs (fun z => z), fun i σ H' => ∃ ys, σ = [some (.ref p), some (.ref a), some (.ref r), σ.getD 3 none] ∧ ys.Perm (xs.take i) ∧ Drew m p n (8 * i) H H' ∧ H' r = some (.lst ys), ?_, ?_, ?_, ?_⟩
  · exact ⟨[], rfl, by simp, ⟨(Grow.new hr).to, hp.new (Grow.new (T := m.T) hr)⟩, upd_same⟩
  · rintro i σ H' hi ⟨ys, es, pm, dr, hy⟩
    exact dr.grow.seqL hs hne
  · rintro i x σ H' hx ⟨ys, es, pm, dr, hy⟩
    have hi : i < xs.length := (List.getElem?_eq_some_iff.1 hx).1
    have hyl : ys.length = i := by rw [pm.length_eq, List.length_take]; omega
    rw [es]
    walk_at "B"
    walk_at "V"
    refine g_insert ?_
    walk_at "V"
    refine ⟨tyL hy, ?_⟩
    walk_at "V"
    refine w_call hA D (by omega) rfl ?_
    walk_at "V"
    refine g_blt hA hlen rfl bt_len ?_
    walk_at "V"
    refine g_lenL hA (SqL.of hy) ?_
    walk_at "V"
    refine ⟨p, _, _, rfl, dr.purse, by omega, by omega, by omega, fun z H2 z0 z1 d2 => ?_⟩
    walk_at "V"
    have hy2 : H2 r = some (.lst ys) := d2.grow.ext _ _ hrp hy (fun _ z => by cases z)
    refine ⟨r, ys, z, x, rfl, rfl, hy2, by rw [sizeLine_eq]; omega, z0, by omega, ?_⟩
    walk_at "V"
    refine ⟨_, rfl, ?_, ?_, upd_same⟩
    · have e1 : xs.take (i + 1) = xs.take i ++ [x] := by rw [List.take_add_one, hx]; rfl
      rw [e1, List.append_assoc]
      show (ys.take z.toNat ++ (x :: ys.drop z.toNat)).Perm _
      refine (List.perm_middle).trans ?_
      rw [List.take_append_drop]
      exact (List.Perm.cons x pm).trans (List.perm_append_singleton x _).symm
    · have g := GrowX.lst (T := m.T) (ys := ys.take z.toNat ++ [x] ++ ys.drop z.toNat) hy2
      have d3 := dr.trans d2
      exact ⟨d3.grow.into g fun c w => .inl (by rw [w]; exact hr), d3.purse.x g (fun w => hrp w.symm)⟩
  · rintro σ H' ⟨ys, es, pm, dr, hy⟩
    rw [es]
    walk_at "B"
    walk_at "V"
    rw [List.take_length] at pm
    exact k r ys H' pm dr hr hy
/-- the names of this law: different ones, each a name; as many as asked for, but at most 8 -/
structure Names (zs : List Str) : Prop where
  nd : zs.Nodup
  isn : ∀ z ∈ zs, IsName z
def eight : List Str := ["ann", "a", "ab", "b", "first", "of", "end", "zzzzzzzz"]
theorem eight_ok : Names eight := by
  refine ⟨by decide +kernel, ?_⟩
  unfold eight IsName
  decide +kernel
theorem inV_str (z : Str) (zs : List Str) : inV (.str z) (zs.map V.str) = decide (z ∈ zs) := by
  unfold inV
  rw [List.any_map, Bool.eq_iff_iff, List.any_eq_true, decide_eq_true_eq]
  constructor
  · rintro ⟨y, hy, e⟩
    have : y = z := by simpa [eqV] using e
    exact this ▸ hy
  · exact fun h => ⟨z, h, by simp [eqV]⟩
theorem perm_str {ys : List V} {zs : List Str} (h : ys.Perm (zs.map V.str)) : ∃ ws : List Str, ys = ws.map V.str ∧ ws.Perm zs := by
  refine ⟨ys.map fun v => match v with | .str z => z | _ => "", ?_, ?_⟩
  · rw [List.map_map]
    refine (List.map_id ys).symm.trans (List.map_congr_left fun v hv => ?_)
    obtain ⟨z, _, e⟩ := List.mem_map.1 (h.mem_iff.1 hv)
    rw [← e]; rfl
  · have := h.map fun v => match v with | .str z => z | _ => ("" : Str)
    rw [List.map_map] at this
    refine this.trans ?_
    rw [show (fun v => match v with | .str z => z | _ => ("" : Str)) ∘ V.str = id from rfl, List.map_id]
theorem cut_to {xs : List V} {k : Nat} (h : (k : Int) < 1000000) : cutV xs none (some (k : Int)) = xs.take k := by
  unfold cutV
  rw [HT.sIx_none, HT.sIx_nat, List.drop_zero, Nat.sub_zero]
  exact PySem.W.kmk_take_min _ _
def sp_names (m : Md) : Sp := fun vs H Q _ => ∃ (p : Addr) (n : Nat) (k : Nat), vs = [.ref p, .int k] ∧ Purse H p n ∧ n ≤ 2 ^ 37 ∧ k ≤ 8 ∧
  ∀ (r : Addr) (zs : List Str) (H' : Hp), Names zs → zs.length = k → Drew m p n 160 H H' → New H r → H' r = some (.lst (zs.map V.str)) → Q (.ref r) H'
theorem c_names {m : Md} {f : Addr} {fd : FuncData} (F : C8.Def m.K m.mg "_law_names" st_names f fd) (b : L2.Binds m.K fd ps_names []) (W : Cal m 3 "_law_word" (sp_word m)) (S : Cal m 3 "_law_shuffled" (sp_shuffled m)) : Cal m 4 "_law_names" (sp_names m) := by
  refine cal_ofM F b sc_names (fun vs H Q E h => by obtain ⟨_, _, _, rfl, _⟩ := h; rfl) fun X vs H Q E hA hM h => ?_
  obtain ⟨p, n, k0, rfl, hp, hn, hk, k⟩ := h
  obtain ⟨n0, n1, n2, n3⟩ := nv_names
  walk_at "B"
  refine s_two hA (pg_nc hA n3 hM.fn) (pg_nl hA n2) ?_
  walk_at "V"
  refine ⟨by decide, fun l hl => ?_⟩
  have g1 := Grow.new (T := m.T) (o := .lst (eight.map V.str)) hl
  walk_at "V"
  refine w_call hA W (by omega) rfl ?_
  walk_at "V"
  refine ⟨p, n, rfl, hp.new g1, by omega, fun z H2 hz d2 => ?_⟩
  walk_at "V"
  refine ⟨by walk_at "S", fun q hq => ⟨q, _, _, rfl, SqT.of upd_same, ?_⟩⟩
  have g3 := Grow.new (T := m.T) (o := .tup [.ref l, .str z]) hq
  generalize eH3 : upd H2 q (.tup [.ref l, .str z]) = H3 at g3 ⊢
  have d3 : Drew m p n 72 H H3 := (Drew.pre g1 d2).post g3
  have hl3 : H3 l = some (.lst (eight.map V.str)) := g3.ext _ _ (fun z => z) (d2.grow.ext _ _ (fun w => by rw [w] at hl; obtain ⟨_, e⟩ := hp.at_; rw [hl] at e; cases e) upd_same (fun _ z => by cases z)) (fun _ z => by cases z)
  walk_at "B"
  walk_at "V"
  refine w_sliceTo hA ?_
  refine w_call hA S (by omega) rfl ?_
  walk_at "V"
  refine w_lcLi hA (by decide +kernel) (i := 4) ⟨rfl, rfl⟩ ?_
  walk_at "V"
  refine ⟨by walk_at "S", fun q1 hq1 => ⟨q1, _, rfl, SqL.of upd_same, fun D hD => ?_⟩⟩
  have hDq : D ≠ q1 := New.ne hD upd_same
  have hD3 : New H3 D := by rw [upd_ne hDq] at hD; exact hD
  refine ⟨fun j H' => Grow m.T H3 H' ∧ H' D = some (.lst ((if j = 0 ∨ z ∈ eight then [] else [z]).map V.str)) ∧ H' q1 = some (.lst [.str z]), ?_, ?_, ?_, ?_⟩
  · exact ⟨(Grow.new hq1).trans (Grow.new hD), upd_same, by rw [upd_ne hDq.symm]; exact upd_same⟩
  · rintro j H' _ ⟨_, _, h1⟩
    exact SqL.of h1
  · rintro j x H' hx ⟨g, hd, h1⟩ X' hX'
    have hj : j = 0 := by
      have := (List.getElem?_eq_some_iff.1 hx).1
      simp at this; exact this
    subst hj
    cases hx
    have c3 := nc_of hX' 3 "_law_some"
    have c4 := nl_of hX' 4 "_law_word_here"
    walk_at "V"
    refine g_notInF hX' (.inl (GrowX.seqL g (SqL.of hl3) (fun w => w))) rfl (by decide +kernel) ?_
    have e0 : inV (V.str z) (eight.map V.str) = decide (z ∈ eight) := inV_str z eight
    rw [e0]
    walk_at "V"
    refine ite2 (fun h0 => ?_) fun h0 => ?_
    · intro X2 hX2
      have c4 := nl_of hX2 4 "_law_word_here"
      walk_at "V"
      have hd0 : H' D = some (.lst []) := by simpa using hd
      refine ⟨_, hd0, by walk_at "S", g.intoNew (GrowX.lst hd0) (fun c w => by rw [w]; exact hD3), ?_, ?_⟩
      · have : z ∉ eight := by simpa using h0
        rw [upd_same, if_neg (by simp [this])]; rfl
      · rw [upd_ne hDq.symm]; exact h1
    · have : z ∈ eight := by simpa using h0
      exact ⟨g, by rw [if_pos (.inr this)]; simpa using hd, h1⟩
  · rintro H4 ⟨g4, hd, h1⟩
    generalize ht : (if [V.str z].length = 0 ∨ z ∈ eight then [] else [z] : List Str) = tl at hd
    have hN : Names (eight ++ tl) ∧ tl.length ≤ 1 := by
      have e8 := eight_ok
      rw [← ht]
      by_cases w : z ∈ eight
      · rw [if_pos (.inr w), List.append_nil]; exact ⟨e8, by decide⟩
      · rw [if_neg (by simp [w])]
        refine ⟨⟨List.nodup_append.2 ⟨e8.nd, by simp, fun x hx y hy => ?_⟩, fun x hx => ?_⟩, Nat.le_refl 1⟩
        · rw [List.mem_singleton.1 hy]; exact fun e => w (e ▸ hx)
        · rcases List.mem_append.1 hx with h | h
          · exact e8.isn x h
          · rw [List.mem_singleton.1 h]; exact hz
    have h8 : eight.length = 8 := rfl
    refine g_cat (g4.extN l _ hl3 (fun _ w => by cases w)) hd ?_ ?_
    · rw [List.length_map, List.length_map, sizeLine_eq]; omega
    intro r hr
    rw [← List.map_append]
    generalize hzs : eight ++ tl = zs at hN
    have hzl : 8 ≤ zs.length ∧ zs.length ≤ 9 := by rw [← hzs, List.length_append]; omega
    have d4 := (d3.post g4).post (Grow.new (o := .lst (zs.map V.str)) hr)
    walk_at "V"
    have hrp : r ≠ p := fun w => by obtain ⟨_, e⟩ := (d3.post g4).purse.at_; rw [← w, hr] at e; cases e
    refine ⟨p, _, _, _, rfl, d4.purse, by omega, SqL.of upd_same, hrp, by rw [List.length_map]; omega, ?_⟩
    intro r2 ys H5 pm d5 nr2 hy
    obtain ⟨ws, e1, pw⟩ : ∃ ws : List Str, ys = ws.map V.str ∧ ws.Perm zs := perm_str pm
    subst e1
    walk_at "V"
    refine ⟨r2, _, rfl, SqL.of hy, fun q9 hq9 => ?_⟩
    have : cutV (ws.map V.str) none (some (k0 : Int)) = (ws.take k0).map V.str := by
      rw [cut_to (by omega), List.map_take]
    rw [this]
    have d6 := (d4.trans d5).post (Grow.new (o := .lst ((ws.take k0).map V.str)) hq9)
    refine k q9 (ws.take k0) _ ⟨(hN.1.nd.perm pw.symm).sublist (List.take_sublist _ _), fun x hx => hN.1.isn x (pw.mem_iff.1 (List.mem_of_mem_take hx))⟩ ?_ (d6.mono ?_) ?_ upd_same
    · rw [List.length_take, pw.length_eq]; omega
    · rw [List.length_map]; omega
    · exact (d4.trans d5).grow.keep _ hq9
def sp_swait (m : Md) : Sp := fun vs H Q _ => ∃ (p : Addr) (n : Nat), vs = [.ref p] ∧ Purse H p n ∧ n ≤ 2 ^ 38 ∧ ∀ (w : Int) (H' : Hp), -1 ≤ w → w ≤ 3 → Drew m p n 16 H H' → Q (.int w) H'
theorem c_small_wait {m : Md} {f : Addr} {fd : FuncData} (F : C8.Def m.K m.mg "_law_small_wait" st_small_wait f fd) (b : L2.Binds m.K fd ps_small_wait []) (D : Cal m 2 "_law_draw" (sp_draw m)) : Cal m 3 "_law_small_wait" (sp_swait m) := by
  refine cal_of F b sc_small_wait (fun vs H Q E h => by obtain ⟨_, _, rfl, _⟩ := h; rfl) fun X vs H Q E hA h => ?_
  obtain ⟨p, n, rfl, hp, hn, k⟩ := h
  have n0 := nv_small_wait
  walk_at "B"
  walk_at "V"
  refine w_call hA D (by omega) rfl ?_
  walk_at "V"
  refine ⟨p, n, _, rfl, hp, by omega, by omega, by omega, fun r1 H1 q1 q2 d1 => ?_⟩
  refine w_call hA D (by omega) rfl ?_
  walk_at "V"
  refine ⟨p, _, _, rfl, d1.purse, by omega, by omega, by omega, fun r2 H2 q3 q4 d2 => ?_⟩
  walk_at "V"
  exact k _ _ (by omega) (by omega) (d1.trans d2)
def sp_wait (m : Md) : Sp := fun vs H Q _ => ∃ (p : Addr) (n : Nat), vs = [.ref p] ∧ Purse H p n ∧ n ≤ 2 ^ 38 ∧ ∀ (w : Int) (H' : Hp), -100000000000 ≤ w → w ≤ 200000000000 → Drew m p n 40 H H' → Q (.int w) H'
theorem c_wait {m : Md} {f : Addr} {fd : FuncData} (F : C8.Def m.K m.mg "_law_wait" st_wait f fd) (b : L2.Binds m.K fd ps_wait []) (D : Cal m 2 "_law_draw" (sp_draw m)) (O : Cal m 3 "_law_one_of" (sp_one_of m)) : Cal m 4 "_law_wait" (sp_wait m) := by
  refine cal_of F b sc_wait (fun vs H Q E h => by obtain ⟨_, _, rfl, _⟩ := h; rfl) fun X vs H Q E hA h => ?_
  obtain ⟨p, n, rfl, hp, hn, k⟩ := h
  obtain ⟨n0, n1⟩ := nv_wait
  walk_at "B"
  walk_at "V"
  refine w_call hA D (by omega) rfl ?_
  walk_at "V"
  refine ⟨p, n, _, rfl, hp, by omega, by omega, by omega, fun r1 H1 q1 q2 d1 => ?_⟩
  walk_at "V"
  refine ⟨by walk_at "S", fun l1 hl1 => ?_⟩
  have e1 := d1.post (Grow.new (o := .lst [.int 0, .int 0, .int 1, .int 2, .int 3, .int (-1), .int (-2), .int (r1 - 9)]) hl1)
  walk_at "V"
  refine w_call hA D (by omega) rfl ?_
  walk_at "V"
  refine g_powI ⟨by omega, by omega, by omega⟩ ?_
  rw [show ((10 : Int) ^ (9 : Int).toNat) = 1000000000 from by decide +kernel]
  walk_at "V"
  have hlp : l1 ≠ p := fun w => by obtain ⟨_, e⟩ := d1.purse.at_; rw [← w, hl1] at e; cases e
  refine ⟨p, _, _, rfl, e1.purse, by omega, by omega, by omega, fun r2 H2 q3 q4 d2 => ?_⟩
  walk_at "V"
  refine g_powI ⟨by omega, by omega, by omega⟩ ?_
  rw [show ((10 : Int) ^ (8 : Int).toNat) = 100000000 from by decide +kernel]
  walk_at "V"
  refine g_powI ⟨by omega, by omega, by omega⟩ ?_
  rw [show ((10 : Int) ^ (11 : Int).toNat) = 100000000000 from by decide +kernel]
  walk_at "V"
  refine w_call hA D (by omega) rfl ?_
  walk_at "V"
  refine ⟨p, _, _, rfl, d2.purse, by omega, by omega, by omega, fun r3 H3 q5 q6 d3 => ?_⟩
  walk_at "V"
  have t3 := (e1.trans d2).trans d3
  have hl3 : H3 l1 = some (.lst [.int 0, .int 0, .int 1, .int 2, .int 3, .int (-1), .int (-2), .int (r1 - 9)]) := d3.grow.ext _ _ hlp (d2.grow.ext _ _ hlp upd_same (fun _ w => by cases w)) (fun _ w => by cases w)
  refine ⟨by walk_at "S", fun l2 hl2 => ?_⟩
  refine g_cat (by rw [upd_ne (New.ne hl2 hl3).symm]; exact hl3) upd_same (by walk_at "S") fun l3 hl4 => ?_
  generalize hvs : [V.int 0, .int 0, .int 1, .int 2, .int 3, .int (-1), .int (-2), .int (r1 - 9)] ++ [.int (r2 - 100000000), .int (100000000000 + r3)] = vs
  have t4 := (t3.post (Grow.new (o := .lst [.int (r2 - 100000000), .int (100000000000 + r3)]) hl2)).post (Grow.new (o := .lst vs) hl4)
  walk_at "V"
  refine w_call hA O (by omega) rfl ?_
  walk_at "V"
  refine w_sliceTo hA ?_
  walk_at "V"
  refine w_call hA D (by omega) rfl ?_
  walk_at "V"
  have hl3p : l3 ≠ p := fun w => by obtain ⟨_, e⟩ := (t3.post (Grow.new (o := .lst [.int (r2 - 100000000), .int (100000000000 + r3)]) hl2)).purse.at_; rw [← w, hl4] at e; cases e
  refine ⟨p, _, _, rfl, t4.purse, by omega, by omega, by omega, fun r4 H4 q7 q8 d4 => ?_⟩
  walk_at "V"
  refine ⟨l3, vs, rfl, SqL.of (d4.grow.ext _ _ hl3p upd_same (fun _ w => by cases w)), fun l5 hl5 => ?_⟩
  have hvl : vs.length = 10 := by rw [← hvs]; rfl
  have e4 : (7 + r4 : Int) = ((7 + r4).toNat : Nat) := by omega
  rw [e4, cut_to (by omega)]
  generalize (7 + r4).toNat = c4 at e4
  have t5 := (t4.trans d4).post (Grow.new (o := .lst (vs.take c4)) hl5)
  walk_at "V"
  have hl5p : l5 ≠ p := fun w => by obtain ⟨_, e⟩ := (t4.trans d4).purse.at_; rw [← w, hl5] at e; cases e
  refine ⟨p, _, l5, _, rfl, t5.purse, by omega, SqL.of upd_same, hl5p, by rw [List.length_take]; omega, by rw [List.length_take]; omega, fun j v H6 hv d6 => ?_⟩
  obtain ⟨w, rfl, w1, w2⟩ : ∃ w : Int, v = .int w ∧ -100000000000 ≤ w ∧ w ≤ 200000000000 := by
    have hm := List.mem_of_mem_take (List.mem_of_getElem? hv)
    rw [← hvs] at hm
    simp only [List.cons_append, List.nil_append, List.mem_cons, List.not_mem_nil, or_false] at hm
    rcases hm with h | h | h | h | h | h | h | h | h | h <;> exact ⟨_, h, by omega, by omega⟩
  exact k w H6 w1 w2 ((t5.trans d6).mono (by omega))
/-- a part of drawn names -/
def sp_part (m : Md) : Sp := fun vs H Q _ => ∃ (p : Addr) (n : Nat) (a h : Addr) (zs hs : List Str) (sm : Bool), vs = [.ref p, .ref a, .ref h, .bl sm] ∧ Purse H p n ∧ n ≤ 2 ^ 37 ∧
  SqL m.K H a (zs.map V.str) ∧ SqL m.K H h (hs.map V.str) ∧ a ≠ p ∧ h ≠ p ∧ 0 < zs.length ∧ zs.length < 1000 ∧ hs.length < 1000 ∧ (∀ z ∈ hs, IsName z) ∧
  ∀ (v : V) (w : Bool) (z : Str) (i : Int) (H' : Hp), (Tm.part w z i).ok 200000000000 zs hs → Da m.K (fun _ => False) H' v (Tm.part w z i).py → Drew m p n 72 H H' → Q v H'
theorem ne_nil {K : PySem.W.Frag} {H : Hp} {l r : Addr} {xs : List V} {ds : List PyData} (h : SqL K H l xs) (d : DaAll K Any H xs ds) (e : H r = some (.lst [])) : Dp K H (.ref l) (.list ds) ∧ Dp K H (.ref r) (.list []) := ⟨Dp.lst h (DaAll.dp ds _ d), Dp.lst (SqL.of e) .nil⟩
theorem strs_da {K : PySem.W.Frag} {A : Addr → Prop} {H : Hp} : ∀ zs : List Str, DaAll K A H (zs.map V.str) (zs.map PyData.str)
  | [] => .nil
  | z :: zs => .cons (.str z) (strs_da zs)
theorem strs_shaped {zs : List Str} (h : ∀ z ∈ zs, IsName z) : SeqAt.shaped (.list (zs.map PyData.str)) = true := by
  have h1 : PyData.canLayAll0 (zs.map PyData.str) = true := by
    induction zs with
    | nil => rfl
    | cons z zs ih =>
      have e : PyData.strOk z = true := by
        unfold PyData.strOk
        rw [Array.all_eq_true']
        intro c hc
        have := (h z (by simp)).2.2 c (by simpa using hc)
        simp; omega
      simp [PyData.canLayAll0, PyData.canLay0, e, ih fun y hy => h y (by simp [hy])]
  have h2 : PyData.depthAll (zs.map PyData.str) = 0 := by
    clear h h1
    induction zs with
    | nil => rfl
    | cons z zs ih => simp [PyData.depthAll, PyData.depth, ih]
  simp [SeqAt.shaped, PyData.canLay0, h1, PyData.depth, h2]
theorem eqv_nil (hs : List Str) : PyData.eqv (.list (hs.map PyData.str)) (.list []) = hs.isEmpty := by cases hs <;> rfl
theorem c_part {m : Md} {f : Addr} {fd : FuncData} (F : C8.Def m.K m.mg "_law_part" st_part f fd) (b : L2.Binds m.K fd ps_part []) (D : Cal m 2 "_law_draw" (sp_draw m)) (O : Cal m 3 "_law_one_of" (sp_one_of m)) (W : Cal m 4 "_law_wait" (sp_wait m)) (Ws : Cal m 3 "_law_small_wait" (sp_swait m)) : Cal m 5 "_law_part" (sp_part m) := by
  refine cal_of F b sc_part (fun vs H Q E h => by obtain ⟨_, _, _, _, _, _, _, rfl, _⟩ := h; rfl) fun X vs H Q E hA h => ?_
  obtain ⟨p, n, a, h, zs, hs, sm, rfl, hp, hn, ha, hh, hap, hhp, hz, hzl, hhl, hhn, k⟩ := h
  obtain ⟨n0, n1, n2, n3, n4⟩ := nv_part
  walk_at "B"
  walk_at "V"
  have key : ∀ (i : Int) (H1 : Hp), -100000000000 ≤ i → i ≤ 200000000000 → Drew m p n 40 H H1 → wB X (C8.fnBody st_part).tail { nx := fun _ H' => Q .non H', rt := Q } [some (.ref p), some (.ref a), some (.ref h), some (.bl sm), some (.int i)] H1 := by
    intro i H1 i0 i1 d1
    walk_at "B"
    walk_at "V"
    refine ⟨by walk_at "S", fun l hl => ?_⟩
    have hlp : l ≠ p := fun w => by obtain ⟨_, e⟩ := d1.purse.at_; rw [← w, hl] at e; cases e
    have d2 := d1.post (Grow.new (o := .lst []) hl)
    refine g_neD hA (Dp.lst (d2.grow.seqL hh hhp) (DaAll.dp _ _ (strs_da (A := Any) hs))) (Dp.lst (SqL.of upd_same) .nil) (strs_shaped hhn) rfl ?_
    rw [eqv_nil]
    walk_at "V"
    have done : ∀ (w : Bool) (z : Str) (H3 : Hp) (q : Addr) (T : Str), T = (if w = true then ("now" : Str) else ("of" : Str)) → (if w = true then z ∈ hs else z ∈ zs) → Drew m p n 72 H H3 → H3 q = none → Q (.ref q) (upd H3 q (.tup [.str T, .str z, .int i])) := by
      intro w z H3 q T eT hz d hq
      subst eT
      have g : Grow m.T H3 (upd H3 q (.tup [.str (if w = true then ("now" : Str) else ("of" : Str)), .str z, .int i])) := Grow.new hq
      exact k (.ref q) w z i _ ⟨hz, by omega, by omega⟩ (.tup (SqT.of upd_same) (.cons (.str _) (.cons (.str _) (.cons (.int _) .nil)))) (d.post g)
    have ofs : ∀ H3, Drew m p n 48 H H3 → wB X (C8.fnBody st_part).tail.tail { nx := fun _ H' => Q .non H', rt := Q } [some (.ref p), some (.ref a), some (.ref h), some (.bl sm), some (.int i)] H3 := by
      intro H3 d3
      walk_at "B"
      walk_at "V"
      refine w_call hA O (by omega) rfl ?_
      walk_at "V"
      refine ⟨p, _, a, _, rfl, d3.purse, by omega, d3.grow.seqL ha hap, hap, by rw [List.length_map]; omega, by rw [List.length_map]; omega, fun j v H4 hv d4 => ?_⟩
      rw [List.getElem?_map] at hv
      obtain ⟨z, hz2, rfl⟩ := Option.map_eq_some_iff.1 hv
      walk_at "V"
      exact ⟨by walk_at "S", fun q hq => done false z H4 q _ rfl (List.mem_of_getElem? hz2) ((d3.trans d4).mono (by omega)) hq⟩
    refine ite2 (fun h0 => ?_) fun h0 => ?_
    · walk_at "V"
      refine w_call hA D (by omega) rfl ?_
      walk_at "V"
      refine ⟨p, _, _, rfl, d2.purse, by omega, by omega, by omega, fun r H3 r0 r1 d3 => ?_⟩
      walk_at "V"
      have hpos : 0 < hs.length := by
        cases hs with
        | nil => simp at h0
        | cons _ _ => simp
      refine ite2 (fun h1 => ?_) fun h1 => ?_
      · walk_at "V"
        refine w_call hA O (by omega) rfl ?_
        walk_at "V"
        have d4 := d2.trans d3
        refine ⟨p, _, h, _, rfl, d4.purse, by omega, d4.grow.seqL hh hhp, hhp, by rw [List.length_map]; omega, by rw [List.length_map]; omega, fun j v H4 hv d5 => ?_⟩
        rw [List.getElem?_map] at hv
        obtain ⟨z, hz2, rfl⟩ := Option.map_eq_some_iff.1 hv
        walk_at "V"
        exact ⟨by walk_at "S", fun q hq => done true z H4 q _ rfl (List.mem_of_getElem? hz2) ((d4.trans d5).mono (by omega)) hq⟩
      · exact b_nil (ofs H3 (d2.trans d3))
    · show wB _ _ _ _ _
      exact b_nil (ofs _ (d2.mono (by omega)))
  refine ite2 (fun _ => ?_) fun _ => ?_
  · refine w_call hA Ws (by omega) rfl ?_
    walk_at "V"
    exact ⟨p, n, rfl, hp, by omega, fun i H1 i0 i1 d1 => key i H1 (by omega) (by omega) (d1.mono (by omega))⟩
  · refine w_call hA W (by omega) rfl ?_
    walk_at "V"
    exact ⟨p, n, rfl, hp, by omega, fun i H1 i0 i1 d1 => key i H1 i0 i1 d1⟩
def sp_term (m : Md) (N : Nat) : Sp := fun vs H Q _ => ∃ (p : Addr) (n : Nat) (a h : Addr) (zs hs : List Str) (c : Nat) (sm : Bool), vs = [.ref p, .ref a, .ref h, .int c, .bl sm] ∧ 1 ≤ c ∧ c ≤ N ∧ c ≤ 8 ∧ Purse H p n ∧ n + 400 * c ≤ 2 ^ 36 ∧
  SqL m.K H a (zs.map V.str) ∧ SqL m.K H h (hs.map V.str) ∧ a ≠ p ∧ h ≠ p ∧ 0 < zs.length ∧ zs.length < 1000 ∧ hs.length < 1000 ∧ (∀ z ∈ hs, IsName z) ∧
  ∀ (v : V) (t : Tm) (H' : Hp), t.ok 200000000000 zs hs → t.siz + 1 ≤ 2 * c → t.cnt ≤ c → Da m.K (Nw H H') H' v t.py → Drew m p n (400 * c - 200) H H' → Q v H'
theorem ixN_at {n j : Nat} (hj : j < n) : ixN n (j : Int) = some j := by
  unfold ixN
  rw [if_pos (by omega), if_pos (by omega)]
  simp
theorem sum_rep (q : Nat) : (List.replicate q 1).sum = q := by
  induction q with
  | zero => rfl
  | succ q ih => rw [List.replicate_succ, List.sum_cons, ih]; omega
theorem sum_set : ∀ {L : List Nat} {i x y : Nat}, L[i]? = some x → (L.set i y).sum + x = L.sum + y
  | [], i, _, _, h => by simp at h
  | a :: L, 0, x, y, h => by
    have : a = x := by simpa using h
    rw [List.set_cons_zero, List.sum_cons, List.sum_cons]; omega
  | a :: L, i + 1, x, y, h => by
    have := sum_set (L := L) (i := i) (x := x) (y := y) (by simpa using h)
    rw [List.set_cons_succ, List.sum_cons, List.sum_cons]; omega
theorem len_sum : ∀ {L : List Nat}, (∀ x ∈ L, 1 ≤ x) → L.length ≤ L.sum
  | [], _ => by simp
  | a :: L, h => by
    have := len_sum (L := L) fun x hx => h x (by simp [hx])
    have := h a (by simp)
    rw [List.length_cons, List.sum_cons]; omega
theorem le_sum : ∀ {L : List Nat} {x : Nat}, (∀ x ∈ L, 1 ≤ x) → x ∈ L → x + L.length ≤ L.sum + 1
  | [], _, _, h => by simp at h
  | a :: L, x, h, hx => by
    have h2 := len_sum (L := L) fun x hx => h x (by simp [hx])
    rw [List.length_cons, List.sum_cons]
    rcases List.mem_cons.1 hx with e | e
    · omega
    · have := le_sum (fun x hx => h x (by simp [hx])) e
      have := h a (by simp)
      omega
theorem sum_take {L : List Nat} {j x : Nat} (h : L[j]? = some x) : (L.take (j + 1)).sum = (L.take j).sum + x := by
  rw [List.take_add_one, h, List.sum_append]; simp
theorem sum_take_le (L : List Nat) (j : Nat) : (L.take j).sum ≤ L.sum := by
  have := congrArg List.sum (List.take_append_drop j L)
  rw [List.sum_append] at this; omega
theorem c_term {m : Md} {f : Addr} {fd : FuncData} (F : C8.Def m.K m.mg "_law_term" st_term f fd) (b : L2.Binds m.K fd ps_term []) (hr : m.mg "range" = none) (hmin : m.mg "min" = none) (hmax : m.mg "max" = none) (D : Cal m 2 "_law_draw" (sp_draw m)) (O : Cal m 3 "_law_one_of" (sp_one_of m)) (P : Cal m 5 "_law_part" (sp_part m)) : ∀ N, Cal m (6 + N) "_law_term" (sp_term m N) := by
  intro N
  induction N with
  | zero =>
    refine cal_ofM F b sc_term (fun vs H Q E h => by obtain ⟨_, _, _, _, _, _, _, _, rfl, _⟩ := h; rfl) fun X vs H Q E hA hM h => ?_
    obtain ⟨p, n, a, h, zs, hs, c, sm, rfl, hc1, hcN, _⟩ := h
    omega
  | succ N ih =>
  refine cal_ofM F b sc_term (fun vs H Q E h => by obtain ⟨_, _, _, _, _, _, _, _, rfl, _⟩ := h; rfl) fun X vs H Q E hA hM h => ?_
  obtain ⟨p, n, a, h, zs, hs, c, sm, rfl, hc1, hcN, hc8, hp, hn, ha, hh, hap, hhp, hz, hzl, hhl, hhn, k⟩ := h
  replace hA : At m nl_term (C8.fnScope st_term) (6 + N) X := hA
  obtain ⟨n3, n5, n6, n7, n8, n9, n10, n11, n0, n1, n2, n4⟩ := nv_term
  walk_at "B"
  walk_at "V"
  refine ite2 (fun h0 => ?_) fun h0 => ?_
  · walk_at "V"
    refine w_call hA P (by omega) rfl ?_
    walk_at "V"
    refine ⟨p, n, a, h, zs, hs, sm, rfl, hp, by omega, ha, hh, hap, hhp, hz, hzl, hhl, hhn, fun v w z i H' ok da d => ?_⟩
    exact k v _ H' ok (by simp only [Tm.siz]; omega) (by simp only [Tm.cnt]; omega) (da.sub fun _ z => z.elim) (d.mono (by omega))
  have hc2 : 2 ≤ c := by simp only [decide_eq_true_eq] at h0; omega
  refine b_nil (b_cons ?_)
  refine s_par hA n5 n6 ?_
  walk_at "V"
  refine w_call hA O (by omega) rfl ?_
  walk_at "V"
  refine ⟨by walk_at "S", fun l0 hl0 => ?_⟩
  have g0 := Grow.new (T := m.T) (o := .lst [.str "first", .str "last", .str "rank"]) hl0
  have hl0p : l0 ≠ p := fun w => by obtain ⟨_, e⟩ := hp.at_; rw [← w, hl0] at e; cases e
  walk_at "V"
  refine ⟨p, n, l0, _, rfl, hp.new g0, by omega, SqL.of upd_same, hl0p, by decide, by decide, fun j v H1 hv d1 => ?_⟩
  replace d1 := Drew.pre g0 d1
  have hword : v = .str "first" ∨ v = .str "last" ∨ v = .str "rank" := by
    have := List.mem_of_getElem? hv
    simpa using this
  walk_at "V"
  refine w_call hA D (by omega) rfl ?_
  walk_at "V"
  refine ⟨p, _, _, rfl, d1.purse, by omega, by omega, by omega, fun way H2 w0 w1 d2 => ?_⟩
  walk_at "V"
  refine ⟨_, _, rfl, ?_⟩
  have key : ∀ (q : Nat) (H3 : Hp), 1 ≤ q → q ≤ c → Drew m p n 24 H H3 → wB X (C8.fnBody st_term).tail.tail.tail { nx := fun _ H' => Q .non H', rt := Q } [some (.ref p), some (.ref a), some (.ref h), some (.int c), some (.bl sm), some v, some (.int way), some (.int q), none, none, none, none, none] H3 := by
    intro q H3 q1 q2 d3
    walk_at "B"
    refine s_lcR hA hr rfl n8 (by decide +kernel) (i := 9) ⟨rfl, rfl⟩ ?_
    walk_at "V"
    refine ⟨by omega, by omega, fun l hl => ⟨fun j H' => H' = upd H3 l (.lst (List.replicate j (.int 1))), rfl, ?_, ?_⟩⟩
    · rintro j H' hj rfl X' hX'
      walk_at "V"
      refine ⟨_, upd_same, by rw [List.length_replicate, sizeLine_eq]; omega, ?_⟩
      rw [upd_upd]
      show _ = _
      rw [List.replicate_succ']
    rintro H4 rfl
    rw [Int.toNat_natCast]
    have hlp : l ≠ p := fun w => by obtain ⟨_, e⟩ := d3.purse.at_; rw [← w, hl] at e; cases e
    have d4 := d3.post (Grow.new (o := .lst (List.replicate q (.int 1))) hl)
    walk_at "B"
    refine s_forR hA (pg_nl hA n9) hr rfl ?_
    walk_at "V"
    refine g_blt hA hmax rfl bt_max ?_
    walk_at "V"
    refine g_max2 hA ?_
    walk_at "V"
    have hnl : New H l := d3.grow.keep _ hl
    refine ⟨by split <;> omega, by split <;> omega, fun i σ H' => ∃ L : List Nat, σ = [some (.ref p), some (.ref a), some (.ref h), some (.int c), some (.bl sm), some v, some (.int way), some (.int q), some (.ref l), σ.getD 9 none, σ.getD 10 none, none, none] ∧
      H' l = some (.lst (L.map fun x : Nat => V.int x)) ∧ L.length = q ∧ (∀ x ∈ L, 1 ≤ x) ∧ L.sum = q + i ∧ Drew m p n (24 + 8 * i) H H', ?_, ?_, ?_⟩
    · exact ⟨List.replicate q 1, rfl, by rw [List.map_replicate]; exact upd_same, List.length_replicate, fun x hx => by rw [List.eq_of_mem_replicate hx]; exact Nat.le_refl 1, sum_rep q, d4⟩
    · rintro i σ H' hi ⟨L, es, hL, ll, l1, ls, dd⟩
      rw [es]
      walk_at "B"
      walk_at "V"
      refine w_call hA D (by omega) rfl ?_
      walk_at "V"
      refine ⟨p, _, _, rfl, dd.purse, by omega, by omega, by omega, fun r H5 r0 r1 d5 => ?_⟩
      have hL5 := d5.grow.ext _ _ hlp hL (fun _ w => by cases w)
      have er : r = (r.toNat : Int) := by omega
      rw [er]
      generalize r.toNat = r' at er
      subst er
      obtain ⟨x, hx⟩ : ∃ x, L[r']? = some x := ⟨_, List.getElem?_eq_getElem (by omega)⟩
      walk_at "V"
      refine g_ixL hA (SqL.of hL5) (atI_at (by rw [List.getElem?_map, hx]; rfl)) ?_
      walk_at "V"
      have hr' : r' < L.length := by omega
      refine ⟨l, _, r', r', rfl, rfl, hL5, by rw [List.length_map]; exact ixN_at hr', L.set r' (x + 1), rfl, ?_, by rw [List.length_set]; exact ll, ?_, ?_, ?_⟩
      · rw [upd_same, List.map_set]; rfl
      · intro y hy
        rcases List.mem_or_eq_of_mem_set hy with e | e
        · exact l1 y e
        · omega
      · have := sum_set (y := x + 1) hx
        omega
      · have g := GrowX.lst (T := m.T) (ys := (L.map fun x : Nat => V.int x).set r' (V.int (↑x + 1))) hL5
        have d6 := dd.trans d5
        refine ⟨d6.grow.into g (fun c w => .inl (by rw [w]; exact hnl)), (d6.purse.x g (fun w => hlp w.symm)).mono (by omega)⟩
    · rintro σ H' ⟨L, es, hL, ll, l1, ls, dd⟩
      rw [es]
      walk_at "B"
      refine s_lcL hA n11 (by decide +kernel) (i := 12) ⟨rfl, rfl⟩ ?_
      walk_at "V"
      refine ⟨l, _, rfl, SqL.of hL, fun D1 hD1 => ?_⟩
      have hLs : L.sum ≤ c ∧ ∀ x ∈ L, x ≤ N ∧ x + 1 ≤ c := by
        have e1 : L.sum = q + (c - max 2 q) := by
          rw [ls]; split at ls <;> omega
        refine ⟨by omega, fun x hx => ?_⟩
        have := le_sum l1 hx
        omega
      have hu : 24 + 8 * (↑c - if (2 : Int) > ↑q then (2 : Int) else ↑q).toNat ≤ 88 := by split <;> omega
      replace dd := dd.mono hu
      have hDp : D1 ≠ p := fun w => by obtain ⟨_, e⟩ := dd.purse.at_; rw [← w, hD1] at e; cases e
      have hD0 : New H D1 := dd.grow.keep _ hD1
      have hlD : l ≠ D1 := fun w => by rw [w, hD1] at hL; cases hL
      have hnp : ∀ a, New H a → a ≠ p := fun a ha w => by obtain ⟨_, e⟩ := hp.at_; rw [← w, ha] at e; cases e
      refine ⟨fun j H4 => ∃ (vs : List V) (ts : List Tm) (u : Nat), H4 D1 = some (.lst vs) ∧ DaAll m.K (fun a => Nw H H4 a ∧ a ≠ D1) H4 vs (Tm.pys ts) ∧ ts.length = j ∧ Tm.oks 200000000000 zs hs ts ∧ Tm.sizs ts + j ≤ 2 * (L.take j).sum ∧ Tm.cnts ts ≤ (L.take j).sum ∧
        H4 l = some (.lst (L.map fun x : Nat => V.int x)) ∧ u + 200 * j ≤ 88 + 400 * (L.take j).sum ∧ Drew m p n u H H4, ?_, ?_, ?_, ?_⟩
      · exact ⟨[], [], 88, upd_same, .nil, rfl, trivial, by simp [Tm.sizs], by simp [Tm.cnts], by rw [upd_ne hlD]; exact hL, by simp, dd.post (Grow.new hD1)⟩
      · rintro j H4 _ ⟨_, _, _, _, _, _, _, _, _, hl4, _⟩
        exact SqL.of hl4
      · rintro j x H4 hx ⟨vs, ts, u, hv4, da4, tl, ok4, sz4, ct4, hl4, hu4, dr4⟩ X' hX'
        rw [List.getElem?_map] at hx
        obtain ⟨y, hy, rfl⟩ := Option.map_eq_some_iff.1 hx
        have hy1 := l1 y (List.mem_of_getElem? hy)
        obtain ⟨hyN, hyc⟩ := hLs.2 y (List.mem_of_getElem? hy)
        have hst := sum_take hy
        have hsl := sum_take_le L (j + 1)
        have hjL : j < L.length := (List.getElem?_eq_some_iff.1 hy).1
        have c0 := nc_of hX' 0 "_law_purse_here"
        have c1 := nc_of hX' 1 "_law_names_here"
        have c2 := nc_of hX' 2 "_law_hung"
        have c4 := nc_of hX' 4 "_law_is_small"
        have c12 := nl_of hX' 12 "_law_size"
        have hb : j = 0 ∨ 1 ≤ j := by omega
        have hb0 : j = 0 → (L.take j).sum = 0 := fun w => by rw [w]; rfl
        have hbud : n + u + 400 * y ≤ 2 ^ 36 := by
          rcases hb with w | w
          · have := hb0 w
            omega
          · omega
        refine w_call hX' ih (by omega) rfl ?_
        walk_at "V"
        refine ⟨p, n + u, a, h, zs, hs, y, sm, rfl, hy1, hyN, by omega, dr4.purse, hbud, dr4.grow.seqL ha hap, dr4.grow.seqL hh hhp, hap, hhp, hz, hzl, hhl, hhn, fun v5 t H5 ok sz ct da d5 => ?_⟩
        have dA := (d5.grow.daAll da4 (fun a z => hnp a z.1.1)).sub fun a z => (⟨⟨z.1.1, fun w => z.1.2 (d5.grow.keep _ w)⟩, z.2⟩ : Nw H H5 a ∧ a ≠ D1)
        have hv5 : H5 D1 = some (.lst vs) := d5.grow.ext _ _ hDp hv4 (fun _ w => by cases w)
        have gX := GrowX.lst (T := m.T) (ys := vs ++ [v5]) hv5
        have hvl : vs.length = j := by rw [da4.length, Tm.pys_length, tl]
        have dt := dr4.trans d5
        refine ⟨vs, hv5, by rw [hvl, sizeLine_eq]; omega, vs ++ [v5], ts ++ [t], u + (400 * y - 200), upd_same, ?_, by simp [tl], Tm.oks_append ok4 ⟨ok, trivial⟩, ?_, ?_, ?_, by omega, ?_⟩
        · rw [Tm.pys_append]
          exact (gX.daAll (dA.append (.cons (da.sub fun b hb => ⟨⟨dr4.grow.keep _ hb.1, hb.2⟩, fun w => by have e := hb.1; rw [w] at e; rw [show H4 D1 = none from e] at hv4; cases hv4⟩) .nil)) (fun a z => z.2)).sub fun a z => ⟨⟨z.1.1, fun w => z.1.2 (gX.keep _ w)⟩, z.2⟩
        · rw [Tm.sizs_append]; simp only [Tm.sizs]; omega
        · rw [Tm.cnts_append]; simp only [Tm.cnts]; omega
        · rw [upd_ne hlD]; exact d5.grow.ext _ _ hlp hl4 (fun _ w => by cases w)
        · exact ⟨dt.grow.into gX (fun c w => .inl (by rw [w]; exact hD0)), dt.purse.x gX (fun w => hDp w.symm)⟩
      · rintro H4 ⟨vs, ts, u, hv4, da4, tl, ok4, sz4, ct4, hl4, hu4, dr4⟩
        rw [List.length_map, List.take_length] at *
        have tl2 : ts.length = q := by rw [tl, ll]
        have tne : ts ≠ [] := fun w => by rw [w] at tl2; simp at tl2; omega
        have hLc := hLs.1
        rw [ll] at sz4 hu4
        have dl : Da m.K (Nw H H4) H4 (.ref D1) (.list (Tm.pys ts)) := .lst ⟨hD0, by rw [hv4]; exact fun z => by cases z⟩ (SqL.of hv4) (da4.sub fun _ w => w.1)
        have hcq : q = 1 ∧ L.sum + 1 = c ∨ 2 ≤ q ∧ L.sum = c := by
          rw [ls]; split at ls <;> omega
        have fin2 : ∀ (g : Bool) (r : Addr), H4 r = none → Q (.ref r) (upd H4 r (.tup [.str (if g = true then ("first" : Str) else ("last" : Str)), .ref D1])) := by
          intro g r hr0
          have gr := Grow.new (T := m.T) (o := .tup [.str (if g = true then ("first" : Str) else ("last" : Str)), .ref D1]) hr0
          refine k _ (.all g ts) _ ⟨tne, ok4⟩ ?_ ?_ (.tup (SqT.of upd_same) (.cons (.str _) (.cons ((gr.da dl).sub fun a z => ⟨z.1, fun w => z.2 (gr.keep _ w)⟩) .nil))) ((dr4.post gr).mono ?_)
          · simp only [Tm.siz]; omega
          · simp only [Tm.cnt]; omega
          · omega
        walk_at "B"
        rcases hword with e | e | e <;> subst e
        · walk_at "V"
          rw [if_pos (by decide +kernel)]
          walk_at "V"
          exact ⟨by walk_at "S", fun r hr0 => fin2 true r hr0⟩
        · walk_at "V"
          rw [if_pos (by decide +kernel)]
          walk_at "V"
          exact ⟨by walk_at "S", fun r hr0 => fin2 false r hr0⟩
        · walk_at "V"
          rw [if_neg (by decide +kernel)]
          walk_at "V"
          refine w_call hA D (by omega) rfl ?_
          walk_at "V"
          refine ⟨p, _, _, rfl, dr4.purse, by omega, by omega, by omega, fun r H5 r0 r1 d5 => ?_⟩
          walk_at "V"
          refine ⟨by walk_at "S", fun o ho => ?_⟩
          have gr := Grow.new (T := m.T) (o := .tup [.str ("rank" : Str), .int (1 + r), .ref D1]) ho
          have dl5 := (d5.grow.da dl fun a z => hnp a z.1).sub fun a z => (⟨z.1, fun w => z.2 (d5.grow.keep _ w)⟩ : Nw H H5 a)
          have dt := dr4.trans d5
          refine k _ (.rank (1 + r) ts) _ ⟨tne, by omega, by omega, ok4⟩ ?_ ?_ (.tup (SqT.of upd_same) (.cons (.str _) (.cons (.int _) (.cons ((gr.da dl5).sub fun a z => ⟨z.1, fun w => z.2 (gr.keep _ w)⟩) .nil)))) ((dt.post gr).mono ?_)
          · simp only [Tm.siz]; omega
          · simp only [Tm.cnt]; omega
          · omega
  refine b_cons ?_
  walk_at "v"
  walk_at "E"
  refine ite2 (fun h1 => ?_) fun h1 => ?_
  · walk_at "E"
    exact key c H2 hc1 (Nat.le_refl _) ((d1.trans d2).mono (by omega))
  · walk_at "V"
    refine ite2 (fun h2 => ?_) fun h2 => ?_
    · walk_at "E"
      exact key 1 H2 (Nat.le_refl _) hc1 ((d1.trans d2).mono (by omega))
    · walk_at "V"
      refine w_call hA D (by omega) rfl ?_
      walk_at "V"
      refine g_blt hA hmin rfl bt_min ?_
      walk_at "V"
      refine g_min2 hA ?_
      walk_at "V"
      refine ⟨p, _, _, rfl, d2.purse, by omega, by omega, by omega, fun x H3 x0 x1 d3 => ?_⟩
      walk_at "E"
      have e : (2 + x : Int) = ((2 + x).toNat : Nat) := by omega
      rw [e]
      exact key (2 + x).toNat H3 (by omega) (by omega) ((d1.trans d2).trans d3)
def kw (t : Tm) : Str := match t with
  | .part n _ _ => if n then "now" else "of"
  | .all f _ => if f then "first" else "last"
  | .rank _ _ => "rank"
def Tm.isPart : Tm → Bool
  | .part _ _ _ => true
  | _ => false
section
variable {K : PySem.W.Frag} {A : Addr → Prop} {H : Hp} {v : V}
theorem da_tup {ds : List PyData} (h : Da K A H v (.tuple ds)) : ∃ a xs, v = .ref a ∧ SqT K H a xs ∧ DaAll K A H xs ds := by
  cases h with | tup s r => exact ⟨_, _, rfl, s, r⟩
theorem da_lst {ds : List PyData} (h : Da K A H v (.list ds)) : ∃ a xs, v = .ref a ∧ A a ∧ SqL K H a xs ∧ DaAll K A H xs ds := by
  cases h with | lst a s r => exact ⟨_, _, rfl, a, s, r⟩
theorem da_part {n : Bool} {z : Str} {w : Int} (h : Da K A H v (Tm.part n z w).py) : ∃ a, v = .ref a ∧ SqT K H a [.str (if n then "now" else "of"), .str z, .int w] := by
  obtain ⟨a, xs, e, hs, r⟩ := da_tup h
  cases r with | cons p1 r => cases r with | cons p2 r => cases r with | cons p3 r =>
  cases r; cases p1; cases p2; cases p3
  exact ⟨a, e, hs⟩
theorem da_all {f : Bool} {ts : List Tm} (h : Da K A H v (Tm.all f ts).py) : ∃ a l xs, v = .ref a ∧ A l ∧ SqT K H a [.str (if f then "first" else "last"), .ref l] ∧ SqL K H l xs ∧ DaAll K A H xs (Tm.pys ts) := by
  obtain ⟨a, xs, e, hs, r⟩ := da_tup h
  cases r with | cons p1 r => cases r with | cons p2 r =>
  cases r; cases p1
  obtain ⟨l, ys, e2, hl, hs2, r2⟩ := da_lst p2
  subst e2
  exact ⟨a, l, ys, e, hl, hs, hs2, r2⟩
theorem da_rank {r : Int} {ts : List Tm} (h : Da K A H v (Tm.rank r ts).py) : ∃ a l xs, v = .ref a ∧ A l ∧ SqT K H a [.str "rank", .int r, .ref l] ∧ SqL K H l xs ∧ DaAll K A H xs (Tm.pys ts) := by
  obtain ⟨a, xs, e, hs, r⟩ := da_tup h
  cases r with | cons p1 r => cases r with | cons p2 r => cases r with | cons p3 r =>
  cases r; cases p1; cases p2
  obtain ⟨l, ys, e2, hl, hs2, r2⟩ := da_lst p3
  subst e2
  exact ⟨a, l, ys, e, hl, hs, hs2, r2⟩
/-- the tuple that a term is: its first is its word -/
theorem da_word {t : Tm} (h : Da K A H v t.py) : ∃ a xs, v = .ref a ∧ SqT K H a xs ∧ xs[0]? = some (.str (kw t)) := by
  cases t with
  | part n z w => obtain ⟨a, e, hs⟩ := da_part h; exact ⟨a, _, e, hs, rfl⟩
  | all f ts => obtain ⟨a, l, xs, e, hl, hs, _⟩ := da_all h; exact ⟨a, _, e, hs, rfl⟩
  | rank r ts => obtain ⟨a, l, xs, e, hl, hs, _⟩ := da_rank h; exact ⟨a, _, e, hs, rfl⟩
end
theorem kw_part (t : Tm) : inV (.str (kw t)) [.str "of", .str "now"] = t.isPart := by
  cases t with
  | part n z w =>
    cases n
    · exact (by decide +kernel : inV (.str "of") [.str "of", .str "now"] = true)
    · exact (by decide +kernel : inV (.str "now") [.str "of", .str "now"] = true)
  | all f ts =>
    cases f
    · exact (by decide +kernel : inV (.str "last") [.str "of", .str "now"] = false)
    · exact (by decide +kernel : inV (.str "first") [.str "of", .str "now"] = false)
  | rank r ts => exact (by decide +kernel : inV (.str "rank") [.str "of", .str "now"] = false)
def sp_is_part (m : Md) : Sp := fun vs H Q _ => ∃ (v : V) (t : Tm) (A : Addr → Prop), vs = [v] ∧ Da m.K A H v t.py ∧ ∀ H', Grow m.T H H' → Q (.bl t.isPart) H'
theorem c_is_part {m : Md} {f : Addr} {fd : FuncData} (F : C8.Def m.K m.mg "is_part" st_is_part f fd) (b : L2.Binds m.K fd ps_is_part []) : Cal m 1 "is_part" (sp_is_part m) := by
  refine cal_of F b sc_is_part (fun vs H Q E h => by obtain ⟨_, _, _, rfl, _⟩ := h; rfl) fun X vs H Q E hA h => ?_
  obtain ⟨v, t, A, rfl, d, k⟩ := h
  have n0 := nv_is_part
  obtain ⟨a, xs, rfl, hs, hx⟩ := da_word d
  walk_at "B"
  walk_at "V"
  refine g_ixT hA hs (atI_at (j := 0) hx) ?_
  walk_at "V"
  refine ⟨by walk_at "S", fun p hp => ?_⟩
  refine g_inF hA (.inr (SqT.of upd_same)) rfl rfl ?_
  rw [kw_part]
  exact k _ (Grow.new hp)
/-- with_terms of a term of two or three kinds over as many terms: the same kind over them -/
def sp_with_terms (m : Md) : Sp := fun vs H Q _ => ∃ (v : V) (l : Addr) (xs : List V) (t : Tm) (ts us : List Tm) (A : Addr → Prop) (L : List Addr), vs = [v, .ref l] ∧ Da m.K A H v t.py ∧ H l = some (.lst xs) ∧ DnAll m.K H xs (Tm.pys us) L ∧ us ≠ [] ∧ us.length < 1000 ∧
  ((∃ f, t = .all f ts) ∨ (∃ r, t = .rank r ts ∧ 1 ≤ r)) ∧
  ∀ (u : V) (t' : Tm) (H' : Hp), (∀ f, t = .all f ts → t' = .all f us) → (∀ r, t = .rank r ts → t' = .rank (min r us.length) us) → Grow m.T H H' → Dn m.K H' u t'.py (l :: L) → Q u H'
theorem c_with_terms {m : Md} {f : Addr} {fd : FuncData} (F : C8.Def m.K m.mg "with_terms" st_with_terms f fd) (b : L2.Binds m.K fd ps_with_terms []) (hmin : m.mg "min" = none) (hlen : m.mg "len" = none) : Cal m 1 "with_terms" (sp_with_terms m) := by
  refine cal_of F b sc_with_terms (fun vs H Q E h => by obtain ⟨_, _, _, _, _, _, _, _, rfl, _⟩ := h; rfl) fun X vs H Q E hA h => ?_
  obtain ⟨v, l, xs, t, ts, us, A, L, rfl, d, hl, da, une, ul, ht, k⟩ := h
  obtain ⟨n0, n1⟩ := nv_with_terms
  have hxl : xs.length = us.length := by rw [da.length, Tm.pys_length]
  rcases ht with ⟨f, rfl⟩ | ⟨r, rfl, hr⟩
  · obtain ⟨a, l0, ys, rfl, hl0, hs, _⟩ := da_all d
    walk_at "B"
    walk_at "V"
    refine g_ixT hA hs (atI_at (j := 0) rfl) ?_
    walk_at "V"
    rw [if_neg (by cases f <;> decide +kernel)]
    walk_at "V"
    refine g_ixT hA hs (atI_at (j := 0) rfl) ?_
    walk_at "V"
    refine ⟨by walk_at "S", fun p hp => ?_⟩
    have g := Grow.new (T := m.T) (o := .tup [.str (if f = true then ("first" : Str) else "last"), .ref l]) hp
    exact k (.ref p) (.all f us) _ (fun f' e => by cases e; rfl) (fun r e => by cases e) g (by simpa [Tm.py] using Dn.tup (SqT.of upd_same) (.cons (.str _) (.cons (.lst (g.extN _ _ hl (fun _ z => by cases z)) (GrowX.dnAll g da fun _ _ z => z)) .nil)))
  · obtain ⟨a, l0, ys, rfl, hl0, hs, _⟩ := da_rank d
    walk_at "B"
    walk_at "V"
    refine g_ixT hA hs (atI_at (j := 0) rfl) ?_
    walk_at "V"
    rw [if_pos (by decide +kernel)]
    walk_at "V"
    refine g_blt hA hmin rfl bt_min ?_
    walk_at "V"
    refine g_ixT hA hs (atI_at (j := 1) rfl) ?_
    walk_at "V"
    refine g_blt hA hlen rfl bt_len ?_
    walk_at "V"
    refine g_lenL hA (SqL.of hl) ?_
    walk_at "V"
    refine g_min2 hA ?_
    rw [hxl]
    have e : (if (us.length : Int) < r then (us.length : Int) else r) = min r us.length := by omega
    rw [e]
    walk_at "V"
    refine ⟨by walk_at "S", fun p hp => ?_⟩
    have g := Grow.new (T := m.T) (o := .tup [.str ("rank" : Str), .int (min r us.length), .ref l]) hp
    exact k (.ref p) (.rank (min r us.length) us) _ (fun f' e => by cases e) (fun r e => by cases e; rfl) g (by simpa [Tm.py] using Dn.tup (SqT.of upd_same) (.cons (.str _) (.cons (.int _) (.cons (.lst (g.extN _ _ hl (fun _ z => by cases z)) (GrowX.dnAll g da fun _ _ z => z)) .nil))))
theorem da_parts {K : PySem.W.Frag} {A B : Addr → Prop} {H : Hp} {v : V} {n : Bool} {z : Str} {w : Int} (h : Da K A H v (Tm.part n z w).py) : Da K B H v (Tm.part n z w).py := by
  obtain ⟨a, rfl, s⟩ := da_part h
  exact .tup s (.cons (.str _) (.cons (.str _) (.cons (.int _) .nil)))
theorem dn_parts {K : PySem.W.Frag} {A : Addr → Prop} {H : Hp} {v : V} {n : Bool} {z : Str} {w : Int} (h : Da K A H v (Tm.part n z w).py) : Dn K H v (Tm.part n z w).py [] := by
  obtain ⟨a, rfl, s⟩ := da_part h
  simpa [Tm.py] using Dn.tup s (.cons (.str (if n = true then "now" else "of")) (.cons (.str z) (.cons (.int w) .nil)))
/-- what is handed as change -/
def spCh (m : Md) (g : Tm → Tm) : Sp := fun vs H Q _ => ∃ (v : V) (n : Bool) (z : Str) (w : Int), vs = [v] ∧ Tabs m.T H ∧ Da m.K Any H v (Tm.part n z w).py ∧ ∀ (u : V) (H' : Hp), Grow m.T H H' → Fr m.K H H' u (g (Tm.part n z w)).py → Q u H'
def sp_rebuilt (m : Md) (kc : Nat) (N : Nat) : Sp := fun vs H Q _ => ∃ (v : V) (c : Addr) (t : Tm) (g : Tm → Tm), vs = [v, .ref c] ∧ Tabs m.T H ∧ Da m.K Any H v t.py ∧ t.dep ≤ N ∧ t.wf ∧ Callable m kc c (spCh m g) H ∧
  ∀ (u : V) (H' : Hp), Grow m.T H H' → Fr m.K H H' u (t.reb g).py → Q u H'
theorem rebuilt_step {m : Md} {f : Addr} {fd : FuncData} (F : C8.Def m.K m.mg "rebuilt" st_rebuilt f fd) (b : L2.Binds m.K fd ps_rebuilt []) (kc : Nat) (hkc : 1 ≤ kc) (P : Cal m 1 "is_part" (sp_is_part m)) (W : Cal m 1 "with_terms" (sp_with_terms m)) (N : Nat) (ih : ∀ M, M + 1 = N → Cal m (kc + N) "rebuilt" (sp_rebuilt m kc M)) : Cal m (kc + N + 1) "rebuilt" (sp_rebuilt m kc N) := by
  refine cal_ofM F b sc_rebuilt (fun vs H Q E h => by obtain ⟨_, _, _, _, rfl, _⟩ := h; rfl) fun X vs H Q E hA hM h => ?_
  obtain ⟨v, c, t, g, rfl, hT, d, hd, hw, hc, k⟩ := h
  replace hA : At m nl_rebuilt (C8.fnScope st_rebuilt) (kc + N) X := hA
  obtain ⟨n0, n1⟩ := nv_rebuilt
  walk_at "B"
  walk_at "V"
  refine w_call hA P (by omega) rfl ?_
  walk_at "V"
  refine ⟨v, t, Any, rfl, d, fun H1 g1 => ?_⟩
  walk_at "V"
  refine ite2 (fun h0 => ?_) fun h0 => ?_
  · walk_at "V"
    refine w_callv hA (i := 1) rfl rfl rfl (hc.ext g1.extN) (by omega) ?_
    walk_at "V"
    cases t with
    | part n z w =>
      exact ⟨fun _ _ e _ => e, v, n, z, w, rfl, g1.tab hT, g1.da d, fun u H2 g2 da => k u H2 (g1.trans g2) (Fr.pre g1 da)⟩
    | all _ _ => simp [Tm.isPart] at h0
    | rank _ _ => simp [Tm.isPart] at h0
  · refine b_nil ?_
    walk_at "B"
    walk_at "V"
    refine w_call hA W (by omega) rfl ?_
    walk_at "V"
    have one : ∃ (a l : Addr) (ys xs : List V) (ts : List Tm), v = .ref a ∧ SqT m.K H1 a ys ∧ atI ys (-1) = some (.ref l) ∧ SqL m.K H1 l xs ∧ DaAll m.K Any H1 xs (Tm.pys ts) ∧ ((∃ f, t = .all f ts) ∨ ∃ r, t = .rank r ts ∧ 1 ≤ r) ∧ ts ≠ [] ∧ ts.length < 1000 ∧ Tm.wfs ts ∧ Tm.deps ts + 1 ≤ N ∧ (∀ f, t = .all f ts → t.reb g = .all f (Tm.rebs g ts)) ∧ (∀ r, t = .rank r ts → t.reb g = .rank (min r (Tm.rebs g ts).length) (Tm.rebs g ts)) := by
      cases t with
      | part n z w => simp [Tm.isPart] at h0
      | all f ts =>
        obtain ⟨a, l, xs, rfl, _, hs, hl, da⟩ := da_all (g1.da d)
        exact ⟨a, l, _, xs, ts, rfl, hs, rfl, hl, da, .inl ⟨f, rfl⟩, hw.1, hw.2.1, hw.2.2, hd, fun _ e => (by cases e; rfl), fun _ e => (by cases e)⟩
      | rank r ts =>
        obtain ⟨a, l, xs, rfl, _, hs, hl, da⟩ := da_rank (g1.da d)
        obtain ⟨w1, w2, w3, w4, w5⟩ := hw
        refine ⟨a, l, _, xs, ts, rfl, hs, rfl, hl, da, .inr ⟨r, rfl, w3⟩, w1, w2, w5, hd, fun _ e => (by cases e), fun _ e => ?_⟩
        cases e
        have : min r ((Tm.rebs g ts).length : Int) = r := by rw [Tm.rebs_map, List.length_map]; omega
        rw [this]; rfl
    obtain ⟨a, l, ys, xs, ts, rfl, hs, hat, hl, da, kind, tne, tlen, twf, tdep, e1, e2⟩ := one
    refine w_lcL hA (by decide +kernel) (i := 2) ⟨rfl, rfl⟩ ?_
    walk_at "V"
    refine g_ixT hA hs hat ?_
    refine ⟨l, xs, rfl, hl, fun D1 hD1 => ?_⟩
    obtain ⟨M, rfl⟩ : ∃ M, M + 1 = N := ⟨N - 1, by omega⟩
    have hxl : xs.length = ts.length := by rw [da.length, Tm.pys_length]
    have hD0 : New H D1 := g1.keep _ hD1
    refine ⟨fun j H4 => ∃ (us : List V) (L : List Addr), us.length = j ∧ H4 D1 = some (.lst us) ∧ DnAll m.K H4 us (Tm.pys (Tm.rebs g (ts.take j))) L ∧ L.Nodup ∧ (∀ a ∈ L, New H a ∧ a ≠ D1) ∧ Grow m.T H1 H4, ?_, ?_, ?_, ?_⟩
    · exact ⟨[], [], rfl, upd_same, .nil, by simp, by simp, Grow.new hD1⟩
    · rintro j H4 _ ⟨_, _, _, _, _, _, _, g4⟩
      exact GrowX.seqL g4 hl fun z => z
    · rintro j x H4 hx ⟨us, L, ul, hu, du, nd, nw, g4⟩ X' hX'
      have c1 := nc_of hX' 1 "change"
      have c2 := nl_of hX' 2 "inner"
      have hj : j < ts.length := by rw [← hxl]; exact (List.getElem?_eq_some_iff.1 hx).1
      obtain ⟨pd, hpd, dx⟩ := da.getV hx
      rw [Tm.pys_map, List.getElem?_map] at hpd
      obtain ⟨tj, htj, rfl⟩ := Option.map_eq_some_iff.1 hpd
      have htm := List.mem_of_getElem? htj
      refine w_call hX' (ih M rfl) (by omega) rfl ?_
      walk_at "V"
      refine ⟨x, c, tj, g, rfl, g4.tab (g1.tab hT), g4.da dx, by have := Tm.dep_mem htm; omega, Tm.wfs_iff.1 twf tj htm, hc.ext (Grow.extN (g1.trans g4)), fun u H5 g5 du5 => ?_⟩
      have hu5 : H5 D1 = some (.lst us) := g5.extN _ _ hu (fun _ w => by cases w)
      have gX := GrowX.lst (T := m.T) (ys := us ++ [u]) hu5
      obtain ⟨L5, d5, nd5, nw5⟩ := du5
      have hL : ∀ a ∈ L, ∃ xs, H4 a = some (.lst xs) := du.some
      refine ⟨us, hu5, by rw [ul, sizeLine_eq]; omega, us ++ [u], L ++ L5, by simp [ul], upd_same, ?_, ?_, ?_, Grow.intoNew (g4.trans g5) gX fun c w => by rw [w]; exact hD1⟩
      · have et : Tm.pys (Tm.rebs g (ts.take (j + 1))) = Tm.pys (Tm.rebs g (ts.take j)) ++ [(tj.reb g).py] := by
          rw [List.take_add_one, htj]
          simp [Tm.rebs_map, Tm.pys_map]
        rw [et]
        have both : DnAll m.K H5 (us ++ [u]) (Tm.pys (Tm.rebs g (ts.take j)) ++ [(tj.reb g).py]) (L ++ L5) := by simpa using (GrowX.dnAll g5 du fun _ _ z => z).append (.cons d5 .nil)
        refine gX.dnAll both fun a ha => ?_
        rcases List.mem_append.1 ha with z | z
        · exact (nw a z).2
        · exact fun w => by rw [w] at z; rw [show H4 D1 = none from nw5 _ z] at hu; cases hu
      · refine List.nodup_append.2 ⟨nd, nd5, fun a ha b hb e => ?_⟩
        obtain ⟨_, w⟩ := hL a ha
        rw [e, show H4 b = none from nw5 b hb] at w; cases w
      · intro a ha
        rcases List.mem_append.1 ha with z | z
        · exact nw a z
        · exact ⟨g1.keep _ (g4.keep _ (nw5 a z)), fun w => by rw [w] at z; rw [show H4 D1 = none from nw5 _ z] at hu; cases hu⟩
    · rintro H4 ⟨us, L, ul, hu, du, nd, nw, g4⟩
      rw [hxl, List.take_length] at du
      walk_at "V"
      refine ⟨.ref a, D1, us, t, ts, Tm.rebs g ts, Any, L, rfl, g4.da (g1.da d), hu, du, ?_, ?_, kind, fun u t' H5 k1 k2 g5 du5 => ?_⟩
      · intro w
        rw [Tm.rebs_map] at w
        exact tne (List.map_eq_nil_iff.1 w)
      · rw [Tm.rebs_map, List.length_map]; exact tlen
      · have et : t' = t.reb g := by
          rcases kind with ⟨f, e⟩ | ⟨r, e, _⟩
          · rw [k1 f e, e1 f e]
          · rw [k2 r e, e2 r e]
        rw [et] at du5
        exact k u H5 ((g1.trans g4).trans g5) ⟨_, du5, List.nodup_cons.2 ⟨fun z => (nw _ z).2 rfl, nd⟩, fun b hb => by
          rcases List.mem_cons.1 hb with e | e
          · rw [e]; exact hD0
          · exact (nw b e).1⟩
theorem c_rebuilt {m : Md} {f : Addr} {fd : FuncData} (F : C8.Def m.K m.mg "rebuilt" st_rebuilt f fd) (b : L2.Binds m.K fd ps_rebuilt []) (kc : Nat) (hkc : 1 ≤ kc) (P : Cal m 1 "is_part" (sp_is_part m)) (W : Cal m 1 "with_terms" (sp_with_terms m)) : ∀ N, Cal m (kc + N + 1) "rebuilt" (sp_rebuilt m kc N) := by
  intro N
  induction N with
  | zero => exact rebuilt_step F b kc hkc P W 0 fun M e => by omega
  | succ N ih =>
    refine rebuilt_step F b kc hkc P W (N + 1) fun M e => ?_
    have e2 : M = N := by omega
    rw [e2]
    exact ih
/-- the table in which the one lambda of a def is looked up -/
structure Tab1 (m : Md) (cd : Value) (qual : Str) : Prop where
  ex : ∃ c P, cd = .ref c ∧ TabB m.base m.mg c P ∧ (P, qual) ∈ m.T ∧ ∀ p ∈ m.T, p.1 = P → p.2 = qual
def sp_copied (m : Md) (N : Nat) : Sp := fun vs H Q _ => ∃ (v : V) (t : Tm), vs = [v] ∧ Tabs m.T H ∧ Da m.K Any H v t.py ∧ t.dep ≤ N ∧ t.wf ∧ ∀ (u : V) (H' : Hp), Grow m.T H H' → Fr m.K H H' u t.py → Q u H'
theorem c_copied {m : Md} {f : Addr} {fd : FuncData} (F : C8.Def m.K m.mg "copied" st_copied f fd) (b : L2.Binds m.K fd ps_copied []) (L : Tab1 m fd.code ("copied" ++ ".<locals>." ++ "<lambda>")) (N : Nat) (R : Cal m (1 + N + 1) "rebuilt" (sp_rebuilt m 1 N)) : Cal m (N + 3) "copied" (sp_copied m N) := by
  refine cal_ofM F b sc_copied (fun vs H Q E h => by obtain ⟨_, _, rfl, _⟩ := h; rfl) fun X vs H Q E hA hM h => ?_
  obtain ⟨v, t, rfl, hT, d, hd, hw, k⟩ := h
  replace hA : At m nl_copied (C8.fnScope st_copied) (N + 2) X := hA
  have n0 := nv_copied
  obtain ⟨c, P, ec, TB, hm, hu⟩ := L.ex
  walk_at "B"
  walk_at "V"
  refine w_call hA R (by omega) rfl ?_
  walk_at "V"
  refine w_lam0 (k := 0) (ps := ["part"]) (NL := ["part"]) (sp := spCh m fun x => x) hA TB (by rw [hM.code]; exact ec) (by rw [hM.qual]) hm hu ?_ ?_ ?_ ?_ hT ?_
  · exact ⟨rfl, rfl, rfl, by decide, rfl, by decide +kernel, by decide +kernel, by decide +kernel, by decide +kernel⟩
  · intro c' cl pm ctv us hl
    match us, hl with
    | [_], _ => rfl
  · intro vs H Q E z
    obtain ⟨_, _, _, _, rfl, _⟩ := z
    rfl
  · intro X' vs H1 Q1 hX z
    obtain ⟨u, n, zz, w, rfl, _, du, kk⟩ := z
    have n1 := nl_of hX 0 "part"
    walk_at "V"
    exact kk u H1 GrowX.refl ⟨[], dn_parts du, by simp, by simp⟩
  · intro fl H1 ext tab keep cal
    have g : Grow m.T H H1 := Grow.of ext (fun _ => tab) keep
    walk_at "V"
    refine ⟨v, fl, t, fun x => x, rfl, tab, g.da d, hd, hw, cal, fun u H2 g2 du => ?_⟩
    rw [Tm.reb_id] at du
    exact k u H2 (g.trans g2) (Fr.pre g du)
def sp_is_whole (m : Md) : Sp := fun vs H Q _ => ∃ (v : V) (d : PyData) (A : Addr → Prop), vs = [v] ∧ Ob m.K A H v d ∧ Q (.bl (isWh d)) H
theorem c_is_whole {m : Md} {f : Addr} {fd : FuncData} (F : C8.Def m.K m.mg "is_whole" st_is_whole f fd) (b : L2.Binds m.K fd ps_is_whole []) (hi : m.mg "isinstance" = none) (h1 : m.mg "int" = none) (h2 : m.mg "bool" = none) : Cal m 1 "is_whole" (sp_is_whole m) := by
  refine cal_of F b sc_is_whole (fun vs H Q E h => by obtain ⟨_, _, _, rfl, _⟩ := h; rfl) fun X vs H Q E hA h => ?_
  obtain ⟨v, d, A, rfl, o, k⟩ := h
  have n0 := nv_is_whole
  walk_at "B"
  walk_at "V"
  refine g_blt hA hi rfl bt_isinstance ?_
  walk_at "V"
  refine w_tyn hA h1 rfl bt_int ?_
  walk_at "V"
  refine g_isi hA (.ty "int") o.ty (kit_ty (kit_all "int" (by decide) d)) ?_
  walk_at "V"
  rw [isWh_eq] at k
  refine ite2 (fun h0 => ?_) fun h0 => ?_
  · walk_at "V"
    refine g_blt hA hi rfl bt_isinstance ?_
    walk_at "V"
    refine w_tyn hA h2 rfl bt_bool ?_
    walk_at "V"
    refine g_isi hA (.ty "bool") o.ty (kit_ty (kit_all "bool" (by decide) d)) ?_
    walk_at "V"
    rw [h0] at k
    simpa using k
  · have e : isIn "int" d = false := by simpa using h0
    rw [e] at k
    exact k
theorem le_chr (c d : Nat) : (!decide ([d] < [c])) = decide (c ≤ d) := by
  rw [Bool.eq_iff_iff]
  simp [List.cons_lt_cons_iff]
def sp_is_name (m : Md) : Sp := fun vs H Q _ => ∃ (v : V) (d : PyData) (A : Addr → Prop), vs = [v] ∧ Ob m.K A H v d ∧ ∀ H', Grow m.T H H' → Q (.bl (isNm d)) H'
theorem c_is_name {m : Md} {f : Addr} {fd : FuncData} (F : C8.Def m.K m.mg "is_name" st_is_name f fd) (b : L2.Binds m.K fd ps_is_name []) (hi : m.mg "isinstance" = none) (h1 : m.mg "str" = none) (hlen : m.mg "len" = none) (hall : m.mg "all" = none) {tk : Tok} (hL : m.mg "LONGEST_NAME" = some (.int 8 tk)) : Cal m 1 "is_name" (sp_is_name m) := by
  refine cal_of F b sc_is_name (fun vs H Q E h => by obtain ⟨_, _, _, rfl, _⟩ := h; rfl) fun X vs H Q E hA h => ?_
  obtain ⟨v, d, A, rfl, o, k⟩ := h
  have n0 := nv_is_name
  walk_at "B"
  walk_at "V"
  refine g_blt hA hi rfl bt_isinstance ?_
  walk_at "V"
  refine w_tyn hA h1 rfl bt_str ?_
  walk_at "V"
  refine g_isi hA (.ty "str") o.ty (kit_ty (kit_all "str" (by decide) d)) ?_
  walk_at "V"
  refine ite2 (fun h0 => ?_) fun h0 => ?_
  · walk_at "V"
    have e : isNm d = false := by cases d <;> first | rfl | simp [isIn, tyD] at h0
    rw [e] at k
    refine iteT ?_
    walk_at "V"
    exact k H GrowX.refl
  · obtain ⟨z, rfl⟩ : ∃ z, d = .str z := by
      cases d <;> first | exact ⟨_, rfl⟩ | simp [isIn, tyD] at h0
    obtain ⟨zl, rfl⟩ : z.length ≤ sizeLine ∧ v = .str z := by cases o with | str _ l => exact ⟨l, rfl⟩
    walk_at "V"
    refine t_chain ?_
    walk_at "V"
    refine g_blt hA hlen rfl bt_len ?_
    walk_at "V"
    refine g_lenS zl ?_
    walk_at "V"
    refine ite2 (fun h2 => ?_) fun h2 => ?_
    · refine w_glb (v := .int 8) hA hL ⟨_, rfl⟩ rfl ?_
      walk_at "V"
      refine ite2 (fun h3 => ?_) fun h3 => ?_
      · walk_at "V"
        have e : isNm (.str z) = false := by simp [isNm, nmB] at h3 ⊢; omega
        rw [e] at k
        exact k H GrowX.refl
      · refine b_nil ?_
        walk_at "B"
        walk_at "V"
        refine g_blt hA hall rfl bt_all ?_
        refine w_cons (w_lcS hA (by decide +kernel) (i := 1) ⟨rfl, rfl⟩ ?_)
        walk_at "V"
        refine fun D hD => ⟨fun j H' => Grow m.T H H' ∧ H' D = some (.lst (((z.cps.toList.take j).map fun c => decide (97 ≤ c) && decide (c ≤ 122)).map V.bl)), ?_, ?_, ?_⟩
        · exact ⟨Grow.new hD, upd_same⟩
        · rintro j c H' hc ⟨g, hv⟩ X' hX'
          have c1 := nl_of hX' 1 "sign"
          refine w_chain ?_
          walk_at "V"
          refine g_leT ?_
          rw [show ("a" : Str).cps.toList = [97] from by decide +kernel, show (⟨#[c]⟩ : Str).cps.toList = [c] from rfl, le_chr]
          walk_at "V"
          have eD : ∀ r : Bool, (decide (97 ≤ c) && decide (c ≤ 122)) = r → App D (fun H' => Grow m.T H H' ∧ H' D = some (.lst (((z.cps.toList.take (j + 1)).map fun c => decide (97 ≤ c) && decide (c ≤ 122)).map V.bl))) (.bl r) H' := by
            intro r er
            have hz9 : z.cps.size ≤ 8 := by
              have : z.length ≤ 8 := by simp at h3; omega
              exact this
            have ht : z.cps.toList[j]? = some c := by rw [Array.getElem?_toList]; exact hc
            refine ⟨_, hv, by rw [List.length_map, List.length_map, List.length_take, sizeLine_eq, Array.length_toList]; omega, g.intoNew (GrowX.lst hv) (fun _ w => by rw [w]; exact hD), ?_⟩
            rw [upd_same, List.take_add_one, ht, ← er]
            simp
          refine ite2 (fun h4 => ?_) fun h4 => ?_
          · walk_at "V"
            refine g_leT ?_
            rw [show ("z" : Str).cps.toList = [122] from by decide +kernel, show (⟨#[c]⟩ : Str).cps.toList = [c] from rfl, le_chr]
            exact eD _ (by rw [h4]; rfl)
          · exact eD false (by simp at h4 ⊢; omega)
        · rintro H' ⟨g, hv⟩
          walk_at "V"
          refine g_all hA (SqL.of hv) ?_
          have e : isNm (.str z) = (List.map (fun c => decide (97 ≤ c) && decide (c ≤ 122)) (List.take z.cps.size z.cps.toList)).all id := by
            have a1 : 1 ≤ z.length := by simp at h2; omega
            have a2 : z.length ≤ 8 := by simp at h3; omega
            rw [← Array.length_toList, List.take_length, List.all_map]
            simp [isNm, nmB, a1, a2]
          rw [e] at k
          exact k H' g
    · walk_at "V"
      refine iteT ?_
      walk_at "V"
      have e : isNm (.str z) = false := by simp [isNm, nmB] at h2 ⊢; omega
      rw [e] at k
      exact k H GrowX.refl
/-- what is asked of a def that tells whether an object is of a kind -/
def sp_is (m : Md) (p : PyData → Bool) (N : Nat) : Sp := fun vs H Q _ => ∃ (v : V) (d : PyData), vs = [v] ∧ Ob m.K Any H v d ∧ d.depth ≤ N ∧ ∀ H', Grow m.T H H' → Q (.bl (p d)) H'
theorem Grow.ob {T : List (Addr × Str)} {K : PySem.W.Frag} {A : Addr → Prop} {H H1 : Hp} {v : V} {d : PyData} (g : Grow T H H1) (h : Ob K A H v d) : Ob K A H1 v d :=
  Ob.mono (fun _ z => z) (fun a xs _ e => GrowX.seqL g e fun z => z) (fun a xs e => GrowX.seqT g e) (fun a kvs _ e => g.extN _ _ e (fun _ z => by cases z)) d v h
theorem Grow.obAll {T : List (Addr × Str)} {K : PySem.W.Frag} {A : Addr → Prop} {H H1 : Hp} {v : List V} {d : List PyData} (g : Grow T H H1) (h : ObAll K A H v d) : ObAll K A H1 v d :=
  ObAll.mono (fun _ z => z) (fun a xs _ e => GrowX.seqL g e fun z => z) (fun a xs e => GrowX.seqT g e) (fun a kvs _ e => g.extN _ _ e (fun _ z => by cases z)) d v h
theorem depth_mem : ∀ {ds : List PyData} {i : Nat} {d : PyData}, ds[i]? = some d → d.depth ≤ PyData.depthAll ds
  | [], _, _, h => by simp at h
  | a :: ds, 0, d, h => by
    have : a = d := by simpa using h
    subst this
    simp only [PyData.depthAll]; omega
  | a :: ds, i + 1, d, h => by
    have := depth_mem (ds := ds) (i := i) (d := d) (by simpa using h)
    simp only [PyData.depthAll]; omega
theorem isTms_all : ∀ ds : List PyData, isTms ds = ds.all isTm
  | [] => rfl
  | d :: ds => by rw [isTms, isTms_all ds]; rfl
theorem itl_step {m : Md} {f : Addr} {fd : FuncData} (F : C8.Def m.K m.mg "_is_term_list" st_x_is_term_list f fd) (b : L2.Binds m.K fd ps_x_is_term_list []) (hi : m.mg "isinstance" = none) (h1 : m.mg "list" = none) (hlen : m.mg "len" = none) (hall : m.mg "all" = none) (N k : Nat) (ih : ∀ M, M + 1 = N → Cal m k "is_term" (sp_is m isTm M)) : Cal m (k + 1) "_is_term_list" (sp_is m isTl N) := by
  refine cal_ofM F b sc_x_is_term_list (fun vs H Q E h => by obtain ⟨_, _, rfl, _⟩ := h; rfl) fun X vs H Q E hA hM h => ?_
  obtain ⟨v, d, rfl, o, hd, q⟩ := h
  have n0 := nv_x_is_term_list
  walk_at "B"
  walk_at "V"
  refine g_blt hA hi rfl bt_isinstance ?_
  walk_at "V"
  refine w_tyn hA h1 rfl bt_list ?_
  walk_at "V"
  refine g_isi hA (.ty "list") o.ty (kit_ty (kit_all "list" (by decide) d)) ?_
  walk_at "V"
  refine ite2 (fun h0 => ?_) fun h0 => ?_
  · obtain ⟨ds, rfl⟩ : ∃ ds, d = .list ds := by
      cases d <;> first | exact ⟨_, rfl⟩ | simp [isIn, tyD] at h0
    obtain ⟨a, xs, rfl, hs, da, hl⟩ : ∃ a xs, v = .ref a ∧ SqL m.K H a xs ∧ ObAll m.K Any H xs ds ∧ xs.length < 1000000 := by
      cases o with | lst _ s r l => exact ⟨_, _, rfl, s, r, l⟩
    walk_at "V"
    refine g_blt hA hlen rfl bt_len ?_
    walk_at "V"
    refine g_lenL hA hs ?_
    walk_at "V"
    refine ite2 (fun h2 => ?_) fun h2 => ?_
    · walk_at "V"
      refine g_blt hA hall rfl bt_all ?_
      refine w_cons (w_lcL hA (by decide +kernel) (i := 1) ⟨rfl, rfl⟩ ?_)
      walk_at "V"
      refine ⟨a, xs, rfl, hs, fun D hD => ⟨fun j H' => Grow m.T H H' ∧ H' D = some (.lst (((ds.take j).map isTm).map V.bl)), ?_, ?_, ?_, ?_⟩⟩
      · exact ⟨Grow.new hD, upd_same⟩
      · rintro j H' _ ⟨g, _⟩
        exact GrowX.seqL g hs fun z => z
      · rintro j x H' hx ⟨g, hv⟩ X' hX'
        have c1 := nl_of hX' 1 "term"
        obtain ⟨dj, hdj, oj⟩ := da.getV hx
        have hjd := depth_mem hdj
        have hd' : PyData.depthAll ds + 1 ≤ N := hd
        refine w_call hX' (ih (N - 1) (by omega)) (by omega) rfl ?_
        walk_at "V"
        refine ⟨x, dj, rfl, g.ob oj, by omega, fun H5 g5 => ?_⟩
        have hv5 := g5.extN _ _ hv (fun _ w => by cases w)
        have hjl := (List.getElem?_eq_some_iff.1 hx).1
        refine ⟨_, hv5, by rw [List.length_map, List.length_map, List.length_take, sizeLine_eq]; omega, Grow.intoNew (g.trans g5) (GrowX.lst hv5) (fun _ w => by rw [w]; exact hD), ?_⟩
        rw [upd_same, List.take_add_one, hdj]
        simp
      · rintro H' ⟨g, hv⟩
        rw [da.length, List.take_length] at hv
        walk_at "V"
        refine g_all hA (SqL.of hv) ?_
        have e : isTl (.list ds) = (ds.map isTm).all id := by
          have : ds ≠ [] := by
            intro w
            rw [w] at da
            cases da
            simp at h2
          rw [isTl, isTms_all, List.all_map]
          simp [this]
        rw [e] at q
        exact q H' g
    · have e : isTl (.list ds) = false := by
        have : ds = [] := by
          cases ds with
          | nil => rfl
          | cons _ _ => cases da; simp at h2
        subst this
        rfl
      rw [e] at q
      exact q H GrowX.refl
  · have e : isTl d = false := by
      cases d <;> first | rfl | simp [isIn, tyD] at h0
    rw [e] at q
    exact q H GrowX.refl
theorem isTm3_short {ds : List PyData} (h : ds.length < 2) : isTm3 ds = false := by
  match ds, h with
  | [], _ => rfl
  | [_], _ => rfl
theorem isTm3_long {ds : List PyData} (h : 3 < ds.length) : isTm3 ds = false := by
  match ds, h with
  | _ :: _ :: _ :: _ :: _, _ => rfl
theorem isS_two {z w : Str} (h : z ≠ w) (d : PyData) : (isS z d && isS w d) = false := by
  cases d <;> simp [isS]
  rename_i y
  intro e; rw [e]; exact h
theorem term_step {m : Md} {f : Addr} {fd : FuncData} (F : C8.Def m.K m.mg "is_term" st_is_term f fd) (b : L2.Binds m.K fd ps_is_term []) (hi : m.mg "isinstance" = none) (h1 : m.mg "tuple" = none) (hlen : m.mg "len" = none) (Nm : Cal m 1 "is_name" (sp_is_name m)) (Wh : Cal m 1 "is_whole" (sp_is_whole m)) (N k : Nat) (hk : 1 ≤ k) (ih : ∀ M, M + 1 = N → Cal m k "_is_term_list" (sp_is m isTl M)) : Cal m (k + 1) "is_term" (sp_is m isTm N) := by
  refine cal_of F b sc_is_term (fun vs H Q E h => by obtain ⟨_, _, rfl, _⟩ := h; rfl) fun X vs H Q E hA h => ?_
  obtain ⟨v, d, rfl, o, hd, q⟩ := h
  obtain ⟨n0, n1⟩ := nv_is_term
  walk_at "B"
  walk_at "V"
  refine g_blt hA hi rfl bt_isinstance ?_
  walk_at "V"
  refine w_tyn hA h1 rfl bt_tuple ?_
  walk_at "V"
  refine g_isi hA (.ty "tuple") o.ty (kit_ty (kit_all "tuple" (by decide) d)) ?_
  walk_at "V"
  refine ite2 (fun h0 => ?_) fun h0 => ?_
  · have e : isTm d = false := by cases d <;> first | rfl | simp [isIn, tyD] at h0
    rw [e] at q
    refine iteT ?_
    walk_at "V"
    exact q H GrowX.refl
  obtain ⟨ds, rfl⟩ : ∃ ds, d = .tuple ds := by
    cases d <;> first | exact ⟨_, rfl⟩ | simp [isIn, tyD] at h0
  obtain ⟨a, xs, rfl, hs, da⟩ : ∃ a xs, v = .ref a ∧ SqT m.K H a xs ∧ ObAll m.K Any H xs ds := by
    cases o with | tup s r => exact ⟨_, _, rfl, s, r⟩
  have hxl := da.length
  have hdd : PyData.depthAll ds + 1 ≤ N := hd
  walk_at "V"
  refine g_blt hA hlen rfl bt_len ?_
  walk_at "V"
  refine g_lenT hA hs ?_
  walk_at "V"
  refine ite2 (fun h2 => ?_) fun h2 => ?_
  · walk_at "V"
    have e : isTm (.tuple ds) = false := isTm3_short (by simp at h2; omega)
    rw [e] at q
    exact q H GrowX.refl
  refine b_nil (b_cons ?_)
  have h2' : 2 ≤ ds.length := by simp at h2; omega
  walk_at "V"
  obtain ⟨d0, d1, ds2, rfl⟩ : ∃ d0 d1 ds2, ds = d0 :: d1 :: ds2 := by
    match ds, h2' with
    | d0 :: d1 :: ds2, _ => exact ⟨d0, d1, ds2, rfl⟩
  cases da with | cons o0 da => cases da with | cons o1 da =>
  rename_i x0 x1 xs2
  refine g_ixT hA hs (atI_at (j := 0) rfl) ?_
  walk_at "V"
  refine ⟨by walk_at "S", fun p2 hp2 => ?_⟩
  have g1 := Grow.new (T := m.T) (o := .tup [.str ("of" : Str), .str ("now" : Str)]) hp2
  refine g_inOb hA (g1.ob o0) upd_same ?_
  walk_at "V"
  refine ite2 (fun hw => ?_) fun hw => ?_
  · -- a part
    have hnr : isS "rank" d0 = false := by
      cases d0 <;> simp [isS] at hw ⊢
      rename_i y
      rcases hw with e | e <;> subst e <;> decide +kernel
    have hnf : (isS "first" d0 || isS "last" d0) = false := by
      cases d0 <;> simp [isS] at hw ⊢
      rename_i y
      rcases hw with e | e <;> subst e <;> decide +kernel
    walk_at "V"
    refine g_blt hA hlen rfl bt_len ?_
    walk_at "V"
    refine g_lenT hA (GrowX.seqT g1 hs) ?_
    walk_at "V"
    refine ite2 (fun h3 => ?_) fun h3 => ?_
    · obtain ⟨d2, rfl⟩ : ∃ d2, ds2 = [d2] := by
        have : ds2.length = 1 := by simp at h3 hxl; omega
        match ds2, this with
        | [d2], _ => exact ⟨d2, rfl⟩
      cases da with | cons o2 da =>
      cases da
      rename_i x2
      have eT : isTm (.tuple [d0, d1, d2]) = (isNm d1 && isWh d2) := by
        show (((isS "of" d0 || isS "now" d0) && isNm d1 && isWh d2) || (isS "rank" d0 && isTl d2 && rkOk d1 d2)) = _
        rw [hw, hnr]; simp
      rw [eT] at q
      walk_at "V"
      refine w_call hA Nm (by omega) rfl ?_
      walk_at "V"
      refine g_ixT hA (GrowX.seqT g1 hs) (atI_at (j := 1) rfl) ?_
      walk_at "V"
      refine ⟨x1, d1, Any, rfl, g1.ob o1, fun H2 g2 => ?_⟩
      walk_at "V"
      refine ite2 (fun h4 => ?_) fun h4 => ?_
      · walk_at "V"
        refine w_call hA Wh (by omega) rfl ?_
        walk_at "V"
        refine g_ixT hA (GrowX.seqT g2 (GrowX.seqT g1 hs)) (atI_at (j := 2) rfl) ?_
        walk_at "V"
        refine ⟨x2, d2, Any, rfl, g2.ob (g1.ob o2), ?_⟩
        rw [h4] at q
        exact q H2 (g1.trans g2)
      · have e : isNm d1 = false := by simpa using h4
        rw [e] at q
        exact q H2 (g1.trans g2)
    · have eT : isTm (.tuple (d0 :: d1 :: ds2)) = false := by
        match ds2, h3, hxl with
        | [], _, _ => show ((isS "first" d0 || isS "last" d0) && isTl d1) = false; rw [hnf]; rfl
        | [d2], h3, hxl => simp at h3 hxl; omega
        | _ :: _ :: _, _, _ => exact isTm3_long (by simp)
      rw [eT] at q
      exact q _ g1
  · refine b_nil (b_cons ?_)
    walk_at "V"
    refine ⟨by walk_at "S", fun p3 hp3 => ?_⟩
    have g2 := Grow.new (T := m.T) (o := .tup [.str ("first" : Str), .str ("last" : Str)]) hp3
    have g12 := g1.trans g2
    refine g_inOb hA (Grow.ob g12 o0) upd_same ?_
    walk_at "V"
    have hnp : (isS "of" d0 || isS "now" d0) = false := by simpa using hw
    refine ite2 (fun hw2 => ?_) fun hw2 => ?_
    · have hnr : isS "rank" d0 = false := by
        cases d0 <;> simp [isS] at hw2 ⊢
        rename_i y
        rcases hw2 with e | e <;> subst e <;> decide +kernel
      walk_at "V"
      refine g_blt hA hlen rfl bt_len ?_
      walk_at "V"
      refine g_lenT hA (GrowX.seqT g12 hs) ?_
      walk_at "V"
      refine ite2 (fun h3 => ?_) fun h3 => ?_
      · obtain rfl : ds2 = [] := by
          have : ds2.length = 0 := by simp at h3 hxl; omega
          exact List.length_eq_zero_iff.1 this
        have eT : isTm (.tuple [d0, d1]) = isTl d1 := by
          show ((isS "first" d0 || isS "last" d0) && isTl d1) = _
          rw [hw2]; rfl
        rw [eT] at q
        walk_at "V"
        refine w_call hA (ih (N - 1) (by omega)) (by omega) rfl ?_
        walk_at "V"
        refine g_ixT hA (GrowX.seqT g12 hs) (atI_at (j := 1) rfl) ?_
        walk_at "V"
        have hdep : d1.depth ≤ N - 1 := by
          have := depth_mem (ds := [d0, d1]) (i := 1) (d := d1) rfl
          omega
        exact ⟨x1, d1, rfl, Grow.ob g12 o1, hdep, fun H3 g3 => q H3 (g12.trans g3)⟩
      · have eT : isTm (.tuple (d0 :: d1 :: ds2)) = false := by
          match ds2, h3, hxl with
          | [], h3, hxl => simp only [decide_eq_true_eq, List.length_cons, List.length_nil] at h3 hxl; omega
          | [d2], _, _ =>
            show (((isS "of" d0 || isS "now" d0) && isNm d1 && isWh d2) || (isS "rank" d0 && isTl d2 && rkOk d1 d2)) = false
            rw [hnp, hnr]; rfl
          | _ :: _ :: _, _, _ => exact isTm3_long (by simp)
        rw [eT] at q
        exact q _ g12
    · have hnf : (isS "first" d0 || isS "last" d0) = false := by simpa using hw2
      refine b_nil (b_cons ?_)
      walk_at "v"
      walk_at "E"
      refine g_eqOb hA (Grow.ob g12 o0) ?_
      walk_at "E"
      -- what is left behind the if
      have last : ∀ H3, Grow m.T H H3 → isTm (.tuple (d0 :: d1 :: ds2)) = false → wB X (C8.fnBody st_is_term).tail.tail.tail.tail.tail { nx := fun _ H' => Q .non H', rt := Q } [some (.ref a), some x0] H3 := by
        intro H3 g3 e
        walk_at "B"
        walk_at "V"
        rw [e] at q
        exact q H3 g3
      have no3 : isS "rank" d0 = false ∨ ds2.length ≠ 1 → isTm (.tuple (d0 :: d1 :: ds2)) = false := by
        intro z
        match ds2, z with
        | [], _ => show ((isS "first" d0 || isS "last" d0) && isTl d1) = false; rw [hnf]; rfl
        | [d2], z =>
          have z' : isS "rank" d0 = false := by
            rcases z with z | z
            · exact z
            · exact absurd rfl z
          show (((isS "of" d0 || isS "now" d0) && isNm d1 && isWh d2) || (isS "rank" d0 && isTl d2 && rkOk d1 d2)) = false
          rw [hnp, z']; rfl
        | _ :: _ :: _, _ => exact isTm3_long (by simp)
      refine ite2 (fun hr => ?_) fun hr => ?_
      · walk_at "E"
        refine g_blt hA hlen rfl bt_len ?_
        walk_at "E"
        refine g_lenT hA (GrowX.seqT g12 hs) ?_
        walk_at "E"
        refine ite2 (fun h3 => ?_) fun h3 => ?_
        · obtain ⟨d2, rfl⟩ : ∃ d2, ds2 = [d2] := by
            have : ds2.length = 1 := by simp at h3 hxl; omega
            match ds2, this with
            | [d2], _ => exact ⟨d2, rfl⟩
          cases da with | cons o2 da =>
          cases da
          rename_i x2
          have eT : isTm (.tuple [d0, d1, d2]) = (isTl d2 && rkOk d1 d2) := by
            show (((isS "of" d0 || isS "now" d0) && isNm d1 && isWh d2) || (isS "rank" d0 && isTl d2 && rkOk d1 d2)) = _
            rw [hnp, hr]; rfl
          walk_at "E"
          refine w_call hA (ih (N - 1) (by omega)) (by omega) rfl ?_
          walk_at "E"
          refine g_ixT hA (GrowX.seqT g12 hs) (atI_at (j := 2) rfl) ?_
          walk_at "E"
          have hdep : d2.depth ≤ N - 1 := by
            have := depth_mem (ds := [d0, d1, d2]) (i := 2) (d := d2) rfl
            omega
          refine ⟨x2, d2, rfl, Grow.ob g12 o2, hdep, fun H3 g3 => ?_⟩
          have g13 := g12.trans g3
          walk_at "E"
          refine ite2 (fun h4 => ?_) fun h4 => ?_
          · rw [eT, h4] at q
            walk_at "V"
            refine w_call hA Wh (by omega) rfl ?_
            walk_at "V"
            refine g_ixT hA (GrowX.seqT g13 hs) (atI_at (j := 1) rfl) ?_
            walk_at "V"
            refine ⟨x1, d1, Any, rfl, Grow.ob g13 o1, ?_⟩
            walk_at "V"
            refine ite2 (fun h5 => ?_) fun h5 => ?_
            · obtain ⟨r, rfl⟩ : ∃ r, d1 = .int r := by
                cases d1 <;> first | exact ⟨_, rfl⟩ | simp [isWh] at h5
              obtain ⟨es, rfl⟩ : ∃ es, d2 = .list es := by
                cases d2 <;> first | exact ⟨_, rfl⟩ | simp [isTl] at h4
              obtain rfl : x1 = .int r := by cases o1; rfl
              obtain ⟨l, ys, rfl, hl, dl⟩ : ∃ l ys, x2 = .ref l ∧ SqL m.K H l ys ∧ ObAll m.K Any H ys es := by
                cases o2 with | lst _ s r _ => exact ⟨_, _, rfl, s, r⟩
              walk_at "V"
              refine w_chain ?_
              walk_at "V"
              refine g_ixT hA (GrowX.seqT g13 hs) (atI_at (j := 1) rfl) ?_
              walk_at "V"
              have eR : rkOk (.int r) (.list es) = (decide (1 ≤ r) && decide (r ≤ es.length)) := rfl
              rw [eR] at q
              refine ite2 (fun h6 => ?_) fun h6 => ?_
              · refine g_blt hA hlen rfl bt_len ?_
                walk_at "V"
                refine g_ixT hA (GrowX.seqT g13 hs) (atI_at (j := 2) rfl) ?_
                walk_at "V"
                refine g_lenL hA (GrowX.seqL g13 hl fun z => z) ?_
                rw [dl.length]
                walk_at "V"
                rw [h6] at q
                exact q H3 g13
              · have e : decide (1 ≤ r) = false := by simpa using h6
                rw [e] at q
                exact q H3 g13
            · have e : rkOk d1 d2 = false := by cases d1 <;> first | rfl | simp [isWh] at h5
              rw [e] at q
              exact q H3 g13
          · refine b_nil (last H3 g13 ?_)
            rw [eT]
            simp at h4
            rw [h4]; rfl
        · exact b_nil (last _ g12 (no3 (.inr (by simp at h3 hxl; omega))))
      · exact b_nil (last _ g12 (no3 (.inl (by simpa using hr))))
/-- is_term and _is_term_list, by the depth of what is asked -/
theorem c_is_term {m : Md} {f f2 : Addr} {fd fd2 : FuncData} (F : C8.Def m.K m.mg "is_term" st_is_term f fd) (b : L2.Binds m.K fd ps_is_term []) (F2 : C8.Def m.K m.mg "_is_term_list" st_x_is_term_list f2 fd2) (b2 : L2.Binds m.K fd2 ps_x_is_term_list [])
    (hi : m.mg "isinstance" = none) (h1 : m.mg "tuple" = none) (h2 : m.mg "list" = none) (hlen : m.mg "len" = none) (hall : m.mg "all" = none) (Nm : Cal m 1 "is_name" (sp_is_name m)) (Wh : Cal m 1 "is_whole" (sp_is_whole m)) : ∀ N, Cal m (N + 2) "is_term" (sp_is m isTm N) ∧ Cal m (N + 2) "_is_term_list" (sp_is m isTl N) := by
  intro N
  induction N with
  | zero => exact ⟨term_step F b hi h1 hlen Nm Wh 0 1 (by omega) fun M e => by omega, itl_step F2 b2 hi h2 hlen hall 0 1 fun M e => by omega⟩
  | succ N ih =>
    refine ⟨term_step F b hi h1 hlen Nm Wh (N + 1) (N + 2) (by omega) fun M e => ?_, itl_step F2 b2 hi h2 hlen hall (N + 1) (N + 2) fun M e => ?_⟩
    · obtain rfl : M = N := by omega
      exact ih.2
    · obtain rfl : M = N := by omega
      exact ih.1
/-- what is known of the class of rules -/
structure RuleC (m : Md) (C : Addr) : Prop where
  cl : Cls m.K C
  no : NoAttr m.K C "_term"
  gR : m.mg "Rule" = some (.ref C)
  ha : PySem.W.findIn m.K (.ref C) "__class__" = some (some (.builtin "object.__class__"))
  hn : PySem.W.specialIn m.K (.builtin "object.__class__") "__get__" = some (some (.builtin "getset_descriptor.__get__"))
  ht : PySem.W.takesIn m.K (.builtin "object.__class__") = some true
  hm : PySem.W.mroIn m.K C (.type "object") = some true
  own : PySem.W.kitOne m.K (.ref C) (.ref C) = some true
  oth : ∀ T ∈ ["NoneType", "bool", "int", "str", "list", "tuple", "dict"], PySem.W.kitOne m.K (.type T) (.ref C) = some false
/-- the rule of the term t stands at i; the lists of its term lie at addresses of A -/
def RuleAt (m : Md) (C : Addr) (A : Addr → Prop) (H : Hp) (i : Addr) (t : Tm) : Prop := ∃ dx u, H i = some (.ins C dx [("_term", u)]) ∧ Da m.K A H u t.py
def sp_rterm (m : Md) (C : Addr) (N : Nat) : Sp := fun vs H Q _ => ∃ (i : Addr) (t : Tm), vs = [.ref i] ∧ RuleAt m C Any H i t ∧ Tabs m.T H ∧ t.dep ≤ N ∧ t.wf ∧ ∀ (u : V) (H' : Hp), Grow m.T H H' → Fr m.K H H' u t.py → Q u H'
theorem m_term {m : Md} {C f : Addr} {fd : FuncData} (R : RuleC m C) (F : C8.Fun m.K "term" "Rule.term" st_Rule_term f fd) (b : L2.Binds m.K fd ps_Rule_term []) (me : Meth m.K C "term" f) (N : Nat) (Cp : Cal m (N + 3) "copied" (sp_copied m N)) : MetX m C8.CX0 (N + 4) C "term" (sp_rterm m C N) [] := by
  refine ⟨f, fd, ps_Rule_term, [], fnG_of F sc_Rule_term (fun vs H Q E h => by obtain ⟨_, _, rfl, _⟩ := h; rfl) fun X vs H Q E hA hM h => ?_, R.cl, me, b, .nil⟩
  obtain ⟨i, t, rfl, ⟨dx, u, hi, d⟩, hT, hd, hw, k⟩ := h
  have n0 := nv_Rule_term
  walk_at "B"
  walk_at "V"
  refine w_call hA Cp (by omega) rfl ?_
  walk_at "V"
  refine w_fld hA R.cl R.no ?_
  walk_at "V"
  refine ⟨i, dx, _, u, rfl, hi, rfl, ?_⟩
  walk_at "V"
  exact ⟨u, t, rfl, hT, d.sub fun _ _ => trivial, hd, hw, k⟩
def sp_req (m : Md) (C : Addr) : Sp := fun vs H Q _ => ∃ (i : Addr) (y : V) (t : Tm), vs = [.ref i, y] ∧ RuleAt m C Any H i t ∧ SeqAt.shaped t.py = true ∧
  ((∃ (j : Addr) (t' : Tm), y = .ref j ∧ RuleAt m C Any H j t' ∧ SeqAt.shaped t'.py = true ∧ Q (.bl (PyData.eqv t.py t'.py)) H) ∨ ∃ T, T ∈ ["NoneType", "bool", "int", "str", "list", "tuple", "dict"] ∧ TyX m.K H y (.type T) ∧ Q (.bl false) H)
theorem m_eq {m : Md} {C f : Addr} {fd : FuncData} (R : RuleC m C) (F : C8.Fun m.K "__eq__" "Rule.__eq__" st_Rule_eq f fd) (b : L2.Binds m.K fd ps_Rule_eq []) (me : Meth m.K C "__eq__" f) (hi : m.mg "isinstance" = none) : MetX m C8.CX0 1 C "__eq__" (sp_req m C) [] := by
  refine ⟨f, fd, ps_Rule_eq, [], fnG_of F sc_Rule_eq (fun vs H Q E h => by obtain ⟨_, _, _, rfl, _⟩ := h; rfl) fun X vs H Q E hA hM h => ?_, R.cl, me, b, .nil⟩
  obtain ⟨i, y, t, rfl, ⟨dx, u, hi1, d⟩, sh, k⟩ := h
  obtain ⟨n0, n1⟩ := nv_Rule_eq
  walk_at "B"
  walk_at "V"
  refine g_blt hA hi rfl bt_isinstance ?_
  walk_at "V"
  refine w_glb (v := .ref C) hA R.gR rfl rfl ?_
  walk_at "V"
  rcases k with ⟨j, t', rfl, ⟨dx', u', hj, d'⟩, sh', k⟩ | ⟨T, hT, ty, k⟩
  · refine g_isi hA (.own C) (.base (.ins hj R.cl R.ha R.hn R.ht R.hm)) R.own ?_
    walk_at "V"
    refine iteT ?_
    walk_at "V"
    refine w_fld hA R.cl R.no ?_
    walk_at "V"
    refine ⟨i, dx, _, u, rfl, hi1, rfl, ?_⟩
    refine w_fld hA R.cl R.no ?_
    walk_at "V"
    refine ⟨j, dx', _, u', rfl, hj, rfl, ?_⟩
    exact g_eqD hA (Da.dp _ _ d) (Da.dp _ _ d') sh sh' k
  · refine g_isi hA (.own C) ty (R.oth T hT) ?_
    walk_at "V"
    exact iteF k
/-- what making a rule of v asks: v is a term, or an object that is none -/
def sp_rinit (m : Md) (C CT : Addr) (N : Nat) : Sp := fun vs H Q E => ∃ (i dx : Addr) (v : V), vs = [.ref i, v] ∧ H i = some (.ins C dx []) ∧ Tabs m.T H ∧
  ((∃ t : Tm, Da m.K Any H v t.py ∧ txOk t.py ∧ isTm t.py = true ∧ t.py.depth ≤ N ∧ t.dep ≤ N ∧ t.wf ∧ ∀ (u : V) (H' : Hp), GrowX m.T (· = i) H H' → H' i = some (.ins C dx [("_term", u)]) → Da m.K (New H) H' u t.py → Q .non H') ∨
    ∃ d : PyData, Ob m.K Any H v d ∧ isTm d = false ∧ d.depth ≤ N ∧ ∀ (H' : Hp) (dE : Addr), Grow m.T H H' → H' dE = none → E (.ref CT) (some dE) (upd H' dE (.xd [("value", v)])))
theorem f_rinit {m : Md} {C CT f : Addr} {fd : FuncData} (R : RuleC m C) (F : C8.Fun m.K "__init__" "Rule.__init__" st_Rule_init f fd) (N : Nat) (I : Cal m (N + 2) "is_term" (sp_is m isTm N)) (Cp : Cal m (N + 3) "copied" (sp_copied m N)) (Er : ErrC m "InvalidTerm" CT "value") : FnG m (L2.CX m.P m.w) (N + 4) f fd ps_Rule_init (sp_rinit m C CT N) := by
  refine fnG_ofX F sc_Rule_init (fun vs H Q E h => by obtain ⟨_, _, _, rfl, _⟩ := h; rfl) fun X vs H Q E hA hM hF tk h => ?_
  obtain ⟨i, dx, v, rfl, hi, hT, h⟩ := h
  obtain ⟨n0, n1⟩ := nv_Rule_init
  walk_at "B"
  walk_at "V"
  refine w_call hA I (by omega) rfl ?_
  walk_at "V"
  rcases h with ⟨t, d, tx, ist, hdp, hdd, hw, k⟩ | ⟨d, o, ist, hdp, k⟩
  · refine ⟨v, t.py, rfl, Da.ob _ _ d tx, hdp, fun H1 g1 => ?_⟩
    rw [ist]
    walk_at "V"
    refine iteF (b_nil (b_one ?_))
    refine s_fld hA R.cl R.no ?_
    refine w_call hA Cp (by omega) rfl ?_
    walk_at "V"
    refine ⟨v, t, rfl, g1.tab hT, g1.da d, hdd, hw, fun u H2 g2 du => ?_⟩
    walk_at "V"
    have hi2 := g2.extN _ _ (g1.extN _ _ hi (fun _ z => by cases z)) (fun _ z => by cases z)
    refine ⟨i, dx, [], rfl, hi2, by decide, ?_⟩
    have gX : GrowX m.T (· = i) H2 (upd H2 i (.ins C dx (putF "_term" u []))) := GrowX.set rfl hi2 (fun _ z => by cases z) (fun _ z => by unfold CodeO at z; cases z) (fun _ z => by cases z) (fun _ _ z => by cases z)
    refine k u _ ((Grow.to (g1.trans g2)).trans gX) upd_same (gX.da (du.da.sub fun _ z => g1.keep _ z) fun a z w => ?_)
    rw [w] at z
    rw [show H i = none from z] at hi; cases hi
  · refine ⟨v, d, rfl, o, hdp, fun H1 g1 => ?_⟩
    rw [ist]
    walk_at "V"
    refine iteT (b_one ?_)
    refine s_raise hA tk Er (by omega) rfl ?_
    walk_at "V"
    exact fun dE hE => k H1 dE g1 hE
namespace Tm
def kids : Tm → List Tm
  | .part _ _ _ => []
  | .all _ ts => ts
  | .rank _ ts => ts
def over : Tm → List Tm → Tm
  | .part n z w, _ => .part n z w
  | .all f _, us => .all f us
  | .rank r _, us => .rank r us
theorem over_kids : ∀ t : Tm, t.over t.kids = t
  | .part _ _ _ => rfl
  | .all _ _ => rfl
  | .rank _ _ => rfl
theorem kids_wf {t : Tm} (h : t.wf) (hp : t.isPart = false) : t.kids ≠ [] ∧ t.kids.length < 1000 ∧ wfs t.kids := by
  cases t with
  | part _ _ _ => simp [isPart] at hp
  | all f ts => exact h
  | rank r ts => exact ⟨h.1, h.2.1, h.2.2.2.2⟩
theorem kids_dep {t : Tm} (hp : t.isPart = false) : t.dep = deps t.kids + 1 := by
  cases t with
  | part _ _ _ => simp [isPart] at hp
  | all f ts => rfl
  | rank r ts => rfl
theorem kids_cnt {t : Tm} (hp : t.isPart = false) : t.cnt = cnts t.kids := by
  cases t with
  | part _ _ _ => simp [isPart] at hp
  | all f ts => rfl
  | rank r ts => rfl
end Tm
/-- a term that is no part, taken apart: what stands ahead of its list, its list -/
theorem da_kids {K : PySem.W.Frag} {A : Addr → Prop} {H : Hp} {v : V} {t : Tm} (h : Da K A H v t.py) (hp : t.isPart = false) : ∃ (a l : Addr) (hd xs : List V), v = .ref a ∧ A l ∧ SqT K H a (hd ++ [.ref l]) ∧ hd ≠ [] ∧ hd.length ≤ 2 ∧ (∃ r, hd = .str (kw t) :: r) ∧ SqL K H l xs ∧ DaAll K A H xs (Tm.pys t.kids) ∧
    (∀ (A' : Addr → Prop) (H' : Hp) (a' l' : Addr) (us : List V) (ts : List Tm), SqT K H' a' (hd ++ [.ref l']) → A' l' → SqL K H' l' us → DaAll K A' H' us (Tm.pys ts) → Da K A' H' (.ref a') (t.over ts).py) ∧
    ∀ (H' : Hp) (a' l' : Addr) (us : List V) (ts : List Tm) (L : List Addr), SqT K H' a' (hd ++ [.ref l']) → H' l' = some (.lst us) → DnAll K H' us (Tm.pys ts) L → Dn K H' (.ref a') (t.over ts).py (l' :: L) := by
  cases t with
  | part _ _ _ => simp [Tm.isPart] at hp
  | all f ts =>
    obtain ⟨a, l, xs, rfl, hl, hs, hx, da⟩ := da_all h
    exact ⟨a, l, [.str (if f then "first" else "last")], xs, rfl, hl, hs, by simp, by simp, ⟨[], rfl⟩, hx, da, fun A' H' a' l' us ts s1 s2 s3 s4 => .tup s1 (.cons (.str _) (.cons (.lst s2 s3 s4) .nil)), fun H' a' l' us ts L s1 s2 s3 => by simpa [Tm.py, Tm.over] using Dn.tup s1 (.cons (.str (if f = true then "first" else "last")) (.cons (.lst s2 s3) .nil))⟩
  | rank r ts =>
    obtain ⟨a, l, xs, rfl, hl, hs, hx, da⟩ := da_rank h
    exact ⟨a, l, [.str "rank", .int r], xs, rfl, hl, hs, by simp, by simp, ⟨_, rfl⟩, hx, da, fun A' H' a' l' us ts s1 s2 s3 s4 => .tup s1 (.cons (.str _) (.cons (.int _) (.cons (.lst s2 s3 s4) .nil))), fun H' a' l' us ts L s1 s2 s3 => by simpa [Tm.py, Tm.over] using Dn.tup s1 (.cons (.str "rank") (.cons (.int r) (.cons (.lst s2 s3) .nil)))⟩
namespace Tm
mutual
/-- all names are names -/
def nms : Tm → Prop
  | .part _ z _ => IsName z
  | .all _ ts => nmss ts
  | .rank _ ts => nmss ts
def nmss : List Tm → Prop
  | [] => True
  | t :: ts => nms t ∧ nmss ts
end
theorem nmss_iff : ∀ {ts : List Tm}, nmss ts ↔ ∀ t ∈ ts, nms t
  | [] => by simp [nmss]
  | t :: ts => by rw [nmss, nmss_iff]; simp
mutual
theorem ok_nms {W : Int} {zs ns : List Str} (hz : ∀ z ∈ zs, IsName z) (hn : ∀ z ∈ ns, IsName z) : ∀ t : Tm, ok W zs ns t → nms t
  | .part n z w, h => part_name hz hn h.1
  | .all f ts, h => oks_nms hz hn ts h.2
  | .rank r ts, h => oks_nms hz hn ts h.2.2.2
theorem oks_nms {W : Int} {zs ns : List Str} (hz : ∀ z ∈ zs, IsName z) (hn : ∀ z ∈ ns, IsName z) : ∀ ts : List Tm, oks W zs ns ts → nmss ts
  | [], _ => trivial
  | t :: ts, h => ⟨ok_nms hz hn t h.1, oks_nms hz hn ts h.2⟩
end
mutual
theorem nms_isTm : ∀ t : Tm, wf t → nms t → isTm (py t) = true
  | .part n z w, _, h => by
    have e : nmB z = true := nmB_iff.2 h
    show ((isS "of" (.str (if n then "now" else "of")) || isS "now" (.str (if n then "now" else "of"))) && nmB z && true || (isS "rank" (.str (if n then "now" else "of")) && false && false)) = true
    rw [e]
    cases n <;> decide +kernel
  | .all f ts, w, h => by
    have e := nmss_isTm ts w.2.2 h
    have ne : (pys ts).isEmpty = false := by
      cases ts with
      | nil => exact absurd rfl w.1
      | cons _ _ => rfl
    show ((isS "first" (.str (if f then "first" else "last")) || isS "last" (.str (if f then "first" else "last"))) && (!(pys ts).isEmpty && isTms (pys ts))) = true
    rw [e, ne]
    cases f <;> decide +kernel
  | .rank r ts, w, h => by
    have e := nmss_isTm ts w.2.2.2.2 h
    have ne : (pys ts).isEmpty = false := by
      cases ts with
      | nil => exact absurd rfl w.1
      | cons _ _ => rfl
    have b : (decide (1 ≤ r) && decide (r ≤ (pys ts).length)) = true := by
      rw [pys_length, Bool.and_eq_true, decide_eq_true_eq, decide_eq_true_eq]
      exact ⟨w.2.2.1, w.2.2.2.1⟩
    show (((isS "of" (.str "rank") || isS "now" (.str "rank")) && false && false) || (isS "rank" (.str "rank") && (!(pys ts).isEmpty && isTms (pys ts)) && (decide (1 ≤ r) && decide (r ≤ (pys ts).length)))) = true
    rw [e, ne, b]
    decide +kernel
theorem nmss_isTm : ∀ ts : List Tm, wfs ts → nmss ts → isTms (pys ts) = true
  | [], _, _ => rfl
  | t :: ts, w, h => by
    rw [pys, isTms, nms_isTm t w.1 h.1, nmss_isTm ts w.2 h.2]; rfl
end
mutual
theorem nms_tx : ∀ t : Tm, wf t → nms t → txOk (py t)
  | .part n z w, _, h => by
    refine ⟨?_, ?_, trivial, trivial⟩
    · cases n <;> (show Str.length _ ≤ sizeLine; decide +kernel)
    · show z.length ≤ sizeLine
      have := h.2.1
      rw [sizeLine_eq]; omega
  | .all f ts, w, h => by
    refine ⟨?_, ⟨?_, nmss_tx ts w.2.2 h⟩, trivial⟩
    · cases f <;> (show Str.length _ ≤ sizeLine; decide +kernel)
    · rw [pys_length]; have := w.2.1; omega
  | .rank r ts, w, h => by
    refine ⟨?_, trivial, ⟨?_, nmss_tx ts w.2.2.2.2 h⟩, trivial⟩
    · show Str.length _ ≤ sizeLine; decide +kernel
    · rw [pys_length]; have := w.2.1; omega
theorem nmss_tx : ∀ ts : List Tm, wfs ts → nmss ts → txOks (pys ts)
  | [], _, _ => trivial
  | t :: ts, w, h => ⟨nms_tx t w.1 h.1, nmss_tx ts w.2 h.2⟩
end
mutual
theorem nms_lay : ∀ t : Tm, nms t → (py t).canLay0 = true
  | .part n z w, h => by
    have e1 : PyData.strOk z = true := by
      unfold PyData.strOk
      rw [Array.all_eq_true']
      intro c hc
      have := h.2.2 c (by simpa using hc)
      simp; omega
    have e2 : PyData.strOk (if n = true then "now" else "of") = true := by cases n <;> decide +kernel
    simp [py, PyData.canLay0, PyData.canLayAll0, e1, e2]
  | .all f ts, h => by
    have e2 : PyData.strOk (if f = true then "first" else "last") = true := by cases f <;> decide +kernel
    simp [py, PyData.canLay0, PyData.canLayAll0, e2, nmss_lay ts h]
  | .rank r ts, h => by
    have e2 : PyData.strOk "rank" = true := by decide +kernel
    simp [py, PyData.canLay0, PyData.canLayAll0, e2, nmss_lay ts h]
theorem nmss_lay : ∀ ts : List Tm, nmss ts → PyData.canLayAll0 (pys ts) = true
  | [], _ => rfl
  | t :: ts, h => by
    rw [pys, PyData.canLayAll0, nms_lay t h.1, nmss_lay ts h.2]; rfl
end
mutual
theorem no_dict : ∀ t : Tm, (py t).hasDict = false
  | .part n z w => rfl
  | .all f ts => by
    show (false || (PyData.hasDictAll (pys ts) || false)) = false
    rw [no_dicts ts]; rfl
  | .rank r ts => by
    show (false || (false || (PyData.hasDictAll (pys ts) || false))) = false
    rw [no_dicts ts]; rfl
theorem no_dicts : ∀ ts : List Tm, PyData.hasDictAll (pys ts) = false
  | [] => rfl
  | t :: ts => by
    show ((py t).hasDict || PyData.hasDictAll (pys ts)) = false
    rw [no_dict t, no_dicts ts]; rfl
end
/-- a term of at most N lists above each part -/
structure Gd (N : Nat) (t : Tm) : Prop where
  wf : t.wf
  nms : t.nms
  dep : t.dep ≤ N
theorem Gd.up {N M : Nat} {t : Tm} (h : Gd N t) (l : N ≤ M) : Gd M t := ⟨h.wf, h.nms, Nat.le_trans h.dep l⟩
theorem Gd.isTm {N : Nat} {t : Tm} (h : Gd N t) : isTm t.py = true := nms_isTm t h.wf h.nms
theorem Gd.tx {N : Nat} {t : Tm} (h : Gd N t) : txOk t.py := nms_tx t h.wf h.nms
theorem Gd.shaped {N : Nat} {t : Tm} (h : Gd N t) (hN : N ≤ 31) : SeqAt.shaped t.py = true := by
  unfold SeqAt.shaped
  have := depth_le t
  have := h.dep
  rw [nms_lay t h.nms, Bool.true_and, decide_eq_true_eq]
  omega
theorem Gd.depth {N : Nat} {t : Tm} (h : Gd N t) : t.py.depth ≤ 2 * N + 1 := by
  have := depth_le t
  have := h.dep
  omega
theorem deps_le_iff {N : Nat} : ∀ {ts : List Tm}, deps ts ≤ N ↔ ∀ t ∈ ts, dep t ≤ N
  | [] => by simp [deps]
  | t :: ts => by rw [deps, Nat.max_le, deps_le_iff]; simp
theorem Gd.all {N : Nat} {f : Bool} {ts : List Tm} (h : ∀ t ∈ ts, Gd N t) (ne : ts ≠ []) (l : ts.length < 1000) : Gd (N + 1) (.all f ts) :=
  ⟨⟨ne, l, wfs_iff.2 fun t z => (h t z).wf⟩, nmss_iff.2 fun t z => (h t z).nms, by show deps ts + 1 ≤ N + 1; have := deps_le_iff.2 fun t z => (h t z).dep; omega⟩
theorem Gd.rank {N : Nat} {r : Int} {ts : List Tm} (h : ∀ t ∈ ts, Gd N t) (ne : ts ≠ []) (l : ts.length < 1000) (r1 : 1 ≤ r) (r2 : r ≤ ts.length) : Gd (N + 1) (.rank r ts) :=
  ⟨⟨ne, l, r1, r2, wfs_iff.2 fun t z => (h t z).wf⟩, nmss_iff.2 fun t z => (h t z).nms, by show deps ts + 1 ≤ N + 1; have := deps_le_iff.2 fun t z => (h t z).dep; omega⟩
theorem Gd.kids {N : Nat} {t : Tm} (h : Gd (N + 1) t) : ∀ k ∈ t.kids, Gd N k := by
  cases t with
  | part _ _ _ => intro k hk; simp [Tm.kids] at hk
  | all f ts =>
    intro k hk
    refine ⟨wfs_iff.1 h.wf.2.2 k hk, nmss_iff.1 h.nms k hk, ?_⟩
    have h1 : k.dep ≤ deps ts := dep_mem hk
    have h2 : deps ts + 1 ≤ N + 1 := h.dep
    omega
  | rank r ts =>
    intro k hk
    refine ⟨wfs_iff.1 h.wf.2.2.2.2 k hk, nmss_iff.1 h.nms k hk, ?_⟩
    have h1 : k.dep ≤ deps ts := dep_mem hk
    have h2 : deps ts + 1 ≤ N + 1 := h.dep
    omega
end Tm
/-- a def that lets nothing out, by its body, with its frame -/
theorem fnG_ofF {m : Md} {N ps : List Str} {k : Nat} {x qual : Str} {st : Stmt} {f : Addr} {fd : FuncData} {sp : Sp} (F : C8.Fun m.K x qual st f fd) (S : FnScope N ps (C8.fnScope st)) (len : ∀ vs H Q E, sp vs H Q E → vs.length = ps.length)
    (hb : ∀ (X : Cx) (vs : List V) (H : Hp) (Q : VK) (E : XK), At m N (C8.fnScope st) k X → AtM X qual fd.code → Frm X → sp vs H Q E → wB X (C8.fnBody st) { nx := fun _ H' => Q .non H', rt := Q } (start N vs) H) : FnG m C8.CX0 (k + 1) f fd ps sp := by
  obtain ⟨oc, od, dV, kV, doc, pm, an, cdv, ct, osl, rfl, lk, hc⟩ := F.ex
  refine ⟨len, fun A outer s H args us vs Q E hg hr e0 bt r q => ?_⟩
  refine LamX.run_ofS (CX := C8.CX0) (N := N) lk hc S hr e0 bt r (len _ _ _ _ q) fun hr' => ⟨_, PSs.nox cB, ?_⟩
  exact hb (cxOf C8.CX0 m.P m.w m.K m.mg m.base N qual (C8.fnScope st) f cdv A outer s H E).nox vs H Q E ⟨rfl, rfl, rfl, rfl, rfl, rfl, rfl, rfl, hr', PassesOwn.never, S.nd, hg⟩ ⟨rfl, rfl, fun _ => rfl, rfl⟩ ⟨rfl, rfl⟩ q
theorem pass_at {m : Md} {N : List Str} {sc : Scope} {k : Nat} {X : Cx} {W : WX} {E : XK} {σ : L2.St} (h : At m N sc k X) (tk : L2.Takes X W) (hW : ∀ cls d H, E cls d H → W cls d σ H) : L2.PassesAt (L2.CX m.P m.w) X σ E := by
  rw [← h.pp, ← h.ww]
  exact fun _ _ _ e s' I c => tk e s' (XE.of_call I (fun cls d H' z => hW cls d H' z) c)
section
variable {X : Cx} {pins : List (Addr × Obj)} {σ : L2.St} {H : Hp} {s : Shared} {A : Addr → Prop} {v : V} {d : PyData} {u u' : Value}
theorem same_eq {A0 : Around} (I : Inv X pins σ H s) (o : Ob X.K A H v d) (r : L2.RelV v u) (r' : L2.RelV v u') (hu : A0.units < cLine) : SeqAt.EqAt A0 s u u' true := by
  cases o with
  | non => cases r; cases r'; exact SeqAt.EqAt.same _
  | bl b => cases r; cases r'; exact SeqAt.EqAt.same _
  | int i =>
    obtain ⟨t, rfl⟩ := r
    obtain ⟨t', rfl⟩ := r'
    have h := SeqAt.EqAt.int_int (A := A0) (s := s) i t i t'
    simpa using h
  | str y _ =>
    obtain ⟨t, rfl⟩ := r
    obtain ⟨t', rfl⟩ := r'
    have h := SeqAt.EqAt.str_str (A := A0) (s := s) y t y t'
    simpa using h
  | lst _ hs _ _ => cases r; cases r'; exact SeqAt.EqAt.same _
  | tup hs _ => cases r; cases r'; exact SeqAt.EqAt.same _
  | dct _ e => cases r; cases r'; exact SeqAt.EqAt.same _
end
/-- [x] != [x] -/
theorem g_neOne {m : Md} {N : List Str} {sc : Scope} {k : Nat} {X : Cx} {H : Hp} {Q : VK} {A : Addr → Prop} {v : V} {d : PyData} (h : At m N sc k X) {a b : Addr} (o : Ob m.K A H v d) (ha : H a = some (.lst [v])) (hb : H b = some (.lst [v])) (q : Q (.bl false) H) : gOp X (compareOp .NotEq) (.ref a) (.ref b) H Q := fun pins s σ u w I r rz => by
  cases r
  cases rz
  have hu := h.hu
  have o' : Ob X.K A H v d := by rw [h.kk]; exact o
  obtain ⟨its, rv, pl, hz⟩ := I.list (SqL.of ha)
  obtain ⟨its2, rv2, pl2, hz2⟩ := I.list (SqL.of hb)
  cases rv with | @cons _ w1 _ _ r1 rv =>
  cases rv
  cases rv2 with | @cons _ w2 _ _ r2 rv2 =>
  cases rv2
  have key := SeqAt.RcNeAt.lists (A := X.A) (e := fun _ => true) pl.isList pl2.isList rfl (by omega) (fun j h1 h2 => by
    have hj : j = 0 := by simp at h1; omega
    subst hj
    exact same_eq I o' r1 r2 (by show X.A.units + 1 < cLine; omega))
  exact key X.prog X.w X.xe _ ⟨.bl false, H, I, rfl, q⟩
/-- what == and != of rules ask of the class besides -/
structure RuleE (m : Md) (C : Addr) : Prop where
  nfS : PySem.W.notFirst m.K C (.ref C) = true
  nfO : ∀ T ∈ ["NoneType", "bool", "int", "str", "list", "tuple", "dict"], PySem.W.notFirst m.K C (.type T) = true
  ne : PySem.W.findIn m.K (.ref C) "__ne__" = some (some (.builtin "object.__ne__"))
section
variable {m : Md} {N : List Str} {sc : Scope} {k M : Nat} {X : Cx} {e : Expr} {σ : L2.St} {H : Hp} {Q : VK} {C CT : Addr} {pos p : Pos}
/-- Rule(e) of a term, where nothing is let out -/
theorem w_rule (h : At m N sc k X) (Mk : MakX m (L2.CX m.P m.w) (M + 4) "Rule" C (sp_rinit m C CT M) []) (hk : M + 5 ≤ k) (hg : sc.names.lookup ("Rule" : Str) = some .globalImplicit)
    (q : wE X e σ H fun v H1 => ∃ (t : Tm) (G : Nat), Da m.K Any H1 v t.py ∧ Tm.Gd G t ∧ 2 * G + 1 ≤ M ∧ Tabs m.T H1 ∧ ∀ (i : Addr) (H2 : Hp), Grow m.T H1 H2 → New H1 i → RuleAt m C (New H1) H2 i t → Q (.ref i) H2)
    (he : starEach [e] X.env = (false, eval e X.env) :: starEach [] X.env := by with_unfolding_all rfl) (hpl : (backTo pos (starEach [] X.env)).any (·.1) = false := by with_unfolding_all rfl) : wE X (.Call (.Name "Rule" p) [e] [] pos) σ H Q := by
  refine w_makX (E := fun _ _ _ => False) h Mk (by omega) hg (pass_at h L2.takes0 fun _ _ _ z => z) ?_ (by with_unfolding_all decide) he hpl
  refine w_cons (wE.mono q fun v H1 ⟨t, G, d, gd, hG, hT, k⟩ => ?_) he
  refine w_nil fun i dx hi hdx hne => ?_
  have g0 : Grow m.T H1 (upd (upd H1 dx (.own i)) i (.ins C dx [])) := (Grow.new hdx).trans (Grow.new (by rw [upd_ne (Ne.symm hne)]; exact hi))
  refine ⟨i, dx, v, rfl, upd_same, g0.tab hT, .inl ⟨t, g0.da d, gd.tx, gd.isTm, by have := gd.depth; omega, by have := gd.dep; omega, gd.wf, fun u H' g hi' du => ⟨rfl, ?_⟩⟩⟩
  have gAll : Grow m.T H1 H' := Grow.intoNew g0 g fun c z => by rw [z]; exact hi
  exact k i H' gAll hi ⟨dx, u, hi', du.sub fun a z => g0.keep _ z⟩
/-- x == y of two rules -/
theorem g_eqRule {j : Nat} (h : At m N sc k X) (R : RuleC m C) (E2 : RuleE m C) (me : MetX m C8.CX0 j C "__eq__" (sp_req m C) []) (hk : j ≤ k) {i i' : Addr} {t t' : Tm} (r : RuleAt m C Any H i t) (r' : RuleAt m C Any H i' t') (s : SeqAt.shaped t.py = true) (s' : SeqAt.shaped t'.py = true) (q : Q (.bl (PyData.eqv t.py t'.py)) H) : gOp X (compareOp .Eq) (.ref i) (.ref i') H Q := by
  have r0 := r
  obtain ⟨dx, u, hi, _⟩ := r0
  have r0' := r'
  obtain ⟨dx', u', hi', _⟩ := r0'
  refine g_eqIns (E := C8.E0) h me hk C8.pass0 hi (.base (.ins hi' R.cl R.ha R.hn R.ht R.hm)) E2.nfS ⟨i, .ref i', t, rfl, r, s, .inl ⟨i', t', rfl, r', s', _, rfl, q⟩⟩
theorem g_neRule {j : Nat} (h : At m N sc k X) (R : RuleC m C) (E2 : RuleE m C) (me : MetX m C8.CX0 j C "__eq__" (sp_req m C) []) (hk : j + 1 ≤ k) {i i' : Addr} {t t' : Tm} (r : RuleAt m C Any H i t) (r' : RuleAt m C Any H i' t') (s : SeqAt.shaped t.py = true) (s' : SeqAt.shaped t'.py = true) (q : Q (.bl (!PyData.eqv t.py t'.py)) H) : gOp X (compareOp .NotEq) (.ref i) (.ref i') H Q := by
  have r0 := r
  obtain ⟨dx, u, hi, _⟩ := r0
  have r0' := r'
  obtain ⟨dx', u', hi', _⟩ := r0'
  refine g_neIns (E := C8.E0) h me E2.ne R.hm hk C8.pass0 hi (.base (.ins hi' R.cl R.ha R.hn R.ht R.hm)) E2.nfS ⟨i, .ref i', t, rfl, r, s, .inl ⟨i', t', rfl, r', s', _, rfl, q⟩⟩
/-- x == y of a rule and something else -/
theorem g_eqRuleO {j : Nat} (h : At m N sc k X) (E2 : RuleE m C) (me : MetX m C8.CX0 j C "__eq__" (sp_req m C) []) (hk : j ≤ k) {i : Addr} {t : Tm} {y : V} {T : String} (hT : T ∈ ["NoneType", "bool", "int", "str", "list", "tuple", "dict"]) (ty : TyX m.K H y (.type T)) (r : RuleAt m C Any H i t) (s : SeqAt.shaped t.py = true) (q : Q (.bl false) H) : gOp X (compareOp .Eq) (.ref i) y H Q := by
  have r0 := r
  obtain ⟨dx, u, hi, _⟩ := r0
  exact g_eqIns (E := C8.E0) h me hk C8.pass0 hi ty (E2.nfO T hT) ⟨i, y, t, rfl, r, s, .inr ⟨T, hT, ty, _, rfl, q⟩⟩
theorem RuleAt.grow {T : List (Addr × Str)} {A : Addr → Prop} {S : Addr → Prop} {H' : Hp} {i : Addr} {t : Tm} (r : RuleAt m C A H i t) (g : GrowX m.T S H H') (n : ∀ a, A a → ¬ S a) (ni : ¬ S i) : RuleAt m C A H' i t := by
  obtain ⟨dx, u, hi, d⟩ := r
  exact ⟨dx, u, g.ext _ _ ni hi (fun _ z => by cases z), g.da d n⟩
theorem RuleAt.sub {A A' : Addr → Prop} {i : Addr} {t : Tm} (r : RuleAt m C A H i t) (h : ∀ a, A a → A' a) : RuleAt m C A' H i t := by
  obtain ⟨dx, u, hi, d⟩ := r
  exact ⟨dx, u, hi, d.sub h⟩
theorem RuleAt.any {A : Addr → Prop} {i : Addr} {t : Tm} (r : RuleAt m C A H i t) : RuleAt m C Any H i t := by
  obtain ⟨dx, u, hi, d⟩ := r
  exact ⟨dx, u, hi, d.sub fun _ _ => trivial⟩
end
def ins1 (a : Int) : List Int → List Int
  | [] => [a]
  | x :: l => if a ≤ x then a :: x :: l else x :: ins1 a l
def srt : List Int → List Int
  | [] => []
  | a :: l => ins1 a (srt l)
theorem ins1_perm (a : Int) : ∀ l, (ins1 a l).Perm (a :: l)
  | [] => List.Perm.refl _
  | x :: l => by
    unfold ins1
    split
    · exact List.Perm.refl _
    · exact ((ins1_perm a l).cons x).trans (List.Perm.swap a x l)
theorem srt_perm : ∀ l, (srt l).Perm l
  | [] => List.Perm.refl _
  | a :: l => (ins1_perm a (srt l)).trans ((srt_perm l).cons a)
theorem ins1_sorted (a : Int) : ∀ l, l.Pairwise (· ≤ ·) → (ins1 a l).Pairwise (· ≤ ·)
  | [], _ => List.pairwise_singleton _ _
  | x :: l, h => by
    obtain ⟨h1, h2⟩ := List.pairwise_cons.mp h
    unfold ins1
    split
    · rename_i c
      refine List.pairwise_cons.mpr ⟨fun y hy => ?_, h⟩
      rcases List.mem_cons.mp hy with e | e
      · rw [e]; exact c
      · have := h1 y e; omega
    · rename_i c
      refine List.pairwise_cons.mpr ⟨fun y hy => ?_, ins1_sorted a l h2⟩
      rcases List.mem_cons.mp ((ins1_perm a l).mem_iff.mp hy) with e | e
      · rw [e]; omega
      · exact h1 y e
theorem srt_sorted : ∀ l, (srt l).Pairwise (· ≤ ·)
  | [] => List.Pairwise.nil
  | a :: l => ins1_sorted a _ (srt_sorted l)
theorem srt_uniq {l r : List Int} (p : l.Perm r) (s : l.Pairwise (· ≤ ·)) : l = srt r :=
  (p.trans (srt_perm r).symm).eq_of_pairwise (fun a b _ _ x y => Int.le_antisymm x y) s (srt_sorted r)
theorem srt_len (l : List Int) : (srt l).length = l.length := (srt_perm l).length_eq
inductive Le2 : List Int → List Int → Prop
  | nil : Le2 [] []
  | cons {a b : Int} {l r : List Int} : a ≤ b → Le2 l r → Le2 (a :: l) (b :: r)
theorem Le2.getD {l r : List Int} (h : Le2 l r) : ∀ i, l.getD i 0 ≤ r.getD i 0 := by
  induction h with
  | nil => intro i; simp
  | cons h _ ih =>
    intro i
    cases i with
    | zero => simpa using h
    | succ i => simpa using ih i
theorem ins1_le {x : Int} {l : List Int} (h : (x :: l).Pairwise (· ≤ ·)) : ins1 x l = x :: l := by
  cases l with
  | nil => rfl
  | cons y l =>
    unfold ins1
    rw [if_pos ((List.pairwise_cons.mp h).1 y List.mem_cons_self)]
theorem Le2.ins {l r : List Int} (h : Le2 l r) : ∀ {a b : Int}, a ≤ b → l.Pairwise (· ≤ ·) → r.Pairwise (· ≤ ·) → Le2 (ins1 a l) (ins1 b r) := by
  induction h with
  | nil => intro a b h _ _; exact .cons h .nil
  | @cons x y l r h hr ih =>
    intro a b hab sl sr
    have tl := (List.pairwise_cons.mp sl).2
    have tr := (List.pairwise_cons.mp sr).2
    by_cases c1 : a ≤ x
    · by_cases c2 : b ≤ y
      · rw [ins1, ins1, if_pos c1, if_pos c2]
        exact .cons hab (.cons h hr)
      · rw [ins1, ins1, if_pos c1, if_neg c2]
        have q := ih (a := x) (b := b) (by omega) tl tr
        rw [ins1_le sl] at q
        exact .cons (by omega) q
    · by_cases c2 : b ≤ y
      · rw [ins1, ins1, if_neg c1, if_pos c2]
        have q := ih (a := a) (b := y) (by omega) tl tr
        rw [ins1_le sr] at q
        exact .cons (by omega) q
      · rw [ins1, ins1, if_neg c1, if_neg c2]
        exact .cons h (ih hab tl tr)
theorem Le2.srt {l r : List Int} (h : Le2 l r) : Le2 (srt l) (srt r) := by
  induction h with
  | nil => exact .nil
  | cons h _ ih => exact ih.ins h (srt_sorted _) (srt_sorted _)
theorem srt_add (c : Int) (l : List Int) : srt (l.map (· + c)) = (srt l).map (· + c) := by
  refine (srt_uniq ((srt_perm l).map _) ?_).symm
  refine List.pairwise_map.mpr ((srt_sorted l).imp fun {a b} h => ?_)
  show a + c ≤ b + c
  omega
namespace Tm
mutual
/-- the hour that a term tells -/
def tell (h n : Str → Int) : Tm → Int
  | .part b z w => (if b then n z else h z) + w
  | .all f ts => (srt (tells h n ts)).getD (if f then 0 else ts.length - 1) 0
  | .rank r ts => (srt (tells h n ts)).getD (r.toNat - 1) 0
def tells (h n : Str → Int) : List Tm → List Int
  | [] => []
  | t :: ts => tell h n t :: tells h n ts
end
mutual
/-- the parts, from left to right -/
def prt : Tm → List (Bool × Str × Int)
  | .part n z w => [(n, z, w)]
  | .all _ ts => prts ts
  | .rank _ ts => prts ts
def prts : List Tm → List (Bool × Str × Int)
  | [] => []
  | t :: ts => prt t ++ prts ts
end
/-- the names of the parts of a kind -/
def nam (b : Bool) (t : Tm) : List Str := ((prt t).filter (fun p => p.1 == b)).map (·.2.1)
theorem tells_map (h n : Str → Int) : ∀ ts, tells h n ts = ts.map (tell h n)
  | [] => rfl
  | t :: ts => by rw [tells, tells_map h n ts]; rfl
theorem prts_flat : ∀ ts, prts ts = (ts.map prt).flatten
  | [] => rfl
  | t :: ts => by rw [prts, prts_flat ts]; rfl
theorem prts_append (a b : List Tm) : prts (a ++ b) = prts a ++ prts b := by simp [prts_flat]
mutual
theorem tell_mono {h n h' n' : Str → Int} (l1 : ∀ z, h z ≤ h' z) (l2 : ∀ z, n z ≤ n' z) : ∀ t, tell h n t ≤ tell h' n' t
  | .part b z w => by
    have := l1 z
    have := l2 z
    cases b <;> simp [tell] <;> omega
  | .all f ts => (Le2.srt (tells_mono l1 l2 ts)).getD _
  | .rank r ts => (Le2.srt (tells_mono l1 l2 ts)).getD _
theorem tells_mono {h n h' n' : Str → Int} (l1 : ∀ z, h z ≤ h' z) (l2 : ∀ z, n z ≤ n' z) : ∀ ts, Le2 (tells h n ts) (tells h' n' ts)
  | [] => .nil
  | t :: ts => .cons (tell_mono l1 l2 t) (tells_mono l1 l2 ts)
end
theorem getD_add {l : List Int} {i : Nat} (c : Int) (h : i < l.length) : (l.map (· + c)).getD i 0 = l.getD i 0 + c := by
  simp [List.getD_eq_getElem?_getD, List.getElem?_map, List.getElem?_eq_getElem h]
theorem tells_len (h n : Str → Int) (ts : List Tm) : (tells h n ts).length = ts.length := by rw [tells_map, List.length_map]
mutual
theorem tell_add {h n : Str → Int} (c : Int) : ∀ t, wf t → tell (fun z => h z + c) (fun z => n z + c) t = tell h n t + c
  | .part b z w, _ => by cases b <;> simp [tell] <;> omega
  | .all f ts, w => by
    have ln : 0 < ts.length := List.length_pos_iff.2 w.1
    rw [tell, tell, tells_add c ts w.2.2, srt_add, getD_add]
    rw [srt_len, tells_len]
    cases f <;> simp <;> omega
  | .rank r ts, w => by
    have ln : 0 < ts.length := List.length_pos_iff.2 w.1
    rw [tell, tell, tells_add c ts w.2.2.2.2, srt_add, getD_add]
    rw [srt_len, tells_len]
    have := w.2.2.1
    have := w.2.2.2.1
    omega
theorem tells_add {h n : Str → Int} (c : Int) : ∀ ts, wfs ts → tells (fun z => h z + c) (fun z => n z + c) ts = (tells h n ts).map (· + c)
  | [], _ => rfl
  | t :: ts, w => by rw [tells, tells, tell_add c t w.1, tells_add c ts w.2]; rfl
end
mutual
theorem tell_congr {h n h' n' : Str → Int} : ∀ t, (∀ p ∈ prt t, if p.1 = true then n p.2.1 = n' p.2.1 else h p.2.1 = h' p.2.1) → tell h n t = tell h' n' t
  | .part b z w, e => by
    have q := e (b, z, w) (by simp [prt])
    cases b <;> simp at q <;> simp [tell, q]
  | .all f ts, e => by rw [tell, tell, tells_congr ts e]
  | .rank r ts, e => by rw [tell, tell, tells_congr ts e]
theorem tells_congr {h n h' n' : Str → Int} : ∀ ts, (∀ p ∈ prts ts, if p.1 = true then n p.2.1 = n' p.2.1 else h p.2.1 = h' p.2.1) → tells h n ts = tells h' n' ts
  | [], _ => rfl
  | t :: ts, e => by
    rw [tells, tells, tell_congr t (fun p hp => e p (List.mem_append_left _ hp)), tells_congr ts fun p hp => e p (List.mem_append_right _ hp)]
end
mutual
theorem prt_len : ∀ t, (prt t).length = cnt t
  | .part _ _ _ => rfl
  | .all _ ts => prts_len ts
  | .rank _ ts => prts_len ts
theorem prts_len : ∀ ts, (prts ts).length = cnts ts
  | [] => rfl
  | t :: ts => by rw [prts, List.length_append, prt_len t, prts_len ts]; rfl
end
mutual
theorem prt_nms : ∀ t, nms t → ∀ p ∈ prt t, IsName p.2.1
  | .part _ z w, h, p, hp => by
    have e : p = (_, z, w) := List.mem_singleton.mp hp
    rw [e]; exact h
  | .all _ ts, h, p, hp => prts_nms ts h p hp
  | .rank _ ts, h, p, hp => prts_nms ts h p hp
theorem prts_nms : ∀ ts, nmss ts → ∀ p ∈ prts ts, IsName p.2.1
  | [], _, p, hp => by cases hp
  | t :: ts, h, p, hp => by
    rcases List.mem_append.mp hp with e | e
    · exact prt_nms t h.1 p e
    · exact prts_nms ts h.2 p e
end
theorem nam_mem {b : Bool} {t : Tm} {z : Str} : z ∈ nam b t ↔ ∃ w, (b, z, w) ∈ prt t := by
  unfold nam
  simp only [List.mem_map, List.mem_filter, beq_iff_eq]
  constructor
  · rintro ⟨⟨b', z', w⟩, ⟨h1, h2⟩, h3⟩
    simp only at h2 h3
    subst h2 h3
    exact ⟨w, h1⟩
  · rintro ⟨w, h⟩
    exact ⟨_, ⟨h, rfl⟩, rfl⟩
end Tm
/-- what a dict of hours says of a name -/
def hrs (kz : List (Str × Int)) (z : Str) : Int := (kz.lookup z).getD 0
/-- the dict of hours, as the heap knows it -/
def hrK (kz : List (Str × Int)) : List (Key × V) := kz.map fun p => (Sum.inr p.1, .int p.2)
theorem hrK_keys (kz : List (Str × Int)) : (hrK kz).map (·.1) = (kz.map (·.1)).map Sum.inr := by simp [hrK]
theorem hrK_val : ∀ (kz : List (Str × Int)) (z : Str), valV (hrK kz) (.inr z) = (kz.lookup z).map V.int
  | [], _ => rfl
  | p :: kz, z => by
    have ih := hrK_val kz z
    obtain ⟨y, i⟩ := p
    by_cases c : y = z
    · subst c
      simp [hrK, valV, List.lookup]
    · have c1 : (z == y) = false := by simpa using fun e : z = y => c e.symm
      have c2 : (Sum.inr y : Key) ≠ .inr z := fun e => c (by injection e)
      have e : valV (hrK ((y, i) :: kz)) (.inr z) = valV (hrK kz) (.inr z) := by
        unfold valV hrK
        rw [List.map_cons, List.find?_cons_of_neg (by simpa using c2)]
      rw [e, ih, List.lookup_cons, c1]
theorem hrK_get {kz : List (Str × Int)} {j : Nat} {p : Key × V} (h : (hrK kz)[j]? = some p) : ∃ q, kz[j]? = some q ∧ p = (.inr q.1, .int q.2) := by
  rw [hrK, List.getElem?_map] at h
  obtain ⟨q, h1, h2⟩ := Option.map_eq_some_iff.1 h
  exact ⟨q, h1, h2.symm⟩
theorem hrK_len (kz : List (Str × Int)) : (hrK kz).length = kz.length := List.length_map _
theorem name_nm {z : Str} (h : IsName z) : isNm (.str z) = true := nmB_iff.2 h
theorem name_short {z : Str} (h : IsName z) : z.length ≤ sizeLine := by have := h.2.1; rw [sizeLine_eq]; omega
/-- what is asked of hours: none, or a dict of names and numbers -/
def sp_is_hours (m : Md) : Sp := fun vs H Q _ => ∃ (v : V) (l : Addr) (zs : List Str), vs = [v, .ref l] ∧ SqL m.K H l (zs.map V.str) ∧ zs.length < 1000 ∧
  ((v = .non ∧ ∀ H', Grow m.T H H' → Q (.bl false) H') ∨ ∃ (d : Addr) (kz : List (Str × Int)), v = .ref d ∧ H d = some (.dK (hrK kz)) ∧ (∀ p ∈ kz, IsName p.1) ∧ kz.length < 1000 ∧ ∀ H', Grow m.T H H' → Q (.bl (zs.all fun z => (kz.lookup z).isSome)) H')
theorem c_is_hours {m : Md} {f : Addr} {fd : FuncData} (F : C8.Def m.K m.mg "is_hours" st_is_hours f fd) (b : L2.Binds m.K fd ps_is_hours []) (hi : m.mg "isinstance" = none) (hd : m.mg "dict" = none) (hall : m.mg "all" = none) (Nm : Cal m 1 "is_name" (sp_is_name m)) (Wh : Cal m 1 "is_whole" (sp_is_whole m)) : Cal m 2 "is_hours" (sp_is_hours m) := by
  refine cal_of F b sc_is_hours (fun vs H Q E h => by obtain ⟨_, _, _, rfl, _⟩ := h; rfl) fun X vs H Q E hA h => ?_
  obtain ⟨v, l, zs, rfl, hl, lz, h⟩ := h
  obtain ⟨n1, n0⟩ := nv_is_hours
  walk_at "B"
  walk_at "V"
  refine g_blt hA hi rfl bt_isinstance ?_
  walk_at "V"
  refine w_tyn hA hd rfl bt_dict ?_
  walk_at "V"
  rcases h with ⟨rfl, q⟩ | ⟨d, kz, rfl, hk, nm, lk, q⟩
  · refine g_isi hA (.ty "dict") (.base .non) (kit_ty (kit_all "dict" (by decide) .none)) ?_
    walk_at "V"
    refine iteT ?_
    walk_at "V"
    first
      | exact q H GrowX.refl
      | (refine iteT ?_; walk_at "V"; exact q H GrowX.refl)
  · refine g_isi hA (.ty "dict") (.base (.dK hk)) (kit_ty (kit_all "dict" (by decide) (.dict []))) ?_
    walk_at "V"
    refine iteF ?_
    walk_at "V"
    refine g_blt hA hall rfl bt_all ?_
    refine w_cons (w_lcDk hA (by decide +kernel) (i := 2) ⟨rfl, rfl⟩ ?_)
    refine ⟨d, hrK kz, hk, fun od => ?_⟩
    walk_at "V"
    refine ⟨rfl, rfl, fun D hD => ?_⟩
    refine ⟨fun t H' => Grow m.T (upd H d (.frz od (.dK (hrK kz)))) H' ∧ H' D = some (.lst ((List.replicate t true).map V.bl)), ⟨Grow.new hD, upd_same⟩, fun t H' _ hp => hp.1.frz _ _ _ upd_same, ?_, ?_⟩
    · rintro t p H' hp ⟨g, hv⟩ X' hX'
      obtain ⟨z, hz, rfl⟩ := hrK_get hp
      have c1 := nl_of hX' 2 "key"
      have hn := nm z (List.mem_of_getElem? hz)
      have htl := (List.getElem?_eq_some_iff.1 hz).1
      refine w_call hX' Nm (by omega) rfl ?_
      walk_at "V"
      refine ⟨.str z.1, .str z.1, Any, rfl, .str _ (name_short hn), fun H5 g5 => ?_⟩
      have hv5 := g5.extN _ _ hv (fun _ w => by cases w)
      refine ⟨_, hv5, by rw [List.length_map, List.length_replicate, sizeLine_eq]; omega, Grow.intoNew (g.trans g5) (GrowX.lst hv5) (fun _ w => by rw [w]; exact hD), ?_⟩
      rw [upd_same, name_nm hn, List.replicate_succ']
      simp
    · rintro H' ⟨g, hv⟩
      obtain ⟨g1, fz⟩ := Grow.unlock hk g
      rw [hrK_len] at hv
      have hDd : D ≠ d := fun z => by rw [z, upd_same] at hD; cases hD
      walk_at "V"
      have hv1 : (upd H' d (.dK (hrK kz))) D = some (.lst ((List.replicate kz.length true).map V.bl)) := by rw [upd_ne hDd]; exact hv
      refine g_all hA (SqL.of hv1) ?_
      rw [show (List.replicate kz.length true).all id = true from by simp]
      generalize hH2 : upd H' d (.dK (hrK kz)) = H2 at g1 ⊢
      have hk2 : H2 d = some (.dK (hrK kz)) := by rw [← hH2]; exact upd_same
      clear hH2 hv1
      walk_at "V"
      refine iteF (b_nil ?_)
      walk_at "B"
      walk_at "V"
      refine g_blt hA hall rfl bt_all ?_
      refine w_cons (w_lcDv hA (by decide +kernel) (i := 3) ⟨rfl, rfl⟩ ?_)
      refine ⟨d, hrK kz, hk2, fun od2 => ?_⟩
      walk_at "V"
      refine ⟨rfl, rfl, fun D2 hD2 => ?_⟩
      refine ⟨fun t H' => Grow m.T (upd H2 d (.frz od2 (.dK (hrK kz)))) H' ∧ H' D2 = some (.lst ((List.replicate t true).map V.bl)), ⟨Grow.new hD2, upd_same⟩, fun t H' _ hp => hp.1.frz _ _ _ upd_same, ?_, ?_⟩
      · rintro t p H' hp ⟨g, hv⟩ X' hX'
        obtain ⟨z, hz, rfl⟩ := hrK_get hp
        have c1 := nl_of hX' 3 "hour"
        have htl := (List.getElem?_eq_some_iff.1 hz).1
        refine w_call hX' Wh (by omega) rfl ?_
        walk_at "V"
        refine ⟨.int z.2, .int z.2, Any, rfl, .int _, ?_⟩
        refine ⟨_, hv, by rw [List.length_map, List.length_replicate, sizeLine_eq]; omega, Grow.intoNew g (GrowX.lst hv) (fun _ w => by rw [w]; exact hD2), ?_⟩
        rw [upd_same, List.replicate_succ']
        simp [isWh]
      · rintro H3 ⟨g, hv⟩
        obtain ⟨g2, fz⟩ := Grow.unlock hk2 g
        rw [hrK_len] at hv
        have hDd2 : D2 ≠ d := fun z => by rw [z, upd_same] at hD2; cases hD2
        walk_at "V"
        have hv1 : (upd H3 d (.dK (hrK kz))) D2 = some (.lst ((List.replicate kz.length true).map V.bl)) := by rw [upd_ne hDd2]; exact hv
        refine g_all hA (SqL.of hv1) ?_
        rw [show (List.replicate kz.length true).all id = true from by simp]
        generalize hH4 : upd H3 d (.dK (hrK kz)) = H4 at g2 ⊢
        have hk4 : H4 d = some (.dK (hrK kz)) := by rw [← hH4]; exact upd_same
        clear hH4 hv1
        have g12 := g1.trans g2
        walk_at "V"
        refine iteT ?_
        walk_at "V"
        refine g_blt hA hall rfl bt_all ?_
        refine w_cons (w_lcL hA (by decide +kernel) (i := 4) ⟨rfl, rfl⟩ ?_)
        walk_at "V"
        refine ⟨l, _, rfl, GrowX.seqL g12 hl fun z => z, fun D4 hD4 => ⟨fun t H' => Grow m.T H4 H' ∧ H' D4 = some (.lst (((zs.take t).map fun z => (kz.lookup z).isSome).map V.bl)), ⟨Grow.new hD4, upd_same⟩, fun t H' _ hp => GrowX.seqL (g12.trans hp.1) hl fun z => z, ?_, ?_⟩⟩
        · rintro t x H' hx ⟨g, hv⟩ X' hX'
          rw [List.getElem?_map] at hx
          obtain ⟨z, hz, rfl⟩ := Option.map_eq_some_iff.1 hx
          have c1 := nl_of hX' 4 "name"
          have c0 := nc_of hX' 0 "value"
          have htl := (List.getElem?_eq_some_iff.1 hz).1
          walk_at "V"
          refine g_inD hX' (g.extN _ _ hk4 (fun _ w => by cases w)) ?_
          rw [hrK_val]
          refine ⟨_, hv, by rw [List.length_map, List.length_map, List.length_take, sizeLine_eq]; omega, Grow.intoNew g (GrowX.lst hv) (fun _ w => by rw [w]; exact hD4), ?_⟩
          rw [upd_same, List.take_add_one, hz]
          simp
        · rintro H5 ⟨g, hv⟩
          rw [List.length_map, List.take_length] at hv
          walk_at "V"
          refine g_all hA (SqL.of hv) ?_
          rw [List.all_map]
          exact q H5 (g12.trans g)
/-- hours that have all of the names -/
def sp_need_hours (m : Md) : Sp := fun vs H Q _ => ∃ (d l : Addr) (zs : List Str) (kz : List (Str × Int)), vs = [.ref d, .ref l] ∧ SqL m.K H l (zs.map V.str) ∧ zs.length < 1000 ∧ H d = some (.dK (hrK kz)) ∧ (∀ p ∈ kz, IsName p.1) ∧ kz.length < 1000 ∧ (zs.all fun z => (kz.lookup z).isSome) = true ∧
  ∀ H', Grow m.T H H' → Q .non H'
theorem c_need_hours {m : Md} {f : Addr} {fd : FuncData} (F : C8.Def m.K m.mg "need_hours" st_need_hours f fd) (b : L2.Binds m.K fd ps_need_hours []) (Hs : Cal m 2 "is_hours" (sp_is_hours m)) : Cal m 3 "need_hours" (sp_need_hours m) := by
  refine cal_of F b sc_need_hours (fun vs H Q E h => by obtain ⟨_, _, _, _, rfl, _⟩ := h; rfl) fun X vs H Q E hA h => ?_
  obtain ⟨d, l, zs, kz, rfl, hl, lz, hk, nm, lk, al, q⟩ := h
  obtain ⟨n0, n1⟩ := nv_need_hours
  walk_at "B"
  walk_at "V"
  refine w_call hA Hs (by omega) rfl ?_
  walk_at "V"
  refine ⟨.ref d, l, zs, rfl, hl, lz, .inr ⟨d, kz, rfl, hk, nm, lk, fun H' g => ?_⟩⟩
  rw [al]
  walk_at "V"
  refine iteF (b_nil (b_nil ?_))
  exact q H' g
/-- the rank for which a term of terms waits -/
def rk : Tm → Int
  | .part _ _ _ => 0
  | .all f ts => if f then 1 else ts.length
  | .rank r _ => r
def sp_rank_of_term (m : Md) : Sp := fun vs H Q _ => ∃ (v : V) (t : Tm), vs = [v] ∧ Da m.K Any H v t.py ∧ t.isPart = false ∧ Q (.int (rk t)) H
theorem c_rank_of_term {m : Md} {f : Addr} {fd : FuncData} (F : C8.Def m.K m.mg "rank_of_term" st_rank_of_term f fd) (b : L2.Binds m.K fd ps_rank_of_term []) (hlen : m.mg "len" = none) : Cal m 1 "rank_of_term" (sp_rank_of_term m) := by
  refine cal_of F b sc_rank_of_term (fun vs H Q E h => by obtain ⟨_, _, rfl, _⟩ := h; rfl) fun X vs H Q E hA h => ?_
  obtain ⟨v, t, rfl, d, hp, q⟩ := h
  have n0 := nv_rank_of_term
  cases t with
  | part _ _ _ => simp [Tm.isPart] at hp
  | all f ts =>
    obtain ⟨a, l, xs, rfl, _, hs, hl, da⟩ := da_all d
    have hxl : xs.length = ts.length := by rw [da.length, Tm.pys_length]
    walk_at "B"
    walk_at "V"
    refine g_ixT hA hs (atI_at (j := 0) rfl) ?_
    walk_at "V"
    rw [if_neg (by cases f <;> decide +kernel)]
    refine b_nil ?_
    walk_at "B"
    walk_at "V"
    refine g_ixT hA hs (atI_at (j := 0) rfl) ?_
    walk_at "V"
    cases f with
    | true =>
      rw [if_pos (by decide +kernel)]
      walk_at "V"
      exact q
    | false =>
      rw [if_neg (by decide +kernel)]
      walk_at "V"
      refine g_blt hA hlen rfl bt_len ?_
      walk_at "V"
      refine g_ixT hA hs (show atI _ (-1) = some (.ref l) from rfl) ?_
      walk_at "V"
      refine g_lenL hA hl ?_
      rw [hxl]
      exact q
  | rank r ts =>
    obtain ⟨a, l, xs, rfl, _, hs, hl, da⟩ := da_rank d
    walk_at "B"
    walk_at "V"
    refine g_ixT hA hs (atI_at (j := 0) rfl) ?_
    walk_at "V"
    rw [if_pos (by decide +kernel)]
    walk_at "V"
    refine g_ixT hA hs (atI_at (j := 1) rfl) ?_
    exact q
/-- the hours that a term asks are there -/
structure HrsIn (H : Hp) (t : Tm) (hd : V) (nd : V) (h n : Str → Int) : Prop where
  of : ∀ z w, (false, z, w) ∈ t.prt → ∃ d, hd = .ref d ∧ DGet H d (.str z) (some (.int (h z)))
  now : ∀ z w, (true, z, w) ∈ t.prt → ∃ d, nd = .ref d ∧ DGet H d (.str z) (some (.int (n z)))
/-- dicts that stand -/
def DKat (H : Hp) (v : V) (kz : List (Str × Int)) : Prop := ∃ d, v = .ref d ∧ H d = some (.dK (hrK kz))
theorem DKat.grow {T : List (Addr × Str)} {H H' : Hp} {v : V} {kz : List (Str × Int)} (g : Grow T H H') (h : DKat H v kz) : DKat H' v kz := by
  obtain ⟨d, e, hd⟩ := h
  exact ⟨d, e, g.extN _ _ hd (fun _ w => by cases w)⟩
theorem DKat.get {H : Hp} {v : V} {kz : List (Str × Int)} {z : Str} (h : DKat H v kz) (hz : (kz.lookup z).isSome = true) : ∃ d, v = .ref d ∧ DGet H d (.str z) (some (.int (hrs kz z))) := by
  obtain ⟨d, e, hd⟩ := h
  refine ⟨d, e, .inl ⟨_, .inr z, .inl hd, rfl, ?_⟩⟩
  rw [hrK_val]
  obtain ⟨i, hi⟩ := Option.isSome_iff_exists.mp hz
  rw [hi, hrs, hi]
  rfl
/-- a dict of hours, or none where it isn't asked -/
def DKor (H : Hp) (v : V) (kz : List (Str × Int)) (zs : List Str) : Prop := (v = .non ∧ zs = []) ∨ (DKat H v kz ∧ ∀ z ∈ zs, (kz.lookup z).isSome = true)
theorem DKor.grow {T : List (Addr × Str)} {H H' : Hp} {v : V} {kz : List (Str × Int)} {zs : List Str} (g : Grow T H H') (h : DKor H v kz zs) : DKor H' v kz zs := h.imp id fun z => ⟨z.1.grow g, z.2⟩
theorem DKor.sub {H : Hp} {v : V} {kz : List (Str × Int)} {zs ys : List Str} (h : DKor H v kz zs) (s : ∀ z ∈ ys, z ∈ zs) : DKor H v kz ys := by
  rcases h with ⟨e, z⟩ | ⟨a, b⟩
  · refine .inl ⟨e, ?_⟩
    cases ys with
    | nil => rfl
    | cons y ys => have := s y List.mem_cons_self; rw [z] at this; cases this
  · exact .inr ⟨a, fun z hz => b z (s z hz)⟩
theorem DKor.get {H : Hp} {v : V} {kz : List (Str × Int)} {zs : List Str} {z : Str} (h : DKor H v kz zs) (hz : z ∈ zs) : ∃ d, v = .ref d ∧ DGet H d (.str z) (some (.int (hrs kz z))) := by
  rcases h with ⟨_, e⟩ | ⟨a, b⟩
  · rw [e] at hz; cases hz
  · exact a.get (b z hz)
namespace Tm
theorem nam_all {b : Bool} {f : Bool} {ts : List Tm} {t : Tm} (ht : t ∈ ts) : ∀ z ∈ nam b t, z ∈ nam b (.all f ts) := fun z hz => by
  obtain ⟨w, hw⟩ := nam_mem.1 hz
  refine nam_mem.2 ⟨w, ?_⟩
  show _ ∈ prts ts
  rw [prts_flat]
  exact List.mem_flatten.2 ⟨_, List.mem_map.2 ⟨t, ht, rfl⟩, hw⟩
theorem nam_rank {b : Bool} {r : Int} {ts : List Tm} {t : Tm} (ht : t ∈ ts) : ∀ z ∈ nam b t, z ∈ nam b (.rank r ts) := fun z hz => nam_all (f := true) ht z hz
end Tm
/-- what a def that goes through a term tells: at N lists above each part -/
def sp_tell (m : Md) (N : Nat) : Sp := fun vs H Q _ => ∃ (v hd nd : V) (t : Tm) (kh kn : List (Str × Int)), vs = [v, hd, nd] ∧ Da m.K Any H v t.py ∧ t.dep ≤ N ∧ t.wf ∧ DKor H hd kh (t.nam false) ∧ DKor H nd kn (t.nam true) ∧
  ∀ H', Grow m.T H H' → Q (.int (t.tell (hrs kh) (hrs kn))) H'
theorem told_step {m : Md} {f : Addr} {fd : FuncData} (F : C8.Def m.K m.mg "told_by" st_told_by f fd) (b : L2.Binds m.K fd ps_told_by []) (hsr : m.mg "sorted" = none) (P : Cal m 1 "is_part" (sp_is_part m)) (R : Cal m 1 "rank_of_term" (sp_rank_of_term m)) (N : Nat) (ih : ∀ M, M + 1 = N → Cal m (N + 1) "told_by" (sp_tell m M)) : Cal m (N + 2) "told_by" (sp_tell m N) := by
  refine cal_of F b sc_told_by (fun vs H Q E h => by obtain ⟨_, _, _, _, _, _, rfl, _⟩ := h; rfl) fun X vs H Q E hA h => ?_
  obtain ⟨v, hd, nd, t, kh, kn, rfl, d, hdp, hw, oh, on, q⟩ := h
  obtain ⟨n0, n3, n1, n2⟩ := nv_told_by
  walk_at "B"
  walk_at "V"
  refine w_call hA P (by omega) rfl ?_
  walk_at "V"
  refine ⟨v, t, Any, rfl, d, fun H1 g1 => ?_⟩
  walk_at "V"
  refine ite2 (fun h0 => ?_) fun h0 => ?_
  · cases t with
    | all _ _ => simp [Tm.isPart] at h0
    | rank _ _ => simp [Tm.isPart] at h0
    | part n z w =>
      obtain ⟨a, rfl, hs⟩ := da_part (g1.da d)
      walk_at "V"
      refine g_ixT hA hs (atI_at (j := 0) rfl) ?_
      walk_at "V"
      cases n with
      | false =>
        obtain ⟨dd, rfl, dg⟩ := (oh.grow g1).get (z := z) (by simp [Tm.nam, Tm.prt])
        rw [if_pos (by decide +kernel)]
        walk_at "V"
        refine g_ixT hA hs (atI_at (j := 1) rfl) ?_
        refine g_ixD hA dg ?_
        walk_at "V"
        refine g_ixT hA hs (atI_at (j := 2) rfl) ?_
        walk_at "V"
        exact q H1 g1
      | true =>
        obtain ⟨dd, rfl, dg⟩ := (on.grow g1).get (z := z) (by simp [Tm.nam, Tm.prt])
        rw [if_neg (by decide +kernel)]
        walk_at "V"
        refine g_ixT hA hs (atI_at (j := 1) rfl) ?_
        refine g_ixD hA dg ?_
        walk_at "V"
        refine g_ixT hA hs (atI_at (j := 2) rfl) ?_
        walk_at "V"
        exact q H1 g1
  · have hp : t.isPart = false := by simpa using h0
    refine b_nil ?_
    walk_at "B"
    walk_at "V"
    obtain ⟨M, rfl⟩ : ∃ M, M + 1 = N := ⟨N - 1, by have := Tm.kids_dep hp; omega⟩
    obtain ⟨a, l, hd0, xs, rfl, _, hs, _, _, _, hl, da, _⟩ := da_kids (g1.da d) hp
    obtain ⟨kne, klen, kwf⟩ := Tm.kids_wf hw hp
    have kdep := Tm.kids_dep hp
    have hxl : xs.length = t.kids.length := by rw [da.length, Tm.pys_length]
    refine g_blt hA hsr rfl bt_sorted ?_
    refine w_cons (w_lcL hA (by decide +kernel) (i := 4) ⟨rfl, rfl⟩ ?_)
    walk_at "V"
    refine g_ixT hA hs (at_last _ _) ?_
    refine ⟨l, xs, rfl, hl, fun D1 hD1 => ⟨fun j H4 => Grow m.T H1 H4 ∧ H4 D1 = some (.lst ((Tm.tells (hrs kh) (hrs kn) (t.kids.take j)).map V.int)), ⟨Grow.new hD1, upd_same⟩, fun j H4 _ hp4 => GrowX.seqL hp4.1 hl fun z => z, ?_, ?_⟩⟩
    · rintro j x H4 hx ⟨g4, hv⟩ X' hX'
      have c1 := nc_of hX' 1 "hours"
      have c2 := nc_of hX' 2 "now"
      have c4 := nl_of hX' 4 "inner"
      obtain ⟨pd, hpd, dx⟩ := da.getV hx
      rw [Tm.pys_map, List.getElem?_map] at hpd
      obtain ⟨tj, htj, rfl⟩ := Option.map_eq_some_iff.1 hpd
      have htm := List.mem_of_getElem? htj
      have hj : j < t.kids.length := by rw [← hxl]; exact (List.getElem?_eq_some_iff.1 hx).1
      have sub : ∀ b, ∀ z ∈ tj.nam b, z ∈ t.nam b := by
        intro b z hz
        cases t with
        | part _ _ _ => simp [Tm.isPart] at hp
        | all f ts => exact Tm.nam_all htm z hz
        | rank r ts => exact Tm.nam_rank htm z hz
      have g14 := g1.trans g4
      refine w_call hX' (ih M rfl) (by omega) rfl ?_
      walk_at "V"
      refine ⟨x, hd, nd, tj, kh, kn, rfl, g4.da dx, by have := Tm.dep_mem htm; omega, Tm.wfs_iff.1 kwf tj htm, (oh.grow g14).sub (sub false), (on.grow g14).sub (sub true), fun H5 g5 => ?_⟩
      have hv5 := g5.extN _ _ hv (fun _ w => by cases w)
      refine ⟨_, hv5, by rw [List.length_map, Tm.tells_len, List.length_take, sizeLine_eq]; omega, Grow.intoNew (g4.trans g5) (GrowX.lst hv5) (fun _ w => by rw [w]; exact hD1), ?_⟩
      rw [upd_same, List.take_add_one, htj]
      simp [Tm.tells_map]
    · rintro H4 ⟨g4, hv⟩
      rw [hxl, List.take_length] at hv
      walk_at "V"
      refine g_sortedI hA (SqL.of hv) fun ns' p pm so hpn => ?_
      have es : ns' = srt (Tm.tells (hrs kh) (hrs kn) t.kids) := srt_uniq pm so
      have g5 := Grow.new (T := m.T) (o := .lst (ns'.map V.int)) hpn
      have g14 := g1.trans g4
      walk_at "V"
      refine w_call hA R (by omega) rfl ?_
      walk_at "V"
      refine ⟨.ref a, t, rfl, Grow.da (g14.trans g5) d, hp, ?_⟩
      walk_at "V"
      have idx : ∃ i : Nat, rk t - 1 = (i : Int) ∧ i < t.kids.length ∧ t.tell (hrs kh) (hrs kn) = (srt (Tm.tells (hrs kh) (hrs kn) t.kids)).getD i 0 := by
        have ln : 0 < t.kids.length := List.length_pos_iff.2 kne
        cases t with
        | part _ _ _ => simp [Tm.isPart] at hp
        | all f ts =>
          have ln' : 0 < ts.length := ln
          cases f with
          | true => exact ⟨0, rfl, ln, rfl⟩
          | false => exact ⟨ts.length - 1, by show (ts.length : Int) - 1 = _; omega, by show ts.length - 1 < ts.length; omega, rfl⟩
        | rank r ts => exact ⟨r.toNat - 1, by have := hw.2.2.1; show r - 1 = _; omega, by have := hw.2.2.1; have := hw.2.2.2.1; show r.toNat - 1 < ts.length; omega, rfl⟩
      obtain ⟨i, ei, li, et⟩ := idx
      have lns : i < ns'.length := by rw [es, srt_len, Tm.tells_len]; exact li
      rw [ei]
      refine g_ixL hA (SqL.of upd_same) (atI_at (j := i) (v := .int (ns'.getD i 0)) ?_) ?_
      · rw [List.getElem?_map, List.getElem?_eq_getElem lns]
        simp [List.getD_eq_getElem?_getD, List.getElem?_eq_getElem lns]
      · rw [es, ← et]
        rw [es] at g5
        exact q _ (g14.trans g5)
theorem c_told_by {m : Md} {f : Addr} {fd : FuncData} (F : C8.Def m.K m.mg "told_by" st_told_by f fd) (b : L2.Binds m.K fd ps_told_by []) (hsr : m.mg "sorted" = none) (P : Cal m 1 "is_part" (sp_is_part m)) (R : Cal m 1 "rank_of_term" (sp_rank_of_term m)) : ∀ N, Cal m (N + 2) "told_by" (sp_tell m N) := by
  intro N
  induction N with
  | zero => exact told_step F b hsr P R 0 fun M e => by omega
  | succ N ih =>
    refine told_step F b hsr P R (N + 1) fun M e => ?_
    obtain rfl : M = N := by omega
    exact ih
/-- no address -/
abbrev NoA : Addr → Prop := fun _ => False
namespace Tm
mutual
/-- pairs of path and part -/
def ptl (js : List Int) : Tm → List PyData
  | .part n z w => [.tuple [.tuple (js.map PyData.int), (Tm.part n z w).py]]
  | .all _ ts => ptls js 0 ts
  | .rank _ ts => ptls js 0 ts
def ptls (js : List Int) (i : Nat) : List Tm → List PyData
  | [] => []
  | t :: ts => ptl (js ++ [(i : Int)]) t ++ ptls js (i + 1) ts
end
theorem ptls_append (js : List Int) : ∀ (a b : List Tm) (i : Nat), ptls js i (a ++ b) = ptls js i a ++ ptls js (i + a.length) b
  | [], b, i => by simp [ptls]
  | t :: a, b, i => by
    rw [List.cons_append, ptls, ptls, ptls_append js a b (i + 1), List.append_assoc, List.length_cons, show i + 1 + a.length = i + (a.length + 1) from by omega]
theorem ptl_kids (js : List Int) {t : Tm} (h : t.isPart = false) : ptl js t = ptls js 0 t.kids := by
  cases t with
  | part _ _ _ => simp [isPart] at h
  | all f ts => rfl
  | rank r ts => rfl
mutual
theorem ptl_len : ∀ (t : Tm) (js : List Int), (ptl js t).length = t.cnt
  | .part _ _ _, _ => rfl
  | .all _ ts, js => ptls_len ts js 0
  | .rank _ ts, js => ptls_len ts js 0
theorem ptls_len : ∀ (ts : List Tm) (js : List Int) (i : Nat), (ptls js i ts).length = cnts ts
  | [], _, _ => rfl
  | t :: ts, js, i => by rw [ptls, List.length_append, ptl_len t, ptls_len ts]; rfl
end
end Tm
theorem da_ints {K : PySem.W.Frag} {A : Addr → Prop} {H : Hp} : ∀ js : List Int, DaAll K A H (js.map V.int) (js.map PyData.int)
  | [] => .nil
  | j :: js => .cons (.int j) (da_ints js)
section
variable {m : Md} {N : List Str} {sc : Scope} {k : Nat} {X : Cx} {H : Hp} {Q : VK}
/-- p + (i,) -/
theorem g_snocT (h : At m N sc k X) {l r : Addr} {js : List Int} {i : Int} (h1 : SqT m.K H l (js.map V.int)) (h2 : SqT m.K H r [.int i]) (hz : js.length + 1 ≤ sizeLine) (q : ∀ p H', Grow m.T H H' → SqT m.K H' p ((js ++ [i]).map V.int) → Q (.ref p) H') : gOp X (binaryOp .Add) (.ref l) (.ref r) H Q := by
  refine gOp.of op_catA ⟨l, r, js.map V.int, [.int i], rfl, rfl, by rw [h.kk]; exact h1, by rw [h.kk]; exact h2, by rw [List.length_map]; exact hz, fun e => ?_, ⟨fun _ e => absurd e (by simp), fun _ _ p hp => ?_⟩⟩
  · have e' : js = [] := List.map_eq_nil_iff.1 e
    subst e'
    exact q r H GrowX.refl h2
  · refine q p _ (Grow.new hp) ?_
    rw [List.map_append]
    exact SqT.of upd_same
end
def sp_parts_at (m : Md) (M : Nat) : Sp := fun vs H Q _ => ∃ (v : V) (p : Addr) (t : Tm) (js : List Int), vs = [v, .ref p] ∧ Da m.K Any H v t.py ∧ t.dep ≤ M ∧ t.wf ∧ t.cnt ≤ 1000 ∧ SqT m.K H p (js.map V.int) ∧ js.length + M ≤ 1000 ∧
  ∀ u us H', Grow m.T H H' → New H u → H' u = some (.lst us) → DaAll m.K NoA H' us (t.ptl js) → Q (.ref u) H'
theorem parts_step {m : Md} {f : Addr} {fd : FuncData} (F : C8.Def m.K m.mg "parts_at" st_parts_at f fd) (b : L2.Binds m.K fd ps_parts_at []) (hen : m.mg "enumerate" = none) (P : Cal m 1 "is_part" (sp_is_part m)) (M : Nat) (ih : ∀ L, L + 1 = M → Cal m (M + 1) "parts_at" (sp_parts_at m L)) : Cal m (M + 2) "parts_at" (sp_parts_at m M) := by
  refine cal_of F b sc_parts_at (fun vs H Q E h => by obtain ⟨_, _, _, _, rfl, _⟩ := h; rfl) fun X vs H Q E hA h => ?_
  obtain ⟨v, p, t, js, rfl, d, hdp, hw, hc, hp, hj, q⟩ := h
  obtain ⟨n0, n1, n2, n3, n4⟩ := nv_parts_at
  walk_at "B"
  walk_at "V"
  refine w_call hA P (by omega) rfl ?_
  walk_at "V"
  refine ⟨v, t, Any, rfl, d, fun H1 g1 => ?_⟩
  walk_at "V"
  refine ite2 (fun h0 => ?_) fun h0 => ?_
  · cases t with
    | all _ _ => simp [Tm.isPart] at h0
    | rank _ _ => simp [Tm.isPart] at h0
    | part n z w =>
      walk_at "V"
      refine ⟨by walk_at "S", fun T hT => ?_⟩
      walk_at "V"
      have g2 := Grow.new (T := m.T) (o := .tup [.ref p, v]) hT
      refine ⟨by walk_at "S", fun u hu => ?_⟩
      have g3 := Grow.new (T := m.T) (o := .lst [.ref T]) hu
      have gA := (g1.trans g2).trans g3
      refine q u [.ref T] _ gA (g1.keep _ (g2.keep _ hu)) upd_same (.cons (.tup (SqT.of (g3.extN _ _ upd_same (fun _ z => by cases z))) (.cons (.tup (GrowX.seqT gA hp) (da_ints js)) (.cons (da_parts (Grow.da gA d)) .nil))) .nil)
  · have hnp : t.isPart = false := by simpa using h0
    refine b_nil (b_cons ?_)
    walk_at "V"
    refine ⟨by walk_at "S", fun D1 hD1 => ?_⟩
    obtain ⟨L, rfl⟩ : ∃ L, L + 1 = M := ⟨M - 1, by have := Tm.kids_dep hnp; omega⟩
    have g2 := Grow.new (T := m.T) (o := .lst []) hD1
    have hDn : New H D1 := g1.keep _ hD1
    have hd1 : (upd H1 D1 (.lst [])) D1 = some (.lst []) := upd_same
    generalize upd H1 D1 (.lst []) = H2 at g2 hd1 ⊢
    obtain ⟨a, l, hd0, xs, rfl, _, hs, _, _, _, hl, da, _⟩ := da_kids (Grow.da g1 d) hnp
    obtain ⟨kne, klen, kwf⟩ := Tm.kids_wf hw hnp
    have kdep := Tm.kids_dep hnp
    have kcnt := Tm.kids_cnt hnp
    have hxl : xs.length = t.kids.length := by rw [da.length, Tm.pys_length]
    walk_at "B"
    refine s_forEn hA (pg_tup hA.calm (pgs_cons (pg_nl hA n3) (pgs_cons (pg_nl hA n4) pgs_nil (by with_unfolding_all rfl)) (by with_unfolding_all rfl)) (by with_unfolding_all rfl) (by with_unfolding_all rfl)) hen rfl ?_
    walk_at "V"
    refine g_ixT hA (GrowX.seqT g2 hs) (at_last _ _) ?_
    refine ⟨l, xs, rfl, GrowX.seqL g2 hl fun z => z, fun j σ H4 => (∃ s3 s4, σ = [some (.ref a), some (.ref p), some (.ref D1), s3, s4]) ∧ Grow m.T H1 H4 ∧ ∃ us, H4 D1 = some (.lst us) ∧ DaAll m.K NoA H4 us (Tm.ptls js 0 (t.kids.take j)), ?_, ?_, ?_, ?_⟩
    · exact ⟨⟨_, _, rfl⟩, g2, [], hd1, .nil⟩
    · rintro j σ H4 _ ⟨_, g14, _⟩
      exact GrowX.seqL g14 hl fun z => z
    · rintro j x T σ H4 hx ⟨⟨s3, s4, rfl⟩, g14, us, hu, du⟩ hT
      obtain ⟨pd, hpd, dx⟩ := da.getV hx
      rw [Tm.pys_map, List.getElem?_map] at hpd
      obtain ⟨tj, htj, rfl⟩ := Option.map_eq_some_iff.1 hpd
      have htm := List.mem_of_getElem? htj
      have hjl : j < t.kids.length := (List.getElem?_eq_some_iff.1 htj).1
      refine ⟨T, [.int j, x], rfl, by rw [hA.kk]; exact SqT.of upd_same, rfl, .int j, [x], rfl, x, [], rfl, rfl, ?_⟩
      have gT := Grow.new (T := m.T) (o := .tup [.int j, x]) hT
      have hu5 : (upd H4 T (.tup [.int j, x])) D1 = some (.lst us) := gT.extN _ _ hu (fun _ z => by cases z)
      have g15 := g14.trans gT
      generalize upd H4 T (.tup [.int j, x]) = H5 at gT hu5 g15 ⊢
      walk_at "B"
      refine s_expr (g_extend ?_)
      walk_at "V"
      refine ⟨tyL hu5, ?_⟩
      refine w_cons (w_call hA (ih L rfl) (by omega) rfl ?_)
      refine w_cons ?_
      walk_at "v"
      refine w_cons ?_
      walk_at "V"
      refine ⟨by walk_at "S", fun T2 hT2 => ?_⟩
      have gT2 := Grow.new (T := m.T) (o := .tup [.int j]) hT2
      have hp5 := GrowX.seqT (g1.trans (g15.trans gT2)) hp
      refine g_snocT hA (i := (j : Int)) hp5 (SqT.of upd_same) (by rw [sizeLine_eq]; omega) fun pa H6 g6 hpa => ?_
      have g56 := gT2.trans g6
      have dN : Da m.K Any H6 x tj.py := Grow.da (g15.trans g56) dx
      refine w_nil ?_
      refine ⟨x, pa, tj, js ++ [(j : Int)], rfl, dN, by have := Tm.dep_mem htm; omega, Tm.wfs_iff.1 kwf tj htm, ?_, hpa, by rw [List.length_append, List.length_singleton]; omega, fun u ws H7 g7 nu hu7 dw => ?_⟩
      · have z : tj.cnt ≤ Tm.cnts t.kids := by
          have e : t.kids = t.kids.take j ++ tj :: t.kids.drop (j + 1) := by
            have q1 := List.take_append_drop j t.kids
            rw [List.drop_eq_getElem_cons hjl] at q1
            have q2 : t.kids[j] = tj := by rw [List.getElem?_eq_getElem hjl] at htj; exact Option.some.inj htj
            rw [q2] at q1
            exact q1.symm
          rw [e, Tm.cnts_append]
          show tj.cnt ≤ _ + (tj.cnt + _)
          omega
        omega
      · have g57 := g56.trans g7
        have huD : H7 D1 = some (.lst us) := Grow.extN g57 _ _ hu5 (fun _ z => by cases z)
        refine w_nil ⟨D1, u, us, ws, rfl, rfl, huD, hu7, ?_, ?_⟩
        · have l1 := du.length
          have l2 := dw.length
          rw [Tm.ptl_len] at l2
          rw [Tm.ptls_len] at l1
          have z1 : Tm.cnts (t.kids.take j) ≤ Tm.cnts t.kids := by
            have q1 := List.take_append_drop j t.kids
            rw [← q1, Tm.cnts_append, List.take_append_drop]
            omega
          rw [sizeLine_eq]
          have z2 : tj.cnt ≤ 1000 := by
            have e : t.kids = t.kids.take j ++ tj :: t.kids.drop (j + 1) := by
              have q1 := List.take_append_drop j t.kids
              rw [List.drop_eq_getElem_cons hjl] at q1
              have q2 : t.kids[j] = tj := by rw [List.getElem?_eq_getElem hjl] at htj; exact Option.some.inj htj
              rw [q2] at q1
              exact q1.symm
            have : Tm.cnts t.kids = Tm.cnts (t.kids.take j) + (tj.cnt + Tm.cnts (t.kids.drop (j + 1))) := by
              conv => lhs; rw [e, Tm.cnts_append]
              rfl
            omega
          omega
        · have gX := GrowX.lst (T := m.T) (ys := us ++ ws) huD
          refine b_nil ⟨⟨_, _, rfl⟩, Grow.intoNew ((g14.trans gT).trans g57) gX (fun c z => by rw [z]; exact hD1), us ++ ws, upd_same, ?_⟩
          have e : Tm.ptls js 0 (t.kids.take (j + 1)) = Tm.ptls js 0 (t.kids.take j) ++ tj.ptl (js ++ [(j : Int)]) := by
            rw [List.take_add_one, htj, Option.toList, Tm.ptls_append, List.length_take, Nat.min_eq_left (by omega)]
            simp [Tm.ptls]
          rw [e]
          exact GrowX.daAll gX (.append (Grow.daAll (gT.trans g57) du) dw) fun _ z => z.elim
    · rintro σ H4 ⟨⟨s3, s4, rfl⟩, g14, us, hu, du⟩
      rw [hxl, List.take_length] at du
      walk_at "B"
      walk_at "V"
      rw [Tm.ptl_kids js hnp] at q
      exact q D1 us H4 (g1.trans g14) hDn hu du
theorem c_parts_at {m : Md} {f : Addr} {fd : FuncData} (F : C8.Def m.K m.mg "parts_at" st_parts_at f fd) (b : L2.Binds m.K fd ps_parts_at []) (hen : m.mg "enumerate" = none) (P : Cal m 1 "is_part" (sp_is_part m)) : ∀ M, Cal m (M + 2) "parts_at" (sp_parts_at m M) := by
  intro M
  induction M with
  | zero => exact parts_step F b hen P 0 fun L e => by omega
  | succ M ih =>
    refine parts_step F b hen P (M + 1) fun L e => ?_
    obtain rfl : L = M := by omega
    exact ih
/-- the class of errors in what follows is not reached -/
def sp_need_rule (m : Md) (C : Addr) : Sp := fun vs H Q _ => ∃ (i : Addr) (t : Tm), vs = [.ref i] ∧ RuleAt m C Any H i t ∧ Q .non H
theorem c_need_rule {m : Md} {C f : Addr} {fd : FuncData} (R : RuleC m C) (F : C8.Def m.K m.mg "need_rule" st_need_rule f fd) (b : L2.Binds m.K fd ps_need_rule []) (hi : m.mg "isinstance" = none) : Cal m 1 "need_rule" (sp_need_rule m C) := by
  refine cal_of F b sc_need_rule (fun vs H Q E h => by obtain ⟨_, _, rfl, _⟩ := h; rfl) fun X vs H Q E hA h => ?_
  obtain ⟨i, t, rfl, ⟨dx, u, hi1, d⟩, k⟩ := h
  have n0 := nv_need_rule
  walk_at "B"
  walk_at "V"
  refine g_blt hA hi rfl bt_isinstance ?_
  walk_at "V"
  refine w_glb (v := .ref C) hA R.gR rfl rfl ?_
  walk_at "V"
  refine g_isi hA (.own C) (.base (.ins hi1 R.cl R.ha R.hn R.ht R.hm)) R.own ?_
  walk_at "V"
  exact iteF (b_nil (b_nil k))
/-- parts(rule) -/
def sp_parts (m : Md) (C : Addr) (M : Nat) : Sp := fun vs H Q _ => ∃ (i : Addr) (t : Tm), vs = [.ref i] ∧ RuleAt m C Any H i t ∧ Tabs m.T H ∧ t.dep ≤ M ∧ t.wf ∧ t.cnt ≤ 1000 ∧
  ∀ u us H', Grow m.T H H' → New H u → H' u = some (.lst us) → DaAll m.K NoA H' us (t.ptl []) → Q (.ref u) H'
theorem c_parts {m : Md} {C f : Addr} {fd : FuncData} (F : C8.Def m.K m.mg "parts" st_parts f fd) (b : L2.Binds m.K fd ps_parts []) (M : Nat) (hM : M ≤ 900) (Nr : Cal m 1 "need_rule" (sp_need_rule m C)) (Pa : Cal m (M + 2) "parts_at" (sp_parts_at m M)) (Te : MetX m C8.CX0 (M + 4) C "term" (sp_rterm m C M) []) : Cal m (M + 5) "parts" (sp_parts m C M) := by
  refine cal_of F b sc_parts (fun vs H Q E h => by obtain ⟨_, _, rfl, _⟩ := h; rfl) fun X vs H Q E hA h => ?_
  obtain ⟨i, t, rfl, r, hT, hdp, hw, hc, q⟩ := h
  have n0 := nv_parts
  walk_at "B"
  walk_at "V"
  refine w_call hA Nr (by omega) rfl ?_
  walk_at "V"
  refine ⟨i, t, rfl, r, ?_⟩
  walk_at "B"
  walk_at "V"
  refine w_call hA Pa (by omega) rfl ?_
  refine w_cons (w_met0 (E := C8.E0) hA Te (by omega) C8.pass0 ?_)
  walk_at "V"
  obtain ⟨dx, u0, hi, du⟩ := r
  refine ⟨i, dx, _, rfl, hi, rfl, ?_⟩
  refine ⟨i, t, rfl, ⟨dx, u0, hi, du⟩, hT, hdp, hw, fun u H1 g1 fr => ?_⟩
  walk_at "V"
  refine ⟨by walk_at "S", fun p hp => ?_⟩
  walk_at "V"
  have g2 := Grow.new (T := m.T) (o := .tup []) hp
  refine ⟨u, p, t, [], rfl, Grow.da g2 (fr.da.sub fun _ _ => trivial), hdp, hw, hc, SqT.of upd_same, by show 0 + M ≤ 1000; omega, fun w us H2 g3 nw hu d => ?_⟩
  exact q w us H2 ((GrowX.trans g1 g2).trans g3) (GrowX.new (GrowX.trans g1 g2) nw) hu d
/-- a list of texts: different ones, in order, the members told -/
def NmS (ys zs : List Str) : Prop := ys.Nodup ∧ sortedS ys = true ∧ ∀ z, z ∈ ys ↔ z ∈ zs
theorem NmS.same {ys ws zs : List Str} (a : NmS ys zs) (b : NmS ws zs) : ys = ws := sorted_same (perm_nodup a.1 b.1 fun z => (a.2.2 z).trans (b.2.2 z).symm) a.2.1 b.2.1
namespace Tm
mutual
theorem ptl_prt : ∀ (t : Tm) (js : List Int) (i : Nat) (d : PyData), (ptl js t)[i]? = some d → ∃ pa n z w, d = .tuple [pa, (Tm.part n z w).py] ∧ (prt t)[i]? = some (n, z, w)
  | .part n z w, js, 0, d, h => by
    have e : PyData.tuple [.tuple (js.map PyData.int), (Tm.part n z w).py] = d := Option.some.inj h
    exact ⟨_, n, z, w, e.symm, rfl⟩
  | .part n z w, js, i + 1, d, h => by simp [ptl] at h
  | .all f ts, js, i, d, h => ptls_prt ts js 0 i d h
  | .rank r ts, js, i, d, h => ptls_prt ts js 0 i d h
theorem ptls_prt : ∀ (ts : List Tm) (js : List Int) (o i : Nat) (d : PyData), (ptls js o ts)[i]? = some d → ∃ pa n z w, d = .tuple [pa, (Tm.part n z w).py] ∧ (prts ts)[i]? = some (n, z, w)
  | [], _, _, _, _, h => by simp [ptls] at h
  | t :: ts, js, o, i, d, h => by
    rw [ptls] at h
    rw [prts]
    have l1 : (ptl (js ++ [(o : Int)]) t).length = (prt t).length := by rw [ptl_len, prt_len]
    by_cases c : i < (prt t).length
    · rw [List.getElem?_append_left (by rw [l1]; exact c)] at h
      obtain ⟨pa, n, z, w, e, q⟩ := ptl_prt t _ i d h
      exact ⟨pa, n, z, w, e, by rw [List.getElem?_append_left c]; exact q⟩
    · rw [List.getElem?_append_right (by rw [l1]; omega), l1] at h
      obtain ⟨pa, n, z, w, e, q⟩ := ptls_prt ts js (o + 1) _ d h
      exact ⟨pa, n, z, w, e, by rw [List.getElem?_append_right (by omega)]; exact q⟩
end
/-- the tuple of a part -/
abbrev pyp (p : Bool × Str × Int) : PyData := (Tm.part p.1 p.2.1 p.2.2).py
end Tm
def sp_named (m : Md) (C : Addr) (M : Nat) : Sp := fun vs H Q _ => ∃ (i : Addr) (t : Tm), vs = [.ref i] ∧ RuleAt m C Any H i t ∧ Tabs m.T H ∧ t.dep ≤ M ∧ t.wf ∧ t.cnt ≤ 900 ∧
  ∀ p l1 l2 ys zs H', Grow m.T H H' → SqT m.K H' p [.ref l1, .ref l2] → New H l1 → New H l2 → l1 ≠ l2 → H' l1 = some (.lst (ys.map V.str)) → H' l2 = some (.lst (zs.map V.str)) → NmS ys (t.nam false) → NmS zs (t.nam true) → Q (.ref p) H'
theorem nam_take {b : Bool} {L : List (Bool × Str × Int)} {j : Nat} {p : Bool × Str × Int} (h : L[j]? = some p) : ((L.take (j + 1)).filter (fun p => p.1 == b)).map (·.2.1) = ((L.take j).filter (fun p => p.1 == b)).map (·.2.1) ++ if p.1 == b then [p.2.1] else [] := by
  rw [List.take_add_one, h, Option.toList, List.filter_append, List.map_append]
  by_cases c : (p.1 == b) = true
  · rw [if_pos c]
    simp [List.filter, c]
  · rw [if_neg c]
    simp [List.filter, c]
/-- [part[1] for part in found if part[0] == word], then set, then sorted -/
theorem c_named {m : Md} {C f : Addr} {fd : FuncData} (F : C8.Def m.K m.mg "named" st_named f fd) (b : L2.Binds m.K fd ps_named []) (hset : m.mg "set" = none) (hsr : m.mg "sorted" = none) (M : Nat) (Nr : Cal m 1 "need_rule" (sp_need_rule m C)) (Pa : Cal m (M + 5) "parts" (sp_parts m C M)) : Cal m (M + 6) "named" (sp_named m C M) := by
  refine cal_of F b sc_named (fun vs H Q E h => by obtain ⟨_, _, rfl, _⟩ := h; rfl) fun X vs H Q E hA h => ?_
  obtain ⟨i, t, rfl, r, hT, hdp, hw, hc, q⟩ := h
  obtain ⟨n0, n1, n2, n3⟩ := nv_named
  walk_at "B"
  walk_at "V"
  refine w_call hA Nr (by omega) rfl ?_
  walk_at "V"
  refine ⟨i, t, rfl, r, ?_⟩
  walk_at "B"
  have hpl := Tm.prt_len t
  refine s_lcP hA n1 (by decide +kernel) (i := 4) (j := 5) ⟨rfl, rfl⟩ ⟨rfl, rfl⟩ ?_
  refine w_call hA Pa (by omega) rfl ?_
  walk_at "V"
  refine ⟨i, t, rfl, r, hT, hdp, hw, by omega, fun u us H1 g1 nu hu du => ?_⟩
  have hul : us.length = (Tm.prt t).length := by rw [du.length, Tm.ptl_len, hpl]
  refine ⟨u, us, rfl, SqL.of hu, fun D1 hD1 => ⟨fun j H4 => Grow m.T H1 H4 ∧ ∃ ws, H4 D1 = some (.lst ws) ∧ DaAll m.K NoA H4 ws (((Tm.prt t).take j).map Tm.pyp), ?_, ?_, ?_, ?_⟩⟩
  · exact ⟨Grow.new hD1, [], upd_same, .nil⟩
  · rintro j H4 _ ⟨g4, _⟩
    exact SqL.of (Grow.extN g4 _ _ hu (fun _ z => by cases z))
  · rintro j z H4 hz ⟨g4, ws, hws, dws⟩
    obtain ⟨d, hd, dz⟩ := du.getV hz
    obtain ⟨pa, n, nm, w, rfl, hp⟩ := Tm.ptl_prt t [] j d hd
    obtain ⟨pp, xs, rfl, hs, dxs⟩ := da_tup dz
    cases dxs with | @cons x0 _ _ _ p0 dxs => cases dxs with | @cons x1 _ _ _ p1 dxs =>
    cases dxs
    have hjl := (List.getElem?_eq_some_iff.1 hp).1
    refine ⟨pp, x0, x1, rfl, GrowX.seqT g4 hs, fun X' hX' => ?_⟩
    have c5 := nl_of hX' 5 "part"
    walk_at "V"
    have l1 := dws.length
    rw [List.length_map, List.length_take] at l1
    refine ⟨ws, hws, by rw [sizeLine_eq]; omega, Grow.intoNew g4 (GrowX.lst hws) (fun c z => by rw [z]; exact hD1), ws ++ [x1], upd_same, ?_⟩
    rw [List.take_add_one, hp, Option.toList, List.map_append]
    exact GrowX.daAll (GrowX.lst (T := m.T) hws) (dws.append (.cons (Grow.da g4 p1) .nil)) fun _ z => z.elim
  · rintro H2 ⟨g2, ws, hws, dws⟩
    rw [hul, List.take_length] at dws
    have g12 := GrowX.trans g1 g2
    have nD1 : New H D1 := g1.keep _ hD1
    have lws : ws.length = (Tm.prt t).length := by rw [dws.length, List.length_map]
    -- the names of a kind, as a list
    have one : ∀ (bb : Bool) (H3 : Hp), Grow m.T H2 H3 → ∀ D, H3 D = none → ∃ Pv : Nat → Hp → Prop, Pv 0 (upd H3 D (.lst [])) ∧ (∀ j H, j ≤ ws.length → Pv j H → SqL m.K H D1 ws) ∧
          (∀ j x H4, ws[j]? = some x → Pv j H4 → ∃ (aa : Addr) (n : Bool) (z : Str) (w : Int), x = .ref aa ∧ SqT m.K H4 aa [.str (if n then "now" else "of"), .str z, .int w] ∧ (if n = bb then App D (Pv (j + 1)) (.str z) H4 else Pv (j + 1) H4)) ∧
          ∀ H4, Pv ws.length H4 → Grow m.T H3 H4 ∧ H4 D = some (.lst ((t.nam bb).map V.str)) := by
      intro bb H3 g3 D hD
      refine ⟨fun j H4 => Grow m.T H3 H4 ∧ H4 D = some (.lst (((((Tm.prt t).take j).filter (fun p => p.1 == bb)).map (·.2.1)).map V.str)), ⟨Grow.new hD, upd_same⟩, ?_, ?_, ?_⟩
      · rintro j H4 _ ⟨g4, _⟩
        exact SqL.of (Grow.extN (GrowX.trans g3 g4) _ _ hws (fun _ z => by cases z))
      · rintro j x H4 hx ⟨g4, hv⟩
        obtain ⟨d, hd, dx⟩ := dws.getV hx
        rw [List.getElem?_map] at hd
        obtain ⟨⟨n, z, w⟩, hp, rfl⟩ := Option.map_eq_some_iff.1 hd
        obtain ⟨aa, rfl, hs⟩ := da_part dx
        have hjl := (List.getElem?_eq_some_iff.1 hp).1
        refine ⟨aa, n, z, w, rfl, GrowX.seqT (GrowX.trans g3 g4) hs, ?_⟩
        have e := nam_take (b := bb) hp
        by_cases c : n = bb
        · rw [if_pos c]
          refine ⟨_, hv, ?_, Grow.intoNew g4 (GrowX.lst hv) (fun c z => by rw [z]; exact hD), ?_⟩
          · rw [List.length_map, List.length_map]
            have := List.length_filter_le (fun p => p.1 == bb) ((Tm.prt t).take j)
            rw [List.length_take] at this
            rw [sizeLine_eq]
            omega
          · rw [upd_same, e, if_pos (by simpa using c), List.map_append]
            rfl
        · rw [if_neg c]
          refine ⟨g4, ?_⟩
          rw [e, if_neg (by simpa using c), List.append_nil]
          exact hv
      · rintro H4 ⟨g4, hv⟩
        rw [lws, List.take_length] at hv
        exact ⟨g4, hv⟩
    have nlen : ∀ bb, (t.nam bb).length < 4000 := fun bb => by
      unfold Tm.nam
      rw [List.length_map]
      have := List.length_filter_le (fun p => p.1 == bb) (Tm.prt t)
      omega
    have hwd : ∀ n : Bool, ((if n = true then ("now" : Str) else "of") = "of") ↔ n = false := by decide +kernel
    have hwn : ∀ n : Bool, ((if n = true then ("now" : Str) else "of") = "now") ↔ n = true := by decide +kernel
    walk_at "B"
    walk_at "V"
    refine g_blt hA hsr rfl bt_sorted ?_
    refine w_cons (g_typ hA hset rfl bt_set ?_)
    refine w_cons (w_lcLi hA (by decide +kernel) (i := 5) ⟨rfl, rfl⟩ ?_)
    walk_at "V"
    refine ⟨D1, ws, rfl, SqL.of hws, fun D hD => ?_⟩
    obtain ⟨Pv, p0, pl, pt, pe⟩ := one false H2 GrowX.refl D hD
    refine ⟨Pv, p0, pl, ?_, fun H3 hp3 => ?_⟩
    · intro j x H4 hx hp X' hX'
      obtain ⟨aa, n, z, w, rfl, hs, fin⟩ := pt j x H4 hx hp
      have c5 := nl_of hX' 5 "part"
      walk_at "V"
      refine g_ixT hX' hs (atI_at (j := 0) rfl) ?_
      walk_at "V"
      refine ite2 (fun hc => ?_) fun hc => ?_
      · rw [decide_eq_true_eq, hwd] at hc
        rw [if_pos hc] at fin
        intro X2 hX2
        have c5 := nl_of hX2 5 "part"
        walk_at "V"
        refine g_ixT hX2 hs (atI_at (j := 1) rfl) ?_
        exact fin
      · rw [decide_eq_true_eq, hwd] at hc
        rw [if_neg hc] at fin
        exact fin
    obtain ⟨g3, hv3⟩ := pe H3 hp3
    walk_at "V"
    refine g_setX hA (SqL.of hv3) (nlen false) fun a l ha nd ml ll => ?_
    walk_at "V"
    refine g_sortedX hA upd_same (by have := nlen false; omega) fun ys l1 pm so hl1 => ?_
    have gA := (GrowX.trans g3 (Grow.new (T := m.T) (o := SetH m.P m.w a l) ha)).trans (Grow.new (T := m.T) (o := .lst (ys.map V.str)) hl1)
    have nl1 : New H2 l1 := g3.keep _ ((Grow.new (T := m.T) (o := SetH m.P m.w a l) ha).keep _ hl1)
    have nm1 : NmS ys (t.nam false) := ⟨pm.nodup_iff.mpr nd, so, fun z => (pm.mem_iff).trans (ml z)⟩
    have h1 : (upd (upd H3 a (SetH m.P m.w a l)) l1 (.lst (ys.map V.str))) l1 = some (.lst (ys.map V.str)) := upd_same
    generalize upd (upd H3 a (SetH m.P m.w a l)) l1 (.lst (ys.map V.str)) = H5 at gA h1 ⊢
    walk_at "B"
    walk_at "V"
    refine g_blt hA hsr rfl bt_sorted ?_
    refine w_cons (g_typ hA hset rfl bt_set ?_)
    refine w_cons (w_lcLi hA (by decide +kernel) (i := 5) ⟨rfl, rfl⟩ ?_)
    walk_at "V"
    refine ⟨D1, ws, rfl, SqL.of (Grow.extN gA _ _ hws (fun _ z => by cases z)), fun D hD => ?_⟩
    obtain ⟨Pv, p0, pl, pt, pe⟩ := one true H5 gA D hD
    refine ⟨Pv, p0, pl, ?_, fun H6 hp6 => ?_⟩
    · intro j x H4 hx hp X' hX'
      obtain ⟨aa, n, z, w, rfl, hs, fin⟩ := pt j x H4 hx hp
      have c5 := nl_of hX' 5 "part"
      walk_at "V"
      refine g_ixT hX' hs (atI_at (j := 0) rfl) ?_
      walk_at "V"
      refine ite2 (fun hc => ?_) fun hc => ?_
      · rw [decide_eq_true_eq, hwn] at hc
        rw [if_pos hc] at fin
        intro X2 hX2
        have c5 := nl_of hX2 5 "part"
        walk_at "V"
        refine g_ixT hX2 hs (atI_at (j := 1) rfl) ?_
        exact fin
      · rw [decide_eq_true_eq, hwn] at hc
        rw [if_neg hc] at fin
        exact fin
    obtain ⟨g6, hv6⟩ := pe H6 hp6
    walk_at "V"
    refine g_setX hA (SqL.of hv6) (nlen true) fun a2 k2 ha2 nd2 ml2 ll2 => ?_
    walk_at "V"
    refine g_sortedX hA upd_same (by have := nlen true; omega) fun zs l2 pm2 so2 hl2 => ?_
    have gB := (GrowX.trans g6 (Grow.new (T := m.T) (o := SetH m.P m.w a2 k2) ha2)).trans (Grow.new (T := m.T) (o := .lst (zs.map V.str)) hl2)
    have nl2 : New H5 l2 := g6.keep _ ((Grow.new (T := m.T) (o := SetH m.P m.w a2 k2) ha2).keep _ hl2)
    have nm2 : NmS zs (t.nam true) := ⟨pm2.nodup_iff.mpr nd2, so2, fun z => (pm2.mem_iff).trans (ml2 z)⟩
    have h2 : (upd (upd H6 a2 (SetH m.P m.w a2 k2)) l2 (.lst (zs.map V.str))) l2 = some (.lst (zs.map V.str)) := upd_same
    generalize upd (upd H6 a2 (SetH m.P m.w a2 k2)) l2 (.lst (zs.map V.str)) = H7 at gB h2 ⊢
    walk_at "B"
    walk_at "V"
    refine ⟨by walk_at "S", fun p hp => ?_⟩
    have gP := Grow.new (T := m.T) (o := .tup [.ref l1, .ref l2]) hp
    have g27 := GrowX.trans g12 (GrowX.trans (GrowX.trans gA gB) gP)
    have hne : l1 ≠ l2 := fun z => by rw [z] at h1; rw [show H5 l2 = none from nl2] at h1; cases h1
    refine q p l1 l2 ys zs _ g27 (SqT.of upd_same) (g12.keep _ nl1) (g12.keep _ (gA.keep _ nl2)) hne ?_ ?_ nm1 nm2
    · exact Grow.extN (GrowX.trans gB gP) _ _ h1 (fun _ z => by cases z)
    · exact Grow.extN gP _ _ h2 (fun _ z => by cases z)
structure HK (H : Hp) (v : V) (kz : List (Str × Int)) : Prop where
  at_ : DKat H v kz
  nm : ∀ p ∈ kz, IsName p.1
  len : kz.length < 1000
theorem HK.grow {T : List (Addr × Str)} {H H' : Hp} {v : V} {kz : List (Str × Int)} (g : Grow T H H') (h : HK H v kz) : HK H' v kz := ⟨h.at_.grow g, h.nm, h.len⟩
/-- hours that are handed: a dict that has the names, or none where none are asked -/
def HKor (H : Hp) (v : V) (kz : List (Str × Int)) (zs : List Str) : Prop := (v = .non ∧ zs = []) ∨ (HK H v kz ∧ ∀ z ∈ zs, (kz.lookup z).isSome = true)
theorem HKor.grow {T : List (Addr × Str)} {H H' : Hp} {v : V} {kz : List (Str × Int)} {zs : List Str} (g : Grow T H H') (h : HKor H v kz zs) : HKor H' v kz zs := h.imp id fun z => ⟨z.1.grow g, z.2⟩
theorem HKor.dk {H : Hp} {v : V} {kz : List (Str × Int)} {zs : List Str} (h : HKor H v kz zs) : DKor H v kz zs := h.imp id fun z => ⟨z.1.at_, z.2⟩
def sp_told (m : Md) (C : Addr) (M : Nat) : Sp := fun vs H Q _ => ∃ (i : Addr) (t : Tm) (hd nd : V) (kh kn : List (Str × Int)), vs = [.ref i, hd, nd] ∧ RuleAt m C Any H i t ∧ Tabs m.T H ∧ t.dep ≤ M ∧ t.wf ∧ t.cnt ≤ 900 ∧
  HK H hd kh ∧ (∀ z ∈ t.nam false, (kh.lookup z).isSome = true) ∧ HKor H nd kn (t.nam true) ∧ ∀ H', Grow m.T H H' → Q (.int (t.tell (hrs kh) (hrs kn))) H'
theorem nam_len (b : Bool) (t : Tm) : (t.nam b).length ≤ t.cnt := by
  unfold Tm.nam
  rw [List.length_map]
  have := List.length_filter_le (fun p => p.1 == b) (Tm.prt t)
  rw [Tm.prt_len] at this
  exact this
theorem nms_len {ys zs : List Str} (h : NmS ys zs) : ys.length ≤ zs.length := by
  have : ∀ (l r : List Str), l.Nodup → (∀ y ∈ l, y ∈ r) → l.length ≤ r.length := by
    intro l
    induction l with
    | nil => intro r _ _; exact Nat.zero_le _
    | cons y l ih =>
      intro r n s
      obtain ⟨n1, n2⟩ := List.nodup_cons.mp n
      have hy := s y List.mem_cons_self
      have e := List.length_erase_of_mem hy
      have hp : 0 < r.length := List.length_pos_of_mem hy
      have := ih (r.erase y) n2 fun z hz => (List.mem_erase_of_ne fun (q : z = y) => n1 (by rw [← q]; exact hz)).2 (s z (List.mem_cons_of_mem _ hz))
      rw [List.length_cons]
      omega
  exact this ys zs h.1 fun y hy => (h.2.2 y).1 hy
theorem c_told {m : Md} {C f : Addr} {fd : FuncData} {ds : List Value} (F : C8.Def m.K m.mg "told" st_told f fd) (M : Nat) (Nr : Cal m 1 "need_rule" (sp_need_rule m C)) (Na : Cal m (M + 6) "named" (sp_named m C M)) (Nh : Cal m 3 "need_hours" (sp_need_hours m)) (Ih : Cal m 2 "is_hours" (sp_is_hours m)) (Tb : Cal m (M + 2) "told_by" (sp_tell m M)) (Te : MetX m C8.CX0 (M + 4) C "term" (sp_rterm m C M) []) :
    FnG m C8.CX0 (M + 8) f fd ps_told (sp_told m C M) := by
  refine fnG_of F.fn sc_told (fun vs H Q E h => by obtain ⟨_, _, _, _, _, _, rfl, _⟩ := h; rfl) fun X vs H Q E hA hM h => ?_
  obtain ⟨i, t, hd, nd, kh, kn, rfl, r, hT, hdp, hw, hc, hk, ha, ho, q⟩ := h
  obtain ⟨n0, n1, n2, n3, n4⟩ := nv_told
  have nz : ∀ {b ys}, NmS ys (t.nam b) → ys.length < 1000 := fun {b ys} h => by have := nms_len h; have := nam_len b t; omega
  walk_at "B"
  walk_at "V"
  refine w_call hA Nr (by omega) rfl ?_
  walk_at "V"
  refine ⟨i, t, rfl, r, ?_⟩
  walk_at "B"
  refine s_two hA (pg_nl hA n3) (pg_nl hA n4) ?_
  refine w_call hA Na (by omega) rfl ?_
  walk_at "V"
  refine ⟨i, t, rfl, r, hT, hdp, hw, hc, fun p l1 l2 ys zs H1 g1 hp nl1 nl2 hne h1 h2 m1 m2 => ?_⟩
  refine ⟨p, .ref l1, .ref l2, rfl, hp, ?_⟩
  walk_at "B"
  walk_at "V"
  refine w_call hA Nh (by omega) rfl ?_
  walk_at "V"
  have hk1 := hk.grow g1
  obtain ⟨d, rfl, hd1⟩ := hk1.at_
  refine ⟨d, l1, ys, kh, rfl, SqL.of h1, nz m1, hd1, hk.nm, hk.len, List.all_eq_true.mpr fun z hz => ha z ((m1.2.2 z).1 hz), fun H2 g2 => ?_⟩
  have h22 := Grow.extN g2 _ _ h2 (fun _ z => by cases z)
  have g12 := GrowX.trans g1 g2
  -- behind the if
  have last : ∀ H3, Grow m.T H2 H3 → wB X ((C8.fnBody st_told).drop 4) { nx := fun _ H' => Q .non H', rt := Q } [some (.ref i), some (.ref d), some nd, some (.ref l1), some (.ref l2)] H3 := by
    intro H3 g3
    have g13 := GrowX.trans g12 g3
    walk_at "B"
    walk_at "V"
    refine w_call hA Tb (by omega) rfl ?_
    refine w_cons (w_met0 (E := C8.E0) hA Te (by omega) C8.pass0 ?_)
    walk_at "V"
    obtain ⟨dx, u0, hi, du⟩ := r
    refine ⟨i, dx, _, rfl, Grow.extN g13 _ _ hi (fun _ z => by cases z), rfl, i, t, rfl, ⟨dx, u0, Grow.extN g13 _ _ hi (fun _ z => by cases z), Grow.da g13 du⟩, g13.tab hT, hdp, hw, fun u H4 g4 fr => ?_⟩
    walk_at "V"
    have g14 := GrowX.trans g13 g4
    refine ⟨u, .ref d, nd, t, kh, kn, rfl, fr.da.sub fun _ _ => trivial, hdp, hw, .inr ⟨(hk.grow g14).at_, ha⟩, (ho.grow g14).dk, fun H5 g5 => q H5 (GrowX.trans g14 g5)⟩
  walk_at "B"
  walk_at "V"
  refine w_call hA Ih (by omega) rfl ?_
  walk_at "V"
  have ho2 := ho.grow g12
  refine ⟨nd, l2, zs, rfl, SqL.of h22, nz m2, ?_⟩
  rcases ho2 with ⟨rfl, e⟩ | ⟨hk2, al⟩
  · have ez : zs = [] := by
      cases zs with
      | nil => rfl
      | cons z zs => have := (m2.2.2 z).1 List.mem_cons_self; rw [e] at this; cases this
    subst ez
    refine .inl ⟨rfl, fun H3 g3 => ?_⟩
    walk_at "V"
    refine iteT ?_
    walk_at "V"
    refine ⟨false, .inl ⟨[], by rw [hA.kk]; exact SqL.of (Grow.extN g3 _ _ h22 (fun _ z => by cases z)), rfl⟩, ?_⟩
    walk_at "V"
    refine iteF ?_
    walk_at "V"
    refine iteF (b_nil ?_)
    exact last H3 g3
  · obtain ⟨dn, rfl, hdn⟩ := hk2.at_
    refine .inr ⟨dn, kn, rfl, hdn, hk2.nm, hk2.len, fun H3 g3 => ?_⟩
    rw [List.all_eq_true.mpr fun z hz => al z ((m2.2.2 z).1 hz)]
    walk_at "V"
    refine iteF ?_
    walk_at "V"
    refine iteF (b_nil ?_)
    exact last H3 g3
/-- pairs by their texts, as a dict has them -/
def keyed {α : Type} (f : α → V) (rs : List (Str × α)) : List (Key × V) := rs.map fun p => (Sum.inr p.1, f p.2)
theorem keyed_val {α : Type} (f : α → V) : ∀ (rs : List (Str × α)) (z : Str), valV (keyed f rs) (.inr z) = (rs.lookup z).map f
  | [], _ => rfl
  | p :: rs, z => by
    have ih := keyed_val f rs z
    obtain ⟨y, i⟩ := p
    by_cases c : y = z
    · subst c
      simp [keyed, valV, List.lookup]
    · have c1 : (z == y) = false := by simpa using fun e : z = y => c e.symm
      have c2 : (Sum.inr y : Key) ≠ .inr z := fun e => c (by injection e)
      have e : valV (keyed f ((y, i) :: rs)) (.inr z) = valV (keyed f rs) (.inr z) := by
        unfold valV keyed
        rw [List.map_cons, List.find?_cons_of_neg (by simpa using c2)]
      rw [e, ih, List.lookup_cons, c1]
theorem keyed_get {α : Type} {f : α → V} {rs : List (Str × α)} {t : Nat} {p : Key × V} (h : (keyed f rs)[t]? = some p) : ∃ z, rs[t]? = some z ∧ p = (Sum.inr z.1, f z.2) := by
  unfold keyed at h
  rw [List.getElem?_map] at h
  obtain ⟨z, hz, e⟩ := Option.map_eq_some_iff.1 h
  exact ⟨z, hz, e.symm⟩
theorem look_map {α β : Type} (f : α → β) : ∀ (rs : List (Str × α)) (z : Str), (rs.map fun p => (p.1, f p.2)).lookup z = (rs.lookup z).map f
  | [], _ => rfl
  | p :: rs, z => by
    have ih := look_map f rs z
    obtain ⟨y, i⟩ := p
    show List.lookup z ((y, f i) :: rs.map fun p => (p.1, f p.2)) = _
    rw [List.lookup_cons, List.lookup_cons]
    cases h : z == y
    · exact ih
    · rfl
theorem nf_of {m : Md} {N : List Str} {sc : Scope} {k : Nat} {X : Cx} (h : At m N sc k X) (i : Nat) (x : Str) (a : N[i]? = some x := by rfl) (b : sc.names.lookup x = some .free := by rfl) : NFr N sc i x := ⟨a, b⟩
/-- x, y, z = e where the tuple is made, then taken apart -/
theorem s_three {m : Md} {N : List Str} {sc : Scope} {k k1 i j l : Nat} {X : Cx} {e t1 t2 t3 : Expr} {σ : L2.St} {H : Hp} {p3 pos : Pos} {nx : L2.St → Hp → Prop} {rt : VK} {bk ct : L2.St → Hp → Prop} (h : At m N sc k X) (hg1 : PG X t1 (gName i)) (hg2 : PG X t2 (gName j)) (hg3 : PG X t3 (gName l)) (q : wE X e σ H fun v H1 => ∃ (p : Addr) (v1 v2 v3 : V), v = .ref p ∧ SqT m.K H1 p [v1, v2, v3] ∧ nx (((σ.set i (some v1)).set j (some v2)).set l (some v3)) H1)
    (hw : ∀ env : Env, swappedStores [.Tuple [t1, t2, t3] k1 p3] e { env with scope := sc } = pure none := by with_unfolding_all (intro _; rfl))
    (hs : swapsWithSole [.Tuple [t1, t2, t3] k1 p3] e pos.line X.env = pure false := by with_unfolding_all rfl)
    (hz : (assignEach [t1, t2, t3] X.env).map (·.2) = assign t1 X.env :: (assignEach [t2, t3] X.env).map (·.2) := by with_unfolding_all rfl) (hz2 : (assignEach [t2, t3] X.env).map (·.2) = assign t2 X.env :: (assignEach [t3] X.env).map (·.2) := by with_unfolding_all rfl) (hz3 : (assignEach [t3] X.env).map (·.2) = assign t3 X.env :: (assignEach [] X.env).map (·.2) := by with_unfolding_all rfl)
    (hn : (assignEach [t1, t2, t3] X.env).length = 3 := by with_unfolding_all rfl) (hst : (assignEach [t1, t2, t3] X.env).findIdx? (·.1) = none := by with_unfolding_all rfl)
    (ho : (assignEach [.Tuple [t1, t2, t3] k1 p3] X.env).map (·.2) = [assign (.Tuple [t1, t2, t3] k1 p3) X.env] := by with_unfolding_all rfl) : wS X (.Assign [.Tuple [t1, t2, t3] k1 p3] e pos) ⟨nx, rt, bk, ct⟩ σ H := by
  refine toS (ps_asg cE (pg_tup h.calm (pgs_cons hg1 (pgs_cons hg2 (pgs_cons hg3 pgs_nil hz3) hz2) hz) hn hst) hs (by have := hw X.env; rw [env_sc h.ss] at this; exact this) ho) ?_
  exact wE.mono q fun v H1 ⟨p, v1, v2, v3, ev, hp, q1⟩ => ⟨p, [v1, v2, v3], ev, by rw [h.kk]; exact hp, rfl, v1, [v2, v3], rfl, v2, [v3], rfl, v3, [], rfl, rfl, q1⟩
theorem two_val {a b : Str} (n : a ≠ b) (v w : V) : valV [((.inr a : Key), v), (.inr b, w)] (.inr a) = some v ∧ valV [((.inr a : Key), v), (.inr b, w)] (.inr b) = some w := by
  have n2 : (Sum.inr a : Key) ≠ .inr b := fun h => n (by injection h)
  constructor <;> simp [valV, List.find?, n2]
namespace Tm
/-- a part that waits so much more -/
def shP (c : Int) : Tm → Tm
  | .part n z w => .part n z (w + c)
  | .all f ts => .all f ts
  | .rank r ts => .rank r ts
def shift (c : Int) (t : Tm) : Tm := t.reb (shP c)
mutual
/-- read from the other end of time -/
def mir : Tm → Tm
  | .part n z w => .part n z (-w)
  | .all f ts => .all (!f) (mirs ts)
  | .rank r ts => .rank (ts.length + 1 - r) (mirs ts)
def mirs : List Tm → List Tm
  | [] => []
  | t :: ts => mir t :: mirs ts
end
/-- a part of the round before whose name has a rule -/
def putO (o : Option Tm) (z : Str) (w : Int) : Tm := match o with
  | some t => shift w t
  | none => .part false z w
def putP (R : List (Str × Tm)) : Tm → Tm
  | .part true z w => .part true z w
  | .part false z w => putO (R.lookup z) z w
  | .all f ts => .all f ts
  | .rank r ts => .rank r ts
def put (R : List (Str × Tm)) (t : Tm) : Tm := t.reb (putP R)
theorem mirs_map : ∀ ts, mirs ts = ts.map mir
  | [] => rfl
  | t :: ts => by rw [mirs, mirs_map ts]; rfl
theorem mirs_len (ts : List Tm) : (mirs ts).length = ts.length := by rw [mirs_map, List.length_map]
theorem rebs_len (g : Tm → Tm) (ts : List Tm) : (rebs g ts).length = ts.length := by rw [rebs_map, List.length_map]
section
variable {M : Nat} {g : Tm → Tm} (hg : ∀ n z w, IsName z → Gd M (g (.part n z w)))
include hg
mutual
theorem reb_wf : ∀ t, wf t → nms t → wf (reb g t) ∧ nms (reb g t) ∧ dep (reb g t) ≤ dep t + M
  | .part n z w, _, h => by
    have := hg n z w h
    exact ⟨this.wf, this.nms, by have := this.dep; show dep (g (.part n z w)) ≤ 0 + M; omega⟩
  | .all f ts, w, h => by
    obtain ⟨a, b, c⟩ := rebs_wf ts w.2.2 h
    refine ⟨⟨?_, by rw [rebs_len]; exact w.2.1, a⟩, b, by show deps (rebs g ts) + 1 ≤ deps ts + 1 + M; omega⟩
    intro e
    have := rebs_len g ts
    rw [e] at this
    exact w.1 (List.length_eq_zero_iff.1 this.symm)
  | .rank r ts, w, h => by
    obtain ⟨a, b, c⟩ := rebs_wf ts w.2.2.2.2 h
    refine ⟨⟨?_, by rw [rebs_len]; exact w.2.1, w.2.2.1, by rw [rebs_len]; exact w.2.2.2.1, a⟩, b, by show deps (rebs g ts) + 1 ≤ deps ts + 1 + M; omega⟩
    intro e
    have := rebs_len g ts
    rw [e] at this
    exact w.1 (List.length_eq_zero_iff.1 this.symm)
theorem rebs_wf : ∀ ts, wfs ts → nmss ts → wfs (rebs g ts) ∧ nmss (rebs g ts) ∧ deps (rebs g ts) ≤ deps ts + M
  | [], _, _ => ⟨trivial, trivial, Nat.zero_le _⟩
  | t :: ts, w, h => by
    obtain ⟨a, b, c⟩ := reb_wf t w.1 h.1
    obtain ⟨a', b', c'⟩ := rebs_wf ts w.2 h.2
    refine ⟨⟨a, a'⟩, ⟨b, b'⟩, ?_⟩
    show max (dep (reb g t)) (deps (rebs g ts)) ≤ max (dep t) (deps ts) + M
    omega
end
theorem Gd.reb {N : Nat} {t : Tm} (h : Gd N t) : Gd (N + M) (t.reb g) := by
  obtain ⟨a, b, c⟩ := reb_wf hg t h.wf h.nms
  exact ⟨a, b, by have := h.dep; omega⟩
end
theorem Gd.shift {N : Nat} {t : Tm} (h : Gd N t) (c : Int) : Gd N (t.shift c) := Gd.reb (M := 0) (g := shP c) (fun _ _ _ z => ⟨trivial, z, Nat.le_refl 0⟩) h
theorem lookup_mem {α : Type} {R : List (Str × α)} {z : Str} {t : α} (e : R.lookup z = some t) : (z, t) ∈ R := by
  induction R with
  | nil => cases e
  | cons p R ih =>
    obtain ⟨y, u⟩ := p
    rw [List.lookup_cons] at e
    cases c : z == y with
    | true =>
      rw [c] at e
      have h1 : u = t := Option.some.inj e
      have h2 : z = y := by simpa using c
      rw [← h1, h2]
      exact List.mem_cons_self
    | false =>
      rw [c] at e
      exact List.mem_cons_of_mem _ (ih e)
theorem Gd.putP {M : Nat} {R : List (Str × Tm)} (hR : ∀ p ∈ R, Gd M p.2) (n : Bool) (z : Str) (w : Int) (hz : IsName z) : Gd M (putP R (.part n z w)) := by
  cases n with
  | true => exact ⟨trivial, hz, Nat.zero_le _⟩
  | false =>
    show Gd M (putO (R.lookup z) z w)
    cases e : R.lookup z with
    | none => exact ⟨trivial, hz, Nat.zero_le _⟩
    | some t => exact (hR _ (lookup_mem e)).shift w
theorem Gd.put {N M : Nat} {R : List (Str × Tm)} {t : Tm} (h : Gd N t) (hR : ∀ p ∈ R, Gd M p.2) : Gd (N + M) (t.put R) := Gd.reb (fun n z w => Gd.putP hR n z w) h
mutual
theorem mir_wf : ∀ t, wf t → nms t → wf (mir t) ∧ nms (mir t) ∧ dep (mir t) = dep t
  | .part n z w, _, h => ⟨trivial, h, rfl⟩
  | .all f ts, w, h => by
    obtain ⟨a, b, c⟩ := mirs_wf ts w.2.2 h
    refine ⟨⟨?_, by rw [mirs_len]; exact w.2.1, a⟩, b, by show deps (mirs ts) + 1 = deps ts + 1; rw [c]⟩
    intro e
    have := mirs_len ts
    rw [e] at this
    exact w.1 (List.length_eq_zero_iff.1 this.symm)
  | .rank r ts, w, h => by
    obtain ⟨a, b, c⟩ := mirs_wf ts w.2.2.2.2 h
    have r1 := w.2.2.1
    have r2 := w.2.2.2.1
    refine ⟨⟨?_, by rw [mirs_len]; exact w.2.1, by omega, by rw [mirs_len]; omega, a⟩, b, by show deps (mirs ts) + 1 = deps ts + 1; rw [c]⟩
    intro e
    have := mirs_len ts
    rw [e] at this
    exact w.1 (List.length_eq_zero_iff.1 this.symm)
theorem mirs_wf : ∀ ts, wfs ts → nmss ts → wfs (mirs ts) ∧ nmss (mirs ts) ∧ deps (mirs ts) = deps ts
  | [], _, _ => ⟨trivial, trivial, rfl⟩
  | t :: ts, w, h => by
    obtain ⟨a, b, c⟩ := mir_wf t w.1 h.1
    obtain ⟨a', b', c'⟩ := mirs_wf ts w.2 h.2
    refine ⟨⟨a, a'⟩, ⟨b, b'⟩, ?_⟩
    show max (dep (mir t)) (deps (mirs ts)) = max (dep t) (deps ts)
    rw [c, c']
end
theorem Gd.mir {N : Nat} {t : Tm} (h : Gd N t) : Gd N t.mir := by
  obtain ⟨a, b, c⟩ := mir_wf t h.wf h.nms
  exact ⟨a, b, by have := h.dep; omega⟩
mutual
theorem mir_mir : ∀ t, mir (mir t) = t
  | .part n z w => by rw [mir, mir, Int.neg_neg]
  | .all f ts => by rw [mir, mir, mirs_mirs ts, Bool.not_not]
  | .rank r ts => by
    rw [mir, mir, mirs_mirs ts, mirs_len]
    have : (ts.length : Int) + 1 - (ts.length + 1 - r) = r := by omega
    rw [this]
theorem mirs_mirs : ∀ ts, mirs (mirs ts) = ts
  | [] => rfl
  | t :: ts => by rw [mirs, mirs, mir_mir t, mirs_mirs ts]
end
mutual
theorem reb_same {g : Tm → Tm} : ∀ t, (∀ p ∈ prt t, g (.part p.1 p.2.1 p.2.2) = .part p.1 p.2.1 p.2.2) → reb g t = t
  | .part n z w, h => h (n, z, w) (List.mem_singleton.2 rfl)
  | .all f ts, h => by rw [reb, rebs_same ts h]
  | .rank r ts, h => by rw [reb, rebs_same ts h]
theorem rebs_same {g : Tm → Tm} : ∀ ts, (∀ p ∈ prts ts, g (.part p.1 p.2.1 p.2.2) = .part p.1 p.2.1 p.2.2) → rebs g ts = ts
  | [], _ => rfl
  | t :: ts, h => by rw [rebs, reb_same t (fun p hp => h p (List.mem_append_left _ hp)), rebs_same ts (fun p hp => h p (List.mem_append_right _ hp))]
end
theorem shift_zero (t : Tm) : t.shift 0 = t := reb_same t fun p _ => by show Tm.part _ _ (p.2.2 + 0) = _; rw [Int.add_zero]
theorem put_other {R : List (Str × Tm)} {t : Tm} (h : ∀ z ∈ t.nam false, R.lookup z = none) : t.put R = t := reb_same t fun p hp => by
  obtain ⟨b, z, w⟩ := p
  cases b with
  | true => rfl
  | false =>
    show putO (R.lookup z) z w = _
    rw [h z (nam_mem.2 ⟨w, hp⟩)]
    rfl
mutual
theorem tell_shift {h n : Str → Int} (c : Int) : ∀ t, wf t → tell h n (reb (shP c) t) = tell h n t + c
  | .part b z w, _ => by show _ + (w + c) = _ + w + c; omega
  | .all f ts, w => by
    have ln : 0 < ts.length := List.length_pos_iff.2 w.1
    rw [reb, tell, tell, tells_shift c ts w.2.2, srt_add, rebs_len, getD_add]
    rw [srt_len, tells_len]
    cases f <;> simp <;> omega
  | .rank r ts, w => by
    have ln : 0 < ts.length := List.length_pos_iff.2 w.1
    rw [reb, tell, tell, tells_shift c ts w.2.2.2.2, srt_add, getD_add]
    rw [srt_len, tells_len]
    have := w.2.2.1
    have := w.2.2.2.1
    omega
theorem tells_shift {h n : Str → Int} (c : Int) : ∀ ts, wfs ts → tells h n (rebs (shP c) ts) = (tells h n ts).map (· + c)
  | [], _ => rfl
  | t :: ts, w => by rw [rebs, tells, tells, tell_shift c t w.1, tells_shift c ts w.2]; rfl
end
theorem srt_neg (l : List Int) : srt (l.map (fun x => -x)) = ((srt l).map (fun x => -x)).reverse := by
  refine (srt_uniq (((List.reverse_perm _).trans ((srt_perm l).map _))) ?_).symm
  refine List.pairwise_reverse.mpr (List.pairwise_map.mpr ((srt_sorted l).imp fun {a b} h => ?_))
  show -b ≤ -a
  omega
theorem getD_neg (l : List Int) {i : Nat} (h : i < l.length) : ((l.map (fun x => -x)).reverse).getD i 0 = -(l.getD (l.length - 1 - i) 0) := by
  have h1 : i < ((l.map (fun x => -x)).reverse).length := by simpa using h
  have h2 : l.length - 1 - i < l.length := by omega
  simp [List.getD_eq_getElem?_getD, List.getElem?_eq_getElem h2, List.getElem?_reverse, h]
mutual
theorem tell_mir {h n : Str → Int} : ∀ t, wf t → tell (fun z => -h z) (fun z => -n z) (mir t) = -tell h n t
  | .part b z w, _ => by cases b <;> simp [mir, tell] <;> omega
  | .all f ts, w => by
    have ln : 0 < ts.length := List.length_pos_iff.2 w.1
    rw [mir, tell, tell, tells_mir ts w.2.2, srt_neg, mirs_len, getD_neg, srt_len, tells_len]
    · congr 2
      cases f <;> simp
    · rw [srt_len, tells_len]
      cases f <;> simp <;> omega
  | .rank r ts, w => by
    have ln : 0 < ts.length := List.length_pos_iff.2 w.1
    have r1 := w.2.2.1
    have r2 := w.2.2.2.1
    rw [mir, tell, tell, tells_mir ts w.2.2.2.2, srt_neg, getD_neg, srt_len, tells_len]
    · congr 2
      omega
    · rw [srt_len, tells_len]
      omega
theorem tells_mir {h n : Str → Int} : ∀ ts, wfs ts → tells (fun z => -h z) (fun z => -n z) (mirs ts) = (tells h n ts).map (fun x => -x)
  | [], _ => rfl
  | t :: ts, w => by rw [mirs, tells, tells, tell_mir t w.1, tells_mir ts w.2]; rfl
end
/-- what the hours are where some names have rules -/
def ruled (R : List (Str × Tm)) (h n : Str → Int) (z : Str) : Int := match R.lookup z with
  | some t => tell h n t
  | none => h z
mutual
theorem tell_put {R : List (Str × Tm)} {h n : Str → Int} (hR : ∀ p ∈ R, wf p.2) : ∀ t, tell h n (reb (putP R) t) = tell (ruled R h n) n t
  | .part true z w => rfl
  | .part false z w => by
    show tell h n (putO (R.lookup z) z w) = ruled R h n z + w
    unfold ruled
    cases e : R.lookup z with
    | none => rfl
    | some t => exact tell_shift w t (hR _ (lookup_mem e))
  | .all f ts => by rw [reb, tell, tell, tells_put hR ts, rebs_len]
  | .rank r ts => by rw [reb, tell, tell, tells_put hR ts]
theorem tells_put {R : List (Str × Tm)} {h n : Str → Int} (hR : ∀ p ∈ R, wf p.2) : ∀ ts, tells h n (rebs (putP R) ts) = tells (ruled R h n) n ts
  | [] => rfl
  | t :: ts => by rw [rebs, tells, tells, tell_put hR t, tells_put hR ts]
end
end Tm
theorem putK_new {kvs : List (Key × V)} {k : Key} {v : V} (h : k ∉ kvs.map (·.1)) : putK kvs k v = kvs ++ [(k, v)] := by
  unfold putK
  rw [if_neg]
  intro c
  obtain ⟨q, hq, e⟩ := List.any_eq_true.mp c
  exact h (List.mem_map.2 ⟨q, hq, by simpa using e⟩)
theorem mergeK_nd : ∀ (more kvs : List (Key × V)), (more.map (·.1)).Nodup → (∀ q ∈ more, q.1 ∉ kvs.map (·.1)) → mergeK kvs more = kvs ++ more
  | [], kvs, _, _ => by simp [mergeK]
  | q :: more, kvs, n, h => by
    obtain ⟨n1, n2⟩ := List.nodup_cons.mp n
    have ih := mergeK_nd more (putK kvs q.1 q.2) n2 fun r hr => by
      rw [putK_new (h q List.mem_cons_self), List.map_append, List.mem_append]
      rintro (z | z)
      · exact h r (List.mem_cons_of_mem _ hr) z
      · have e : r.1 = q.1 := List.mem_singleton.mp z
        exact n1 (List.mem_map.2 ⟨r, hr, e⟩)
    show mergeK (putK kvs q.1 q.2) more = _
    rw [ih, putK_new (h q List.mem_cons_self), List.append_assoc]
    rfl
theorem inr_nodup {zs : List Str} (n : zs.Nodup) : (zs.map (Sum.inr : Str → Key)).Nodup := List.Pairwise.map _ (fun _ _ h e => h (by injection e)) n
theorem merge_hr {kz : List (Str × Int)} (n : (kz.map (·.1)).Nodup) : mergeK [] (hrK kz) = hrK kz := by
  have := mergeK_nd (hrK kz) [] (by rw [hrK_keys]; exact inr_nodup n) (fun _ _ h => by cases h)
  simpa using this
section
variable {m : Md} {p d : Addr} {n j : Nat} {H H' : Hp} {v : V} {kz : List (Str × Int)}
theorem Purse.lst {H : Hp} {p : Addr} {n : Nat} (h : Purse H p n) : ∃ xs, H p = some (.lst xs) := h.at_
theorem Drew.dk (D : Drew m p n j H H') (hp : Purse H p n) {kvs : List (Key × V)} (h : H d = some (.dK kvs)) : H' d = some (.dK kvs) := by
  obtain ⟨xs, e⟩ := hp.at_
  exact D.grow.ext _ _ (fun z => by rw [z, e] at h; cases h) h (fun _ w => by cases w)
theorem Drew.dkat (D : Drew m p n j H H') (hp : Purse H p n) (h : DKat H v kz) : DKat H' v kz := by
  obtain ⟨d, e, hd⟩ := h
  exact ⟨d, e, D.dk hp hd⟩
theorem Drew.hk (D : Drew m p n j H H') (hp : Purse H p n) (h : HK H v kz) : HK H' v kz := ⟨D.dkat hp h.at_, h.nm, h.len⟩
end
/-- pairs that are new tuples, by what they hold -/
structure Prs (m : Md) (H : Hp) (ps : List Addr) (kz : List (Str × Int)) : Prop where
  pr : Paired (fun p kv => SqT m.K H p [kV kv.1, kv.2]) ps (hrK kz)
theorem paired_snoc {α β : Type} {R : α → β → Prop} {xs : List α} {ys : List β} (h : Paired R xs ys) {x : α} {y : β} (r : R x y) : Paired R (xs ++ [x]) (ys ++ [y]) := Paired.snoc h r
theorem prs_grow {m : Md} {S : Addr → Prop} {H H' : Hp} {ps : List Addr} {kvs : List (Key × V)} (g : GrowX m.T S H H') (h : Paired (fun p kv => SqT m.K H p [kV kv.1, kv.2]) ps kvs) : Paired (fun p kv => SqT m.K H' p [kV kv.1, kv.2]) ps kvs := by
  induction h with
  | nil => exact .nil
  | cons h _ ih => exact .cons (GrowX.seqT g h) ih
/-- hours drawn for names -/
def sp_hours (m : Md) : Sp := fun vs H Q _ => ∃ (p : Addr) (n : Nat) (a : Addr) (zs : List Str), vs = [.ref p, .ref a] ∧ Purse H p n ∧ n ≤ 2 ^ 37 ∧ SqL m.K H a (zs.map V.str) ∧ a ≠ p ∧ zs.Nodup ∧ zs.length ≤ 8 ∧
  ∀ (d : Addr) (kz : List (Str × Int)) (H' : Hp), kz.map (·.1) = zs → (∀ q ∈ kz, -(10 ^ 29) ≤ q.2 ∧ q.2 ≤ 10 ^ 29) → Drew m p n 80 H H' → New H d → H' d = some (.dK (hrK kz)) → Q (.ref d) H'
theorem c_hours {m : Md} {f : Addr} {fd : FuncData} (F : C8.Def m.K m.mg "_law_hours" st_hours f fd) (b : L2.Binds m.K fd ps_hours []) (hd : m.mg "dict" = none) (D : Cal m 2 "_law_draw" (sp_draw m)) (O : Cal m 3 "_law_one_of" (sp_one_of m)) : Cal m 4 "_law_hours" (sp_hours m) := by
  refine cal_ofM F b sc_hours (fun vs H Q E h => by obtain ⟨_, _, _, _, rfl, _⟩ := h; rfl) fun X vs H Q E hA hM h => ?_
  obtain ⟨p, n, a, zs, rfl, hp, hn, ha, hap, nd, lz, q⟩ := h
  replace hA : At m nl_hours (C8.fnScope st_hours) 3 X := hA
  obtain ⟨n1, n0, n2⟩ := nv_hours
  walk_at "B"
  refine s_nc hA n2 hM.fn ?_
  refine w_call hA O (by omega) rfl ?_
  walk_at "V"
  refine g_powW (by decide) (by decide +kernel) ?_
  walk_at "V"
  refine g_powW (by decide) (by decide +kernel) ?_
  rw [show ((10 : Int) ^ (12 : Int).toNat) = 1000000000000 from by decide +kernel, show ((10 : Int) ^ (29 : Int).toNat) = 100000000000000000000000000000 from by decide +kernel]
  walk_at "V"
  refine ⟨by walk_at "S", fun l0 hl0 => ?_⟩
  walk_at "V"
  have g0 := Grow.new (T := m.T) (o := .lst [.int 4, .int 4, .int 9, .int 30, .int 1000000000000, .int 100000000000000000000000000000]) hl0
  have hl0p : l0 ≠ p := fun w => by obtain ⟨_, e⟩ := hp.at_; rw [← w, hl0] at e; cases e
  refine ⟨p, n, l0, _, rfl, hp.new g0, by omega, SqL.of upd_same, hl0p, by simp, by simp, fun j v H1 hj d1 => ?_⟩
  have hw : ∃ w : Int, v = .int w ∧ 0 < w ∧ w ≤ 10 ^ 29 := by
    match j, hj with
    | 0, h => cases h; exact ⟨_, rfl, by decide, by decide⟩
    | 1, h => cases h; exact ⟨_, rfl, by decide, by decide⟩
    | 2, h => cases h; exact ⟨_, rfl, by decide, by decide⟩
    | 3, h => cases h; exact ⟨_, rfl, by decide, by decide⟩
    | 4, h => cases h; exact ⟨_, rfl, by decide, by decide⟩
    | 5, h => cases h; exact ⟨_, rfl, by decide, by decide⟩
  obtain ⟨w, rfl, w0, w1⟩ := hw
  have D1 : Drew m p n 8 H H1 := Drew.pre g0 d1
  have ha1 : SqL m.K H1 a (zs.map V.str) := GrowX.seqL D1.grow ha hap
  walk_at "B"
  walk_at "V"
  refine g_typ hA hd rfl bt_dict ?_
  refine w_cons (w_lcL hA (by decide +kernel) (i := 3) ⟨rfl, rfl⟩ ?_)
  walk_at "V"
  refine ⟨a, zs.map V.str, rfl, ha1, fun L hL => ?_⟩
  have hLp : L ≠ p := fun w => by obtain ⟨_, e⟩ := D1.purse.at_; rw [← w, hL] at e; cases e
  refine ⟨fun t H4 => ∃ (ps : List Addr) (kz : List (Str × Int)), H4 L = some (.lst (ps.map V.ref)) ∧ Paired (fun p kv => SqT m.K H4 p [kV kv.1, kv.2]) ps (hrK kz) ∧ kz.map (·.1) = zs.take t ∧ (∀ q ∈ kz, -(10 ^ 29) ≤ q.2 ∧ q.2 ≤ 10 ^ 29) ∧ Drew m p (n + 8) (8 * t) H1 H4, ?_, ?_, ?_, ?_⟩
  · exact ⟨[], [], upd_same, .nil, by simp, by simp, D1.purse.drew (Grow.new hL)⟩
  · rintro t H4 _ ⟨_, _, _, _, _, _, D4⟩
    exact GrowX.seqL D4.grow ha1 hap
  · rintro t x H4 hx ⟨ps, kz, hv, pr, ek, bd, D4⟩ X' hX'
    rw [List.getElem?_map] at hx
    obtain ⟨z, hz, rfl⟩ := Option.map_eq_some_iff.1 hx
    have htl := (List.getElem?_eq_some_iff.1 hz).1
    have c0 := nc_of hX' 0 "_law_purse_here"
    have c2 := nc_of hX' 2 "_law_wide"
    have c3 := nl_of hX' 3 "_law_name"
    walk_at "V"
    refine w_call hX' D (by omega) rfl ?_
    walk_at "V"
    refine ⟨p, _, w, rfl, D4.purse, by omega, w0, Int.lt_of_le_of_lt w1 (by decide), fun r H5 r0 r1 d5 => ?_⟩
    walk_at "V"
    refine g_divI (by omega) ?_
    walk_at "V"
    refine ⟨by walk_at "S", fun T hT => ?_⟩
    have gT := Grow.new (T := m.T) (o := .tup [.str z, .int (r - w / 2)]) hT
    have D5 := (D4.trans d5).post gT
    have hv5 : (upd H5 T (.tup [.str z, .int (r - w / 2)])) L = some (.lst (ps.map V.ref)) := gT.extN _ _ (d5.grow.ext _ _ hLp hv (fun _ w => by cases w)) (fun _ w => by cases w)
    have lps : ps.length = kz.length := by rw [pr.length, hrK_len]
    have lkz : kz.length = t := by
      have := congrArg List.length ek
      rw [List.length_map, List.length_take] at this
      omega
    have pr5 := prs_grow gT (prs_grow d5.grow pr)
    have gX := GrowX.lst (T := m.T) (ys := ps.map V.ref ++ [V.ref T]) hv5
    refine ⟨_, hv5, by rw [List.length_map, sizeLine_eq]; omega, ps ++ [T], kz ++ [(z, r - w / 2)], ?_, ?_, ?_, ?_, ?_⟩
    · rw [upd_same, List.map_append]; rfl
    · have := paired_snoc pr5 (x := T) (y := ((Sum.inr z : Key), V.int (r - w / 2))) (SqT.of upd_same)
      have e : hrK (kz ++ [(z, r - w / 2)]) = hrK kz ++ [(Sum.inr z, V.int (r - w / 2))] := by simp [hrK]
      rw [e]
      exact prs_grow gX this
    · rw [List.map_append, ek, List.take_add_one, hz]; rfl
    · intro q' hq'
      rcases List.mem_append.1 hq' with e | e
      · exact bd q' e
      · rw [List.mem_singleton.1 e]
        show -(10 ^ 29) ≤ r - w / 2 ∧ r - w / 2 ≤ 10 ^ 29
        omega
    · have := (D5.mono (show 8 * t + 8 ≤ 8 * (t + 1) by omega))
      exact ⟨this.grow.into gX fun c z => .inl (by rw [z]; exact hL), this.purse.x gX (fun z => hLp z.symm)⟩
  · rintro H4 ⟨ps, kz, hv, pr, ek, bd, D4⟩
    rw [List.length_map, List.take_length] at ek
    rw [List.length_map] at D4
    walk_at "V"
    refine g_dictP hA (SqL.of hv) pr fun d hd => ?_
    rw [merge_hr (by rw [ek]; exact nd)]
    have D6 := (D1.trans D4).post (Grow.new (o := .dK (hrK kz)) hd)
    exact q d kz _ ek bd (D6.mono (by omega)) (D1.grow.keep _ (D4.grow.keep _ hd)) upd_same
theorem nd_lookup : ∀ {kz : List (Str × Int)} {t : Nat} {q : Str × Int}, (kz.map (·.1)).Nodup → kz[t]? = some q → kz.lookup q.1 = some q.2
  | [], t, q, _, h => by simp at h
  | r :: kz, 0, q, _, h => by
    have e : r = q := by simpa using h
    subst e
    simp [List.lookup]
  | r :: kz, t + 1, q, n, h => by
    obtain ⟨n1, n2⟩ := List.nodup_cons.mp n
    have h' : kz[t]? = some q := by simpa using h
    have ih := nd_lookup n2 h'
    have ne : (q.1 == r.1) = false := by
      simp only [beq_eq_false_iff_ne]
      intro e
      exact n1 (List.mem_map.2 ⟨q, List.mem_of_getElem? h', e⟩)
    obtain ⟨y, i⟩ := r
    rw [List.lookup_cons]
    simp only at ne
    rw [ne]
    exact ih
/-- what stands ahead of a term's list -/
def hdv : Tm → List V
  | .part _ _ _ => []
  | .all f _ => [.str (if f then "first" else "last")]
  | .rank r _ => [.str "rank", .int r]
theorem da_kid2 {K : PySem.W.Frag} {A : Addr → Prop} {H : Hp} {v : V} {t : Tm} (h : Da K A H v t.py) (hp : t.isPart = false) : ∃ (a l : Addr) (xs : List V), v = .ref a ∧ SqT K H a (hdv t ++ [.ref l]) ∧ SqL K H l xs ∧ DaAll K A H xs (Tm.pys t.kids) := by
  cases t with
  | part _ _ _ => simp [Tm.isPart] at hp
  | all f ts =>
    obtain ⟨a, l, xs, rfl, _, hs, hx, da⟩ := da_all h
    exact ⟨a, l, xs, rfl, hs, hx, da⟩
  | rank r ts =>
    obtain ⟨a, l, xs, rfl, _, hs, hx, da⟩ := da_rank h
    exact ⟨a, l, xs, rfl, hs, hx, da⟩
theorem hdv_word {t : Tm} (hp : t.isPart = false) (l : Addr) : (hdv t ++ [V.ref l])[0]? = some (.str (kw t)) := by
  cases t with
  | part _ _ _ => simp [Tm.isPart] at hp
  | all f ts => rfl
  | rank r ts => rfl
theorem kw_no {t : Tm} (hp : t.isPart = false) : kw t ≠ "of" ∧ kw t ≠ "now" := by
  cases t with
  | part _ _ _ => simp [Tm.isPart] at hp
  | all f ts =>
    cases f
    · show ("last" : Str) ≠ "of" ∧ ("last" : Str) ≠ "now"
      decide +kernel
    · show ("first" : Str) ≠ "of" ∧ ("first" : Str) ≠ "now"
      decide +kernel
  | rank r ts =>
    show ("rank" : Str) ≠ "of" ∧ ("rank" : Str) ≠ "now"
    decide +kernel
theorem str_ne : ("last" : Str) ≠ "rank" ∧ ("first" : Str) ≠ "rank" ∧ ("last" : Str) ≠ "first" := by decide +kernel
theorem l_told_step {m : Md} {f : Addr} {fd : FuncData} (F : C8.Def m.K m.mg "_law_told" st_l_told f fd) (b : L2.Binds m.K fd ps_l_told []) (hsr : m.mg "sorted" = none) (N : Nat) (ih : ∀ M, M + 1 = N → Cal m N "_law_told" (sp_tell m M)) : Cal m (N + 1) "_law_told" (sp_tell m N) := by
  refine cal_of F b sc_l_told (fun vs H Q E h => by obtain ⟨_, _, _, _, _, _, rfl, _⟩ := h; rfl) fun X vs H Q E hA h => ?_
  obtain ⟨v, hd, nd, t, kh, kn, rfl, d, hdp, hw, oh, on, q⟩ := h
  obtain ⟨n0, n3, n1, n2⟩ := nv_l_told
  walk_at "B"
  walk_at "V"
  cases hp : t.isPart with
  | true =>
    cases t with
    | all _ _ => simp [Tm.isPart] at hp
    | rank _ _ => simp [Tm.isPart] at hp
    | part n z w =>
      obtain ⟨a, rfl, hs⟩ := da_part d
      refine g_ixT hA hs (atI_at (j := 0) rfl) ?_
      walk_at "V"
      cases n with
      | false =>
        obtain ⟨dd, rfl, dg⟩ := oh.get (z := z) (by simp [Tm.nam, Tm.prt])
        rw [if_pos (by decide +kernel)]
        walk_at "V"
        refine g_ixT hA hs (atI_at (j := 1) rfl) ?_
        refine g_ixD hA dg ?_
        walk_at "V"
        refine g_ixT hA hs (atI_at (j := 2) rfl) ?_
        walk_at "V"
        exact q H GrowX.refl
      | true =>
        obtain ⟨dd, rfl, dg⟩ := on.get (z := z) (by simp [Tm.nam, Tm.prt])
        rw [if_neg (by decide +kernel)]
        refine b_nil ?_
        walk_at "B"
        walk_at "V"
        refine g_ixT hA hs (atI_at (j := 0) rfl) ?_
        walk_at "V"
        rw [if_pos (by decide +kernel)]
        walk_at "V"
        refine g_ixT hA hs (atI_at (j := 1) rfl) ?_
        refine g_ixD hA dg ?_
        walk_at "V"
        refine g_ixT hA hs (atI_at (j := 2) rfl) ?_
        walk_at "V"
        exact q H GrowX.refl
  | false =>
    obtain ⟨M, rfl⟩ : ∃ M, M + 1 = N := ⟨N - 1, by have := Tm.kids_dep hp; omega⟩
    obtain ⟨a, l, xs, rfl, hs, hl, da⟩ := da_kid2 d hp
    have hkw := kw_no hp
    obtain ⟨kne, klen, kwf⟩ := Tm.kids_wf hw hp
    have kdep := Tm.kids_dep hp
    have hxl : xs.length = t.kids.length := by rw [da.length, Tm.pys_length]
    refine g_ixT hA hs (atI_at (j := 0) (hdv_word hp l)) ?_
    walk_at "V"
    rw [if_neg (by simpa using hkw.1)]
    refine b_nil ?_
    walk_at "B"
    walk_at "V"
    refine g_ixT hA hs (atI_at (j := 0) (hdv_word hp l)) ?_
    walk_at "V"
    rw [if_neg (by simpa using hkw.2)]
    refine b_nil ?_
    walk_at "B"
    walk_at "V"
    refine g_blt hA hsr rfl bt_sorted ?_
    refine w_cons (w_lcL hA (by decide +kernel) (i := 4) ⟨rfl, rfl⟩ ?_)
    walk_at "V"
    refine g_ixT hA hs (at_last _ _) ?_
    refine ⟨l, xs, rfl, hl, fun D1 hD1 => ⟨fun j H4 => Grow m.T H H4 ∧ H4 D1 = some (.lst ((Tm.tells (hrs kh) (hrs kn) (t.kids.take j)).map V.int)), ⟨Grow.new hD1, upd_same⟩, fun j H4 _ hp4 => GrowX.seqL hp4.1 hl fun z => z, ?_, ?_⟩⟩
    · rintro j x H4 hx ⟨g4, hv⟩ X' hX'
      have c1 := nc_of hX' 1 "_law_hours_here"
      have c2 := nc_of hX' 2 "_law_now"
      have c4 := nl_of hX' 4 "_law_one"
      obtain ⟨pd, hpd, dx⟩ := da.getV hx
      rw [Tm.pys_map, List.getElem?_map] at hpd
      obtain ⟨tj, htj, rfl⟩ := Option.map_eq_some_iff.1 hpd
      have htm := List.mem_of_getElem? htj
      have hj : j < t.kids.length := by rw [← hxl]; exact (List.getElem?_eq_some_iff.1 hx).1
      have sub : ∀ b, ∀ z ∈ tj.nam b, z ∈ t.nam b := by
        intro b z hz
        cases t with
        | part _ _ _ => simp [Tm.isPart] at hp
        | all f ts => exact Tm.nam_all htm z hz
        | rank r ts => exact Tm.nam_rank htm z hz
      refine w_call hX' (ih M rfl) (by omega) rfl ?_
      walk_at "V"
      refine ⟨x, hd, nd, tj, kh, kn, rfl, Grow.da g4 dx, by have := Tm.dep_mem htm; omega, Tm.wfs_iff.1 kwf tj htm, (oh.grow g4).sub (sub false), (on.grow g4).sub (sub true), fun H5 g5 => ?_⟩
      have hv5 := Grow.extN g5 _ _ hv (fun _ w => by cases w)
      refine ⟨_, hv5, by rw [List.length_map, Tm.tells_len, List.length_take, sizeLine_eq]; omega, Grow.intoNew (GrowX.trans g4 g5) (GrowX.lst hv5) (fun _ w => by rw [w]; exact hD1), ?_⟩
      rw [upd_same, List.take_add_one, htj]
      simp [Tm.tells_map]
    · rintro H4 ⟨g4, hv⟩
      rw [hxl, List.take_length] at hv
      walk_at "V"
      refine g_sortedI hA (SqL.of hv) fun ns' p pm so hpn => ?_
      have es : ns' = srt (Tm.tells (hrs kh) (hrs kn) t.kids) := srt_uniq pm so
      have g5 := GrowX.trans g4 (Grow.new (T := m.T) (o := .lst (ns'.map V.int)) hpn)
      have hs5 := GrowX.seqT g5 hs
      have h5 := upd_same (H := H4) (a := p) (o := .lst (ns'.map V.int))
      generalize upd H4 p (.lst (ns'.map V.int)) = H5 at g5 hs5 h5 ⊢
      have lns : ns'.length = t.kids.length := by rw [es, srt_len, Tm.tells_len]
      have ln : 0 < t.kids.length := List.length_pos_iff.2 kne
      have at_ : ∀ i, i < t.kids.length → (ns'.map V.int)[i]? = some (.int ((srt (Tm.tells (hrs kh) (hrs kn) t.kids)).getD i 0)) := by
        intro i hi
        rw [List.getElem?_map, List.getElem?_eq_getElem (by omega), ← es]
        simp [List.getD_eq_getElem?_getD, List.getElem?_eq_getElem (show i < ns'.length by omega)]
      walk_at "B"
      walk_at "V"
      refine g_ixT hA hs5 (atI_at (j := 0) (hdv_word hp l)) ?_
      walk_at "V"
      cases t with
      | part _ _ _ => simp [Tm.isPart] at hp
      | rank r ts =>
        rw [if_pos (by show decide (("rank" : Str) = "rank") = true; decide +kernel)]
        walk_at "V"
        refine g_ixT hA hs5 (atI_at (j := 1) rfl) ?_
        walk_at "V"
        have r1 := hw.2.2.1
        have r2 := hw.2.2.2.1
        have ei : r - 1 = ((r.toNat - 1 : Nat) : Int) := by omega
        rw [ei]
        refine g_ixL hA (SqL.of h5) (atI_at (at_ (r.toNat - 1) (by show r.toNat - 1 < ts.length; omega))) ?_
        exact q H5 g5
      | all f ts =>
        rw [if_neg (by show ¬ (decide ((if f = true then ("first" : Str) else "last") = "rank") = true); cases f <;> decide +kernel)]
        refine b_nil ?_
        walk_at "B"
        walk_at "V"
        refine g_ixT hA hs5 (atI_at (j := 0) rfl) ?_
        walk_at "V"
        cases f with
        | true =>
          rw [if_pos (by show decide (("first" : Str) = "first") = true; decide +kernel)]
          walk_at "V"
          refine g_ixL hA (SqL.of h5) (atI_at (j := 0) (at_ 0 ln)) ?_
          exact q H5 g5
        | false =>
          rw [if_neg (by show ¬ (decide (("last" : Str) = "first") = true); decide +kernel)]
          walk_at "V"
          have hlast : atI (ns'.map V.int) (-1) = some (.int ((srt (Tm.tells (hrs kh) (hrs kn) ts)).getD (ts.length - 1) 0)) := by
            have e := at_ (ts.length - 1) (by show ts.length - 1 < ts.length; have : 0 < ts.length := ln; omega)
            unfold atI ixN
            rw [if_neg (by decide), List.length_map, lns, if_pos (by omega)]
            have e2 : ((-1 : Int) + (ts.length : Nat)).toNat = ts.length - 1 := by have : 0 < ts.length := ln; omega
            show (ns'.map V.int)[((-1 : Int) + (ts.length : Nat)).toNat]? = _
            rw [e2]
            exact e
          refine g_ixL hA (SqL.of h5) hlast ?_
          exact q H5 g5
theorem c_l_told {m : Md} {f : Addr} {fd : FuncData} (F : C8.Def m.K m.mg "_law_told" st_l_told f fd) (b : L2.Binds m.K fd ps_l_told []) (hsr : m.mg "sorted" = none) : ∀ N, Cal m (N + 1) "_law_told" (sp_tell m N) := by
  intro N
  induction N with
  | zero => exact l_told_step F b hsr 0 fun M e => by omega
  | succ N ih =>
    refine l_told_step F b hsr (N + 1) fun M e => ?_
    obtain rfl : M = N := by omega
    exact ih
def sp_need_whole (m : Md) : Sp := fun vs H Q _ => ∃ i : Int, vs = [.int i] ∧ Q .non H
theorem c_need_whole {m : Md} {f : Addr} {fd : FuncData} (F : C8.Def m.K m.mg "need_whole" st_need_whole f fd) (b : L2.Binds m.K fd ps_need_whole []) (Wh : Cal m 1 "is_whole" (sp_is_whole m)) : Cal m 2 "need_whole" (sp_need_whole m) := by
  refine cal_of F b sc_need_whole (fun vs H Q E h => by obtain ⟨_, rfl, _⟩ := h; rfl) fun X vs H Q E hA h => ?_
  obtain ⟨i, rfl, q⟩ := h
  have n0 := nv_need_whole
  walk_at "B"
  walk_at "V"
  refine w_call hA Wh (by omega) rfl ?_
  walk_at "V"
  refine ⟨.int i, .int i, Any, rfl, .int _, ?_⟩
  walk_at "V"
  rw [show isWh (.int i) = true from rfl]
  exact iteF (b_nil (b_nil q))
/-- shifted_term(term, by) -/
def sp_sterm (m : Md) (N : Nat) : Sp := fun vs H Q _ => ∃ (v : V) (c : Int) (t : Tm), vs = [v, .int c] ∧ Tabs m.T H ∧ Da m.K Any H v t.py ∧ t.dep ≤ N ∧ t.wf ∧ ∀ (u : V) (H' : Hp), Grow m.T H H' → Fr m.K H H' u (t.shift c).py → Q u H'
/-- what is handed on under a lock keeps its promise -/
theorem ch_lock {m : Md} {g : Tm → Tm} {H2 H1 : Hp} {ca : Addr} {o : Obj} (hc : H2 ca = some (lkO o)) (x : ExtN H2 H1) {vs : List V} {Q : VK} {E : XK} (q : spCh m g vs H1 Q E) : H1 ca = some (lkO o) ∧ spCh m g vs (dl H1 ca) (fun v H' => H' ca = none → Q v (upd H' ca (lkO o))) E := by
  have h1 := Vf.ExtN.frz x hc
  obtain ⟨v, n, z, w, rfl, hT, d, k⟩ := q
  exact ⟨h1, v, n, z, w, rfl, dl_tabs h1 hT, dl_da h1 d, fun u H' g' fr nn => k u _ (Grow.relock h1 g' nn) (Fr.relock h1 nn fr)⟩
theorem c_sterm {m : Md} {f : Addr} {fd : FuncData} (F : C8.Def m.K m.mg "shifted_term" st_shifted_term f fd) (b : L2.Binds m.K fd ps_shifted_term []) (L : Tab1 m fd.code ("shifted_term" ++ ".<locals>." ++ "<lambda>")) (N : Nat) (R : Cal m (1 + N + 1) "rebuilt" (sp_rebuilt m 1 N)) : Cal m (N + 3) "shifted_term" (sp_sterm m N) := by
  refine cal_ofM F b sc_shifted_term (fun vs H Q E h => by obtain ⟨_, _, _, rfl, _⟩ := h; rfl) fun X vs H Q E hA hM h => ?_
  obtain ⟨v, c, t, rfl, hT, d, hd, hw, k⟩ := h
  replace hA : At m nl_shifted_term (C8.fnScope st_shifted_term) (N + 2) X := hA
  obtain ⟨n0, n1⟩ := nv_shifted_term
  obtain ⟨cc, P, ec, TB, hm, hu⟩ := L.ex
  walk_at "B"
  walk_at "V"
  refine w_lamC (k := 0) (kg := 1 + N + 1) (T := m.T) (NL := ["part", "by"]) (ps := ["part"]) (y := "by") (iy := 1) (v := .int c) (spw := spCh m (Tm.shP c)) (spg := sp_rebuilt m 1 N) hA hM TB ec hm hu ?_ ?_ rfl rfl rfl ?_ ?_ ?_ R (by omega) rfl ?_
  · exact ⟨rfl, rfl, rfl, by decide, rfl, by decide +kernel, by decide +kernel, by decide +kernel, by decide +kernel⟩
  · decide +kernel
  · intro c' cl pm ctv us hl
    match us, hl with
    | [_], _ => rfl
  · intro vs H Q E z
    obtain ⟨_, _, _, _, rfl, _⟩ := z
    rfl
  · intro X' vs H1 Q1 hX z
    obtain ⟨u, n, zz, w, rfl, _, du, kk⟩ := z
    have n1 := nl_of hX 0 "part"
    have n2 := nf_of hX 1 "by"
    obtain ⟨a, rfl, hs⟩ := da_part du
    walk_at "V"
    refine g_ixT hX hs (atI_at (j := 0) rfl) ?_
    walk_at "V"
    refine g_ixT hX hs (atI_at (j := 1) rfl) ?_
    walk_at "V"
    refine g_ixT hX hs (atI_at (j := 2) rfl) ?_
    walk_at "V"
    refine ⟨by walk_at "S", fun p hp => ?_⟩
    refine kk _ _ (Grow.new hp) ⟨[], ?_, by simp, by simp⟩
    exact dn_parts (A := Any) (.tup (SqT.of upd_same) (.cons (.str _) (.cons (.str _) (.cons (.int _) .nil))))
  · walk_at "V"
    refine ⟨hT, fun f2 ca o H2 nca x kp t2 h2 cal => ?_⟩
    refine ⟨v, f2, t, Tm.shP c, rfl, t2, ?_, hd, hw, cal.imp fun H1 x1 vs Q E z => ch_lock h2 x1 z, fun u H3 g3 fr => ?_⟩
    · exact Da.mono (fun _ z => z) (fun a xs _ e => Vf.SqL.ext x e) (fun a xs e => Vf.SqT.ext x e) _ _ d
    · exact k u _ (Grow.undl nca x kp t2 h2 g3) (Fr.undl kp h2 g3 fr)
/-- the rule that another rule makes -/
def sp_rmap (m : Md) (C : Addr) (M : Nat) (g : Tm → Tm) (ws : List V) : Sp := fun vs H Q _ => ∃ (i : Addr) (t : Tm) (G : Nat), vs = .ref i :: ws ∧ RuleAt m C Any H i t ∧ Tabs m.T H ∧ Tm.Gd G t ∧ 2 * G + 1 ≤ M ∧ ∀ (j : Addr) (H' : Hp), Grow m.T H H' → New H j → RuleAt m C (New H) H' j (g t) → Q (.ref j) H'
def sp_shifted (m : Md) (C : Addr) (M : Nat) : Sp := fun vs H Q E => ∃ c : Int, sp_rmap m C M (Tm.shift c) [.int c] vs H Q E
theorem c_shifted {m : Md} {C CT f : Addr} {fd : FuncData} (F : C8.Def m.K m.mg "shifted" st_shifted f fd) (b : L2.Binds m.K fd ps_shifted []) (M : Nat) (hM40 : M = 40) (Nr : Cal m 1 "need_rule" (sp_need_rule m C)) (Nw : Cal m 2 "need_whole" (sp_need_whole m)) (St : Cal m (M + 3) "shifted_term" (sp_sterm m M)) (Te : MetX m C8.CX0 (M + 4) C "term" (sp_rterm m C M) [])
    (Mk : MakX m (L2.CX m.P m.w) (M + 4) "Rule" C (sp_rinit m C CT M) []) : Cal m (M + 6) "shifted" (sp_shifted m C M) := by
  refine cal_ofM F b sc_shifted (fun vs H Q E h => by obtain ⟨_, _, _, _, rfl, _⟩ := h; rfl) fun X vs H Q E hA hM h => ?_
  obtain ⟨c, i, t, G, rfl, r, hT, gd, hG, k⟩ := h
  replace hA : At m nl_shifted (C8.fnScope st_shifted) (M + 5) X := hA
  obtain ⟨n0, n1⟩ := nv_shifted
  walk_at "B"
  walk_at "V"
  refine w_call hA Nr (by omega) rfl ?_
  walk_at "V"
  refine ⟨i, t, rfl, r, ?_⟩
  walk_at "B"
  walk_at "V"
  refine w_call hA Nw (by omega) rfl ?_
  walk_at "V"
  refine ⟨c, rfl, ?_⟩
  walk_at "B"
  walk_at "V"
  refine w_rule hA Mk (by omega) rfl ?_
  refine w_call hA St (by omega) rfl ?_
  refine w_cons (w_met0 (E := C8.E0) hA Te (by omega) C8.pass0 ?_)
  walk_at "V"
  obtain ⟨dx, u0, hi, du⟩ := r
  have hdep := gd.dep
  refine ⟨i, dx, _, rfl, hi, rfl, i, t, rfl, ⟨dx, u0, hi, du⟩, hT, by omega, gd.wf, fun u H1 g1 fr => ?_⟩
  walk_at "V"
  refine ⟨u, c, t, rfl, g1.tab hT, fr.da.sub fun _ _ => trivial, by omega, gd.wf, fun w H2 g2 fr2 => ?_⟩
  refine ⟨t.shift c, G, fr2.da.sub fun _ _ => trivial, gd.shift c, hG, (g1.trans g2).tab hT, fun j H3 g3 nj ra => ?_⟩
  have g13 := g1.trans g2
  exact k j H3 (g13.trans g3) (g13.keep _ nj) (ra.sub fun a z => g13.keep _ z)
/-- a term read from the other end of time -/
def sp_mterm (m : Md) (N : Nat) : Sp := fun vs H Q _ => ∃ (v : V) (t : Tm), vs = [v] ∧ Da m.K Any H v t.py ∧ t.dep ≤ N ∧ t.wf ∧ ∀ (u : V) (H' : Hp), Grow m.T H H' → Da m.K (New H) H' u t.mir.py → Q u H'
theorem mirs_take {ts : List Tm} {j : Nat} {t : Tm} (h : ts[j]? = some t) : Tm.pys (Tm.mirs (ts.take (j + 1))) = Tm.pys (Tm.mirs (ts.take j)) ++ [t.mir.py] := by
  rw [List.take_add_one, h]
  simp [Tm.mirs_map, Tm.pys_map]
theorem mterm_step {m : Md} {f : Addr} {fd : FuncData} (F : C8.Def m.K m.mg "mirrored_term" st_mirrored_term f fd) (b : L2.Binds m.K fd ps_mirrored_term []) (hlen : m.mg "len" = none) (P : Cal m 1 "is_part" (sp_is_part m)) (N : Nat) (ih : ∀ M, M + 1 = N → Cal m (N + 1) "mirrored_term" (sp_mterm m M)) : Cal m (N + 2) "mirrored_term" (sp_mterm m N) := by
  refine cal_of F b sc_mirrored_term (fun vs H Q E h => by obtain ⟨_, _, rfl, _⟩ := h; rfl) fun X vs H Q E hA h => ?_
  obtain ⟨v, t, rfl, d, hdp, hw, q⟩ := h
  obtain ⟨n0, n1⟩ := nv_mirrored_term
  walk_at "B"
  walk_at "V"
  refine w_call hA P (by omega) rfl ?_
  walk_at "V"
  refine ⟨v, t, Any, rfl, d, fun H1 g1 => ?_⟩
  walk_at "V"
  refine ite2 (fun h0 => ?_) fun h0 => ?_
  · cases t with
    | all _ _ => simp [Tm.isPart] at h0
    | rank _ _ => simp [Tm.isPart] at h0
    | part n z w =>
      obtain ⟨a, rfl, hs⟩ := da_part (g1.da d)
      walk_at "V"
      refine g_ixT hA hs (atI_at (j := 0) rfl) ?_
      walk_at "V"
      refine g_ixT hA hs (atI_at (j := 1) rfl) ?_
      walk_at "V"
      refine g_ixT hA hs (atI_at (j := 2) rfl) ?_
      walk_at "V"
      refine ⟨by walk_at "S", fun p hp => ?_⟩
      exact q _ _ (g1.trans (Grow.new hp)) (.tup (SqT.of upd_same) (.cons (.str _) (.cons (.str _) (.cons (.int _) .nil))))
  · have hp : t.isPart = false := by simpa using h0
    refine b_nil ?_
    obtain ⟨M, rfl⟩ : ∃ M, M + 1 = N := ⟨N - 1, by have := Tm.kids_dep hp; omega⟩
    obtain ⟨a, l, xs, rfl, hs, hl, da⟩ := da_kid2 (g1.da d) hp
    obtain ⟨kne, klen, kwf⟩ := Tm.kids_wf hw hp
    have kdep := Tm.kids_dep hp
    have hxl : xs.length = t.kids.length := by rw [da.length, Tm.pys_length]
    walk_at "B"
    refine s_lcL hA n1 (by decide +kernel) (i := 2) ⟨rfl, rfl⟩ ?_
    walk_at "V"
    refine g_ixT hA hs (at_last _ _) ?_
    refine ⟨l, xs, rfl, hl, fun D1 hD1 => ⟨fun j H4 => Grow m.T H1 H4 ∧ ∃ us, us.length = j ∧ H4 D1 = some (.lst us) ∧ DaAll m.K (fun a => New H a ∧ a ≠ D1) H4 us (Tm.pys (Tm.mirs (t.kids.take j))), ⟨Grow.new hD1, [], rfl, upd_same, .nil⟩, fun j H4 _ hp4 => GrowX.seqL hp4.1 hl fun z => z, ?_, ?_⟩⟩
    · rintro j x H4 hx ⟨g4, us, ul, hv, du⟩ X' hX'
      have c2 := nl_of hX' 2 "inner"
      obtain ⟨pd, hpd, dx⟩ := da.getV hx
      rw [Tm.pys_map, List.getElem?_map] at hpd
      obtain ⟨tj, htj, rfl⟩ := Option.map_eq_some_iff.1 hpd
      have htm := List.mem_of_getElem? htj
      have hj : j < t.kids.length := by rw [← hxl]; exact (List.getElem?_eq_some_iff.1 hx).1
      refine w_call hX' (ih M rfl) (by omega) rfl ?_
      walk_at "V"
      refine ⟨x, tj, rfl, g4.da dx, by have := Tm.dep_mem htm; omega, Tm.wfs_iff.1 kwf tj htm, fun u H5 g5 d5 => ?_⟩
      have hv5 := g5.extN _ _ hv (fun _ w => by cases w)
      have gX := GrowX.lst (T := m.T) (ys := us ++ [u]) hv5
      refine ⟨_, hv5, by rw [ul, sizeLine_eq]; omega, Grow.intoNew (g4.trans g5) gX (fun _ w => by rw [w]; exact hD1), us ++ [u], by simp [ul], upd_same, ?_⟩
      rw [mirs_take htj]
      refine gX.daAll (DaAll.append (g5.daAll du) (.cons (d5.sub fun a z => ⟨g1.keep _ (g4.keep _ z), fun w => ?_⟩) .nil)) fun a z => z.2
      rw [w] at z
      rw [show H4 D1 = none from z] at hv; cases hv
    · rintro H4 ⟨g4, us, ul, hv, du⟩
      rw [hxl, List.take_length] at du
      have hs4 := g4.seqT hs
      have g14 := g1.trans g4
      have nD : New H D1 := g1.keep _ hD1
      have du' := du.sub (A' := New H) fun a z => z.1
      walk_at "B"
      walk_at "V"
      refine g_ixT hA hs4 (atI_at (j := 0) (hdv_word hp l)) ?_
      walk_at "V"
      cases t with
      | part _ _ _ => simp [Tm.isPart] at hp
      | rank r ts =>
        rw [if_pos (by show decide (("rank" : Str) = "rank") = true; decide +kernel)]
        walk_at "V"
        refine g_blt hA hlen rfl bt_len ?_
        walk_at "V"
        refine g_lenL hA (SqL.of hv) ?_
        walk_at "V"
        refine g_ixT hA hs4 (atI_at (j := 1) rfl) ?_
        walk_at "V"
        refine ⟨by walk_at "S", fun p hpn => ?_⟩
        have g5 := Grow.new (T := m.T) (o := .tup [.str ("rank" : Str), .int ((us.length : Int) + 1 - r), .ref D1]) hpn
        refine q _ _ (g14.trans g5) ?_
        have e : us.length = ts.length := by rw [ul, hxl]; rfl
        rw [e] at g5 ⊢
        exact .tup (SqT.of upd_same) (.cons (.str _) (.cons (.int _) (.cons (.lst nD (SqL.of (g5.extN _ _ hv (fun _ w => by cases w))) (g5.daAll du')) .nil)))
      | all f ts =>
        rw [if_neg (by show ¬ (decide ((if f = true then ("first" : Str) else "last") = "rank") = true); cases f <;> decide +kernel)]
        refine b_nil ?_
        walk_at "B"
        walk_at "V"
        refine g_ixT hA hs4 (atI_at (j := 0) rfl) ?_
        walk_at "V"
        cases f with
        | true =>
          rw [if_pos (by show decide (("first" : Str) = "first") = true; decide +kernel)]
          walk_at "V"
          refine ⟨by walk_at "S", fun p hpn => ?_⟩
          have g5 := Grow.new (T := m.T) (o := .tup [.str ("last" : Str), .ref D1]) hpn
          refine q _ _ (g14.trans g5) ?_
          exact .tup (SqT.of upd_same) (.cons (.str _) (.cons (.lst nD (SqL.of (g5.extN _ _ hv (fun _ w => by cases w))) (g5.daAll du')) .nil))
        | false =>
          rw [if_neg (by show ¬ (decide (("last" : Str) = "first") = true); decide +kernel)]
          walk_at "V"
          refine ⟨by walk_at "S", fun p hpn => ?_⟩
          have g5 := Grow.new (T := m.T) (o := .tup [.str ("first" : Str), .ref D1]) hpn
          refine q _ _ (g14.trans g5) ?_
          exact .tup (SqT.of upd_same) (.cons (.str _) (.cons (.lst nD (SqL.of (g5.extN _ _ hv (fun _ w => by cases w))) (g5.daAll du')) .nil))
theorem c_mterm {m : Md} {f : Addr} {fd : FuncData} (F : C8.Def m.K m.mg "mirrored_term" st_mirrored_term f fd) (b : L2.Binds m.K fd ps_mirrored_term []) (hlen : m.mg "len" = none) (P : Cal m 1 "is_part" (sp_is_part m)) : ∀ N, Cal m (N + 2) "mirrored_term" (sp_mterm m N) := by
  intro N
  induction N with
  | zero => exact mterm_step F b hlen P 0 fun M e => by omega
  | succ N ih =>
    refine mterm_step F b hlen P (N + 1) fun M e => ?_
    obtain rfl : M = N := by omega
    exact ih
def sp_mirrored (m : Md) (C : Addr) (M : Nat) : Sp := sp_rmap m C M Tm.mir []
theorem c_mirrored {m : Md} {C CT f : Addr} {fd : FuncData} (F : C8.Def m.K m.mg "mirrored" st_mirrored f fd) (b : L2.Binds m.K fd ps_mirrored []) (M : Nat) (Nr : Cal m 1 "need_rule" (sp_need_rule m C)) (Mt : Cal m (M + 2) "mirrored_term" (sp_mterm m M)) (Te : MetX m C8.CX0 (M + 4) C "term" (sp_rterm m C M) [])
    (Mk : MakX m (L2.CX m.P m.w) (M + 4) "Rule" C (sp_rinit m C CT M) []) : Cal m (M + 6) "mirrored" (sp_mirrored m C M) := by
  refine cal_ofM F b sc_mirrored (fun vs H Q E h => by obtain ⟨_, _, _, rfl, _⟩ := h; rfl) fun X vs H Q E hA hM h => ?_
  obtain ⟨i, t, G, rfl, r, hT, gd, hG, k⟩ := h
  replace hA : At m nl_mirrored (C8.fnScope st_mirrored) (M + 5) X := hA
  have n0 := nv_mirrored
  walk_at "B"
  walk_at "V"
  refine w_call hA Nr (by omega) rfl ?_
  walk_at "V"
  refine ⟨i, t, rfl, r, ?_⟩
  walk_at "B"
  walk_at "V"
  refine w_rule hA Mk (by omega) rfl ?_
  refine w_call hA Mt (by omega) rfl ?_
  refine w_cons (w_met0 (E := C8.E0) hA Te (by omega) C8.pass0 ?_)
  walk_at "V"
  obtain ⟨dx, u0, hi, du⟩ := r
  have hdep := gd.dep
  refine ⟨i, dx, _, rfl, hi, rfl, i, t, rfl, ⟨dx, u0, hi, du⟩, hT, by omega, gd.wf, fun u H1 g1 fr => ?_⟩
  walk_at "V"
  refine ⟨u, t, rfl, fr.da.sub fun _ _ => trivial, by omega, gd.wf, fun w H2 g2 d2 => ?_⟩
  refine ⟨t.mir, G, d2.sub fun _ _ => trivial, gd.mir, hG, (g1.trans g2).tab hT, fun j H3 g3 nj ra => ?_⟩
  have g13 := g1.trans g2
  exact k j H3 (g13.trans g3) (g13.keep _ nj) (ra.sub fun a z => g13.keep _ z)
/-- rules by name, as a dict has them: the name, where the rule lies, its term -/
abbrev Rs := List (Str × Addr × Tm)
def rlK (rs : Rs) : List (Key × V) := keyed (fun q : Addr × Tm => V.ref q.1) rs
def rlT (rs : Rs) : List (Str × Tm) := rs.map fun p => (p.1, p.2.2)
structure RTab (m : Md) (C : Addr) (H : Hp) (d : Addr) (rs : Rs) : Prop where
  at_ : H d = some (.dK (rlK rs))
  nm : ∀ p ∈ rs, IsName p.1
  len : rs.length < 1000
  rl : ∀ p ∈ rs, RuleAt m C Any H p.2.1 p.2.2
theorem RuleAt.extN {m : Md} {C : Addr} {A : Addr → Prop} {H H' : Hp} {i : Addr} {t : Tm} (x : ExtN H H') (r : RuleAt m C A H i t) : RuleAt m C A H' i t := by
  obtain ⟨dx, u, hi, d⟩ := r
  exact ⟨dx, u, x _ _ hi (fun _ w => by cases w), Da.mono (fun _ z => z) (fun a xs _ e => Vf.SqL.ext x e) (fun a xs e => Vf.SqT.ext x e) _ _ d⟩
theorem RTab.extN {m : Md} {C d : Addr} {H H' : Hp} {rs : Rs} (x : ExtN H H') (r : RTab m C H d rs) : RTab m C H' d rs := ⟨x _ _ r.at_ (fun _ w => by cases w), r.nm, r.len, fun p hp => (r.rl p hp).extN x⟩
theorem RTab.dl {m : Md} {C d ca : Addr} {o : Obj} {H : Hp} {rs : Rs} (h : H ca = some (lkO o)) (r : RTab m C H d rs) : RTab m C (dl H ca) d rs := ⟨dl_at h r.at_ (fun w => by cases w), r.nm, r.len, fun p hp => by
  obtain ⟨dx, u, hi, d⟩ := r.rl p hp
  exact ⟨dx, u, dl_at h hi (fun w => by cases w), dl_da h d⟩⟩
theorem rlT_look (rs : Rs) (z : Str) : (rlT rs).lookup z = (rs.lookup z).map (·.2) := look_map (fun q : Addr × Tm => q.2) rs z
def sp_irt (m : Md) (C : Addr) : Sp := fun vs H Q _ => ∃ (d : Addr) (rs : Rs), vs = [.ref d] ∧ RTab m C H d rs ∧ ∀ H', Grow m.T H H' → Q (.bl true) H'
theorem c_irt {m : Md} {C f : Addr} {fd : FuncData} (R : RuleC m C) (F : C8.Def m.K m.mg "_is_rule_table" st_x_is_rule_table f fd) (b : L2.Binds m.K fd ps_x_is_rule_table []) (hi : m.mg "isinstance" = none) (hd : m.mg "dict" = none) (hall : m.mg "all" = none) (Nm : Cal m 1 "is_name" (sp_is_name m)) : Cal m 2 "_is_rule_table" (sp_irt m C) := by
  refine cal_of F b sc_x_is_rule_table (fun vs H Q E h => by obtain ⟨_, _, rfl, _⟩ := h; rfl) fun X vs H Q E hA h => ?_
  obtain ⟨d, rs, rfl, tb, q⟩ := h
  have n0 := nv_x_is_rule_table
  have hk := tb.at_
  walk_at "B"
  walk_at "V"
  refine g_blt hA hi rfl bt_isinstance ?_
  walk_at "V"
  refine w_tyn hA hd rfl bt_dict ?_
  walk_at "V"
  refine g_isi hA (.ty "dict") (.base (.dK hk)) (kit_ty (kit_all "dict" (by decide) (.dict []))) ?_
  walk_at "V"
  refine iteF (b_nil ?_)
  walk_at "B"
  walk_at "V"
  refine g_blt hA hall rfl bt_all ?_
  refine w_cons (w_lcDi hA (by decide +kernel) (i := 1) (j := 2) ⟨rfl, rfl⟩ ⟨rfl, rfl⟩ ?_)
  refine ⟨d, rlK rs, hk, fun od => ?_⟩
  walk_at "V"
  refine ⟨rfl, rfl, fun D hD => ?_⟩
  refine ⟨fun t H' => Grow m.T (upd H d (.frz od (.dK (rlK rs)))) H' ∧ H' D = some (.lst ((List.replicate t true).map V.bl)), ⟨Grow.new hD, upd_same⟩, fun t H' _ hp => hp.1.frz _ _ _ upd_same, ?_, ?_⟩
  · rintro t p T H' hp ⟨g, hv⟩ hTn X' hX'
    obtain ⟨z, hz, rfl⟩ := keyed_get hp
    have c1 := nl_of hX' 1 "name"
    have c2 := nl_of hX' 2 "rule"
    have hzm := List.mem_of_getElem? hz
    have hn := tb.nm z hzm
    have htl := (List.getElem?_eq_some_iff.1 hz).1
    have htl2 := tb.len
    have gT := Grow.new (T := m.T) (o := .tup [kV (.inr z.1), V.ref z.2.1]) hTn
    walk_at "V"
    refine w_call hX' Nm (by omega) rfl ?_
    walk_at "V"
    refine ⟨.str z.1, .str z.1, Any, rfl, .str _ (name_short hn), fun H5 g5 => ?_⟩
    rw [name_nm hn]
    walk_at "V"
    refine iteT ?_
    walk_at "V"
    refine g_blt hX' hi rfl bt_isinstance ?_
    walk_at "V"
    refine w_glb (v := .ref C) hX' R.gR rfl rfl ?_
    walk_at "V"
    obtain ⟨dx, u, hi1, _⟩ := tb.rl z hzm
    have gA := GrowX.trans (GrowX.trans g gT) g5
    have ne : z.2.1 ≠ d := fun w => by rw [w, hk] at hi1; cases hi1
    have hi5 := gA.ext _ _ (fun z => z) (show (upd H d (.frz od (.dK (rlK rs)))) z.2.1 = _ by rw [upd_ne ne]; exact hi1) (fun _ w => by cases w)
    refine g_isi hX' (.own C) (.base (.ins hi5 R.cl R.ha R.hn R.ht R.hm)) R.own ?_
    have hv5 := Grow.extN (GrowX.trans gT g5) _ _ hv (fun _ w => by cases w)
    refine ⟨_, hv5, by rw [List.length_map, List.length_replicate, sizeLine_eq]; omega, Grow.intoNew gA (GrowX.lst hv5) (fun _ w => by rw [w]; exact hD), ?_⟩
    rw [upd_same, List.replicate_succ']
    simp
  · rintro H' ⟨g, hv⟩
    obtain ⟨g1, fz⟩ := Grow.unlock hk g
    have hDd : D ≠ d := fun z => by rw [z, upd_same] at hD; cases hD
    walk_at "V"
    have hv1 : (upd H' d (.dK (rlK rs))) D = some (.lst ((List.replicate (rlK rs).length true).map V.bl)) := by rw [upd_ne hDd]; exact hv
    refine g_all hA (SqL.of hv1) ?_
    rw [show (List.replicate (rlK rs).length true).all id = true from by simp]
    exact q _ g1
/-- what a part becomes -/
def sp_pip (m : Md) (C : Addr) (M : Nat) : Sp := fun vs H Q _ => ∃ (v : V) (d : Addr) (rs : Rs) (n : Bool) (z : Str) (w : Int), vs = [v, .ref d] ∧ Tabs m.T H ∧ RTab m C H d rs ∧ (∀ p ∈ rs, p.2.2.dep ≤ M ∧ p.2.2.wf) ∧ Da m.K Any H v (Tm.part n z w).py ∧
  ∀ (u : V) (H' : Hp), Grow m.T H H' → Fr m.K H H' u (Tm.putP (rlT rs) (Tm.part n z w)).py → Q u H'
theorem c_pip {m : Md} {C f : Addr} {fd : FuncData} (F : C8.Def m.K m.mg "_put_in_part" st_x_put_in_part f fd) (b : L2.Binds m.K fd ps_x_put_in_part []) (M : Nat) (St : Cal m (M + 3) "shifted_term" (sp_sterm m M)) (Te : MetX m C8.CX0 (M + 4) C "term" (sp_rterm m C M) []) : Cal m (M + 5) "_put_in_part" (sp_pip m C M) := by
  refine cal_of F b sc_x_put_in_part (fun vs H Q E h => by obtain ⟨_, _, _, _, _, _, rfl, _⟩ := h; rfl) fun X vs H Q E hA h => ?_
  obtain ⟨v, d, rs, n, z, w, rfl, hT, tb, bd, da, q⟩ := h
  replace hA : At m nl_x_put_in_part (C8.fnScope st_x_put_in_part) (M + 4) X := hA
  obtain ⟨n0, n1, n2, n3, n4⟩ := nv_x_put_in_part
  obtain ⟨a, rfl, hs⟩ := da_part da
  walk_at "B"
  refine s_three hA (pg_nl hA n2) (pg_nl hA n3) (pg_nl hA n4) ?_
  walk_at "V"
  refine ⟨a, _, _, _, rfl, hs, ?_⟩
  have ret : ∀ e : Tm.putP (rlT rs) (.part n z w) = .part n z w, Fr m.K H H (.ref a) (Tm.putP (rlT rs) (.part n z w)).py := fun e => by rw [e]; exact ⟨[], dn_parts da, by simp, by simp⟩
  walk_at "B"
  walk_at "V"
  cases n with
  | true =>
    refine iteT ?_
    walk_at "V"
    refine iteT ?_
    walk_at "V"
    exact q _ _ GrowX.refl (ret rfl)
  | false =>
    refine iteF ?_
    walk_at "V"
    refine g_notInD hA tb.at_ ?_
    rw [show valV (rlK rs) (.inr z) = (rs.lookup z).map (fun q => V.ref q.1) from keyed_val _ rs z]
    walk_at "V"
    have ep : Tm.putP (rlT rs) (.part false z w) = Tm.putO ((rs.lookup z).map (·.2)) z w := by rw [← rlT_look]; rfl
    cases e : rs.lookup z with
    | none =>
      refine iteT ?_
      walk_at "V"
      exact q _ _ GrowX.refl (ret (by rw [ep, e]; rfl))
    | some p =>
      obtain ⟨i, t⟩ := p
      have hm := Tm.lookup_mem e
      refine iteF (b_nil ?_)
      walk_at "B"
      walk_at "V"
      refine w_call hA St (by omega) rfl ?_
      refine w_cons (w_met0 (E := C8.E0) hA Te (by omega) C8.pass0 ?_)
      walk_at "V"
      refine g_ixD hA (r := .ref i) (.inl ⟨rlK rs, .inr z, .inl tb.at_, rfl, by rw [show valV (rlK rs) (.inr z) = (rs.lookup z).map (fun q => V.ref q.1) from keyed_val _ rs z, e]; rfl⟩) ?_
      have r := tb.rl _ hm
      have hb := bd _ hm
      have r' := r
      obtain ⟨dx, u0, hi, du⟩ := r'
      refine ⟨i, dx, _, rfl, hi, rfl, i, t, rfl, r, hT, hb.1, hb.2, fun u H1 g1 fr => ?_⟩
      walk_at "V"
      refine ⟨u, w, t, rfl, g1.tab hT, fr.da.sub fun _ _ => trivial, hb.1, hb.2, fun u2 H2 g2 fr2 => ?_⟩
      refine q u2 H2 (g1.trans g2) ?_
      rw [ep, e]
      exact Fr.pre g1 fr2
def sp_put_in (m : Md) (C : Addr) (M : Nat) : Sp := fun vs H Q _ => ∃ (i d : Addr) (t : Tm) (rs : Rs) (G G2 : Nat), vs = [.ref i, .ref d] ∧ RuleAt m C Any H i t ∧ Tabs m.T H ∧ Tm.Gd G t ∧ RTab m C H d rs ∧ (∀ p ∈ rs, p.2.2.dep ≤ M ∧ p.2.2.wf) ∧ Tm.Gd G2 (t.put (rlT rs)) ∧ G ≤ M ∧ 2 * G2 + 1 ≤ M ∧
  ∀ (j : Addr) (H' : Hp), Grow m.T H H' → New H j → RuleAt m C (New H) H' j (t.put (rlT rs)) → Q (.ref j) H'
theorem c_put_in {m : Md} {C CT f : Addr} {fd : FuncData} (F : C8.Def m.K m.mg "put_in" st_put_in f fd) (b : L2.Binds m.K fd ps_put_in []) (L : Tab1 m fd.code ("put_in" ++ ".<locals>." ++ "<lambda>")) (M : Nat) (Nr : Cal m 1 "need_rule" (sp_need_rule m C)) (Ir : Cal m 2 "_is_rule_table" (sp_irt m C)) (Pp : Cal m (M + 5) "_put_in_part" (sp_pip m C M))
    (Rb : Cal m (M + 6 + M + 1) "rebuilt" (sp_rebuilt m (M + 6) M)) (Te : MetX m C8.CX0 (M + 4) C "term" (sp_rterm m C M) []) (Mk : MakX m (L2.CX m.P m.w) (M + 4) "Rule" C (sp_rinit m C CT M) []) : Cal m (M + 6 + M + 2) "put_in" (sp_put_in m C M) := by
  refine cal_ofM F b sc_put_in (fun vs H Q E h => by obtain ⟨_, _, _, _, _, _, rfl, _⟩ := h; rfl) fun X vs H Q E hA hM h => ?_
  obtain ⟨i, d, t, rs, G, G2, rfl, r, hT, gd, tb, bd', gp, hG0, hG, k⟩ := h
  replace hA : At m nl_put_in (C8.fnScope st_put_in) (M + 6 + M + 1) X := hA
  obtain ⟨n0, n1⟩ := nv_put_in
  obtain ⟨cc, P, ec, TB, hm, hu⟩ := L.ex
  walk_at "B"
  walk_at "V"
  refine w_call hA Nr (by omega) rfl ?_
  walk_at "V"
  refine ⟨i, t, rfl, r, ?_⟩
  walk_at "B"
  walk_at "V"
  refine w_call hA Ir (by omega) rfl ?_
  walk_at "V"
  refine ⟨d, rs, rfl, tb, fun H1 g1 => ?_⟩
  walk_at "V"
  refine iteF (b_nil ?_)
  walk_at "B"
  walk_at "V"
  refine w_rule hA Mk (by omega) rfl ?_
  have r1 := r.extN g1.extN
  have tb1 := tb.extN g1.extN
  have hT1 := g1.tab hT
  have hdep := gd.dep
  refine w_lamC (k := M + 5) (kg := M + 6 + M + 1) (T := m.T) (NL := ["part", "rules"]) (ps := ["part"]) (y := "rules") (iy := 1) (v := .ref d) (spw := fun vs H Q E => spCh m (Tm.putP (rlT rs)) vs H Q E ∧ RTab m C H d rs) (spg := sp_rebuilt m (M + 6) M) hA hM TB ec hm hu ?_ ?_ rfl rfl rfl ?_ ?_ ?_ Rb (by omega) rfl ?_
  · exact ⟨rfl, rfl, rfl, by decide, rfl, by decide +kernel, by decide +kernel, by decide +kernel, by decide +kernel⟩
  · decide +kernel
  · intro c' cl pm ctv us hl
    match us, hl with
    | [_], _ => rfl
  · intro vs H Q E z
    obtain ⟨⟨_, _, _, _, rfl, _⟩, _⟩ := z
    rfl
  · intro X' vs H1 Q1 hX z
    obtain ⟨⟨u, n, zz, w, rfl, ht, du, kk⟩, tb1⟩ := z
    have n1 := nl_of hX 0 "part"
    have n2 := nf_of hX 1 "rules"
    refine w_call hX Pp (by omega) rfl ?_
    walk_at "V"
    exact ⟨u, d, rs, n, zz, w, rfl, ht, tb1, bd', du, kk⟩
  · refine w_met0 (E := C8.E0) hA Te (by omega) C8.pass0 ?_
    walk_at "V"
    have r1' := r1
    obtain ⟨dx, u0, hi, du⟩ := r1'
    refine ⟨i, dx, _, rfl, hi, rfl, i, t, rfl, r1, hT1, by omega, gd.wf, fun u H2 g2 fr => ?_⟩
    have hT2 := g2.tab hT1
    refine ⟨hT2, fun f2 ca o H3 nca x kp t2 h2 cal => ?_⟩
    have tb3 := (tb1.extN g2.extN).extN x
    refine ⟨u, f2, t, Tm.putP (rlT rs), rfl, t2, ?_, by omega, gd.wf, cal.imp fun H4 x1 vs Q E z => ?_, fun u2 H4 g4 fr4 => ?_⟩
    · exact Da.mono (fun _ _ => trivial) (fun a xs _ e => Vf.SqL.ext x e) (fun a xs e => Vf.SqT.ext x e) _ _ fr.da
    · obtain ⟨e1, e2⟩ := ch_lock h2 x1 z
      exact ⟨e1, e2, (tb3.extN x1).dl e1⟩
    · have g24 := Grow.undl nca x kp t2 h2 g4
      have fr5 := Fr.undl kp h2 g4 fr4
      have g14 := g2.trans g24
      refine ⟨t.put (rlT rs), G2, fr5.da.sub fun _ _ => trivial, gp, hG, g14.tab hT1, fun j H5 g5 nj ra => ?_⟩
      · have gA := g1.trans g14
        exact k j H5 (gA.trans g5) (gA.keep _ nj) (ra.sub fun a z => gA.keep _ z)
/-- a term whose list is of other terms -/
theorem Tm.over_reb {g : Tm → Tm} {t : Tm} (hp : t.isPart = false) : t.over (Tm.rebs g t.kids) = t.reb g := by
  cases t with
  | part _ _ _ => simp [Tm.isPart] at hp
  | all f ts => rfl
  | rank r ts => rfl
theorem rebs_take {g : Tm → Tm} {ts : List Tm} {j : Nat} {t : Tm} (h : ts[j]? = some t) : Tm.pys (Tm.rebs g (ts.take (j + 1))) = Tm.pys (Tm.rebs g (ts.take j)) ++ [(t.reb g).py] := by
  rw [List.take_add_one, h]
  simp [Tm.rebs_map, Tm.pys_map]
def sp_lmoved (m : Md) (N : Nat) : Sp := fun vs H Q _ => ∃ (v : V) (c : Int) (t : Tm), vs = [v, .int c] ∧ Da m.K Any H v t.py ∧ t.dep ≤ N ∧ t.wf ∧ ∀ (u : V) (H' : Hp), Grow m.T H H' → Da m.K (New H) H' u (t.shift c).py → Q u H'
theorem lmoved_step {m : Md} {f : Addr} {fd : FuncData} (F : C8.Def m.K m.mg "_law_moved" st_moved f fd) (b : L2.Binds m.K fd ps_moved []) (N : Nat) (ih : ∀ M, M + 1 = N → Cal m N "_law_moved" (sp_lmoved m M)) : Cal m (N + 1) "_law_moved" (sp_lmoved m N) := by
  refine cal_ofM F b sc_moved (fun vs H Q E h => by obtain ⟨_, _, _, rfl, _⟩ := h; rfl) fun X vs H Q E hA hM h => ?_
  obtain ⟨v, c, t, rfl, d, hd, hw, k⟩ := h
  obtain ⟨n0, n1⟩ := nv_moved
  obtain ⟨a0, ys, e0, hs0, hx0⟩ := da_word d
  walk_at "B"
  walk_at "V"
  subst e0
  refine g_ixT hA hs0 (atI_at (j := 0) hx0) ?_
  walk_at "V"
  refine ⟨by walk_at "S", fun p hp => ?_⟩
  have g1 := Grow.new (T := m.T) (o := .tup [.str ("of" : Str), .str ("now" : Str)]) hp
  refine g_inF hA (.inr (SqT.of upd_same)) rfl rfl ?_
  rw [kw_part]
  walk_at "V"
  refine ite2 (fun h0 => ?_) fun h0 => ?_
  · cases t with
    | all _ _ => simp [Tm.isPart] at h0
    | rank _ _ => simp [Tm.isPart] at h0
    | part n z w =>
      obtain ⟨a, ea, hs⟩ := da_part (g1.da d)
      cases ea
      walk_at "V"
      refine g_ixT hA hs (atI_at (j := 0) rfl) ?_
      walk_at "V"
      refine g_ixT hA hs (atI_at (j := 1) rfl) ?_
      walk_at "V"
      refine g_ixT hA hs (atI_at (j := 2) rfl) ?_
      walk_at "V"
      refine ⟨by walk_at "S", fun p2 hp2 => ?_⟩
      exact k _ _ (g1.trans (Grow.new hp2)) (.tup (SqT.of upd_same) (.cons (.str _) (.cons (.str _) (.cons (.int _) .nil))))
  · have hp0 : t.isPart = false := by simpa using h0
    obtain ⟨w1, w2, w3⟩ := Tm.kids_wf hw hp0
    have hdep := Tm.kids_dep hp0
    obtain ⟨a, l, hd', xs, ea, _, hs, n1', n2', _, hl, da, mk, mkn⟩ := da_kids (g1.da d) hp0
    cases ea
    obtain ⟨M, rfl⟩ : ∃ M, M + 1 = N := ⟨N - 1, by omega⟩
    have hxl : xs.length = t.kids.length := by rw [da.length, Tm.pys_length]
    refine b_nil ?_
    walk_at "B"
    walk_at "V"
    refine w_sliceToT hA ?_
    walk_at "V"
    refine ⟨a0, _, rfl, hs, six_last _ _, fun q hq => ?_⟩
    rw [cut_last]
    have g2 := Grow.new (T := m.T) (o := .tup hd') hq
    walk_at "V"
    refine w_lcL hA (by decide +kernel) (i := 2) ⟨rfl, rfl⟩ ?_
    walk_at "V"
    refine g_ixT hA (GrowX.seqT g2 hs) (at_last _ _) ?_
    refine ⟨l, xs, rfl, GrowX.seqL g2 hl (fun z => z), fun D1 hD1 => ?_⟩
    have g12 := g1.trans g2
    have hD0 : New H D1 := GrowX.keep g12 _ hD1
    refine ⟨fun j H4 => ∃ (us : List V), us.length = j ∧ H4 D1 = some (.lst us) ∧ DaAll m.K (fun a => New H a ∧ a ≠ D1) H4 us (Tm.pys (Tm.rebs (Tm.shP c) (t.kids.take j))) ∧ Grow m.T (upd (upd H p (.tup [.str ("of" : Str), .str ("now" : Str)])) q (.tup hd')) H4, ?_, ?_, ?_, ?_⟩
    · exact ⟨[], rfl, upd_same, .nil, Grow.new hD1⟩
    · rintro j H4 _ ⟨_, _, _, _, g4⟩
      exact GrowX.seqL (g2.trans g4) hl fun z => z
    · rintro j x H4 hx ⟨us, ul, hu, du, g4⟩ X' hX'
      have c1 := nc_of hX' 1 "_law_by"
      have c2 := nl_of hX' 2 "_law_one"
      have hj : j < t.kids.length := by rw [← hxl]; exact (List.getElem?_eq_some_iff.1 hx).1
      obtain ⟨pd, hpd, dx⟩ := da.getV hx
      rw [Tm.pys_map, List.getElem?_map] at hpd
      obtain ⟨tj, htj, rfl⟩ := Option.map_eq_some_iff.1 hpd
      have htm := List.mem_of_getElem? htj
      refine w_call hX' (ih M rfl) (by omega) rfl ?_
      walk_at "V"
      refine ⟨x, c, tj, rfl, Grow.da (g2.trans g4) dx, by have := Tm.dep_mem htm; omega, Tm.wfs_iff.1 w3 tj htm, fun u H5 g5 d5 => ?_⟩
      have hu5 : H5 D1 = some (.lst us) := g5.extN _ _ hu (fun _ w => by cases w)
      have gX := GrowX.lst (T := m.T) (ys := us ++ [u]) hu5
      refine ⟨us, hu5, by rw [ul, sizeLine_eq]; omega, us ++ [u], by simp [ul], upd_same, ?_, Grow.intoNew (g4.trans g5) gX fun c w => by rw [w]; exact hD1⟩
      rw [rebs_take htj]
      refine gX.daAll (DaAll.append (g5.daAll du) (.cons (d5.sub fun a z => ⟨GrowX.keep g12 _ (g4.keep _ z), fun w => ?_⟩) .nil)) fun a z => z.2
      rw [w] at z
      rw [show H4 D1 = none from z] at hu; cases hu
    · rintro H4 ⟨us, ul, hu, du, g4⟩
      rw [hxl, List.take_length] at du
      walk_at "V"
      refine ⟨by walk_at "S", fun r hr => ?_⟩
      have g5 := Grow.new (T := m.T) (o := .tup [.ref D1]) hr
      refine g_catT hA (GrowX.seqT g5 (GrowX.seqT g4 (SqT.of upd_same))) (SqT.of upd_same) n1' (by simp) (by simp only [List.length_singleton, sizeLine_eq]; omega) fun r2 hr2 => ?_
      have g6 := Grow.new (T := m.T) (o := .tup (hd' ++ [.ref D1])) hr2
      have gAll := ((g12.trans g4).trans g5).trans g6
      have res := mk (New H) _ r2 D1 us (Tm.rebs (Tm.shP c) t.kids) (SqT.of upd_same) hD0 (SqL.of (Grow.extN (g5.trans g6) _ _ hu (fun _ w => by cases w))) ((Grow.daAll (g5.trans g6) du).sub fun a z => z.1)
      rw [Tm.over_reb hp0] at res
      exact k _ _ gAll res
theorem c_lmoved {m : Md} {f : Addr} {fd : FuncData} (F : C8.Def m.K m.mg "_law_moved" st_moved f fd) (b : L2.Binds m.K fd ps_moved []) : ∀ N, Cal m (N + 1) "_law_moved" (sp_lmoved m N) := by
  intro N
  induction N with
  | zero => exact lmoved_step F b 0 fun M e => by omega
  | succ N ih =>
    refine lmoved_step F b (N + 1) fun M e => ?_
    obtain rfl : M = N := by omega
    exact ih
theorem str_ne2 : ("first" : Str) ≠ "last" := by decide +kernel
/-- the law's own mirrored term -/
def sp_lmir (m : Md) (N : Nat) : Sp := sp_mterm m N
theorem lmir_step {m : Md} {f : Addr} {fd : FuncData} (F : C8.Def m.K m.mg "_law_mirrored" st_l_mirrored f fd) (b : L2.Binds m.K fd ps_l_mirrored []) (hlen : m.mg "len" = none) (N : Nat) (ih : ∀ M, M + 1 = N → Cal m N "_law_mirrored" (sp_lmir m M)) : Cal m (N + 1) "_law_mirrored" (sp_lmir m N) := by
  refine cal_of F b sc_l_mirrored (fun vs H Q E h => by obtain ⟨_, _, rfl, _⟩ := h; rfl) fun X vs H Q E hA h => ?_
  obtain ⟨v, t, rfl, d, hdp, hw, q⟩ := h
  obtain ⟨n0, n1⟩ := nv_l_mirrored
  obtain ⟨a0, ys, e0, hs0, hx0⟩ := da_word d
  walk_at "B"
  walk_at "V"
  subst e0
  refine g_ixT hA hs0 (atI_at (j := 0) hx0) ?_
  walk_at "V"
  refine ⟨by walk_at "S", fun p hp => ?_⟩
  have g1 := Grow.new (T := m.T) (o := .tup [.str ("of" : Str), .str ("now" : Str)]) hp
  refine g_inF hA (.inr (SqT.of upd_same)) rfl rfl ?_
  rw [kw_part]
  generalize upd H p (.tup [.str ("of" : Str), .str ("now" : Str)]) = H1 at g1 ⊢
  walk_at "V"
  refine ite2 (fun h0 => ?_) fun h0 => ?_
  · cases t with
    | all _ _ => simp [Tm.isPart] at h0
    | rank _ _ => simp [Tm.isPart] at h0
    | part n z w =>
      obtain ⟨a, ea, hs⟩ := da_part (g1.da d)
      cases ea
      walk_at "V"
      refine g_ixT hA hs (atI_at (j := 0) rfl) ?_
      walk_at "V"
      refine g_ixT hA hs (atI_at (j := 1) rfl) ?_
      walk_at "V"
      refine g_ixT hA hs (atI_at (j := 2) rfl) ?_
      walk_at "V"
      refine ⟨by walk_at "S", fun p hp => ?_⟩
      rw [Int.zero_sub]
      exact q _ _ (g1.trans (Grow.new hp)) (.tup (SqT.of upd_same) (.cons (.str _) (.cons (.str _) (.cons (.int _) .nil))))
  · have hp : t.isPart = false := by simpa using h0
    refine b_nil ?_
    obtain ⟨M, rfl⟩ : ∃ M, M + 1 = N := ⟨N - 1, by have := Tm.kids_dep hp; omega⟩
    obtain ⟨a, l, xs, ea, hs, hl, da⟩ := da_kid2 (g1.da d) hp
    cases ea
    obtain ⟨kne, klen, kwf⟩ := Tm.kids_wf hw hp
    have kdep := Tm.kids_dep hp
    have hxl : xs.length = t.kids.length := by rw [da.length, Tm.pys_length]
    walk_at "B"
    refine s_lcL hA n1 (by decide +kernel) (i := 2) ⟨rfl, rfl⟩ ?_
    walk_at "V"
    refine g_ixT hA hs (at_last _ _) ?_
    refine ⟨l, xs, rfl, hl, fun D1 hD1 => ⟨fun j H4 => Grow m.T H1 H4 ∧ ∃ us, us.length = j ∧ H4 D1 = some (.lst us) ∧ DaAll m.K (fun a => New H a ∧ a ≠ D1) H4 us (Tm.pys (Tm.mirs (t.kids.take j))), ⟨Grow.new hD1, [], rfl, upd_same, .nil⟩, fun j H4 _ hp4 => GrowX.seqL hp4.1 hl fun z => z, ?_, ?_⟩⟩
    · rintro j x H4 hx ⟨g4, us, ul, hv, du⟩ X' hX'
      have c2 := nl_of hX' 2 "_law_one"
      obtain ⟨pd, hpd, dx⟩ := da.getV hx
      rw [Tm.pys_map, List.getElem?_map] at hpd
      obtain ⟨tj, htj, rfl⟩ := Option.map_eq_some_iff.1 hpd
      have htm := List.mem_of_getElem? htj
      have hj : j < t.kids.length := by rw [← hxl]; exact (List.getElem?_eq_some_iff.1 hx).1
      refine w_call hX' (ih M rfl) (by omega) rfl ?_
      walk_at "V"
      refine ⟨x, tj, rfl, g4.da dx, by have := Tm.dep_mem htm; omega, Tm.wfs_iff.1 kwf tj htm, fun u H5 g5 d5 => ?_⟩
      have hv5 := g5.extN _ _ hv (fun _ w => by cases w)
      have gX := GrowX.lst (T := m.T) (ys := us ++ [u]) hv5
      refine ⟨_, hv5, by rw [ul, sizeLine_eq]; omega, Grow.intoNew (g4.trans g5) gX (fun _ w => by rw [w]; exact hD1), us ++ [u], by simp [ul], upd_same, ?_⟩
      rw [mirs_take htj]
      refine gX.daAll (DaAll.append (g5.daAll du) (.cons (d5.sub fun a z => ⟨g1.keep _ (g4.keep _ z), fun w => ?_⟩) .nil)) fun a z => z.2
      rw [w] at z
      rw [show H4 D1 = none from z] at hv; cases hv
    · rintro H4 ⟨g4, us, ul, hv, du⟩
      rw [hxl, List.take_length] at du
      have hs4 := g4.seqT hs
      have g14 := g1.trans g4
      have nD : New H D1 := g1.keep _ hD1
      have du' := du.sub (A' := New H) fun a z => z.1
      walk_at "B"
      walk_at "V"
      refine g_ixT hA hs4 (atI_at (j := 0) (hdv_word hp l)) ?_
      walk_at "V"
      cases t with
      | part _ _ _ => simp [Tm.isPart] at hp
      | rank r ts =>
        rw [if_pos (by show decide (("rank" : Str) = "rank") = true; decide +kernel)]
        walk_at "V"
        refine g_blt hA hlen rfl bt_len ?_
        walk_at "V"
        refine g_lenL hA (SqL.of hv) ?_
        walk_at "V"
        refine g_ixT hA hs4 (atI_at (j := 1) rfl) ?_
        walk_at "V"
        refine ⟨by walk_at "S", fun p hpn => ?_⟩
        have g5 := Grow.new (T := m.T) (o := .tup [.str ("rank" : Str), .int (1 + (us.length : Int) - r), .ref D1]) hpn
        refine q _ _ (g14.trans g5) ?_
        have e : us.length = ts.length := by rw [ul, hxl]; rfl
        rw [e, Int.add_comm 1] at g5 ⊢
        exact .tup (SqT.of upd_same) (.cons (.str _) (.cons (.int _) (.cons (.lst nD (SqL.of (g5.extN _ _ hv (fun _ w => by cases w))) (g5.daAll du')) .nil)))
      | all f ts =>
        rw [if_neg (by show ¬ (decide ((if f = true then ("first" : Str) else "last") = "rank") = true); cases f <;> decide +kernel)]
        refine b_nil ?_
        walk_at "B"
        walk_at "V"
        refine w_disp2 fun dd hdd => ?_
        walk_at "V"
        refine ⟨upd_same, _, _, rfl, rfl, by decide +kernel, ?_⟩
        have g5 : Grow m.T H4 (upd (upd H4 dd (.dK [])) dd (.dK [(.inr "first", .str "last"), (.inr "last", .str "first")])) := by rw [upd_upd]; exact Grow.new hdd
        have hdd5 := upd_same (H := upd H4 dd (.dK [])) (a := dd) (o := .dK [(.inr "first", .str "last"), (.inr "last", .str "first")])
        generalize upd (upd H4 dd (.dK [])) dd (.dK [(.inr "first", .str "last"), (.inr "last", .str "first")]) = H5 at g5 hdd5 ⊢
        walk_at "V"
        refine g_ixT hA (g5.seqT hs4) (atI_at (j := 0) rfl) ?_
        refine g_ixD hA (r := .str (if !f then "first" else "last")) (.inl ⟨_, .inr (if f then "first" else "last"), .inl hdd5, rfl, by cases f; exact (two_val str_ne2 (.str "last") (.str "first")).2; exact (two_val str_ne2 (.str "last") (.str "first")).1⟩) ?_
        walk_at "V"
        refine ⟨by walk_at "S", fun p hpn => ?_⟩
        have g6 := g5.trans (Grow.new (T := m.T) (o := .tup [.str (if !f then ("first" : Str) else "last"), .ref D1]) hpn)
        refine q _ _ (g14.trans g6) ?_
        exact .tup (SqT.of upd_same) (.cons (.str _) (.cons (.lst nD (SqL.of (Grow.extN g6 _ _ hv (fun _ w => by cases w))) (Grow.daAll g6 du')) .nil))
theorem c_lmir {m : Md} {f : Addr} {fd : FuncData} (F : C8.Def m.K m.mg "_law_mirrored" st_l_mirrored f fd) (b : L2.Binds m.K fd ps_l_mirrored []) (hlen : m.mg "len" = none) : ∀ N, Cal m (N + 1) "_law_mirrored" (sp_lmir m N) := by
  intro N
  induction N with
  | zero => exact lmir_step F b hlen 0 fun M e => by omega
  | succ N ih =>
    refine lmir_step F b hlen (N + 1) fun M e => ?_
    obtain rfl : M = N := by omega
    exact ih
/-- terms by name, as a dict has them -/
abbrev Ts := List (Str × V × Tm)
def tlK (ts : Ts) : List (Key × V) := keyed (fun q : V × Tm => q.1) ts
def tlT (ts : Ts) : List (Str × Tm) := ts.map fun p => (p.1, p.2.2)
theorem tlT_look (ts : Ts) (z : Str) : (tlT ts).lookup z = (ts.lookup z).map (·.2) := look_map (fun q : V × Tm => q.2) ts z
theorem tlK_val (ts : Ts) (z : Str) : valV (tlK ts) (.inr z) = (ts.lookup z).map (·.1) := keyed_val _ ts z
structure TTab (m : Md) (A : Addr → Prop) (H : Hp) (d : Addr) (ts : Ts) : Prop where
  at_ : H d = some (.dK (tlK ts))
  tm : ∀ p ∈ ts, Da m.K A H p.2.1 p.2.2.py
theorem TTab.grow {m : Md} {A : Addr → Prop} {H H' : Hp} {d : Addr} {ts : Ts} (g : Grow m.T H H') (h : TTab m A H d ts) : TTab m A H' d ts := ⟨g.extN _ _ h.at_ (fun _ w => by cases w), fun p hp => g.da (h.tm p hp)⟩
def sp_lput (m : Md) (L N : Nat) : Sp := fun vs H Q _ => ∃ (v : V) (d : Addr) (t : Tm) (ts : Ts), vs = [v, .ref d] ∧ Da m.K Any H v t.py ∧ t.dep ≤ N ∧ t.wf ∧ TTab m Any H d ts ∧ (∀ p ∈ ts, p.2.2.dep ≤ L ∧ p.2.2.wf) ∧ ∀ (u : V) (H' : Hp), Grow m.T H H' → Da m.K (New H) H' u (t.put (tlT ts)).py → Q u H'
theorem lput_step {m : Md} {f : Addr} {fd : FuncData} (F : C8.Def m.K m.mg "_law_put" st_put f fd) (b : L2.Binds m.K fd ps_put []) (L : Nat) (Mo : Cal m (L + 1) "_law_moved" (sp_lmoved m L)) (N : Nat) (ih : ∀ M, M + 1 = N → Cal m (L + 1 + N) "_law_put" (sp_lput m L M)) : Cal m (L + 1 + N + 1) "_law_put" (sp_lput m L N) := by
  refine cal_ofM F b sc_put (fun vs H Q E h => by obtain ⟨_, _, _, _, rfl, _⟩ := h; rfl) fun X vs H Q E hA hM h => ?_
  obtain ⟨v, d, t, ts, rfl, da0, hd, hw, tb, bd, k⟩ := h
  obtain ⟨n0, n1⟩ := nv_put
  walk_at "B"
  walk_at "V"
  cases hp0 : t.isPart with
  | true =>
    cases t with
    | all _ _ => simp [Tm.isPart] at hp0
    | rank _ _ => simp [Tm.isPart] at hp0
    | part n z w =>
      obtain ⟨a, rfl, hs⟩ := da_part da0
      have ret : Da m.K (New H) H (.ref a) (Tm.part n z w).py := .tup hs (.cons (.str _) (.cons (.str _) (.cons (.int _) .nil)))
      have ep : Tm.putP (tlT ts) (.part false z w) = Tm.putO ((ts.lookup z).map (·.2)) z w := by rw [← tlT_look]; rfl
      -- what stays is told
      have stay : ∀ (e : Tm.putP (tlT ts) (.part n z w) = .part n z w), wB X ((C8.fnBody st_put).drop 1) { nx := fun _ H' => Q .non H', rt := Q } (start nl_put [.ref a, .ref d]) H := fun e => by
        walk_at "B"
        walk_at "V"
        refine g_ixT hA hs (atI_at (j := 0) rfl) ?_
        walk_at "V"
        refine ⟨by walk_at "S", fun p hp => ?_⟩
        have g1 := Grow.new (T := m.T) (o := .tup [.str ("of" : Str), .str ("now" : Str)]) hp
        refine g_inF hA (.inr (SqT.of upd_same)) rfl rfl ?_
        rw [show inV (.str (if n = true then "now" else "of")) [.str "of", .str "now"] = true from kw_part (.part n z w)]
        walk_at "V"
        refine iteT ?_
        walk_at "V"
        refine k _ _ g1 (Grow.da g1 ?_)
        show Da m.K (New H) H (.ref a) (Tm.putP (tlT ts) (.part n z w)).py
        rw [e]
        exact ret
      refine g_ixT hA hs (atI_at (j := 0) rfl) ?_
      walk_at "V"
      cases n with
      | true =>
        rw [if_neg (by decide +kernel)]
        refine iteF (b_nil ?_)
        exact stay rfl
      | false =>
        rw [if_pos (by decide +kernel)]
        walk_at "V"
        refine g_ixT hA hs (atI_at (j := 1) rfl) ?_
        walk_at "V"
        refine g_inD hA tb.at_ ?_
        rw [tlK_val]
        walk_at "V"
        cases e : ts.lookup z with
        | none =>
          refine iteF (b_nil ?_)
          exact stay (by rw [ep, e]; rfl)
        | some p =>
          obtain ⟨u, t⟩ := p
          have hm := Tm.lookup_mem e
          have hb := bd _ hm
          refine iteT ?_
          walk_at "V"
          refine w_call hA Mo (by omega) rfl ?_
          walk_at "V"
          refine g_ixT hA hs (atI_at (j := 1) rfl) ?_
          refine g_ixD hA (r := u) (.inl ⟨tlK ts, .inr z, .inl tb.at_, rfl, by rw [tlK_val, e]; rfl⟩) ?_
          walk_at "V"
          refine g_ixT hA hs (atI_at (j := 2) rfl) ?_
          walk_at "V"
          refine ⟨u, w, t, rfl, tb.tm _ hm, hb.1, hb.2, fun u2 H2 g2 d2 => ?_⟩
          refine k u2 H2 g2 ?_
          show Da m.K (New H) H2 u2 (Tm.putP (tlT ts) (.part false z w)).py
          rw [ep, e]
          exact d2
  | false =>
    obtain ⟨a0, ys, e0, hs0, hx0⟩ := da_word da0
    have hkw := kw_no hp0
    subst e0
    refine g_ixT hA hs0 (atI_at (j := 0) hx0) ?_
    walk_at "V"
    rw [if_neg (by simpa using hkw.1)]
    refine iteF (b_nil ?_)
    walk_at "B"
    walk_at "V"
    refine g_ixT hA hs0 (atI_at (j := 0) hx0) ?_
    walk_at "V"
    refine ⟨by walk_at "S", fun p hp => ?_⟩
    have g1 := Grow.new (T := m.T) (o := .tup [.str ("of" : Str), .str ("now" : Str)]) hp
    refine g_inF hA (.inr (SqT.of upd_same)) rfl rfl ?_
    rw [kw_part, hp0]
    walk_at "V"
    obtain ⟨w1, w2, w3⟩ := Tm.kids_wf hw hp0
    have hdep := Tm.kids_dep hp0
    obtain ⟨a, l, hd', xs, ea, _, hs, n1', n2', _, hl, da, mk, mkn⟩ := da_kids (g1.da da0) hp0
    cases ea
    obtain ⟨M, rfl⟩ : ∃ M, M + 1 = N := ⟨N - 1, by omega⟩
    have hxl : xs.length = t.kids.length := by rw [da.length, Tm.pys_length]
    refine iteF (b_nil ?_)
    walk_at "B"
    walk_at "V"
    refine w_sliceToT hA ?_
    walk_at "V"
    refine ⟨a0, _, rfl, hs, six_last _ _, fun q hq => ?_⟩
    rw [cut_last]
    have g2 := Grow.new (T := m.T) (o := .tup hd') hq
    walk_at "V"
    refine w_lcL hA (by decide +kernel) (i := 2) ⟨rfl, rfl⟩ ?_
    walk_at "V"
    refine g_ixT hA (GrowX.seqT g2 hs) (at_last _ _) ?_
    refine ⟨l, xs, rfl, GrowX.seqL g2 hl (fun z => z), fun D1 hD1 => ?_⟩
    have g12 := g1.trans g2
    have hD0 : New H D1 := GrowX.keep g12 _ hD1
    refine ⟨fun j H4 => ∃ (us : List V), us.length = j ∧ H4 D1 = some (.lst us) ∧ DaAll m.K (fun a => New H a ∧ a ≠ D1) H4 us (Tm.pys (Tm.rebs (Tm.putP (tlT ts)) (t.kids.take j))) ∧ Grow m.T (upd (upd H p (.tup [.str ("of" : Str), .str ("now" : Str)])) q (.tup hd')) H4, ?_, ?_, ?_, ?_⟩
    · exact ⟨[], rfl, upd_same, .nil, Grow.new hD1⟩
    · rintro j H4 _ ⟨_, _, _, _, g4⟩
      exact GrowX.seqL (g2.trans g4) hl fun z => z
    · rintro j x H4 hx ⟨us, ul, hu, du, g4⟩ X' hX'
      have c1 := nc_of hX' 1 "_law_terms"
      have c2 := nl_of hX' 2 "_law_one"
      have hj : j < t.kids.length := by rw [← hxl]; exact (List.getElem?_eq_some_iff.1 hx).1
      obtain ⟨pd, hpd, dx⟩ := da.getV hx
      rw [Tm.pys_map, List.getElem?_map] at hpd
      obtain ⟨tj, htj, rfl⟩ := Option.map_eq_some_iff.1 hpd
      have htm := List.mem_of_getElem? htj
      refine w_call hX' (ih M rfl) (by omega) rfl ?_
      walk_at "V"
      refine ⟨x, d, tj, ts, rfl, Grow.da (g2.trans g4) dx, by have := Tm.dep_mem htm; omega, Tm.wfs_iff.1 w3 tj htm, tb.grow (g12.trans g4), bd, fun u H5 g5 d5 => ?_⟩
      have hu5 : H5 D1 = some (.lst us) := g5.extN _ _ hu (fun _ w => by cases w)
      have gX := GrowX.lst (T := m.T) (ys := us ++ [u]) hu5
      refine ⟨us, hu5, by rw [ul, sizeLine_eq]; omega, us ++ [u], by simp [ul], upd_same, ?_, Grow.intoNew (g4.trans g5) gX fun c w => by rw [w]; exact hD1⟩
      rw [rebs_take htj]
      refine gX.daAll (DaAll.append (g5.daAll du) (.cons (d5.sub fun a z => ⟨GrowX.keep g12 _ (g4.keep _ z), fun w => ?_⟩) .nil)) fun a z => z.2
      rw [w] at z
      rw [show H4 D1 = none from z] at hu; cases hu
    · rintro H4 ⟨us, ul, hu, du, g4⟩
      rw [hxl, List.take_length] at du
      walk_at "V"
      refine ⟨by walk_at "S", fun r hr => ?_⟩
      have g5 := Grow.new (T := m.T) (o := .tup [.ref D1]) hr
      refine g_catT hA (GrowX.seqT g5 (GrowX.seqT g4 (SqT.of upd_same))) (SqT.of upd_same) n1' (by simp) (by simp only [List.length_singleton, sizeLine_eq]; omega) fun r2 hr2 => ?_
      have g6 := Grow.new (T := m.T) (o := .tup (hd' ++ [.ref D1])) hr2
      have gAll := ((g12.trans g4).trans g5).trans g6
      have res := mk (New H) _ r2 D1 us (Tm.rebs (Tm.putP (tlT ts)) t.kids) (SqT.of upd_same) hD0 (SqL.of (Grow.extN (g5.trans g6) _ _ hu (fun _ w => by cases w))) ((Grow.daAll (g5.trans g6) du).sub fun a z => z.1)
      rw [Tm.over_reb hp0] at res
      exact k _ _ gAll res
theorem c_lput {m : Md} {f : Addr} {fd : FuncData} (F : C8.Def m.K m.mg "_law_put" st_put f fd) (b : L2.Binds m.K fd ps_put []) (L : Nat) (Mo : Cal m (L + 1) "_law_moved" (sp_lmoved m L)) : ∀ N, Cal m (L + 1 + N + 1) "_law_put" (sp_lput m L N) := by
  intro N
  induction N with
  | zero => exact lput_step F b L Mo 0 fun M e => by omega
  | succ N ih =>
    refine lput_step F b L Mo (N + 1) fun M e => ?_
    obtain rfl : M = N := by omega
    exact ih
/-- hours read from the other end of time -/
def negK (kz : List (Str × Int)) : List (Str × Int) := kz.map fun p => (p.1, -p.2)
theorem negK_keys (kz : List (Str × Int)) : (negK kz).map (·.1) = kz.map (·.1) := by simp [negK]
theorem negK_get : ∀ (kz : List (Str × Int)) (z : Str), (negK kz).lookup z = (kz.lookup z).map (fun x => -x) := fun kz z => look_map (fun x : Int => -x) kz z
def sp_turned (m : Md) : Sp := fun vs H Q _ => ∃ (a : Addr) (kz : List (Str × Int)), vs = [.ref a] ∧ H a = some (.dK (hrK kz)) ∧ (kz.map (·.1)).Nodup ∧ kz.length < 1000 ∧
  ∀ (d : Addr) (H' : Hp), Grow m.T H H' → New H d → H' d = some (.dK (hrK (negK kz))) → Q (.ref d) H'
theorem c_turned {m : Md} {f : Addr} {fd : FuncData} (F : C8.Def m.K m.mg "_law_turned" st_turned f fd) (b : L2.Binds m.K fd ps_turned []) (hd : m.mg "dict" = none) : Cal m 1 "_law_turned" (sp_turned m) := by
  refine cal_of F b sc_turned (fun vs H Q E h => by obtain ⟨_, _, rfl, _⟩ := h; rfl) fun X vs H Q E hA h => ?_
  obtain ⟨a, kz, rfl, ha, nd, lk, q⟩ := h
  have n0 := nv_turned
  walk_at "B"
  walk_at "V"
  refine g_typ hA hd rfl bt_dict ?_
  refine w_cons (w_lcDk hA (by decide +kernel) (i := 1) ⟨rfl, rfl⟩ ?_)
  refine ⟨a, hrK kz, ha, fun od => ?_⟩
  walk_at "V"
  refine ⟨rfl, rfl, fun L hL => ?_⟩
  refine ⟨fun t H4 => Grow m.T (upd H a (.frz od (.dK (hrK kz)))) H4 ∧ ∃ (ps : List Addr), H4 L = some (.lst (ps.map V.ref)) ∧ Paired (fun p kv => SqT m.K H4 p [kV kv.1, kv.2]) ps (hrK (negK (kz.take t))), ?_, fun t H4 _ hp => hp.1.frz _ _ _ upd_same, ?_, ?_⟩
  · exact ⟨Grow.new hL, [], upd_same, .nil⟩
  · rintro t x H4 hx ⟨g4, ps, hv, pr⟩ X' hX'
    obtain ⟨z, hz, rfl⟩ := hrK_get hx
    have htl := (List.getElem?_eq_some_iff.1 hz).1
    have c0 := nc_of hX' 0 "_law_hours_here"
    have c2 := nl_of hX' 1 "_law_name"
    walk_at "V"
    have fz := g4.frz _ _ _ upd_same
    refine g_ixD hX' (r := .int z.2) (.inl ⟨hrK kz, .inr z.1, .inr ⟨od, fz⟩, rfl, by rw [hrK_val, nd_lookup nd hz]; rfl⟩) ?_
    walk_at "V"
    refine ⟨by walk_at "S", fun T hT => ?_⟩
    rw [Int.zero_sub] at *
    have gT := Grow.new (T := m.T) (o := .tup [.str z.1, .int (-z.2)]) hT
    have hv5 := gT.extN _ _ hv (fun _ w => by cases w)
    have gX := GrowX.lst (T := m.T) (ys := ps.map V.ref ++ [V.ref T]) hv5
    have lps : ps.length = t := by
      have := pr.length
      rw [hrK_len, negK, List.length_map, List.length_take] at this
      omega
    refine ⟨_, hv5, by rw [List.length_map, sizeLine_eq]; omega, Grow.intoNew (GrowX.trans g4 gT) gX (fun c z => by rw [z]; exact hL), ps ++ [T], by rw [upd_same, List.map_append]; rfl, ?_⟩
    have := paired_snoc (prs_grow gT pr) (x := T) (y := ((Sum.inr z.1 : Key), V.int (-z.2))) (SqT.of upd_same)
    have e : hrK (negK (kz.take (t + 1))) = hrK (negK (kz.take t)) ++ [(Sum.inr z.1, V.int (-z.2))] := by rw [List.take_add_one, hz]; simp [hrK, negK]
    rw [e]
    exact prs_grow gX this
  · rintro H4 ⟨g4, ps, hv, pr⟩
    rw [hrK_len, List.take_length] at pr
    obtain ⟨g1, fz⟩ := Grow.unlock ha g4
    have hLa : L ≠ a := fun z => by rw [z, upd_same] at hL; cases hL
    walk_at "V"
    have hv1 : (upd H4 a (.dK (hrK kz))) L = some (.lst (ps.map V.ref)) := by rw [upd_ne hLa]; exact hv
    have pr1 : Paired (fun p kv => SqT m.K (upd H4 a (.dK (hrK kz))) p [kV kv.1, kv.2]) ps (hrK (negK kz)) := by
      refine Paired.mapP pr fun p kv z => ?_
      rcases z with (z | ⟨o, z⟩) | z
      · exact .inl (.inl (by rw [upd_ne (fun w => by rw [w, fz] at z; cases z)]; exact z))
      · refine .inl (.inr ⟨o, ?_⟩)
        rw [upd_ne (fun w => by rw [w, fz] at z; injection z with z; cases z)]
        exact z
      · exact .inr z
    refine g_dictP hA (SqL.of hv1) pr1 fun d hd => ?_
    rw [merge_hr (by rw [negK_keys]; exact nd)]
    exact q d _ (GrowX.trans g1 (Grow.new hd)) (g1.keep _ hd) upd_same
namespace Tm
mutual
theorem prt_shift (c : Int) : ∀ t, prt (reb (shP c) t) = (prt t).map fun p => (p.1, p.2.1, p.2.2 + c)
  | .part n z w => rfl
  | .all f ts => by rw [reb, prt, prt, prts_shift c ts]
  | .rank r ts => by rw [reb, prt, prt, prts_shift c ts]
theorem prts_shift (c : Int) : ∀ ts, prts (rebs (shP c) ts) = (prts ts).map fun p => (p.1, p.2.1, p.2.2 + c)
  | [] => rfl
  | t :: ts => by rw [rebs, prts, prts, prt_shift c t, prts_shift c ts, List.map_append]
end
mutual
theorem prt_mir : ∀ t, prt (mir t) = (prt t).map fun p => (p.1, p.2.1, -p.2.2)
  | .part n z w => rfl
  | .all f ts => by rw [mir, prt, prt, prts_mir ts]
  | .rank r ts => by rw [mir, prt, prt, prts_mir ts]
theorem prts_mir : ∀ ts, prts (mirs ts) = (prts ts).map fun p => (p.1, p.2.1, -p.2.2)
  | [] => rfl
  | t :: ts => by rw [mirs, prts, prts, prt_mir t, prts_mir ts, List.map_append]
end
theorem nam_map {b : Bool} {t u : Tm} {f : Int → Int} (e : prt u = (prt t).map fun p => (p.1, p.2.1, f p.2.2)) {z : Str} : z ∈ nam b u ↔ z ∈ nam b t := by
  rw [nam_mem, nam_mem, e]
  constructor
  · rintro ⟨w, h⟩
    obtain ⟨⟨b', z', w'⟩, h1, h2⟩ := List.mem_map.1 h
    simp only [Prod.mk.injEq] at h2
    obtain ⟨rfl, rfl, _⟩ := h2
    exact ⟨w', h1⟩
  · rintro ⟨w, h⟩
    exact ⟨f w, List.mem_map.2 ⟨_, h, rfl⟩⟩
theorem cnt_map {t u : Tm} {f : Int → Int} (e : prt u = (prt t).map fun p => (p.1, p.2.1, f p.2.2)) : cnt u = cnt t := by
  rw [← prt_len, e, List.length_map, prt_len]
end Tm
theorem hrs_neg (kz : List (Str × Int)) : hrs (negK kz) = fun z => -hrs kz z := by
  funext z
  unfold hrs
  rw [negK_get]
  cases kz.lookup z <;> simp
/-- hours of just the names, at a dict -/
structure HAt (H : Hp) (d : Addr) (kz : List (Str × Int)) (zs : List Str) : Prop where
  at_ : H d = some (.dK (hrK kz))
  keys : kz.map (·.1) = zs
theorem lookup_in : ∀ {kz : List (Str × Int)} {z : Str}, z ∈ kz.map (·.1) ↔ (kz.lookup z).isSome = true
  | [], z => by simp
  | q :: kz, z => by
    have ih := lookup_in (kz := kz) (z := z)
    obtain ⟨y, i⟩ := q
    rw [List.map_cons, List.mem_cons, List.lookup_cons]
    by_cases c : z = y
    · simp [c]
    · have e : (z == y) = false := by simpa using c
      rw [e]
      simp only
      rw [← ih]
      exact ⟨fun h => h.resolve_left c, .inr⟩
theorem HAt.hk {H : Hp} {d : Addr} {kz : List (Str × Int)} {zs : List Str} (h : HAt H d kz zs) (n : ∀ z ∈ zs, IsName z) (l : zs.length < 1000) : HK H (.ref d) kz :=
  ⟨⟨d, rfl, h.at_⟩, fun p hp => n p.1 (by rw [← h.keys]; exact List.mem_map.2 ⟨p, hp, rfl⟩), by have := congrArg List.length h.keys; rw [List.length_map] at this; omega⟩
theorem HAt.some {H : Hp} {d : Addr} {kz : List (Str × Int)} {zs : List Str} (h : HAt H d kz zs) {z : Str} (hz : z ∈ zs) : (kz.lookup z).isSome = true := lookup_in.1 (by rw [h.keys]; exact hz)
theorem HAt.ext {H H' : Hp} {d : Addr} {kz : List (Str × Int)} {zs : List Str} (x : ExtN H H') (h : HAt H d kz zs) : HAt H' d kz zs := ⟨x _ _ h.at_ (fun _ w => by cases w), h.keys⟩
def sp_one_right (m : Md) (C : Addr) : Sp := fun vs H Q _ => ∃ (p : Addr) (n : Nat) (i l : Addr) (t : Tm) (zs : List Str), vs = [.ref p, .ref i, .ref l] ∧ Purse H p n ∧ n ≤ 2 ^ 36 ∧ RuleAt m C (· ≠ p) H i t ∧ Tabs m.T H ∧ Tm.Gd 12 t ∧ t.cnt ≤ 60 ∧
  H l = some (.lst (zs.map V.str)) ∧ l ≠ p ∧ zs.Nodup ∧ (∀ z ∈ zs, IsName z) ∧ zs.length ≤ 8 ∧ (∀ b, ∀ z ∈ t.nam b, z ∈ zs) ∧ ∀ H', Drew m p n 400 H H' → Q (.bl true) H'
theorem c_one_right {m : Md} {C CT f : Addr} {fd : FuncData} (F : C8.Def m.K m.mg "_law_one_right" st_one_right f fd) (b : L2.Binds m.K fd ps_one_right []) (hrange : m.mg "range" = none) (R : RuleC m C) (E2 : RuleE m C)
    (Wt : Cal m 4 "_law_wait" (sp_wait m)) (Me : MetX m C8.CX0 44 C "term" (sp_rterm m C 40) []) (mE : MetX m C8.CX0 1 C "__eq__" (sp_req m C) []) (Sh : Cal m 46 "shifted" (sp_shifted m C 40)) (Mi : Cal m 46 "mirrored" (sp_mirrored m C 40))
    (Mo : Cal m 41 "_law_moved" (sp_lmoved m 40)) (Lm : Cal m 41 "_law_mirrored" (sp_lmir m 40)) (Ho : Cal m 4 "_law_hours" (sp_hours m)) (Lt : Cal m 41 "_law_told" (sp_tell m 40)) (T3 : Cal m 48 "told" (sp_told m C 40)) (Tu : Cal m 1 "_law_turned" (sp_turned m)) : Cal m 50 "_law_one_right" (sp_one_right m C) := by
  refine cal_of F b sc_one_right (fun vs H Q E h => by obtain ⟨_, _, _, _, _, _, rfl, _⟩ := h; rfl) fun X vs H Q E hA h => ?_
  obtain ⟨p, n, i, l, t, zs, rfl, hp, hn, r, hT, gd, hc, hl, hlp, nd, hzs, lz, hnam, k⟩ := h
  replace hA : At m nl_one_right (C8.fnScope st_one_right) 49 X := hA
  obtain ⟨n0, n1, n2, n3, n4, n5, n6, n7, n8, n9⟩ := nv_one_right
  obtain ⟨px, hpx⟩ := hp.at_
  have hip : i ≠ p := fun w => by obtain ⟨_, _, e, _⟩ := r; rw [w, hpx] at e; cases e
  have hdep := gd.dep
  have hwf := gd.wf
  have sh := gd.shaped (by omega)
  have new_ne : ∀ {H' : Hp} {n' : Nat} {a : Addr}, Purse H' p n' → New H' a → a ≠ p := fun {H' n' a} hp' z w => by obtain ⟨_, e⟩ := hp'.at_; rw [← w, show H' a = none from z] at e; cases e
  walk_at "B"
  refine s_par hA n3 n4 ?_
  refine w_cons (w_met0 (E := C8.E0) hA Me (by omega) C8.pass0 ?_)
  walk_at "V"
  have r0 := r
  obtain ⟨dx, u0, hi, du0⟩ := r0
  refine ⟨i, dx, _, rfl, hi, rfl, i, t, rfl, r.any, hT, by omega, hwf, fun v H1 g1 fr1 => ?_⟩
  have hp1 := hp.new g1
  have dv1 : Da m.K (· ≠ p) H1 v t.py := fr1.da.sub fun a z => new_ne hp z
  have r1 : RuleAt m C (· ≠ p) H1 i t := RuleAt.grow (T := m.T) r g1 (fun _ _ z => z) (fun z => z)
  walk_at "V"
  refine w_call hA Wt (by omega) rfl ?_
  walk_at "V"
  refine ⟨p, n, rfl, hp1, by omega, fun c H2 w1 w2 d2 => ?_⟩
  walk_at "V"
  refine ⟨_, _, rfl, ?_⟩
  have D2 : Drew m p n 40 H H2 := Drew.pre g1 d2
  have dv2 := GrowX.da d2.grow dv1 (fun _ z => z)
  have r2 := RuleAt.grow (T := m.T) r1 d2.grow (fun _ z => z) hip
  have hT2 := D2.grow.tab hT
  have hl2 := D2.grow.ext _ _ hlp hl (fun _ w => by cases w)
  -- the two other rules
  walk_at "B"
  refine s_par hA n5 n6 ?_
  refine w_cons (w_call hA Sh (by omega) rfl ?_)
  walk_at "V"
  refine ⟨c, i, t, 12, rfl, r2.any, hT2, gd, by omega, fun j1 H3 g3 nj1 ra1 => ?_⟩
  walk_at "V"
  refine w_call hA Mi (by omega) rfl ?_
  walk_at "V"
  have r3 := RuleAt.grow (T := m.T) r2 g3 (fun _ _ z => z) (fun z => z)
  refine ⟨i, t, 12, rfl, r3.any, g3.tab hT2, gd, by omega, fun j2 H4 g4 nj2 ra2 => ?_⟩
  refine w_nil ⟨_, _, rfl, ?_⟩
  have g24 := GrowX.trans g3 g4
  have D4 := D2.post g24
  have r4 := RuleAt.grow (T := m.T) r3 g4 (fun _ _ z => z) (fun z => z)
  have hj1p : j1 ≠ p := new_ne D2.purse nj1
  have hj2p : j2 ≠ p := new_ne (D2.purse.new g3) nj2
  have s4 : RuleAt m C (· ≠ p) H4 j1 (t.shift c) := RuleAt.grow (T := m.T) (ra1.sub fun a z => new_ne D2.purse z) g4 (fun _ _ z => z) (fun z => z)
  have o4 : RuleAt m C (· ≠ p) H4 j2 t.mir := ra2.sub fun a z => new_ne (D2.purse.new g3) z
  have dv4 := Grow.da g24 dv2
  have hT4 := g24.tab hT2
  have hl4 := Grow.extN g24 _ _ hl2 (fun _ w => by cases w)
  have gs := gd.shift c
  have gm := gd.mir
  have shs := gs.shaped (by omega)
  have shm := gm.shaped (by omega)
  have hds := gs.dep
  have hdm := gm.dep
  -- as made here
  walk_at "B"
  walk_at "V"
  refine w_met0 (E := C8.E0) hA Me (by omega) C8.pass0 ?_
  walk_at "V"
  have s4' := s4
  obtain ⟨ds, us, his, dus⟩ := s4'
  refine ⟨j1, ds, _, rfl, his, rfl, j1, t.shift c, rfl, s4.any, hT4, by omega, gs.wf, fun v5 H5 g5 fr5 => ?_⟩
  walk_at "V"
  refine w_call hA Mo (by omega) rfl ?_
  walk_at "V"
  refine ⟨v, c, t, rfl, Grow.da g5 (dv4.sub fun _ _ => trivial), by omega, hwf, fun v6 H6 g6 d6 => ?_⟩
  walk_at "V"
  refine g_neD hA (Da.dp _ _ (g6.da fr5.da)) (Da.dp _ _ d6) shs shs ?_
  rw [(Tm.eqv_py _ _).2 rfl]
  walk_at "V"
  refine iteF ?_
  have g46 := GrowX.trans g5 g6
  walk_at "V"
  refine w_met0 (E := C8.E0) hA Me (by omega) C8.pass0 ?_
  walk_at "V"
  have o6 := RuleAt.grow (T := m.T) o4 g46 (fun _ _ z => z) (fun z => z)
  have o6' := o6
  obtain ⟨dm, um, him, dum⟩ := o6'
  refine ⟨j2, dm, _, rfl, him, rfl, j2, t.mir, rfl, o6.any, g46.tab hT4, by omega, gm.wf, fun v7 H7 g7 fr7 => ?_⟩
  walk_at "V"
  refine w_call hA Lm (by omega) rfl ?_
  walk_at "V"
  refine ⟨v, t, rfl, Grow.da (GrowX.trans g46 g7) (dv4.sub fun _ _ => trivial), by omega, hwf, fun v8 H8 g8 d8 => ?_⟩
  walk_at "V"
  refine g_neD hA (Da.dp _ _ (g8.da fr7.da)) (Da.dp _ _ d8) shm shm ?_
  rw [(Tm.eqv_py _ _).2 rfl]
  walk_at "V"
  refine iteF ?_
  have g48 := GrowX.trans g46 (GrowX.trans g7 g8)
  walk_at "V"
  refine w_call hA Mi (by omega) rfl ?_
  walk_at "V"
  have o8 := RuleAt.grow (T := m.T) o4 g48 (fun _ _ z => z) (fun z => z)
  refine ⟨j2, t.mir, 12, rfl, o8.any, g48.tab hT4, gm, by omega, fun j3 H9 g9 nj3 ra3 => ?_⟩
  rw [Tm.mir_mir] at ra3
  walk_at "V"
  have g49 := GrowX.trans g48 g9
  have r9 := RuleAt.grow (T := m.T) r4 g49 (fun _ _ z => z) (fun z => z)
  refine g_neRule hA R E2 mE (by omega) ra3.any r9.any sh sh ?_
  rw [(Tm.eqv_py _ _).2 rfl]
  walk_at "V"
  refine iteF (b_nil ?_)
  have D9 := D4.post g49
  have s9 := RuleAt.grow (T := m.T) s4 g49 (fun _ _ z => z) (fun z => z)
  have o9 := RuleAt.grow (T := m.T) o4 g49 (fun _ _ z => z) (fun z => z)
  have dv9 := Grow.da g49 dv4
  have hT9 := g49.tab hT4
  have hl9 := Grow.extN g49 _ _ hl4 (fun _ w => by cases w)
  have hp9 := D9.purse
  -- what stands while the purse is drawn from
  have keep : ∀ {j : Nat} {H' : Hp}, Drew m p (n + 40) j H9 H' → RuleAt m C (· ≠ p) H' i t ∧ RuleAt m C (· ≠ p) H' j1 (t.shift c) ∧ RuleAt m C (· ≠ p) H' j2 t.mir ∧ Tabs m.T H' ∧ Da m.K (· ≠ p) H' v t.py ∧ H' l = some (.lst (zs.map V.str)) := fun {j H'} d =>
    ⟨RuleAt.grow (T := m.T) (S := (· = p)) r9 d.grow (fun _ z => z) hip, RuleAt.grow (T := m.T) (S := (· = p)) s9 d.grow (fun _ z => z) hj1p, RuleAt.grow (T := m.T) (S := (· = p)) o9 d.grow (fun _ z => z) hj2p, d.grow.tab hT9, GrowX.da d.grow dv9 (fun _ z => z), d.grow.ext _ _ hlp hl9 (fun _ w => by cases w)⟩
  have nms : ∀ b, ∀ z ∈ (t.shift c).nam b, z ∈ zs := fun b z hz => hnam b z ((Tm.nam_map (f := (· + c)) (Tm.prt_shift c t)).1 hz)
  have nmm : ∀ b, ∀ z ∈ t.mir.nam b, z ∈ zs := fun b z hz => hnam b z ((Tm.nam_map (f := (fun x => -x)) (Tm.prt_mir t)).1 hz)
  have cns : (t.shift c).cnt ≤ 60 := by show (Tm.reb (Tm.shP c) t).cnt ≤ 60; rw [Tm.cnt_map (f := (· + c)) (Tm.prt_shift c t)]; exact hc
  have cnm : t.mir.cnt ≤ 60 := by rw [Tm.cnt_map (f := (fun x => -x)) (Tm.prt_mir t)]; exact hc
  walk_at "B"
  refine s_forR hA (pg_nl hA n7) hrange rfl ?_
  walk_at "V"
  refine ⟨by omega, by omega, fun j σ H' => (∃ s7 s8 s9, σ = [some (.ref p), some (.ref i), some (.ref l), some v, some (.int c), some (.ref j1), some (.ref j2), s7, s8, s9]) ∧ Drew m p (n + 40) (160 * j) H9 H', ⟨⟨_, _, _, rfl⟩, hp9.drew GrowX.refl⟩, ?_, ?_⟩
  · rintro j σ H10 hj ⟨⟨s7, s8, s9', rfl⟩, D10⟩
    have hj2 : j < 2 := hj
    show wB X _ _ [some (.ref p), some (.ref i), some (.ref l), some v, some (.int c), some (.ref j1), some (.ref j2), some (.int j), s8, s9'] H10
    walk_at "B"
    refine s_par hA n8 n9 ?_
    refine w_cons (w_call hA Ho (by omega) rfl ?_)
    walk_at "V"
    obtain ⟨_, _, _, _, _, l10⟩ := keep D10
    refine ⟨p, _, l, zs, rfl, D10.purse, by omega, SqL.of l10, hlp, nd, by omega, fun a kh H11 kk bd d11 na ha => ?_⟩
    have D11 := D10.trans d11
    walk_at "V"
    refine w_call hA Ho (by omega) rfl ?_
    walk_at "V"
    obtain ⟨_, _, _, _, _, l11⟩ := keep D11
    refine ⟨p, _, l, zs, rfl, D11.purse, by omega, SqL.of l11, hlp, nd, by omega, fun b' kn H12 kk2 bd2 d12 nb hb => ?_⟩
    have D12 := D11.trans d12
    refine w_nil ⟨_, _, rfl, ?_⟩
    have A12 : HAt H12 a kh zs := ⟨d12.dk D11.purse ha, kk⟩
    have B12 : HAt H12 b' kn zs := ⟨hb, kk2⟩
    obtain ⟨r12, s12, o12, T12, v12, l12⟩ := keep D12
    walk_at "B"
    walk_at "V"
    refine w_callX (E := C8.E0) hA T3 (by omega) rfl C8.pass0 ?_
    walk_at "V"
    refine ⟨j1, t.shift c, .ref a, .ref b', kh, kn, rfl, s12.any, T12, by omega, gs.wf, by omega, A12.hk hzs (by omega), fun z hz => A12.some (nms false z hz), .inr ⟨B12.hk hzs (by omega), fun z hz => B12.some (nms true z hz)⟩, fun H13 g13 => ?_⟩
    walk_at "V"
    refine w_call hA Lt (by omega) rfl ?_
    walk_at "V"
    have A13 := A12.ext (Grow.extN g13)
    have B13 := B12.ext (Grow.extN g13)
    refine ⟨v, .ref a, .ref b', t, kh, kn, rfl, Grow.da g13 (v12.sub fun _ _ => trivial), by omega, hwf, .inr ⟨⟨a, rfl, A13.at_⟩, fun z hz => A13.some (hnam false z hz)⟩, .inr ⟨⟨b', rfl, B13.at_⟩, fun z hz => B13.some (hnam true z hz)⟩, fun H14 g14 => ?_⟩
    walk_at "V"
    rw [show (t.shift c).tell (hrs kh) (hrs kn) = t.tell (hrs kh) (hrs kn) + c from Tm.tell_shift c t hwf]
    rw [show (!decide (t.tell (hrs kh) (hrs kn) + c = t.tell (hrs kh) (hrs kn) + c)) = false from by simp]
    refine iteF (b_nil ?_)
    have g1214 := GrowX.trans g13 g14
    have D14 := D12.post g1214
    obtain ⟨r14, s14, o14, T14, v14, l14⟩ := keep D14
    have A14 := A13.ext (Grow.extN g14)
    have B14 := B13.ext (Grow.extN g14)
    walk_at "B"
    walk_at "V"
    refine w_callX (E := C8.E0) hA T3 (by omega) rfl C8.pass0 ?_
    walk_at "V"
    refine w_call hA Tu (by omega) rfl ?_
    walk_at "V"
    have lk : kh.length ≤ 8 := by have := congrArg List.length kk; rw [List.length_map] at this; omega
    have lkn : kn.length ≤ 8 := by have := congrArg List.length kk2; rw [List.length_map] at this; omega
    refine ⟨a, kh, rfl, A14.at_, by rw [kk]; exact nd, by omega, fun e1 H15 g15 ne1 he1 => ?_⟩
    walk_at "V"
    refine w_call hA Tu (by omega) rfl ?_
    walk_at "V"
    have B15 := B14.ext (Grow.extN g15)
    refine ⟨b', kn, rfl, B15.at_, by rw [kk2]; exact nd, by omega, fun e2 H16 g16 ne2 he2 => ?_⟩
    walk_at "V"
    have g1416 := GrowX.trans g15 g16
    have D16 := D14.post g1416
    obtain ⟨r16, s16, o16, T16, v16, l16⟩ := keep D16
    have A16 : HAt H16 e1 (negK kh) zs := ⟨Grow.extN g16 _ _ he1 (fun _ w => by cases w), by rw [negK_keys]; exact kk⟩
    have B16 : HAt H16 e2 (negK kn) zs := ⟨he2, by rw [negK_keys]; exact kk2⟩
    refine ⟨j2, t.mir, .ref e1, .ref e2, negK kh, negK kn, rfl, o16.any, T16, by omega, gm.wf, by omega, A16.hk hzs (by omega), fun z hz => A16.some (nmm false z hz), .inr ⟨B16.hk hzs (by omega), fun z hz => B16.some (nmm true z hz)⟩, fun H17 g17 => ?_⟩
    rw [hrs_neg, hrs_neg, Tm.tell_mir t hwf]
    walk_at "V"
    refine w_call hA Lt (by omega) rfl ?_
    walk_at "V"
    have g1417 := GrowX.trans g1416 g17
    have A17 := A14.ext (Grow.extN g1417)
    have B17 := B14.ext (Grow.extN g1417)
    refine ⟨v, .ref a, .ref b', t, kh, kn, rfl, Grow.da g17 (v16.sub fun _ _ => trivial), by omega, hwf, .inr ⟨⟨a, rfl, A17.at_⟩, fun z hz => A17.some (hnam false z hz)⟩, .inr ⟨⟨b', rfl, B17.at_⟩, fun z hz => B17.some (hnam true z hz)⟩, fun H18 g18 => ?_⟩
    walk_at "V"
    rw [Int.zero_sub, show (!decide (-t.tell (hrs kh) (hrs kn) = -t.tell (hrs kh) (hrs kn))) = false from by simp]
    refine iteF (b_nil (b_nil ⟨⟨_, _, _, rfl⟩, ?_⟩))
    exact (D14.post (GrowX.trans g1417 g18)).mono (by omega)
  · rintro σ H10 ⟨⟨s7, s8, s9', rfl⟩, D10⟩
    replace D10 : Drew m p (n + 40) 320 H9 H10 := D10
    obtain ⟨r10, s10, o10, T10, v10, l10⟩ := keep D10
    walk_at "B"
    walk_at "V"
    refine w_call hA Sh (by omega) rfl ?_
    walk_at "V"
    refine ⟨0, i, t, 12, rfl, r10.any, T10, gd, by omega, fun j4 H11 g11 nj4 ra4 => ?_⟩
    rw [Tm.shift_zero] at ra4
    walk_at "V"
    have r11 := RuleAt.grow (T := m.T) r10 g11 (fun _ _ z => z) (fun z => z)
    refine g_eqRule hA R E2 mE (by omega) ra4.any r11.any sh sh ?_
    rw [(Tm.eqv_py _ _).2 rfl]
    exact k _ ((D9.trans (D10.post g11)).mono (by omega))
theorem w_dict0 {X : Cx} {σ : L2.St} {H : Hp} {Q : VK} {pos : Pos} (q : ∀ p, H p = none → Q (.ref p) (upd H p (.dK []))) : wE X (.Dict [] [] pos) σ H Q := toE pe_dnewK q
namespace Tm
mutual
theorem ok_nam {W : Int} {zs ns : List Str} : ∀ t, ok W zs ns t → ∀ q ∈ prt t, if q.1 = true then q.2.1 ∈ ns else q.2.1 ∈ zs
  | .part n z w, o, q, hq => by
    rw [List.mem_singleton.1 hq]
    exact o.1
  | .all f ts, o, q, hq => oks_nam ts o.2 q hq
  | .rank r ts, o, q, hq => oks_nam ts o.2.2.2 q hq
theorem oks_nam {W : Int} {zs ns : List Str} : ∀ ts, oks W zs ns ts → ∀ q ∈ prts ts, if q.1 = true then q.2.1 ∈ ns else q.2.1 ∈ zs
  | [], _, q, hq => absurd hq List.not_mem_nil
  | t :: ts, o, q, hq => by
    rcases List.mem_append.1 hq with e | e
    · exact ok_nam t o.1 q e
    · exact oks_nam ts o.2 q e
end
end Tm
/-- a name, a rule, the term it is made of -/
abbrev Qt := Str × Addr × V × Tm
def qrs (qs : List Qt) : Rs := qs.map fun q => (q.1, q.2.1, q.2.2.2)
def qts (qs : List Qt) : Ts := qs.map fun q => (q.1, q.2.2.1, q.2.2.2)
theorem q_same (qs : List Qt) : rlT (qrs qs) = tlT (qts qs) := by simp [rlT, tlT, qrs, qts]
abbrev AA (p d1 d2 : Addr) : Addr → Prop := fun a => a ≠ p ∧ a ≠ d1 ∧ a ≠ d2
structure Qs (m : Md) (C p : Addr) (H : Hp) (d1 d2 : Addr) (zs : List Str) (qs : List Qt) : Prop where
  h1 : H d1 = some (.dK (rlK (qrs qs)))
  h2 : H d2 = some (.dK (tlK (qts qs)))
  rl : ∀ q ∈ qs, RuleAt m C (AA p d1 d2) H q.2.1 q.2.2.2
  tm : ∀ q ∈ qs, Da m.K (AA p d1 d2) H q.2.2.1 q.2.2.2.py
  gd : ∀ q ∈ qs, Tm.Gd 5 q.2.2.2 ∧ q.2.2.2.cnt ≤ 3 ∧ ∀ b, ∀ z ∈ q.2.2.2.nam b, z ∈ zs
  zz : ∀ q ∈ qs, q.1 ∈ zs
  nd : (qs.map (·.1)).Nodup
theorem GrowX.dk {T : List (Addr × Str)} {H : Hp} {d : Addr} {kvs ls : List (Key × V)} (h : H d = some (.dK kvs)) : GrowX T (· = d) H (upd H d (.dK ls)) := GrowX.set rfl h (fun _ z => by cases z) (fun _ z => by unfold CodeO at z; cases z) (fun _ z => by cases z) (fun _ _ z => by cases z)
theorem keyed_put {α : Type} {f : α → V} {rs : List (Str × α)} {z : Str} {a : α} (h : z ∉ rs.map (·.1)) : putK (keyed f rs) (.inr z) (f a) = keyed f (rs ++ [(z, a)]) := by
  rw [putK_new]
  · simp [keyed]
  · intro c
    obtain ⟨q, hq, e⟩ := List.mem_map.1 c
    obtain ⟨r, hr, rfl⟩ := List.mem_map.1 hq
    have : r.1 = z := by injection e
    exact h (List.mem_map.2 ⟨r, hr, this⟩)
section
variable {m : Md} {C p d1 d2 : Addr} {H H' H1 H3 : Hp} {zs : List Str} {qs : List Qt}
theorem Qs.grow (Q : Qs m C p H d1 d2 zs qs) (hp : ∃ xs, H p = some (.lst xs)) (g : GrowX m.T (· = p) H H') : Qs m C p H' d1 d2 zs qs := by
  obtain ⟨xs, hp⟩ := hp
  refine ⟨g.ext _ _ (fun w => by have := Q.h1; rw [w, hp] at this; cases this) Q.h1 (fun _ w => by cases w), g.ext _ _ (fun w => by have := Q.h2; rw [w, hp] at this; cases this) Q.h2 (fun _ w => by cases w), fun q hq => ?_, fun q hq => g.da (Q.tm q hq) fun a ha => ha.1, Q.gd, Q.zz, Q.nd⟩
  have r := Q.rl q hq
  have r0 := r
  obtain ⟨_, _, e, _⟩ := r0
  exact RuleAt.grow (T := m.T) r g (fun a ha => ha.1) fun w => by rw [w, hp] at e; cases e
theorem Qs.add {z : Str} {i : Addr} {v : V} {t : Tm} (Q : Qs m C p H1 d1 d2 zs qs) (ne : d1 ≠ d2) (dv : Da m.K (AA p d1 d2) H1 v t.py) (gd : Tm.Gd 5 t ∧ t.cnt ≤ 3 ∧ ∀ b, ∀ z ∈ t.nam b, z ∈ zs) (hz : z ∈ zs) (nz : z ∉ qs.map (·.1))
    (g3 : Grow m.T (upd H1 d2 (.dK (tlK (qts (qs ++ [(z, i, v, t)]))))) H3) (ri : RuleAt m C (AA p d1 d2) H3 i t) : Qs m C p (upd H3 d1 (.dK (rlK (qrs (qs ++ [(z, i, v, t)]))))) d1 d2 zs (qs ++ [(z, i, v, t)]) := by
  have gA : GrowX m.T (· = d2) H1 (upd H1 d2 (.dK (tlK (qts (qs ++ [(z, i, v, t)]))))) := GrowX.dk Q.h2
  have h13 : H3 d1 = some (.dK (rlK (qrs qs))) := Grow.extN g3 _ _ (by rw [upd_ne ne]; exact Q.h1) (fun _ w => by cases w)
  have h23 : H3 d2 = some (.dK (tlK (qts (qs ++ [(z, i, v, t)])))) := Grow.extN g3 _ _ upd_same (fun _ w => by cases w)
  have gB : GrowX m.T (· = d1) H3 (upd H3 d1 (.dK (rlK (qrs (qs ++ [(z, i, v, t)]))))) := GrowX.dk h13
  have notD : ∀ {j : Addr} {dx : Addr} {fs}, H3 j = some (.ins C dx fs) → j ≠ d1 := fun {j dx fs} e w => by rw [w, h13] at e; cases e
  have rul : ∀ {j : Addr} {u : Tm}, RuleAt m C (AA p d1 d2) H3 j u → RuleAt m C (AA p d1 d2) (upd H3 d1 (.dK (rlK (qrs (qs ++ [(z, i, v, t)]))))) j u := fun {j u} r => by
    have r0 := r
    obtain ⟨_, _, e, _⟩ := r0
    exact RuleAt.grow (T := m.T) r gB (fun a ha => ha.2.1) (notD e)
  refine ⟨upd_same, by rw [upd_ne ne.symm]; exact h23, fun q hq => ?_, fun q hq => ?_, fun q hq => ?_, fun q hq => ?_, ?_⟩
  · rcases List.mem_append.1 hq with c | c
    · have r := Q.rl q c
      have r0 := r
      obtain ⟨_, _, e, _⟩ := r0
      exact rul (RuleAt.grow (T := m.T) (RuleAt.grow (T := m.T) r gA (fun a ha => ha.2.2) fun w => by rw [w, Q.h2] at e; cases e) g3 (fun _ _ z => z) (fun z => z))
    · rw [List.mem_singleton.1 c]
      exact rul ri
  · rcases List.mem_append.1 hq with c | c
    · exact gB.da (Grow.da g3 (gA.da (Q.tm q c) fun a ha => ha.2.2)) fun a ha => ha.2.1
    · rw [List.mem_singleton.1 c]
      exact gB.da (Grow.da g3 (gA.da dv fun a ha => ha.2.2)) fun a ha => ha.2.1
  · rcases List.mem_append.1 hq with c | c
    · exact Q.gd q c
    · rw [List.mem_singleton.1 c]; exact gd
  · rcases List.mem_append.1 hq with c | c
    · exact Q.zz q c
    · rw [List.mem_singleton.1 c]; exact hz
  · rw [List.map_append]
    refine List.nodup_append.2 ⟨Q.nd, by simp, fun a ha b hb e => ?_⟩
    have eb : b = z := by simpa using hb
    exact nz (by rw [← eb, ← e]; exact ha)
theorem qrs_keys (qs : List Qt) : (qrs qs).map (·.1) = qs.map (·.1) := by simp [qrs]
theorem qts_keys (qs : List Qt) : (qts qs).map (·.1) = qs.map (·.1) := by simp [qts]
theorem Qs.rtab (Q : Qs m C p H d1 d2 zs qs) (n : ∀ z ∈ zs, IsName z) (l : qs.length < 1000) : RTab m C H d1 (qrs qs) :=
  ⟨Q.h1, fun q hq => by obtain ⟨r, hr, rfl⟩ := List.mem_map.1 hq; exact n _ (Q.zz r hr), by rw [qrs, List.length_map]; exact l, fun q hq => by obtain ⟨r, hr, rfl⟩ := List.mem_map.1 hq; exact (Q.rl r hr).any⟩
theorem Qs.ttab (Q : Qs m C p H d1 d2 zs qs) : TTab m Any H d2 (qts qs) := ⟨Q.h2, fun q hq => by obtain ⟨r, hr, rfl⟩ := List.mem_map.1 hq; exact (Q.tm r hr).sub fun _ _ => trivial⟩
end
theorem all_flat (zs : List Str) : (zs.map V.str).all flatV = true := by
  rw [List.all_eq_true]
  rintro _ h
  obtain ⟨z, _, rfl⟩ := List.mem_map.1 h
  rfl
/-- the first loop: rules for some of the names -/
def sp_put_right (m : Md) (C : Addr) : Sp := fun vs H Q _ => ∃ (p : Addr) (n : Nat) (i l : Addr) (t : Tm) (zs : List Str), vs = [.ref p, .ref i, .ref l] ∧ Purse H p n ∧ n + 20000 ≤ 2 ^ 36 ∧ RuleAt m C (· ≠ p) H i t ∧ Tabs m.T H ∧ Tm.Gd 12 t ∧ t.cnt ≤ 60 ∧
  H l = some (.lst (zs.map V.str)) ∧ l ≠ p ∧ zs.Nodup ∧ (∀ z ∈ zs, IsName z) ∧ 0 < zs.length ∧ zs.length ≤ 3 ∧ (∀ b, ∀ z ∈ t.nam b, z ∈ zs) ∧ ∀ H', Drew m p n 5000 H H' → Q (.bl true) H'
theorem nd_sub_len {α : Type} [BEq α] [LawfulBEq α] : ∀ (l r : List α), l.Nodup → (∀ y ∈ l, y ∈ r) → l.length ≤ r.length := by
  intro l
  induction l with
  | nil => intro r _ _; exact Nat.zero_le _
  | cons y l ih =>
    intro r n s
    obtain ⟨n1, n2⟩ := List.nodup_cons.mp n
    have hy := s y List.mem_cons_self
    have e := List.length_erase_of_mem hy
    have hp : 0 < r.length := List.length_pos_of_mem hy
    have := ih (r.erase y) n2 fun z hz => (List.mem_erase_of_ne fun (q : z = y) => n1 (by rw [← q]; exact hz)).2 (s z (List.mem_cons_of_mem _ hz))
    rw [List.length_cons]
    omega
theorem look_add {α : Type} : ∀ {ts : List (Str × α)} {z : Str} {a : α}, z ∉ ts.map (·.1) → (ts ++ [(z, a)]).lookup z = some a
  | [], z, a, _ => by simp
  | p :: ts, z, a, h => by
    obtain ⟨y, b⟩ := p
    have h1 : (z == y) = false := by simpa using fun e : z = y => h (by rw [e]; exact List.mem_cons_self)
    rw [List.cons_append, List.lookup_cons, h1]
    exact look_add fun c => h (List.mem_cons_of_mem _ c)
theorem look_add_ne {α : Type} {y z : Str} {a : α} (ne : y ≠ z) : ∀ (ts : List (Str × α)), (ts ++ [(z, a)]).lookup y = ts.lookup y
  | [] => by simp [ne]
  | p :: ts => by
    obtain ⟨w, b⟩ := p
    rw [List.cons_append, List.lookup_cons, List.lookup_cons, look_add_ne ne ts]
theorem nd_look {α : Type} : ∀ {rs : List (Str × α)} {q : Str × α}, (rs.map (·.1)).Nodup → q ∈ rs → rs.lookup q.1 = some q.2
  | [], q, _, h => by cases h
  | r :: rs, q, n, h => by
    obtain ⟨n1, n2⟩ := List.nodup_cons.mp n
    obtain ⟨y, b⟩ := r
    rw [List.lookup_cons]
    rcases List.mem_cons.1 h with e | e
    · rw [e]; simp
    · have ne : (q.1 == y) = false := by simpa using fun c : q.1 = y => n1 (List.mem_map.2 ⟨q, e, c⟩)
      rw [ne]
      exact nd_look n2 e
theorem qts_i (qs : List Qt) (z : Str) (i j : Addr) (v : V) (t : Tm) : qts (qs ++ [(z, i, v, t)]) = qts (qs ++ [(z, j, v, t)]) := by simp [qts]
theorem upd_comm' {H : Hp} {a b : Addr} {o u : HO} (h : a ≠ b) : upd (upd H a o) b u = upd (upd H b u) a o := by
  funext c
  by_cases c1 : c = b
  · rw [c1, upd_same, upd_ne h.symm, upd_same]
  · rw [upd_ne c1]
    by_cases c2 : c = a
    · rw [c2, upd_same, upd_same]
    · rw [upd_ne c2, upd_ne c2, upd_ne c1]
theorem da_frz {K : PySem.W.Frag} {A : Addr → Prop} {H : Hp} {d : Addr} {kvs : List (Key × V)} {od : Obj} {v : V} {t : PyData} (hd : H d = some (.dK kvs)) (x : Da K A H v t) : Da K A (upd H d (.frz od (.dK kvs))) v t := by
  refine Da.mono (fun _ z => z) (fun a xs _ e => ?_) (fun a xs e => ?_) _ _ x
  · rcases e with (e | ⟨o', e⟩) | e
    · exact .inl (.inl (by rw [upd_ne (fun w => by rw [w, hd] at e; cases e)]; exact e))
    · exact .inl (.inr ⟨o', by rw [upd_ne (fun w => by rw [w, hd] at e; cases e)]; exact e⟩)
    · exact .inr e
  · rcases e with (e | ⟨o', e⟩) | e
    · exact .inl (.inl (by rw [upd_ne (fun w => by rw [w, hd] at e; cases e)]; exact e))
    · exact .inl (.inr ⟨o', by rw [upd_ne (fun w => by rw [w, hd] at e; cases e)]; exact e⟩)
    · exact .inr e
namespace Tm
theorem putO_prt {o : Option Tm} {z : Str} {w : Int} {b : Bool} {y : Str} (h : y ∈ nam b (putO o z w)) : (b = false ∧ y = z) ∨ ∃ t, o = some t ∧ y ∈ nam b t := by
  cases o with
  | none =>
    obtain ⟨w', h'⟩ := nam_mem.1 h
    have := List.mem_singleton.1 h'
    simp only [Prod.mk.injEq] at this
    exact .inl ⟨this.1, this.2.1⟩
  | some t => exact .inr ⟨t, rfl, (nam_map (f := (· + w)) (prt_shift w t)).1 h⟩
theorem mem_nams {b : Bool} {ts : List Tm} {y : Str} {w : Int} (h : (b, y, w) ∈ prts ts) : ∃ t ∈ ts, y ∈ nam b t := by
  rw [prts_flat] at h
  obtain ⟨l, hl, hy⟩ := List.mem_flatten.1 h
  obtain ⟨t, ht, rfl⟩ := List.mem_map.1 hl
  exact ⟨t, ht, nam_mem.2 ⟨w, hy⟩⟩
theorem nam_sub {b : Bool} {t : Tm} {ts : List Tm} {y : Str} (ht : t ∈ ts) (h : y ∈ nam b t) : ∃ w, (b, y, w) ∈ prts ts := by
  obtain ⟨w, h⟩ := nam_mem.1 h
  refine ⟨w, ?_⟩
  rw [prts_flat]
  exact List.mem_flatten.2 ⟨_, List.mem_map.2 ⟨t, ht, rfl⟩, h⟩
mutual
theorem nam_put {R : List (Str × Tm)} {b : Bool} {y : Str} : ∀ t, y ∈ nam b (reb (putP R) t) → y ∈ nam b t ∨ ∃ p ∈ R, y ∈ nam b p.2
  | .part true z w, h => .inl h
  | .part false z w, h => by
    rcases putO_prt (o := R.lookup z) (z := z) (w := w) h with ⟨e1, e2⟩ | ⟨t, e, h'⟩
    · refine .inl ?_
      rw [e1, e2]
      exact nam_mem.2 ⟨w, List.mem_singleton.2 rfl⟩
    · exact .inr ⟨_, lookup_mem e, h'⟩
  | .all f ts, h => by
    obtain ⟨w, h'⟩ := nam_mem.1 h
    rcases nams_put ts w h' with ⟨w', e⟩ | e
    · exact .inl (nam_mem.2 ⟨w', e⟩)
    · exact .inr e
  | .rank r ts, h => by
    obtain ⟨w, h'⟩ := nam_mem.1 h
    rcases nams_put ts w h' with ⟨w', e⟩ | e
    · exact .inl (nam_mem.2 ⟨w', e⟩)
    · exact .inr e
theorem nams_put {R : List (Str × Tm)} {b : Bool} {y : Str} : ∀ ts w, (b, y, w) ∈ prts (rebs (putP R) ts) → (∃ w, (b, y, w) ∈ prts ts) ∨ ∃ p ∈ R, y ∈ nam b p.2
  | [], w, h => absurd h List.not_mem_nil
  | t :: ts, w, h => by
    rw [rebs, prts] at h
    rcases List.mem_append.1 h with e | e
    · rcases nam_put t (nam_mem.2 ⟨w, e⟩) with e | e
      · obtain ⟨w', e⟩ := nam_mem.1 e
        exact .inl ⟨w', List.mem_append_left _ e⟩
      · exact .inr e
    · rcases nams_put ts w e with ⟨w', e⟩ | e
      · exact .inl ⟨w', List.mem_append_right _ e⟩
      · exact .inr e
end
mutual
theorem cnt_put {R : List (Str × Tm)} {M : Nat} (hM : 1 ≤ M) (h : ∀ p ∈ R, cnt p.2 ≤ M) : ∀ t, cnt (reb (putP R) t) ≤ M * cnt t
  | .part true z w => by show 1 ≤ M * 1; omega
  | .part false z w => by
    show cnt (putO (R.lookup z) z w) ≤ M * 1
    cases e : R.lookup z with
    | none => show 1 ≤ M * 1; omega
    | some t =>
      show cnt (reb (shP w) t) ≤ M * 1
      rw [cnt_map (f := (· + w)) (prt_shift w t), Nat.mul_one]
      exact h _ (lookup_mem e)
  | .all f ts => cnts_put hM h ts
  | .rank r ts => cnts_put hM h ts
theorem cnts_put {R : List (Str × Tm)} {M : Nat} (hM : 1 ≤ M) (h : ∀ p ∈ R, cnt p.2 ≤ M) : ∀ ts, cnts (rebs (putP R) ts) ≤ M * cnts ts
  | [] => Nat.le_refl _
  | t :: ts => by
    rw [rebs, cnts, cnts, Nat.mul_add]
    have := cnt_put hM h t
    have := cnts_put hM h ts
    omega
end
theorem ruled_add {R : List (Str × Tm)} {z : Str} {t : Tm} {h n : Str → Int} (nz : z ∉ R.map (·.1)) (y : Str) : ruled (R ++ [(z, t)]) h n y = if y = z then tell h n t else ruled R h n y := by
  unfold ruled
  by_cases c : y = z
  · rw [if_pos c, c, look_add nz]
  · rw [if_neg c, look_add_ne c]
end Tm
def four4 : List Str := ["strange", "others", "nobody", "somebody"]
theorem four4_name : ∀ w ∈ four4, IsName w := by
  intro w h
  unfold four4 at h
  simp only [List.mem_cons, List.not_mem_nil, or_false] at h
  rcases h with rfl | rfl | rfl | rfl <;> (unfold IsName; decide +kernel)
theorem four4_nd : four4.Nodup := by decide +kernel
theorem four4_free {zs : List Str} (l : zs.length ≤ 3) : ∃ w rest, four4.filter (fun w => !decide (w ∈ zs)) = w :: rest ∧ IsName w ∧ w ∉ zs := by
  cases e : four4.filter (fun w => !decide (w ∈ zs)) with
  | nil =>
    have : ∀ y ∈ four4, y ∈ zs := fun y hy => by
      have := List.filter_eq_nil_iff.1 e y hy
      simpa using this
    have := nd_sub_len _ _ four4_nd this
    have : four4.length = 4 := rfl
    omega
  | cons w rest =>
    have hw : w ∈ four4.filter (fun w => !decide (w ∈ zs)) := by rw [e]; exact List.mem_cons_self
    obtain ⟨h1, h2⟩ := List.mem_filter.1 hw
    exact ⟨w, rest, rfl, four4_name w h1, by simpa using h2⟩
def putZ (kz : List (Str × Int)) (z : Str) (v : Int) : List (Str × Int) := kz.map fun p => if p.1 = z then (z, v) else p
theorem putZ_keys (kz : List (Str × Int)) (z : Str) (v : Int) : (putZ kz z v).map (·.1) = kz.map (·.1) := by
  unfold putZ
  rw [List.map_map]
  refine List.map_congr_left fun p _ => ?_
  show (if p.1 = z then (z, v) else p).1 = p.1
  split
  · rename_i h; exact h.symm
  · rfl
theorem putZ_hr {kz : List (Str × Int)} {z : Str} (v : Int) (h : z ∈ kz.map (·.1)) : putK (hrK kz) (.inr z) (.int v) = hrK (putZ kz z v) := by
  unfold putK
  rw [if_pos]
  · unfold hrK putZ
    rw [List.map_map, List.map_map]
    refine List.map_congr_left fun p _ => ?_
    by_cases c : p.1 = z
    · subst c; simp
    · have c2 : (Sum.inr p.1 : Key) ≠ .inr z := fun e => c (by injection e)
      simp [c, c2]
  · obtain ⟨p, hp, e⟩ := List.mem_map.1 h
    exact List.any_eq_true.2 ⟨(.inr p.1, .int p.2), List.mem_map.2 ⟨p, hp, rfl⟩, by simpa using e⟩
theorem putZ_get : ∀ (kz : List (Str × Int)) (z : Str) (v : Int) (y : Str), (putZ kz z v).lookup y = if y = z then (kz.lookup z).map (fun _ => v) else kz.lookup y
  | [], z, v, y => by simp [putZ]
  | q :: kz, z, v, y => by
    have ih := putZ_get kz z v y
    obtain ⟨x, i⟩ := q
    show List.lookup y ((if x = z then (z, v) else (x, i)) :: putZ kz z v) = _
    by_cases c : x = z
    · subst c
      rw [if_pos rfl, List.lookup_cons, List.lookup_cons]
      by_cases d : y = x
      · subst d; simp
      · have e : (y == x) = false := by simpa using d
        rw [e, if_neg d, List.lookup_cons, e]
        rw [if_neg d] at ih
        exact ih
    · rw [if_neg c, List.lookup_cons]
      by_cases d : y = x
      · subst d
        simp [c, List.lookup_cons]
      · have e : (y == x) = false := by simpa using d
        have e2 : (z == x) = false := by simpa using fun h : z = x => c h.symm
        rw [e]
        simp only
        rw [ih, List.lookup_cons, e2, List.lookup_cons, e]
theorem hrs_in {kz : List (Str × Int)} {z : Str} (h : (kz.lookup z).isSome = true) : kz.lookup z = some (hrs kz z) := by
  obtain ⟨i, hi⟩ := Option.isSome_iff_exists.mp h
  rw [hi, hrs, hi]; rfl
theorem hrs_put {kz : List (Str × Int)} {z : Str} {v : Int} (h : z ∈ kz.map (·.1)) (y : Str) : hrs (putZ kz z v) y = if y = z then v else hrs kz y := by
  unfold hrs
  rw [putZ_get]
  by_cases c : y = z
  · rw [if_pos c, if_pos c, hrs_in (lookup_in.1 h)]
    rfl
  · rw [if_neg c, if_neg c]
theorem c_put_right {m : Md} {C CT f : Addr} {fd : FuncData} (F : C8.Def m.K m.mg "_law_put_right" st_put_right f fd) (b : L2.Binds m.K fd ps_put_right []) (hrange : m.mg "range" = none) (hdict : m.mg "dict" = none) (R : RuleC m C) (E2 : RuleE m C)
    (D : Cal m 2 "_law_draw" (sp_draw m)) (Sf : Cal m 3 "_law_shuffled" (sp_shuffled m)) (Tr : Cal m 14 "_law_term" (sp_term m 8)) (Mk : MakX m (L2.CX m.P m.w) 44 "Rule" C (sp_rinit m C CT 40) []) (Me : MetX m C8.CX0 44 C "term" (sp_rterm m C 40) []) (mE : MetX m C8.CX0 1 C "__eq__" (sp_req m C) [])
    (Pu : Cal m 88 "put_in" (sp_put_in m C 40)) (Lp : Cal m 82 "_law_put" (sp_lput m 40 40)) (Ho : Cal m 4 "_law_hours" (sp_hours m)) (Lt : Cal m 41 "_law_told" (sp_tell m 40)) (T3 : Cal m 48 "told" (sp_told m C 40)) : Cal m 90 "_law_put_right" (sp_put_right m C) := by
  refine cal_ofM F b sc_put_right (fun vs H Q E h => by obtain ⟨_, _, _, _, _, _, rfl, _⟩ := h; rfl) fun X vs H Q E hA hM h => ?_
  obtain ⟨p, n, i, l, t, zs, rfl, hp, hn, r, hT, gd, hc, hl, hlp, nd, hzs, lz0, lz, hnam, k⟩ := h
  replace hA : At m nl_put_right (C8.fnScope st_put_right) 89 X := hA
  obtain ⟨n0, n1, n3, n4, n5, n6, n7, n8, n9, n10, n11, n12, n2⟩ := nv_put_right
  obtain ⟨px, hpx⟩ := hp.at_
  have hip : i ≠ p := fun w => by obtain ⟨_, _, e, _⟩ := r; rw [w, hpx] at e; cases e
  have hdep := gd.dep
  have hwf := gd.wf
  have sh := gd.shaped (by omega)
  have new_ne : ∀ {H' : Hp} {n' : Nat} {a : Addr}, Purse H' p n' → New H' a → a ≠ p := fun {H' n' a} hp' z w => by obtain ⟨_, e⟩ := hp'.at_; rw [← w, show H' a = none from z] at e; cases e
  walk_at "B"
  refine s_par hA n3 n4 ?_
  refine w_cons (w_dict0 fun d1 hd1 => ?_)
  refine w_cons (w_dict0 fun d2 hd2 => ?_)
  refine w_nil ⟨_, _, rfl, ?_⟩
  have ne12 : d1 ≠ d2 := fun w => by rw [w, upd_same] at hd2; cases hd2
  have hd2' : New H d2 := by rw [New, ← hd2, upd_ne ne12.symm]
  have g0 : Grow m.T H (upd (upd H d1 (.dK [])) d2 (.dK [])) := (Grow.new hd1).trans (Grow.new hd2)
  have Q0 : Qs m C p (upd (upd H d1 (.dK [])) d2 (.dK [])) d1 d2 zs [] := ⟨by rw [upd_ne ne12]; exact upd_same, upd_same, by simp, by simp, by simp, by simp, by simp⟩
  have hd1p := new_ne hp hd1
  have hd2p := new_ne hp hd2'
  have D0 := hp.drew g0
  generalize upd (upd H d1 (.dK [])) d2 (.dK []) = H0 at g0 Q0 D0 ⊢
  have keep : ∀ {j : Nat} {H' : Hp}, Drew m p n j H H' → RuleAt m C (· ≠ p) H' i t ∧ Tabs m.T H' ∧ H' l = some (.lst (zs.map V.str)) := fun {j H'} d =>
    ⟨RuleAt.grow (T := m.T) (S := (· = p)) r d.grow (fun _ z => z) hip, d.grow.tab hT, d.grow.ext _ _ hlp hl (fun _ w => by cases w)⟩
  walk_at "B"
  refine s_forL hA (pg_nl hA n5) ?_
  refine w_call hA Sf (by omega) rfl ?_
  walk_at "V"
  obtain ⟨r0, T0, l0⟩ := keep D0
  refine ⟨p, _, l, _, rfl, D0.purse, by omega, SqL.of l0, hlp, by rw [List.length_map]; omega, fun L ys H1 pm d1' nL hL => ?_⟩
  obtain ⟨ws, rfl, pw⟩ := perm_str pm
  have D1 := D0.trans d1'
  have Q1 := Q0.grow D0.purse.at_ d1'.grow
  have hLp := new_ne D0.purse nL
  have lw : ws.length ≤ 3 := by rw [pw.length_eq]; exact lz
  have ndw : ws.Nodup := pw.nodup_iff.2 nd
  rw [List.length_map] at D1
  refine ⟨L, _, rfl, SqL.of hL, fun j σ H' => (∃ s5 s6 s7 s8 s9 s10 s11 s12 s13, σ = [some (.ref p), some (.ref i), some (.ref l), some (.ref d1), some (.ref d2), s5, s6, s7, s8, s9, s10, s11, s12, s13]) ∧ H' L = some (.lst (ws.map V.str)) ∧ Drew m p n (24 + 1100 * j) H H' ∧ ∃ qs, Qs m C p H' d1 d2 zs qs ∧ ∀ z ∈ qs.map (·.1), z ∈ ws.take j, ⟨⟨_, _, _, _, _, _, _, _, _, rfl⟩, hL, D1.mono (by omega), [], Q1, by simp⟩, fun j σ H' _ h => SqL.of h.2.1, ?_, ?_⟩
  · rintro j x σ H2 hx ⟨⟨s5, s6, s7, s8, s9, s10, s11, s12, s13, rfl⟩, hL2, D2, qs, Q2, sub⟩
    rw [List.getElem?_map] at hx
    obtain ⟨z, hz, rfl⟩ := Option.map_eq_some_iff.1 hx
    have hjl := (List.getElem?_eq_some_iff.1 hz).1
    have hzz : z ∈ zs := pw.mem_iff.1 (List.mem_of_getElem? hz)
    have nz : z ∉ qs.map (·.1) := fun c => by
      obtain ⟨j', hj', e⟩ := List.mem_take_iff_getElem.1 (sub z c)
      have e2 := (List.getElem?_eq_some_iff.1 hz).2
      have := (List.getElem_inj ndw).1 (e.trans e2.symm)
      omega
    have subS : ∀ w ∈ qs.map (·.1), w ∈ ws.take (j + 1) := fun w hw => by rw [List.take_add_one]; exact List.mem_append_left _ (sub w hw)
    show wB X _ _ [some (.ref p), some (.ref i), some (.ref l), some (.ref d1), some (.ref d2), some (.str z), s6, s7, s8, s9, s10, s11, s12, s13] H2
    walk_at "B"
    walk_at "V"
    refine w_call hA D (by omega) rfl ?_
    walk_at "V"
    refine ⟨p, _, _, rfl, D2.purse, by omega, by omega, by omega, fun r1 H3 q1 q2 d3 => ?_⟩
    walk_at "V"
    have D3 := D2.trans d3
    have Q3 := Q2.grow D2.purse.at_ d3.grow
    have hL3 := d3.grow.ext _ _ hLp hL2 (fun _ w => by cases w)
    refine ite2 (fun _ => ?_) fun _ => ?_
    · walk_at "B"
      refine s_dput hA ?_
      refine w_call hA Tr (by omega) rfl ?_
      walk_at "V"
      refine ⟨by walk_at "S", fun e he => ?_⟩
      walk_at "V"
      refine w_call hA D (by omega) rfl ?_
      walk_at "V"
      have ge := Grow.new (T := m.T) (o := .lst []) he
      have hep := new_ne D3.purse he
      refine ⟨p, _, _, rfl, D3.purse.new ge, by omega, by omega, by omega, fun r2 H4 q3 q4 d4 => ?_⟩
      walk_at "V"
      have he4 := d4.grow.ext _ _ hep (upd_same (H := H3) (a := e) (o := .lst [])) (fun _ w => by cases w)
      have D4 := (D3.post ge).trans d4
      have Q4 := (Q3.grow D3.purse.at_ (Grow.to ge)).grow (D3.purse.new ge).at_ d4.grow
      have hL4 := d4.grow.ext _ _ hLp (Grow.extN ge _ _ hL3 (fun _ w => by cases w)) (fun _ w => by cases w)
      obtain ⟨c, hcc⟩ : ∃ c : Nat, 1 + r2 = c := ⟨(1 + r2).toNat, by omega⟩
      rw [hcc]
      obtain ⟨r4, T4, l4⟩ := keep D4
      refine ⟨p, _, l, e, zs, [], c, true, rfl, by omega, by omega, by omega, D4.purse, by omega, SqL.of l4, SqL.of he4, hlp, hep, lz0, by omega, by decide, by simp, fun v tt H5 tok ts tc da d5 => ?_⟩
      have D5 := D4.trans d5
      have Q5 := Q4.grow D4.purse.at_ d5.grow
      have hL5 := d5.grow.ext _ _ hLp hL4 (fun _ w => by cases w)
      have gdt : Tm.Gd 5 tt := ⟨Tm.ok_wf tt tok (by omega), Tm.ok_nms hzs (by simp) tt tok, by have := Tm.dep_le tt; omega⟩
      have nmt : ∀ b, ∀ z ∈ tt.nam b, z ∈ zs := fun bb z hz => by
        obtain ⟨w, hw⟩ := Tm.nam_mem.1 hz
        have := Tm.ok_nam tt tok _ hw
        cases bb with
        | true => simp at this
        | false => simpa using this
      have dv5 : Da m.K (AA p d1 d2) H5 v tt.py := da.sub fun a z => ⟨new_ne D4.purse z.1, (fun w => by have := Q4.h1; rw [← w, show H4 a = none from z.1] at this; cases this), (fun w => by have := Q4.h2; rw [← w, show H4 a = none from z.1] at this; cases this)⟩
      walk_at "V"
      have lq : qs.length ≤ 3 := by
        have h1 := nd_sub_len _ _ Q2.nd sub
        rw [List.length_map, List.length_take] at h1
        omega
      refine ⟨d2, _, rfl, DPut.k (k := .inr z) Q5.h2 (by rw [tlK, keyed, List.length_map, qts, List.length_map, sizeLine_eq]; omega), ?_⟩
      rw [show putK (tlK (qts qs)) (.inr z) v = tlK (qts (qs ++ [(z, i, v, tt)])) from by
        rw [tlK, keyed_put (f := fun q : V × Tm => q.1) (a := (v, tt)) (by rw [qts_keys]; exact nz)]; simp [tlK, qts]]
      have gA : GrowX m.T (· = d2) H5 (upd H5 d2 (.dK (tlK (qts (qs ++ [(z, i, v, tt)]))))) := GrowX.dk Q5.h2
      have h26 := upd_same (H := H5) (a := d2) (o := .dK (tlK (qts (qs ++ [(z, i, v, tt)]))))
      have h16 : (upd H5 d2 (.dK (tlK (qts (qs ++ [(z, i, v, tt)]))))) d1 = some (.dK (rlK (qrs qs))) := by rw [upd_ne ne12]; exact Q5.h1
      have D6 : Drew m p n (24 + 1100 * j + 1024) H (upd H5 d2 (.dK (tlK (qts (qs ++ [(z, i, v, tt)]))))) := by
        have D5' := D5.mono (show _ ≤ 24 + 1100 * j + 1024 by omega)
        exact ⟨D5'.grow.into gA fun c w => .inl (by rw [w]; exact hd2'), D5'.purse.x gA fun w => hd2p w.symm⟩
      have dv6 := gA.da dv5 fun a ha => ha.2.2
      walk_at "B"
      refine s_dput hA ?_
      refine w_rule hA Mk (by omega) rfl ?_
      walk_at "V"
      refine g_ixD hA (r := v) (.inl ⟨_, .inr z, .inl h26, rfl, by rw [tlK_val, show (qts (qs ++ [(z, i, v, tt)])).lookup z = some (v, tt) from by rw [show qts (qs ++ [(z, i, v, tt)]) = qts qs ++ [(z, v, tt)] from by simp [qts]]; exact look_add (by rw [qts_keys]; exact nz)]; rfl⟩) ?_
      refine ⟨tt, 5, dv6.sub fun _ _ => trivial, gdt, by omega, D6.grow.tab hT, fun jr H7 g7 nj ra => ?_⟩
      walk_at "V"
      have h17 := Grow.extN g7 _ _ h16 (fun _ w => by cases w)
      refine ⟨d1, _, rfl, DPut.k (k := .inr z) h17 (by rw [rlK, keyed, List.length_map, qrs, List.length_map, sizeLine_eq]; omega), ?_⟩
      rw [show putK (rlK (qrs qs)) (.inr z) (.ref jr) = rlK (qrs (qs ++ [(z, jr, v, tt)])) from by
        rw [rlK, keyed_put (f := fun q : Addr × Tm => V.ref q.1) (a := (jr, tt)) (by rw [qrs_keys]; exact nz)]; simp [rlK, qrs]]
      have ri : RuleAt m C (AA p d1 d2) H7 jr tt := ra.sub fun a z => ⟨new_ne D6.purse z, (fun w => by rw [w, New, h16] at z; cases z), (fun w => by rw [w, New, h26] at z; cases z)⟩
      rw [qts_i qs z i jr v tt] at g7
      have Q8 := Q5.add ne12 dv5 ⟨gdt, by omega, nmt⟩ hzz nz g7 ri
      have gB : GrowX m.T (· = d1) H7 (upd H7 d1 (.dK (rlK (qrs (qs ++ [(z, jr, v, tt)]))))) := GrowX.dk h17
      rw [qts_i qs z i jr v tt] at D6
      have D7 := D6.post g7
      have D8 : Drew m p n (24 + 1100 * j + 1024) H (upd H7 d1 (.dK (rlK (qrs (qs ++ [(z, jr, v, tt)]))))) := ⟨D7.grow.into gB fun c w => .inl (by rw [w]; exact hd1), D7.purse.x gB fun w => hd1p w.symm⟩
      have hL6 : (upd H5 d2 (.dK (tlK (qts (qs ++ [(z, jr, v, tt)]))))) L = some (.lst (ws.map V.str)) := by rw [upd_ne (fun w => by rw [w, Q5.h2] at hL5; cases hL5)]; exact hL5
      have hL7 := Grow.extN g7 _ _ hL6 (fun _ w => by cases w)
      refine b_nil (b_nil ⟨⟨_, _, _, _, _, _, _, _, _, rfl⟩, ?_, D8.mono (by omega), _, Q8, ?_⟩)
      · rw [upd_ne (fun w => by rw [w, h17] at hL7; cases hL7)]; exact hL7
      · intro w hw
        rw [List.map_append] at hw
        rcases List.mem_append.1 hw with c | c
        · exact subS w c
        · have e : w = z := by simpa using c
          rw [e, List.take_add_one, hz]
          exact List.mem_append_right _ (List.mem_singleton.2 rfl)
    · refine b_nil (b_nil ⟨⟨_, _, _, _, _, _, _, _, _, rfl⟩, hL3, D3.mono (by omega), qs, Q3, subS⟩)
  · rintro σ H2 ⟨⟨s5, s6, s7, s8, s9, s10, s11, s12, s13, rfl⟩, hL2, D2', qs, Q2, sub⟩
    rw [List.length_map] at D2' sub
    have D2 : Drew m p n 3400 H H2 := D2'.mono (by omega)
    clear D2' D1 D0 Q1 Q0
    have lq : qs.length ≤ 3 := by
      have h1 := nd_sub_len _ _ Q2.nd sub
      rw [List.length_map, List.length_take] at h1
      omega
    generalize hRR : tlT (qts qs) = RR
    have hR : rlT (qrs qs) = RR := by rw [q_same]; exact hRR
    have Rwf : ∀ q ∈ RR, q.2.wf := fun q hq => by
      rw [← hR] at hq
      obtain ⟨r, hr, rfl⟩ := List.mem_map.1 hq
      obtain ⟨u, hu, rfl⟩ := List.mem_map.1 hr
      exact (Q2.gd u hu).1.wf
    have Rgd : ∀ q ∈ RR, Tm.Gd 5 q.2 ∧ q.2.cnt ≤ 3 ∧ ∀ b, ∀ z ∈ q.2.nam b, z ∈ zs := fun q hq => by
      rw [← hR] at hq
      obtain ⟨r, hr, rfl⟩ := List.mem_map.1 hq
      obtain ⟨u, hu, rfl⟩ := List.mem_map.1 hr
      exact Q2.gd u hu
    have gdp : Tm.Gd 17 (t.put RR) := gd.put fun q hq => (Rgd q hq).1
    have shp := gdp.shaped (by omega)
    have hdp := gdp.dep
    have nmp : ∀ b, ∀ z ∈ (t.put RR).nam b, z ∈ zs := fun bb z hz => by
      rcases Tm.nam_put t hz with c | ⟨q, hq, c⟩
      · exact hnam bb z c
      · exact (Rgd q hq).2.2 bb z c
    have cnp : (t.put RR).cnt ≤ 180 := by
      have := Tm.cnt_put (R := RR) (M := 3) (by omega) (fun q hq => (Rgd q hq).2.1) t
      show (Tm.reb (Tm.putP RR) t).cnt ≤ 180
      omega
    walk_at "B"
    refine s_par hA n6 n7 ?_
    refine w_cons (w_call hA Pu (by omega) rfl ?_)
    walk_at "V"
    obtain ⟨r2, T2, l2⟩ := keep D2
    refine ⟨i, d1, t, qrs qs, 12, 17, rfl, r2.any, T2, gd, Q2.rtab hzs (by omega), fun q hq => ?_, by rw [hR]; exact gdp, by omega, by omega, fun j1 H3 g3 nj1 ra1 => ?_⟩
    · obtain ⟨u, hu, rfl⟩ := List.mem_map.1 hq
      exact ⟨Nat.le_trans (Q2.gd u hu).1.dep (by omega), (Q2.gd u hu).1.wf⟩
    rw [hR] at ra1
    have hj1p : j1 ≠ p := new_ne D2.purse nj1
    have s3 : RuleAt m C (· ≠ p) H3 j1 (t.put RR) := ra1.sub fun a z => new_ne D2.purse z
    walk_at "V"
    refine g_typ hA hdict rfl bt_dict ?_
    walk_at "V"
    have Q3 := Q2.grow D2.purse.at_ (Grow.to g3)
    refine g_dictD hA Q3.h1 fun dk hdk => ?_
    walk_at "V"
    refine ⟨_, _, rfl, ?_⟩
    have g4 := Grow.new (T := m.T) (o := .dK (rlK (qrs qs))) hdk
    have hk4 := upd_same (H := H3) (a := dk) (o := .dK (rlK (qrs qs)))
    generalize upd H3 dk (.dK (rlK (qrs qs))) = H4 at g4 hk4 ⊢
    have g24 := GrowX.trans g3 g4
    have D4 := D2.post g24
    have s4 : RuleAt m C (· ≠ p) H4 j1 (t.put RR) := RuleAt.grow (T := m.T) s3 g4 (fun _ _ z => z) (fun z => z)
    have Q4 := Q3.grow (D2.purse.new g3).at_ (Grow.to g4)
    obtain ⟨r4, T4, l4⟩ := keep D4
    -- as put in here, and the rules stay
    walk_at "B"
    walk_at "V"
    refine w_met0 (E := C8.E0) hA Me (by omega) C8.pass0 ?_
    walk_at "V"
    have s4' := s4
    obtain ⟨ds, us, his, dus⟩ := s4'
    refine ⟨j1, ds, _, rfl, his, rfl, j1, t.put RR, rfl, s4.any, T4, by omega, gdp.wf, fun v5 H5 g5 fr5 => ?_⟩
    walk_at "V"
    refine w_call hA Lp (by omega) rfl ?_
    refine w_cons (w_met0 (E := C8.E0) hA Me (by omega) C8.pass0 ?_)
    walk_at "V"
    have D5 := D4.post g5
    obtain ⟨r5, T5, l5⟩ := keep D5
    have r5' := r5
    obtain ⟨dr, ur, hir, dur⟩ := r5'
    refine ⟨i, dr, _, rfl, hir, rfl, i, t, rfl, r5.any, T5, by omega, hwf, fun v6 H6 g6 fr6 => ?_⟩
    walk_at "V"
    have g46 := GrowX.trans g5 g6
    have Q6 := Q4.grow D4.purse.at_ (Grow.to g46)
    refine ⟨v6, d2, t, qts qs, rfl, fr6.da.sub fun _ _ => trivial, by omega, hwf, Q6.ttab, fun q hq => ?_, fun v7 H7 g7 d7 => ?_⟩
    · obtain ⟨u, hu, rfl⟩ := List.mem_map.1 hq
      have := (Q2.gd u hu).1
      exact ⟨Nat.le_trans this.dep (by omega), this.wf⟩
    rw [hRR] at d7
    walk_at "V"
    have g47 := GrowX.trans g46 g7
    refine g_neD hA (Da.dp _ _ (Grow.da (GrowX.trans g6 g7) fr5.da)) (Da.dp _ _ d7) shp shp ?_
    rw [(Tm.eqv_py _ _).2 rfl]
    walk_at "V"
    refine iteF ?_
    have Q7 := Q4.grow D4.purse.at_ (Grow.to g47)
    have hk7 := Grow.extN g47 _ _ hk4 (fun _ w => by cases w)
    walk_at "V"
    refine g_neDK hA (n := 1) Q7.h1 hk7 (by omega) rfl (fun pr hpr => ?_) ?_
    · obtain ⟨q, hq, rfl⟩ := List.mem_map.1 hpr
      refine ⟨.ref q.2.1, ?_, .inr (.inl ⟨_, rfl, rfl⟩)⟩
      rw [show valV (rlK (qrs qs)) (.inr q.1) = ((qrs qs).lookup q.1).map (fun q => V.ref q.1) from keyed_val _ _ _, nd_look (by rw [qrs_keys]; exact Q2.nd) hq]
      rfl
    walk_at "V"
    refine iteF (b_nil ?_)
    have D7 := D4.post g47
    have s7' := RuleAt.grow (T := m.T) s4 g47 (fun _ _ z => z) (fun z => z)
    have hp7 := D7.purse
    have keep7 : ∀ {j : Nat} {H' : Hp}, Drew m p (n + 3400) j H7 H' → RuleAt m C (· ≠ p) H' i t ∧ RuleAt m C (· ≠ p) H' j1 (t.put RR) ∧ Tabs m.T H' ∧ H' l = some (.lst (zs.map V.str)) ∧ Qs m C p H' d1 d2 zs qs := fun {j H'} d =>
      ⟨(keep (D7.trans d)).1, RuleAt.grow (T := m.T) (S := (· = p)) s7' d.grow (fun _ z => z) hj1p, (keep (D7.trans d)).2.1, (keep (D7.trans d)).2.2, Q7.grow D7.purse.at_ d.grow⟩
    walk_at "B"
    refine s_forR hA (pg_nl hA n8) hrange rfl ?_
    walk_at "V"
    refine ⟨by omega, by omega, fun j σ H' => (∃ s5 s8 s9 s10 s11 s12 s13, σ = [some (.ref p), some (.ref i), some (.ref l), some (.ref d1), some (.ref d2), s5, some (.ref j1), some (.ref dk), s8, s9, s10, s11, s12, s13]) ∧ Drew m p (n + 3400) (160 * j) H7 H', ⟨⟨_, _, _, _, _, _, _, rfl⟩, hp7.drew GrowX.refl⟩, ?_, ?_⟩
    · rintro j σ H10 hj ⟨⟨s5, s8, s9, s10, s11, s12, s13, rfl⟩, D10⟩
      have hj2 : j < 2 := hj
      show wB X _ _ [some (.ref p), some (.ref i), some (.ref l), some (.ref d1), some (.ref d2), s5, some (.ref j1), some (.ref dk), some (.int j), s9, s10, s11, s12, s13] H10
      walk_at "B"
      refine s_par hA n9 n10 ?_
      refine w_cons (w_call hA Ho (by omega) rfl ?_)
      walk_at "V"
      obtain ⟨_, _, _, l10, Q10⟩ := keep7 D10
      refine ⟨p, _, l, zs, rfl, D10.purse, by omega, SqL.of l10, hlp, nd, by omega, fun a kh H11 kk bd d11 na ha => ?_⟩
      have D11 := D10.trans d11
      walk_at "V"
      refine w_call hA Ho (by omega) rfl ?_
      walk_at "V"
      obtain ⟨_, _, _, l11, Q11⟩ := keep7 D11
      have nad : a ≠ d2 := fun w => by rw [w, New, Q10.h2] at na; cases na
      refine ⟨p, _, l, zs, rfl, D11.purse, by omega, SqL.of l11, hlp, nd, by omega, fun b' kn H12 kk2 bd2 d12 nb hb => ?_⟩
      have D12 := D11.trans d12
      have nbd : b' ≠ d2 := fun w => by rw [w, New, Q11.h2] at nb; cases nb
      refine w_nil ⟨_, _, rfl, ?_⟩
      have A12 : HAt H12 a kh zs := ⟨d12.dk D11.purse ha, kk⟩
      have B12 : HAt H12 b' kn zs := ⟨hb, kk2⟩
      obtain ⟨r12, s12', T12, l12, Q12⟩ := keep7 D12
      -- later
      walk_at "B"
      walk_at "V"
      refine g_typ hA hdict rfl bt_dict ?_
      walk_at "V"
      refine g_dictD hA A12.at_ fun la hla => ?_
      have ne2 : la ≠ d2 := fun w => by rw [w, Q12.h2] at hla; cases hla
      have glX : Grow m.T H12 (upd H12 la (.dK (hrK kh))) := Grow.new hla
      walk_at "B"
      refine s_forDk hA (pg_nl hA n5) ⟨d2, tlK (qts qs), by rw [upd_ne ne2.symm]; exact Q12.h2, fun od => ?_⟩
      walk_at "V"
      refine ⟨rfl, rfl, fun t' σ H' => (∃ s5, σ = [some (.ref p), some (.ref i), some (.ref l), some (.ref d1), some (.ref d2), s5, some (.ref j1), some (.ref dk), some (.int j), some (.ref a), some (.ref b'), some (.ref la), s12, s13]) ∧ Grow m.T (upd H12 d2 (.frz od (.dK (tlK (qts qs))))) H' ∧ ∃ kl, H' la = some (.dK (hrK kl)) ∧ kl.map (·.1) = zs ∧ ∀ z, hrs kl z = Tm.ruled (RR.take t') (hrs kh) (hrs kn) z, ?_, ?_, ?_, ?_⟩
      · refine ⟨⟨_, rfl⟩, ?_, kh, ?_, kk, fun z => rfl⟩
        · rw [upd_comm' ne2]
          exact Grow.new (by rw [upd_ne ne2]; exact hla)
        · rw [upd_ne ne2]; exact upd_same
      · rintro t' σ H' _ ⟨_, g, _⟩
        exact g.frz _ _ _ upd_same
      · rintro t' pr σ H13 hpr ⟨⟨s5', rfl⟩, g13, kl, hla13, kkl, hkl⟩
        obtain ⟨q, hq, rfl⟩ := keyed_get hpr
        have hqm := List.mem_of_getElem? hq
        rw [qts, List.getElem?_map] at hq
        obtain ⟨q0, hq0, rfl⟩ := Option.map_eq_some_iff.1 hq
        have hqm0 := List.mem_of_getElem? hq0
        have fz := g13.frz _ _ _ upd_same
        show wB X _ _ [some (.ref p), some (.ref i), some (.ref l), some (.ref d1), some (.ref d2), some (.str q0.1), some (.ref j1), some (.ref dk), some (.int j), some (.ref a), some (.ref b'), some (.ref la), s12, s13] H13
        have hgd := Q12.gd q0 hqm0
        have A13 : HAt H13 a kh zs := ⟨Grow.extN g13 _ _ (by rw [upd_ne nad]; exact A12.at_) (fun _ w => by cases w), kk⟩
        have B13 : HAt H13 b' kn zs := ⟨Grow.extN g13 _ _ (by rw [upd_ne nbd]; exact B12.at_) (fun _ w => by cases w), kk2⟩
        walk_at "B"
        refine s_dput hA ?_
        refine w_call hA Lt (by omega) rfl ?_
        walk_at "V"
        refine g_ixD hA (r := q0.2.2.1) (.inl ⟨tlK (qts qs), .inr q0.1, .inr ⟨od, fz⟩, rfl, by rw [tlK_val, nd_look (by rw [qts_keys]; exact Q12.nd) hqm]; rfl⟩) ?_
        walk_at "V"
        refine ⟨q0.2.2.1, .ref a, .ref b', q0.2.2.2, kh, kn, rfl, Grow.da g13 (da_frz Q12.h2 ((Q12.tm q0 hqm0).sub fun _ _ => trivial)), Nat.le_trans hgd.1.dep (by omega), hgd.1.wf, .inr ⟨⟨a, rfl, A13.at_⟩, fun z hz => A13.some (hgd.2.2 false z hz)⟩, .inr ⟨⟨b', rfl, B13.at_⟩, fun z hz => B13.some (hgd.2.2 true z hz)⟩, fun H14 g14 => ?_⟩
        walk_at "V"
        have hla14 := Grow.extN g14 _ _ hla13 (fun _ w => by cases w)
        have lkl : kl.length ≤ 3 := by have := congrArg List.length kkl; rw [List.length_map] at this; omega
        have hzk : q0.1 ∈ kl.map (·.1) := by rw [kkl]; exact Q12.zz q0 hqm0
        refine ⟨la, _, rfl, DPut.k (k := .inr q0.1) hla14 (by rw [hrK_len, sizeLine_eq]; omega), ?_⟩
        rw [putZ_hr _ hzk]
        have gX : GrowX m.T (· = la) H14 (upd H14 la (.dK (hrK (putZ kl q0.1 (q0.2.2.2.tell (hrs kh) (hrs kn)))))) := GrowX.dk hla14
        refine b_nil ⟨⟨_, rfl⟩, Grow.intoNew (g13.trans g14) gX (fun c w => by rw [w, New, upd_ne ne2]; exact hla), _, upd_same, by rw [putZ_keys]; exact kkl, fun z => ?_⟩
        have eR : RR.take (t' + 1) = RR.take t' ++ [(q0.1, q0.2.2.2)] := by
          rw [← hRR, List.take_add_one]
          congr 1
          rw [tlT, qts, List.getElem?_map, List.getElem?_map, hq0]
          rfl
        have nz : q0.1 ∉ (RR.take t').map (·.1) := fun c => by
          have nk : (RR.map (·.1)).Nodup := by rw [← hRR, show (tlT (qts qs)).map (·.1) = qs.map (·.1) from by simp [tlT, qts]]; exact Q12.nd
          rw [List.map_take] at c
          obtain ⟨j', hj', e⟩ := List.mem_take_iff_getElem.1 c
          have hq1 : (RR.map (·.1))[t']? = some q0.1 := by rw [← hRR, tlT, qts, List.getElem?_map, List.getElem?_map, List.getElem?_map, hq0]; rfl
          have e2 := (List.getElem?_eq_some_iff.1 hq1).2
          have := (List.getElem_inj nk).1 (e.trans e2.symm)
          omega
        rw [hrs_put hzk, eR, Tm.ruled_add nz, hkl]
      · rintro σ H13 ⟨⟨s5', rfl⟩, g13, kl, hla13, kkl, hkl⟩
        rw [show (tlK (qts qs)).length = RR.length from by rw [← hRR]; simp [tlK, keyed, tlT], List.take_length] at hkl
        obtain ⟨gU, fz⟩ := Grow.unlock Q12.h2 g13
        have hlaU : (upd H13 d2 (.dK (tlK (qts qs)))) la = some (.dK (hrK kl)) := by rw [upd_ne ne2]; exact hla13
        generalize upd H13 d2 (.dK (tlK (qts qs))) = H14 at gU hlaU ⊢
        have D14 := D12.post gU
        obtain ⟨r14, s14, T14, l14, Q14⟩ := keep7 D14
        have A14 := A12.ext (Grow.extN gU)
        have B14 := B12.ext (Grow.extN gU)
        have L14 : HAt H14 la kl zs := ⟨hlaU, kkl⟩
        walk_at "B"
        walk_at "V"
        refine w_callX (E := C8.E0) hA T3 (by omega) rfl C8.pass0 ?_
        walk_at "V"
        refine ⟨j1, t.put RR, .ref a, .ref b', kh, kn, rfl, s14.any, T14, by omega, gdp.wf, by omega, A14.hk hzs (by omega), fun z hz => A14.some (nmp false z hz), .inr ⟨B14.hk hzs (by omega), fun z hz => B14.some (nmp true z hz)⟩, fun H15 g15 => ?_⟩
        walk_at "V"
        refine w_call hA Lt (by omega) rfl ?_
        refine w_cons (w_met0 (E := C8.E0) hA Me (by omega) C8.pass0 ?_)
        walk_at "V"
        have D15 := D14.post g15
        obtain ⟨r15, s15, T15, l15, Q15⟩ := keep7 D15
        have r15' := r15
        obtain ⟨dr, ur, hir, dur⟩ := r15'
        refine ⟨i, dr, _, rfl, hir, rfl, i, t, rfl, r15.any, T15, by omega, hwf, fun v6 H16 g16 fr6 => ?_⟩
        walk_at "V"
        have g1416 := GrowX.trans g15 g16
        have L16 := L14.ext (Grow.extN g1416)
        have B16 := B14.ext (Grow.extN g1416)
        refine ⟨v6, .ref la, .ref b', t, kl, kn, rfl, fr6.da.sub fun _ _ => trivial, by omega, hwf, .inr ⟨⟨la, rfl, L16.at_⟩, fun z hz => L16.some (hnam false z hz)⟩, .inr ⟨⟨b', rfl, B16.at_⟩, fun z hz => B16.some (hnam true z hz)⟩, fun H17 g17 => ?_⟩
        walk_at "V"
        rw [show (t.put RR).tell (hrs kh) (hrs kn) = t.tell (hrs kl) (hrs kn) from by
          rw [show hrs kl = Tm.ruled RR (hrs kh) (hrs kn) from funext hkl]
          exact Tm.tell_put Rwf t]
        rw [show (!decide (t.tell (hrs kl) (hrs kn) = t.tell (hrs kl) (hrs kn))) = false from by simp]
        refine iteF (b_nil (b_nil ⟨⟨_, _, _, _, _, _, _, rfl⟩, ?_⟩))
        exact (D14.post (GrowX.trans g1416 g17)).mono (by omega)
    · rintro σ H10 ⟨⟨s5, s8, s9, s10, s11, s12, s13, rfl⟩, D10⟩
      replace D10 : Drew m p (n + 3400) 320 H7 H10 := D10
      obtain ⟨r10, s10', T10, l10, Q10⟩ := keep7 D10
      walk_at "B"
      walk_at "V"
      refine w_lcTi hA (by decide +kernel) (i := 13) ⟨rfl, rfl⟩ ?_
      walk_at "V"
      refine ⟨by walk_at "S", fun tq htq => ?_⟩
      have gq := Grow.new (T := m.T) (o := .tup (four4.map V.str)) htq
      refine ⟨tq, four4.map V.str, rfl, SqT.of upd_same, fun Dd hDd => ?_⟩
      refine ⟨fun j' H' => Grow m.T (upd H10 tq (.tup (four4.map V.str))) H' ∧ H' Dd = some (.lst (((four4.take j').filter (fun w => !decide (w ∈ zs))).map V.str)), ⟨Grow.new hDd, upd_same⟩, ?_, ?_, ?_⟩
      · rintro j' H' _ ⟨g, _⟩
        exact g.seqT (SqT.of upd_same)
      · rintro j' x H' hx ⟨g, hv⟩ X' hX'
        rw [List.getElem?_map] at hx
        obtain ⟨w, hw, rfl⟩ := Option.map_eq_some_iff.1 hx
        have hj4 := (List.getElem?_eq_some_iff.1 hw).1
        have e4 : four4.length = 4 := rfl
        have c2 := nc_of hX' 2 "_law_names_here"
        have c13 := nl_of hX' 13 "_law_word_here"
        have lx := Grow.extN (gq.trans g) _ _ l10 (fun _ w => by cases w)
        walk_at "V"
        refine g_notInF hX' (.inl (SqL.of lx)) rfl (all_flat zs) ?_
        rw [inV_str]
        walk_at "V"
        have et : (four4.take (j' + 1)).filter (fun w => !decide (w ∈ zs)) = (four4.take j').filter (fun w => !decide (w ∈ zs)) ++ (if w ∈ zs then [] else [w]) := by
          rw [List.take_add_one, hw, List.filter_append]
          congr 1
          by_cases c : w ∈ zs <;> simp [c]
        refine ite2 (fun h0 => ?_) fun h0 => ?_
        · intro X2 hX2
          have c13 := nl_of hX2 13 "_law_word_here"
          walk_at "V"
          have nw : w ∉ zs := by simpa using h0
          refine ⟨_, hv, ?_, g.intoNew (GrowX.lst hv) (fun c w => by rw [w]; exact hDd), ?_⟩
          · rw [List.length_map, sizeLine_eq]
            have := List.length_filter_le (fun w => !decide (w ∈ zs)) (four4.take j')
            rw [List.length_take] at this
            omega
          · rw [upd_same, et, if_neg nw, List.map_append]; rfl
        · have nw : w ∈ zs := by simpa using h0
          exact ⟨g, by rw [et, if_pos nw, List.append_nil]; exact hv⟩
      · rintro H11 ⟨g11, hv⟩
        obtain ⟨w, rest, ew, hwn, hwz⟩ := four4_free lz
        rw [show (four4.map V.str).length = four4.length from List.length_map _, List.take_length, ew] at hv
        walk_at "V"
        refine g_ixL hA (SqL.of hv) (atI_at (j := 0) rfl) ?_
        have g1 := gq.trans g11
        have D11 := D10.post g1
        obtain ⟨r11, s11', T11, l11, Q11⟩ := keep7 D11
        walk_at "B"
        walk_at "V"
        refine w_call hA Pu (by omega) rfl ?_
        walk_at "V"
        refine w_dict0 fun e0 he0 => ?_
        walk_at "V"
        have e00 : t.put (rlT []) = t := Tm.put_other fun z _ => rfl
        have ge := Grow.new (T := m.T) (o := .dK []) he0
        have r12 := RuleAt.grow (T := m.T) r11 ge (fun _ _ z => z) (fun z => z)
        refine ⟨i, e0, t, [], 12, 12, rfl, r12.any, ge.tab T11, gd, ⟨upd_same, by simp, by simp, by simp⟩, by simp, by rw [e00]; exact gd, by omega, by omega, fun j4 H12 g12 nj4 ra4 => ?_⟩
        rw [e00] at ra4
        walk_at "V"
        have r13 := RuleAt.grow (T := m.T) r12 g12 (fun _ _ z => z) (fun z => z)
        refine g_eqRule hA R E2 mE (by omega) ra4.any r13.any sh sh ?_
        rw [(Tm.eqv_py _ _).2 rfl]
        walk_at "V"
        refine iteT ?_
        have g13 := GrowX.trans ge g12
        have T13 := g13.tab T11
        walk_at "V"
        refine w_call hA Pu (by omega) rfl ?_
        walk_at "V"
        refine g_typ hA hdict rfl bt_dict ?_
        walk_at "V"
        refine ⟨by walk_at "S", fun tp htp => ?_⟩
        walk_at "V"
        refine ⟨by walk_at "S", fun lp hlp' => ?_⟩
        walk_at "V"
        have gt := (Grow.new (T := m.T) (o := .tup [.str w, .ref i]) htp).trans (Grow.new (T := m.T) (o := .lst [.ref tp]) hlp')
        refine g_dictP hA (ps := [tp]) (kvs := [(.inr w, .ref i)]) (SqL.of upd_same) (.cons (GrowX.seqT (Grow.new (T := m.T) hlp') (SqT.of upd_same)) .nil) fun dd hdd => ?_
        walk_at "V"
        have gd' := gt.trans (Grow.new (T := m.T) (o := .dK (mergeK [] [((.inr w : Key), V.ref i)])) hdd)
        have r14 := RuleAt.grow (T := m.T) r13 gd' (fun _ _ z => z) (fun z => z)
        have e01 : t.put (rlT [(w, i, t)]) = t := Tm.put_other fun z hz => by
          have ne : (z == w) = false := by simpa using fun e : z = w => hwz (by rw [← e]; exact hnam false z hz)
          show List.lookup z [(w, t)] = none
          rw [List.lookup_cons, ne]; rfl
        refine ⟨i, dd, t, [(w, i, t)], 12, 12, rfl, r14.any, gd'.tab T13, gd, ⟨upd_same, by simpa using hwn, by simp, by simpa using r14.any⟩, by simpa using ⟨(by omega : t.dep ≤ 40), hwf⟩, by rw [e01]; exact gd, by omega, by omega, fun j5 H15 g15 nj5 ra5 => ?_⟩
        rw [e01] at ra5
        walk_at "V"
        have r15 := RuleAt.grow (T := m.T) r14 g15 (fun _ _ z => z) (fun z => z)
        refine g_eqRule hA R E2 mE (by omega) ra5.any r15.any sh sh ?_
        rw [(Tm.eqv_py _ _).2 rfl]
        exact k _ ((D7.trans (D11.post (GrowX.trans g13 (GrowX.trans gd' g15)))).mono (by omega))
theorem s_mono {X : Cx} {st : Stmt} {σ : L2.St} {H : Hp} {nx nx' : L2.St → Hp → Prop} {rt : VK} {bk ct : L2.St → Hp → Prop} (h : wS X st ⟨nx', rt, bk, ct⟩ σ H) (k : ∀ σ H, nx' σ H → nx σ H) : wS X st ⟨nx, rt, bk, ct⟩ σ H := by
  unfold wS at h ⊢
  refine fun pins s I => thn (h pins s I) fun f s1 z => ?_
  cases f with
  | next => obtain ⟨σ', H', I', q⟩ := z; exact ⟨σ', H', I', k _ _ q⟩
  | brk => exact z
  | cont => exact z
  | ret u => exact z
mutual
theorem Ob.da {K : PySem.W.Frag} {A : Addr → Prop} {H : Hp} : ∀ (d : PyData) (v : V), Ob K A H v d → d.hasDict = false → Da K A H v d
  | .none, _, h, _ => by cases h; exact .non
  | .bool b, _, h, _ => by cases h; exact .bl b
  | .int i, _, h, _ => by cases h; exact .int i
  | .str x, _, h, _ => by cases h; exact .str x
  | .list ds, _, h, n => by cases h with | lst a s r _ => exact .lst a s (ObAll.da ds _ r n)
  | .tuple ds, _, h, n => by cases h with | tup s r => exact .tup s (ObAll.da ds _ r n)
  | .dict _, _, _, n => by cases n
theorem ObAll.da {K : PySem.W.Frag} {A : Addr → Prop} {H : Hp} : ∀ (ds : List PyData) (vs : List V), ObAll K A H vs ds → PyData.hasDictAll ds = false → DaAll K A H vs ds
  | [], _, h, _ => by cases h; exact .nil
  | d :: ds, _, h, n => by
    have n' : (d.hasDict || PyData.hasDictAll ds) = false := n
    rw [Bool.or_eq_false_iff] at n'
    cases h with | cons a b => exact .cons (Ob.da d _ a n'.1) (ObAll.da ds _ b n'.2)
end
/-- a display that is a term -/
theorem w_litT {m : Md} {N : List Str} {sc : Scope} {k : Nat} {X : Cx} {e : Expr} {σ : L2.St} {H : Hp} {Q : VK} (h : At m N sc k X) (t : Tm) (q : ∀ v H', Grow m.T H H' → Da m.K (New H) H' v t.py → Q v H') (hl : lit [] e = some t.py := by rfl) : wE X e σ H Q := by
  refine w_lit (m := m) (A := fun _ => False) (H0 := H) (env := []) (X := X) (σ := σ) (fun x d pos hx => by cases hx) e t.py H Q hl GrowX.refl fun v H' g o => q v H' g ?_
  exact Ob.da _ _ (ob_sub o fun a z => z.elim (fun w => w.elim) fun w => w.1) (Tm.no_dict t)
def sp_right (m : Md) : Sp := fun vs H Q _ => ∃ (p : Addr), vs = [.ref p] ∧ Purse H p 0 ∧ Tabs m.T H ∧ ∀ H', Drew m p 0 100000 H H' → Q (.bl true) H'
theorem c_right {m : Md} {C CT f : Addr} {fd : FuncData} (F : C8.Def m.K m.mg "_law_right" st_right f fd) (b : L2.Binds m.K fd ps_right []) (R : RuleC m C) (E2 : RuleE m C)
    (D : Cal m 2 "_law_draw" (sp_draw m)) (Nm : Cal m 4 "_law_names" (sp_names m)) (Oo : Cal m 3 "_law_one_of" (sp_one_of m)) (Tr : Cal m 14 "_law_term" (sp_term m 8)) (Mk : MakX m (L2.CX m.P m.w) 44 "Rule" C (sp_rinit m C CT 40) []) (Me : MetX m C8.CX0 44 C "term" (sp_rterm m C 40) [])
    (One : Cal m 50 "_law_one_right" (sp_one_right m C)) (Put : Cal m 90 "_law_put_right" (sp_put_right m C)) : Cal m 92 "_law_right" (sp_right m) := by
  refine cal_ofM F b sc_right (fun vs H Q E h => by obtain ⟨_, rfl, _⟩ := h; rfl) fun X vs H Q E hA hM h => ?_
  obtain ⟨p, rfl, hp, hT, k⟩ := h
  replace hA : At m nl_right (C8.fnScope st_right) 91 X := hA
  obtain ⟨n0, n1, n2, n3⟩ := nv_right
  have new_ne : ∀ {H' : Hp} {n' : Nat} {a : Addr}, Purse H' p n' → New H' a → a ≠ p := fun {H' n' a} hp' z w => by obtain ⟨_, e⟩ := hp'.at_; rw [← w, show H' a = none from z] at e; cases e
  walk_at "B"
  walk_at "V"
  refine w_call hA Nm (by omega) rfl ?_
  walk_at "V"
  refine ⟨p, 0, 3, rfl, hp, by omega, by omega, fun l zs H1 nm zl d1 nl1 hl1 => ?_⟩
  have hlp : l ≠ p := new_ne hp nl1
  walk_at "B"
  walk_at "V"
  refine w_call hA Tr (by omega) rfl ?_
  walk_at "V"
  refine w_sliceTo hA ?_
  walk_at "V"
  refine w_call hA D (by omega) rfl ?_
  walk_at "V"
  refine ⟨p, _, _, rfl, d1.purse, by omega, by omega, by omega, fun r1 H2 q1 q2 d2 => ?_⟩
  have hl2 := d2.grow.ext _ _ hlp hl1 (fun _ w => by cases w)
  walk_at "V"
  refine ⟨l, _, rfl, SqL.of hl2, fun l2 hl2n => ?_⟩
  have e4 : (r1 : Int) = (r1.toNat : Nat) := by omega
  rw [e4, cut_to (by omega), ← List.map_take]
  generalize r1.toNat = c4
  have gl2 := Grow.new (T := m.T) (o := .lst ((zs.take c4).map V.str)) hl2n
  have d12 := (d1.trans d2).post gl2
  have hl2p : l2 ≠ p := new_ne (d1.trans d2).purse hl2n
  have hl12 := gl2.extN _ _ hl2 (fun _ w => by cases w)
  have hl22 := upd_same (H := H2) (a := l2) (o := .lst ((zs.take c4).map V.str))
  generalize upd H2 l2 (.lst ((zs.take c4).map V.str)) = H2b at gl2 d12 hl12 hl22 ⊢
  have hzs : ∀ z ∈ zs, IsName z := nm.isn
  have hns : ∀ z ∈ zs.take c4, IsName z := fun z hz => nm.isn z (List.mem_of_mem_take hz)
  walk_at "V"
  refine w_call hA D (by omega) rfl ?_
  walk_at "V"
  refine ⟨p, _, _, rfl, d12.purse, by omega, by omega, by omega, fun r2 H3 q3 q4 d3 => ?_⟩
  walk_at "V"
  refine w_call hA D (by omega) rfl ?_
  walk_at "V"
  have D3 := d12.trans d3
  refine ⟨p, _, _, rfl, D3.purse, by omega, by omega, by omega, fun r3 H4 q5 q6 d4 => ?_⟩
  walk_at "V"
  have D4 := D3.trans d4
  obtain ⟨c, hcc⟩ : ∃ c : Nat, 1 + r2 = c := ⟨(1 + r2).toNat, by omega⟩
  rw [hcc]
  have keepL : ∀ {j : Nat} {H' : Hp}, Drew m p (0 + (160 + 8)) j H2b H' → H' l = some (.lst (zs.map V.str)) ∧ H' l2 = some (.lst ((zs.take c4).map V.str)) := fun {j H'} d => ⟨d.grow.ext _ _ hlp hl12 (fun _ w => by cases w), d.grow.ext _ _ hl2p hl22 (fun _ w => by cases w)⟩
  obtain ⟨l4, l24⟩ := keepL (d3.trans d4)
  refine ⟨p, _, l, l2, zs, zs.take c4, c, _, rfl, by omega, by omega, by omega, D4.purse, by omega, SqL.of l4, SqL.of l24, hlp, hl2p, by omega, by omega, by rw [List.length_take]; omega, hns, fun v t H5 tok ts tc da d5 => ?_⟩
  have D5 : Drew m p 0 5000 H H5 := (D4.trans d5).mono (by omega)
  have hl5 := d5.grow.ext _ _ hlp l4 (fun _ w => by cases w)
  have hdl := Tm.dep_le t
  have gd : Tm.Gd 11 t := ⟨Tm.ok_wf t tok (by omega), Tm.ok_nms hzs hns t tok, by omega⟩
  have dap : Da m.K (· ≠ p) H5 v t.py := da.sub fun a z => new_ne D4.purse z.1
  have hnam : ∀ bb, ∀ z ∈ t.nam bb, z ∈ zs := fun bb z hz => by
    obtain ⟨w, hw⟩ := Tm.nam_mem.1 hz
    have := Tm.ok_nam t tok _ hw
    cases bb with
    | true => exact List.mem_of_mem_take (by simpa using this)
    | false => simpa using this
  have hc : t.cnt ≤ 60 := by omega
  clear d1 d2 d12 d3 d4 d5 D3 D4 hl1 hl2 gl2 hl12 hl22 keepL
  refine b_cons (s_mono (nx' := fun σ' H' => ∃ (v' : V) (t' : Tm), σ' = [some (.ref p), some (.ref l), some v', none] ∧ Da m.K (· ≠ p) H' v' t'.py ∧ Tm.Gd 12 t' ∧ t'.cnt ≤ 60 ∧ (∀ bb, ∀ z ∈ t'.nam bb, z ∈ zs) ∧ H' l = some (.lst (zs.map V.str)) ∧ Drew m p 0 5100 H H') ?_ fun σ' H6 ⟨v', t', es, dap', gd', hc', hnam', hl6, D6⟩ => ?_)
  · walk_at "V"
    refine w_call hA D (by omega) rfl ?_
    walk_at "V"
    refine ⟨p, _, _, rfl, D5.purse, by omega, by omega, by omega, fun r4 H6 q7 q8 d6 => ?_⟩
    have D6 := D5.trans d6
    have dap6 := GrowX.da d6.grow dap (fun _ z => z)
    have hl6 := d6.grow.ext _ _ hlp hl5 (fun _ w => by cases w)
    walk_at "V"
    refine ite2 (fun _ => ?_) fun _ => ?_
    · walk_at "V"
      refine w_call hA Oo (by omega) rfl ?_
      walk_at "V"
      refine ⟨by walk_at "S", fun a1 ha1 => ?_⟩
      have g1 := Grow.new (T := m.T) (o := .lst [v]) ha1
      have a1p := new_ne D6.purse ha1
      have h11 := upd_same (H := H6) (a := a1) (o := .lst [v])
      have dv1 := Grow.da g1 dap6
      have D7 := D6.post g1
      have hl7 := Grow.extN g1 _ _ hl6 (fun _ w => by cases w)
      generalize upd H6 a1 (.lst [v]) = H7 at g1 h11 dv1 D7 hl7 ⊢
      walk_at "V"
      refine ⟨by walk_at "S", fun b1 hb1 => ?_⟩
      have g2 := Grow.new (T := m.T) (o := .tup [.str ("first" : Str), .ref a1]) hb1
      have x1 : Da m.K (· ≠ p) (upd H7 b1 (.tup [.str ("first" : Str), .ref a1])) (.ref b1) (Tm.all true [t]).py := .tup (SqT.of upd_same) (.cons (.str _) (.cons (.lst a1p (SqL.of (Grow.extN g2 _ _ h11 (fun _ w => by cases w))) (.cons (Grow.da g2 dv1) .nil)) .nil))
      have dv2 := Grow.da g2 dv1
      have D8 := D7.post g2
      have hl8 := Grow.extN g2 _ _ hl7 (fun _ w => by cases w)
      generalize upd H7 b1 (.tup [.str ("first" : Str), .ref a1]) = H8 at g2 x1 dv2 D8 hl8 ⊢
      walk_at "V"
      refine ⟨by walk_at "S", fun a2 ha2 => ?_⟩
      have g3 := Grow.new (T := m.T) (o := .lst [v]) ha2
      have a2p := new_ne D8.purse ha2
      have h22 := upd_same (H := H8) (a := a2) (o := .lst [v])
      have dv3 := Grow.da g3 dv2
      have x1 := Grow.da g3 x1
      have D9 := D8.post g3
      have hl9 := Grow.extN g3 _ _ hl8 (fun _ w => by cases w)
      generalize upd H8 a2 (.lst [v]) = H9 at g3 h22 dv3 x1 D9 hl9 ⊢
      walk_at "V"
      refine ⟨by walk_at "S", fun b2 hb2 => ?_⟩
      have g4 := Grow.new (T := m.T) (o := .tup [.str ("last" : Str), .ref a2]) hb2
      have x2 : Da m.K (· ≠ p) (upd H9 b2 (.tup [.str ("last" : Str), .ref a2])) (.ref b2) (Tm.all false [t]).py := .tup (SqT.of upd_same) (.cons (.str _) (.cons (.lst a2p (SqL.of (Grow.extN g4 _ _ h22 (fun _ w => by cases w))) (.cons (Grow.da g4 dv3) .nil)) .nil))
      have x1 := Grow.da g4 x1
      have dv4 := Grow.da g4 dv3
      have D10 := D9.post g4
      have hl10 := Grow.extN g4 _ _ hl9 (fun _ w => by cases w)
      generalize upd H9 b2 (.tup [.str ("last" : Str), .ref a2]) = H10 at g4 x1 x2 dv4 D10 hl10 ⊢
      walk_at "V"
      refine ⟨by walk_at "S", fun a3 ha3 => ?_⟩
      have g5 := Grow.new (T := m.T) (o := .lst [v]) ha3
      have a3p := new_ne D10.purse ha3
      have h33 := upd_same (H := H10) (a := a3) (o := .lst [v])
      have dv5 := Grow.da g5 dv4
      have x1 := Grow.da g5 x1
      have x2 := Grow.da g5 x2
      have D11 := D10.post g5
      have hl11 := Grow.extN g5 _ _ hl10 (fun _ w => by cases w)
      generalize upd H10 a3 (.lst [v]) = H11 at g5 h33 dv5 x1 x2 D11 hl11 ⊢
      walk_at "V"
      refine ⟨by walk_at "S", fun b3 hb3 => ?_⟩
      have g6 := Grow.new (T := m.T) (o := .tup [.str ("rank" : Str), .int 1, .ref a3]) hb3
      have x3 : Da m.K (· ≠ p) (upd H11 b3 (.tup [.str ("rank" : Str), .int 1, .ref a3])) (.ref b3) (Tm.rank 1 [t]).py := .tup (SqT.of upd_same) (.cons (.str _) (.cons (.int _) (.cons (.lst a3p (SqL.of (Grow.extN g6 _ _ h33 (fun _ w => by cases w))) (.cons (Grow.da g6 dv5) .nil)) .nil)))
      have x1 := Grow.da g6 x1
      have x2 := Grow.da g6 x2
      have D12 := D11.post g6
      have hl12 := Grow.extN g6 _ _ hl11 (fun _ w => by cases w)
      generalize upd H11 b3 (.tup [.str ("rank" : Str), .int 1, .ref a3]) = H12 at g6 x1 x2 x3 D12 hl12 ⊢
      walk_at "V"
      refine ⟨by walk_at "S", fun lo hlo => ?_⟩
      have g7 := Grow.new (T := m.T) (o := .lst [.ref b1, .ref b2, .ref b3]) hlo
      have lop := new_ne D12.purse hlo
      walk_at "V"
      refine ⟨p, _, lo, _, rfl, (D12.post g7).purse, by omega, SqL.of upd_same, lop, by simp, by simp, fun j w H13 hj d13 => ?_⟩
      have x1 := GrowX.da d13.grow (Grow.da g7 x1) (fun _ z => z)
      have x2 := GrowX.da d13.grow (Grow.da g7 x2) (fun _ z => z)
      have x3 := GrowX.da d13.grow (Grow.da g7 x3) (fun _ z => z)
      have hl13 := d13.grow.ext _ _ hlp (Grow.extN g7 _ _ hl12 (fun _ w => by cases w)) (fun _ w => by cases w)
      have D13 : Drew m p 0 5100 H H13 := ((D12.post g7).trans d13).mono (by omega)
      have one : ∀ u ∈ [t], Tm.Gd 11 u := fun u hu => by rw [List.mem_singleton.1 hu]; exact gd
      have nm1 : ∀ bb, Tm.nam bb (.all true [t]) = Tm.nam bb t ∧ Tm.nam bb (.all false [t]) = Tm.nam bb t ∧ Tm.nam bb (.rank 1 [t]) = Tm.nam bb t := fun bb => by simp [Tm.nam, Tm.prt, Tm.prts]
      have cn1 : Tm.cnts [t] = t.cnt := by simp [Tm.cnts]
      walk_at "V"
      match j, hj with
      | 0, h => cases h; exact ⟨_, _, rfl, x1, Tm.Gd.all one (by simp) (by simp), by show Tm.cnts [t] ≤ 60; omega, fun bb z hz => hnam bb z (by rw [(nm1 bb).1] at hz; exact hz), hl13, D13⟩
      | 1, h => cases h; exact ⟨_, _, rfl, x2, Tm.Gd.all one (by simp) (by simp), by show Tm.cnts [t] ≤ 60; omega, fun bb z hz => hnam bb z (by rw [(nm1 bb).2.1] at hz; exact hz), hl13, D13⟩
      | 2, h => cases h; exact ⟨_, _, rfl, x3, Tm.Gd.rank one (by simp) (by simp) (by decide) (by simp), by show Tm.cnts [t] ≤ 60; omega, fun bb z hz => hnam bb z (by rw [(nm1 bb).2.2] at hz; exact hz), hl13, D13⟩
    · exact b_nil ⟨_, _, rfl, dap6, gd.up (by omega), hc, hnam, hl6, D6.mono (by omega)⟩
  subst es
  have hT6 := D6.grow.tab hT
  have sh := gd'.shaped (by omega)
  have hdp := gd'.dep
  walk_at "B"
  walk_at "V"
  refine w_rule hA Mk (by omega) rfl ?_
  walk_at "V"
  refine ⟨t', 12, dap'.sub fun _ _ => trivial, gd', by omega, hT6, fun i H7 g7 ni ra => ?_⟩
  have hip := new_ne D6.purse ni
  have r7 : RuleAt m C (· ≠ p) H7 i t' := ra.sub fun a z => new_ne D6.purse z
  have D7 := D6.post g7
  have dap7 := Grow.da g7 dap'
  have hl7 := Grow.extN g7 _ _ hl6 (fun _ w => by cases w)
  walk_at "B"
  walk_at "V"
  refine w_call hA One (by omega) rfl ?_
  walk_at "V"
  refine ⟨p, _, i, l, t', zs, rfl, D7.purse, by omega, r7, g7.tab hT6, gd', hc', hl7, hlp, nm.nd, hzs, by omega, hnam', fun H8 d8 => ?_⟩
  have D8 := D7.trans d8
  have r8 := RuleAt.grow (T := m.T) (S := (· = p)) r7 d8.grow (fun _ z => z) hip
  have dap8 := GrowX.da d8.grow dap7 (fun _ z => z)
  have hl8 := d8.grow.ext _ _ hlp hl7 (fun _ w => by cases w)
  walk_at "V"
  refine iteF ?_
  walk_at "V"
  refine w_call hA Put (by omega) rfl ?_
  walk_at "V"
  refine ⟨p, _, i, l, t', zs, rfl, D8.purse, by omega, r8, D8.grow.tab hT, gd', hc', hl8, hlp, nm.nd, hzs, by omega, by omega, hnam', fun H9 d9 => ?_⟩
  have D9 := D8.trans d9
  have r9 := RuleAt.grow (T := m.T) (S := (· = p)) r8 d9.grow (fun _ z => z) hip
  have dap9 := GrowX.da d9.grow dap8 (fun _ z => z)
  walk_at "V"
  refine iteF (b_nil ?_)
  walk_at "B"
  walk_at "V"
  refine w_met0 (E := C8.E0) hA Me (by omega) C8.pass0 ?_
  walk_at "V"
  have r9' := r9
  obtain ⟨dx, u0, hi, du⟩ := r9'
  refine ⟨i, dx, _, rfl, hi, rfl, i, t', rfl, r9.any, D9.grow.tab hT, by omega, gd'.wf, fun v5 H10 g10 fr10 => ?_⟩
  walk_at "V"
  refine g_eqD hA (Da.dp _ _ fr10.da) (Da.dp _ _ (Grow.da g10 dap9)) sh sh ?_
  rw [(Tm.eqv_py _ _).2 rfl]
  exact k _ ((D9.post g10).mono (by omega))
def sp_law (m : Md) : Sp := fun vs H Q _ => ∃ (a : Addr) (ns : List Int), vs = [.ref a] ∧ SqL m.K H a (ns.map V.int) ∧ ns.length < 1000 ∧ Tabs m.T H ∧ ∀ H', Q (.bl true) H'
theorem isA : IsName "a" := by unfold IsName; decide +kernel
theorem isB : IsName "b" := by unfold IsName; decide +kernel
def two_t : Tm := .all false [.part false "a" 1, .part false "b" 0, .part true "a" 5]
def ta_t : Tm := .part false "b" 2
def tb_t : Tm := .all true [.part false "a" 0, .part true "b" 3]
def sw_t : Tm := .all false [.part false "b" 3, .all true [.part false "a" 0, .part true "b" 3], .part true "a" 5]
def r3_t : Tm := .rank 3 [.part false "a" 2, .part false "a" 2, .part false "a" 2]
def r1_t : Tm := .rank 1 [.part false "a" (-2), .part false "a" (-2), .part false "a" (-2)]
theorem gd_pt {n : Bool} {z : Str} {w : Int} (h : IsName z) : Tm.Gd 0 (.part n z w) := ⟨trivial, h, Nat.le_refl 0⟩
theorem ab_ne : ("a" : Str) ≠ "b" := by decide +kernel
theorem two_gd : Tm.Gd 1 two_t := Tm.Gd.all (fun t h => by
  simp only [List.mem_cons, List.not_mem_nil, or_false] at h
  rcases h with rfl | rfl | rfl
  · exact gd_pt isA
  · exact gd_pt isB
  · exact gd_pt isA) (by simp) (by simp)
theorem tb_gd : Tm.Gd 1 tb_t := Tm.Gd.all (fun t h => by
  simp only [List.mem_cons, List.not_mem_nil, or_false] at h
  rcases h with rfl | rfl
  · exact gd_pt isA
  · exact gd_pt isB) (by simp) (by simp)
theorem r3_gd : Tm.Gd 1 r3_t := Tm.Gd.rank (fun t h => by
  simp only [List.mem_cons, List.not_mem_nil, or_false] at h
  rcases h with rfl | rfl | rfl <;> exact gd_pt isA) (by simp) (by simp) (by decide) (by decide)
theorem r1_gd : Tm.Gd 1 r1_t := Tm.Gd.rank (fun t h => by
  simp only [List.mem_cons, List.not_mem_nil, or_false] at h
  rcases h with rfl | rfl | rfl <;> exact gd_pt isA) (by simp) (by simp) (by decide) (by decide)
theorem r3_mir : r3_t.mir = r1_t := by simp [r3_t, r1_t, Tm.mir, Tm.mirs]
theorem two_put (R : List (Str × Tm)) (hR : R = [(("a" : Str), ta_t), (("b" : Str), tb_t)]) : two_t.put R = sw_t := by
  subst hR
  have n1 : (("b" : Str) == "a") = false := by decide +kernel
  simp [two_t, ta_t, tb_t, sw_t, Tm.put, Tm.reb, Tm.rebs, Tm.putP, Tm.putO, Tm.shift, Tm.shP, List.lookup_cons, n1]
theorem sw_gd : Tm.Gd 2 sw_t := by
  rw [← two_put _ rfl]
  exact two_gd.put (M := 1) fun p hp => by
    simp only [List.mem_cons, List.not_mem_nil, or_false] at hp
    rcases hp with rfl | rfl
    · exact (gd_pt isB).up (by omega)
    · exact tb_gd
/-- what stands at the place of a dict is no list -/
theorem da_dk {K : PySem.W.Frag} {A : Addr → Prop} {H : Hp} {d : Addr} {kvs : List (Key × V)} {o : HO} {v : V} {t : PyData} (hd : H d = some (.dK kvs)) (x : Da K A H v t) : Da K A (upd H d o) v t := by
  refine Da.mono (fun _ z => z) (fun a xs _ e => ?_) (fun a xs e => ?_) _ _ x
  · rcases e with (e | ⟨o', e⟩) | e
    · exact .inl (.inl (by rw [upd_ne (fun w => by rw [w, hd] at e; cases e)]; exact e))
    · exact .inl (.inr ⟨o', by rw [upd_ne (fun w => by rw [w, hd] at e; cases e)]; exact e⟩)
    · exact .inr e
  · rcases e with (e | ⟨o', e⟩) | e
    · exact .inl (.inl (by rw [upd_ne (fun w => by rw [w, hd] at e; cases e)]; exact e))
    · exact .inl (.inr ⟨o', by rw [upd_ne (fun w => by rw [w, hd] at e; cases e)]; exact e⟩)
    · exact .inr e
theorem ruleAt_dk {m : Md} {C i d : Addr} {A : Addr → Prop} {H : Hp} {kvs : List (Key × V)} {o : HO} {t : Tm} (hd : H d = some (.dK kvs)) (r : RuleAt m C A H i t) : RuleAt m C A (upd H d o) i t := by
  obtain ⟨dx, u, hi, du⟩ := r
  exact ⟨dx, u, by rw [upd_ne (fun w => by rw [w, hd] at hi; cases hi)]; exact hi, da_dk hd du⟩
theorem f_law {m : Md} {C CT f : Addr} {fd : FuncData} (F : C8.Fun m.K "law" "law" st_law f fd) (R : RuleC m C) (E2 : RuleE m C) (Pu : Cal m 2 "_law_purses" (sp_purses m)) (Ri : Cal m 92 "_law_right" (sp_right m))
    (Mk : MakX m (L2.CX m.P m.w) 44 "Rule" C (sp_rinit m C CT 40) []) (Me : MetX m C8.CX0 44 C "term" (sp_rterm m C 40) []) (mE : MetX m C8.CX0 1 C "__eq__" (sp_req m C) []) (Pi : Cal m 88 "put_in" (sp_put_in m C 40)) (Mi : Cal m 46 "mirrored" (sp_mirrored m C 40)) : FnG m C8.CX0 94 f fd ps_law (sp_law m) := by
  refine fnG_of F sc_law (fun vs H Q E h => by obtain ⟨_, _, rfl, _⟩ := h; rfl) fun X vs H Q E hA hM h => ?_
  obtain ⟨a, ns, rfl, hs, hn, hT, k⟩ := h
  replace hA : At m nl_law (C8.fnScope st_law) 93 X := hA
  obtain ⟨n0, n1, n2, n3⟩ := nv_law
  walk_at "B"
  refine s_forL hA (pg_nl hA n1) ?_
  refine w_call hA Pu (by omega) rfl ?_
  walk_at "V"
  refine ⟨a, ns, 2, rfl, hs, hn, by omega, by omega, fun r ps H1 P hl => ?_⟩
  have hrp : ∀ q ∈ ps, r ≠ q := fun q hq w => (List.nodup_cons.1 P.nd).1 (w ▸ hq)
  have hnd := (List.nodup_cons.1 P.nd).2
  refine ⟨r, ps.map V.ref, rfl, P.seq, fun j σ H' => (∃ s1, σ = [some (.ref a), s1, none, none]) ∧ GrowX m.T (· ∈ ps) H1 H' ∧ ∀ q ∈ ps.drop j, Purse H' q 0, ?_, ?_, ?_, ?_⟩
  · exact ⟨⟨_, rfl⟩, GrowX.refl, fun q hq => P.purse q (by simpa using hq)⟩
  · rintro j σ H' _ ⟨_, gg, _⟩
    exact gg.seqL P.seq fun z => hrp r z rfl
  · rintro j x σ H' hx ⟨⟨s1, rfl⟩, gg, hp⟩
    rw [List.getElem?_map] at hx
    obtain ⟨q, hq, rfl⟩ := Option.map_eq_some_iff.1 hx
    have hj : j < ps.length := (List.getElem?_eq_some_iff.1 hq).1
    have ed : ps.drop j = q :: ps.drop (j + 1) := by
      rw [List.drop_eq_getElem_cons hj, (List.getElem?_eq_some_iff.1 hq).2]
    have hqm := List.mem_of_getElem? hq
    walk_at "B"
    walk_at "V"
    refine w_call hA Ri (by omega) rfl ?_
    walk_at "V"
    refine ⟨q, rfl, hp q (by rw [ed]; simp), (P.grow.to.trans gg).tab hT, fun H2 d2 => ?_⟩
    walk_at "V"
    refine iteF (b_nil (b_nil ?_))
    refine ⟨⟨_, rfl⟩, gg.trans (d2.grow.weak fun b z => by rw [z]; exact hqm), fun y hy => ?_⟩
    have hnd2 : (q :: ps.drop (j + 1)).Nodup := by rw [← ed]; exact hnd.sublist (List.drop_sublist _ _)
    exact (hp y (by rw [ed]; simp [hy])).x d2.grow fun z => (List.nodup_cons.1 hnd2).1 (z ▸ hy)
  · rintro σ H0 ⟨⟨s1, rfl⟩, gg, _⟩
    have T0 : Tabs m.T H0 := (P.grow.to.trans gg).tab hT
    walk_at "B"
    walk_at "V"
    refine w_rule hA Mk (by omega) rfl ?_
    refine w_litT hA two_t fun v1 H2 g1 dv1 => ⟨two_t, 1, dv1.sub fun _ _ => trivial, two_gd, by omega, g1.tab T0, fun i H3 g2 ni ra => ?_⟩
    have T3 := (GrowX.trans g1 g2).tab T0
    walk_at "B"
    walk_at "V"
    refine w_call hA Pi (by omega) rfl ?_
    walk_at "V"
    refine w_disp2 fun dp hdp => ?_
    have g4 := Grow.new (T := m.T) (o := .dK []) hdp
    have h4 := upd_same (H := H3) (a := dp) (o := .dK [])
    have r4 := RuleAt.grow (T := m.T) ra.any g4 (fun _ _ z => z) (fun z => z)
    have T4 := g4.tab T3
    generalize upd H3 dp (.dK []) = H4 at g4 h4 r4 T4 ⊢
    walk_at "V"
    refine w_rule hA Mk (by omega) rfl ?_
    refine w_litT hA ta_t fun v2 H5 g5 dv2 => ⟨ta_t, 0, dv2.sub fun _ _ => trivial, gd_pt isB, by omega, g5.tab T4, fun i1 H6 g6 ni1 ra1 => ?_⟩
    walk_at "V"
    refine w_rule hA Mk (by omega) rfl ?_
    have g46 := GrowX.trans g5 g6
    refine w_litT hA tb_t fun v3 H7 g7 dv3 => ⟨tb_t, 1, dv3.sub fun _ _ => trivial, tb_gd, by omega, (GrowX.trans g46 g7).tab T4, fun i2 H8 g8 ni2 ra2 => ?_⟩
    have g68 := GrowX.trans g7 g8
    have g48 := GrowX.trans g46 g68
    have T8 := g48.tab T4
    have h8 := Grow.extN g48 _ _ h4 (fun _ w => by cases w)
    refine ⟨h8, "a", "b", rfl, rfl, ab_ne, ?_⟩
    have r8 := ruleAt_dk (o := .dK [(.inr "a", .ref i1), (.inr "b", .ref i2)]) h8 (RuleAt.grow (T := m.T) r4 g48 (fun _ _ z => z) (fun z => z))
    have s8 := ruleAt_dk (o := .dK [(.inr "a", .ref i1), (.inr "b", .ref i2)]) h8 (RuleAt.grow (T := m.T) ra1.any g68 (fun _ _ z => z) (fun z => z))
    have t8 := ruleAt_dk (o := .dK [(.inr "a", .ref i1), (.inr "b", .ref i2)]) h8 ra2.any
    have gX : GrowX m.T (· = dp) H8 (upd H8 dp (.dK [(.inr "a", .ref i1), (.inr "b", .ref i2)])) := GrowX.dk h8
    have T9 := gX.tab T8
    have h9 := upd_same (H := H8) (a := dp) (o := .dK [(.inr "a", .ref i1), (.inr "b", .ref i2)])
    generalize upd H8 dp (.dK [(.inr "a", .ref i1), (.inr "b", .ref i2)]) = H9 at r8 s8 t8 T9 h9 ⊢
    walk_at "V"
    have ep : two_t.put (rlT [(("a" : Str), i1, ta_t), (("b" : Str), i2, tb_t)]) = sw_t := two_put _ rfl
    refine ⟨i, dp, two_t, [("a", i1, ta_t), ("b", i2, tb_t)], 1, 2, rfl, r8, T9, two_gd, ⟨h9, fun q hq => ?_, by simp, fun q hq => ?_⟩, fun q hq => ?_, by rw [ep]; exact sw_gd, by omega, by omega, fun j1 H10 g10 nj1 ra3 => ?_⟩
    · simp only [List.mem_cons, List.not_mem_nil, or_false] at hq
      rcases hq with rfl | rfl
      · exact isA
      · exact isB
    · simp only [List.mem_cons, List.not_mem_nil, or_false] at hq
      rcases hq with rfl | rfl
      · exact s8
      · exact t8
    · simp only [List.mem_cons, List.not_mem_nil, or_false] at hq
      rcases hq with rfl | rfl
      · exact ⟨by show ta_t.dep ≤ 40; decide, trivial⟩
      · exact ⟨by show tb_t.dep ≤ 40; decide, tb_gd.wf⟩
    rw [ep] at ra3
    have T10 := g10.tab T9
    walk_at "B"
    walk_at "V"
    refine w_met0 (E := C8.E0) hA Me (by omega) C8.pass0 ?_
    walk_at "V"
    have ra3' := ra3
    obtain ⟨dx, u0, hi, du⟩ := ra3'
    refine ⟨j1, dx, _, rfl, hi, rfl, j1, sw_t, rfl, ra3.any, T10, by have := sw_gd.dep; omega, sw_gd.wf, fun v5 H11 g11 fr11 => ?_⟩
    refine w_litT hA sw_t fun v6 H12 g12 dv6 => ?_
    refine g_neD hA (Da.dp _ _ (g12.da fr11.da)) (Da.dp _ _ dv6) (sw_gd.shaped (by omega)) (sw_gd.shaped (by omega)) ?_
    rw [(Tm.eqv_py _ _).2 rfl]
    walk_at "V"
    refine iteF (b_nil ?_)
    have T12 := (GrowX.trans g11 g12).tab T10
    clear r4 T4 g4 h4 g5 g6 g7 g8 g46 g68 g48 h8 gX
    -- three of one
    walk_at "B"
    walk_at "V"
    refine w_call hA Mi (by omega) rfl ?_
    refine w_cons (w_rule hA Mk (by omega) rfl ?_)
    have three : ∀ (H0 : Hp) (w r : Int) (t0 : Tm), t0 = .rank r [.part false "a" w, .part false "a" w, .part false "a" w] → ∀ q, H0 q = none → ∀ l, upd H0 q (.tup [.str "of", .str "a", .int w]) l = none → ∀ p, upd (upd H0 q (.tup [.str "of", .str "a", .int w])) l (.lst [.ref q]) p = none → ∀ y, upd (upd (upd H0 q (.tup [.str "of", .str "a", .int w])) l (.lst [.ref q])) p (.lst [.ref q, .ref q, .ref q]) y = none →
        Grow m.T H0 (upd (upd (upd (upd H0 q (.tup [.str "of", .str "a", .int w])) l (.lst [.ref q])) p (.lst [.ref q, .ref q, .ref q])) y (.tup [.str "rank", .int r, .ref p])) ∧ Da m.K (New H0) (upd (upd (upd (upd H0 q (.tup [.str "of", .str "a", .int w])) l (.lst [.ref q])) p (.lst [.ref q, .ref q, .ref q])) y (.tup [.str "rank", .int r, .ref p])) (.ref y) t0.py := by
      intro H0 w r t0 et q hq l hl p hp y hy
      subst et
      have e1 := Grow.new (T := m.T) (o := .tup [.str ("of" : Str), .str ("a" : Str), .int w]) hq
      have d1 : Da m.K (New H0) (upd H0 q (.tup [.str ("of" : Str), .str ("a" : Str), .int w])) (.ref q) (Tm.part false "a" w).py := .tup (SqT.of upd_same) (.cons (.str _) (.cons (.str _) (.cons (.int _) .nil)))
      have e2 := Grow.new (T := m.T) (o := .lst [.ref q]) hl
      have e3 := Grow.new (T := m.T) (o := .lst [.ref q, .ref q, .ref q]) hp
      have e4 := Grow.new (T := m.T) (o := .tup [.str ("rank" : Str), .int r, .ref p]) hy
      have eA := GrowX.trans (GrowX.trans e1 e2) (GrowX.trans e3 e4)
      have d4 := Grow.da (GrowX.trans e2 (GrowX.trans e3 e4)) d1
      refine ⟨eA, .tup (SqT.of upd_same) (.cons (.str _) (.cons (.int _) (.cons (.lst ?_ (SqL.of (Grow.extN e4 _ _ upd_same (fun _ w => by cases w))) (.cons d4 (.cons d4 (.cons d4 .nil)))) .nil)))⟩
      exact (GrowX.trans e1 e2).keep _ hp
    have rep3 : ∀ (q : Addr), (List.replicate (3 : Int).toNat [V.ref q]).flatten = [.ref q, .ref q, .ref q] := fun q => rfl
    walk_at "V"
    refine ⟨by walk_at "S", fun q hq => ?_⟩
    walk_at "V"
    refine ⟨by walk_at "S", fun l hl => ?_⟩
    walk_at "V"
    refine gOp.of op_rep ⟨l, 3, [.ref q], rfl, rfl, upd_same, by omega, by omega, by simp [sizeLine_eq], fun p hp => ?_⟩
    rw [rep3] at *
    walk_at "V"
    refine ⟨by walk_at "S", fun y hy => ?_⟩
    obtain ⟨g13, dy⟩ := three H12 2 3 r3_t rfl q hq l hl p hp y hy
    generalize upd (upd (upd (upd H12 q (.tup [.str "of", .str "a", .int 2])) l (.lst [.ref q])) p (.lst [.ref q, .ref q, .ref q])) y (.tup [.str "rank", .int 3, .ref p]) = H13 at g13 dy ⊢
    refine ⟨r3_t, 1, dy.sub fun _ _ => trivial, r3_gd, by omega, g13.tab T12, fun i3 H14 g14 ni3 ra4 => ?_⟩
    have T14 := (GrowX.trans g13 g14).tab T12
    walk_at "V"
    refine ⟨i3, r3_t, 1, rfl, ra4.any, T14, r3_gd, by omega, fun i4 H15 g15 ni4 ra5 => ?_⟩
    rw [r3_mir] at ra5
    have T15 := g15.tab T14
    refine w_rule hA Mk (by omega) rfl ?_
    walk_at "V"
    refine ⟨by walk_at "S", fun q hq => ?_⟩
    walk_at "V"
    refine ⟨by walk_at "S", fun l hl => ?_⟩
    walk_at "V"
    refine gOp.of op_rep ⟨l, 3, [.ref q], rfl, rfl, upd_same, by omega, by omega, by simp [sizeLine_eq], fun p hp => ?_⟩
    rw [rep3] at *
    walk_at "V"
    refine ⟨by walk_at "S", fun y hy => ?_⟩
    obtain ⟨g16, dy⟩ := three H15 (-2) 1 r1_t rfl q hq l hl p hp y hy
    generalize upd (upd (upd (upd H15 q (.tup [.str "of", .str "a", .int (-2)])) l (.lst [.ref q])) p (.lst [.ref q, .ref q, .ref q])) y (.tup [.str "rank", .int 1, .ref p]) = H16 at g16 dy ⊢
    refine ⟨r1_t, 1, dy.sub fun _ _ => trivial, r1_gd, by omega, g16.tab T15, fun i5 H17 g17 ni5 ra6 => ?_⟩
    have r17 := RuleAt.grow (T := m.T) ra5.any (GrowX.trans g16 g17) (fun _ _ z => z) (fun z => z)
    refine g_eqRule hA R E2 mE (by omega) r17 ra6.any (r1_gd.shaped (by omega)) (r1_gd.shaped (by omega)) ?_
    rw [(Tm.eqv_py _ _).2 rfl]
    exact k _
/-! ### the head's facts -/
/-- a def of the top, as it stands in the written part -/
def DefF (K : PySem.W.Frag) (x : Str) (st : Stmt) : Prop := ∃ (f : Addr) (fd : FuncData), PySem.W.nsIn K mainGlobals x = some (some (.ref f)) ∧ C8.Fun K x x st f fd ∧ PySem.W.keepIn K (.ref f) = true ∧ fd.defaults = .none
theorem mk_def {K : PySem.W.Frag} {x : Str} {st : Stmt} {f : Addr} {od an : Option Addr} {oc kV doc pm cdv ct : Value} {osl : Array (Option Value)} (a : PySem.W.nsIn K mainGlobals x = some (some (.ref f)))
    (l : K.lookup f = some ⟨oc, od, .func (PySem.W.fnOf x x (C8.fnArgs st) (C8.fnBody st) (C8.fnScope st) .none kV doc pm an cdv ct), osl⟩) (c : PySem.W.codeIn K cdv x = true) (k : PySem.W.keepIn K (.ref f) = true) : DefF K x st :=
  ⟨f, _, a, ⟨⟨oc, od, .none, kV, doc, pm, an, cdv, ct, osl, rfl, l, c⟩⟩, k, rfl⟩
theorem DefF.def_ {K : PySem.W.Frag} {h : Heap} {mg : Str → Option Value} {x : Str} {st : Stmt} (D : DefF K x st) (X : K.In h) (G : h.Ns mainGlobals mg) : ∃ f fd, C8.Def K mg x st f fd ∧ fd.defaults = .none := by
  obtain ⟨f, fd, a, F, k, d⟩ := D
  exact ⟨f, fd, ⟨F, PySem.W.mg_of X G a, k⟩, d⟩
/-- a method -/
def MetF (K : PySem.W.Frag) (C : Addr) (x qual : Str) (st : Stmt) : Prop := ∃ (f : Addr) (fd : FuncData), C8.Fun K x qual st f fd ∧ Meth K C x f ∧ fd.defaults = .none
theorem mk_met {K : PySem.W.Frag} {C : Addr} {x qual : Str} {st : Stmt} {f : Addr} {od an : Option Addr} {oc kV doc pm cdv ct : Value} {osl : Array (Option Value)} (a : PySem.W.findIn K (.ref C) x = some (some (.ref f))) (i : PySem.W.isFn K (.ref f) = true)
    (l : K.lookup f = some ⟨oc, od, .func (PySem.W.fnOf x qual (C8.fnArgs st) (C8.fnBody st) (C8.fnScope st) .none kV doc pm an cdv ct), osl⟩) (c : PySem.W.codeIn K cdv qual = true) (k : PySem.W.keepIn K (.ref f) = true) : MetF K C x qual st :=
  ⟨f, _, ⟨⟨oc, od, .none, kV, doc, pm, an, cdv, ct, osl, rfl, l, c⟩⟩, ⟨a, i, k⟩, rfl⟩
/-- a def's one table -/
def TabF (K : PySem.W.Frag) (x : Str) (st : Stmt) (c P : Addr) : Prop := ∃ (f : Addr) (oc : Value) (od : Option Addr) (kV doc pm : Value) (an : Option Addr) (ct : Value) (osl : Array (Option Value)), PySem.W.nsIn K mainGlobals x = some (some (.ref f)) ∧
  K.lookup f = some ⟨oc, od, .func (PySem.W.fnOf x x (C8.fnArgs st) (C8.fnBody st) (C8.fnScope st) .none kV doc pm an (.ref c) ct), osl⟩ ∧ PySem.W.codeHdIn K c P = true ∧ K.lookup P = none
/-- the __init__ of an own error, which stores its argument -/
theorem init_ok {m : Md} {C f : Addr} {fd : FuncData} (F : FunD m.K "__init__" "InvalidTerm.__init__" (C8.fnArgs st_InvalidTerm_init) (C8.fnBody st_InvalidTerm_init) (C8.fnScope st_InvalidTerm_init) [.non] [] f fd) (O : OexC m.K C) (no : PySem.W.findIn m.K (.ref C) "value" = some none) :
    FnOk m.P m.w m.K m.mg m.base C8.CX0 1 f fd ps_InvalidTerm_init (fun vs H Q _ => ∃ (a : Addr) (v : V), vs = [.ref a, v] ∧ H a = some (exo a C none) ∧ ∀ dx, H dx = none → dx ≠ a → Q .non (upd (upd H dx (exd dx [("value", v)])) a (exo a C (some dx)))) := by
  refine F.ok sc_InvalidTerm_init (fun vs H Q E h => by obtain ⟨_, _, rfl, _⟩ := h; rfl) fun cdv A outer s H vs Q E hr h => ?_
  obtain ⟨a, v, rfl, ha, k⟩ := h
  refine ⟨_, PSs.nox (pss_one (ps_ost (pe_var (i := 0) rfl (.inl rfl) (by with_unfolding_all decide) (by with_unfolding_all decide)) (pe_var (i := 1) rfl (.inl rfl) (by with_unfolding_all decide) (by with_unfolding_all decide)))), ?_⟩
  refine ⟨v, rfl, .ref a, rfl, a, C, rfl, O, no, .inl ⟨ha, fun dx hdx hne => ?_⟩⟩
  exact k dx hdx hne
theorem init_binds {K : PySem.W.Frag} {f : Addr} {fd : FuncData} (F : FunD K "__init__" "InvalidTerm.__init__" (C8.fnArgs st_InvalidTerm_init) (C8.fnBody st_InvalidTerm_init) (C8.fnScope st_InvalidTerm_init) [.non] [] f fd) : L2.Binds K fd ps_InvalidTerm_init [] := by
  obtain ⟨ds, v, b⟩ := F.binds1 (ps := ps_InvalidTerm_init) 2 1 (by simp) rfl (fun T kV doc pm an cdv ct us its l1 l2 => by
    match us, l1, its, l2 with
    | [a, b], _, [c], _ => exact ⟨_, rfl, rfl⟩)
  cases v
  exact b
/-- a def of the top with one default, None -/
def DefD (K : PySem.W.Frag) (x : Str) (st : Stmt) : Prop := ∃ (f : Addr) (fd : FuncData), PySem.W.nsIn K mainGlobals x = some (some (.ref f)) ∧ FunD K x x (C8.fnArgs st) (C8.fnBody st) (C8.fnScope st) [.non] [] f fd
theorem mk_defd {K : PySem.W.Frag} {x : Str} {st : Stmt} {f T : Addr} {od an : Option Addr} {oc kV doc pm cdv ct : Value} {osl : Array (Option Value)} {oT : Option Addr} {cT : Value} {sT : Array (Option Value)} {nT : Nat} (a : PySem.W.nsIn K mainGlobals x = some (some (.ref f)))
    (l : K.lookup f = some ⟨oc, od, .func (PySem.W.fnOf x x (C8.fnArgs st) (C8.fnBody st) (C8.fnScope st) (.ref T) kV doc pm an cdv ct), osl⟩) (c : PySem.W.codeIn K cdv x = true) (lT : K.lookup T = some ⟨cT, oT, .seq #[.none] nT, sT⟩) (k : PySem.W.keepIn K (.ref f) = true) : DefD K x st :=
  ⟨f, _, a, ⟨⟨oc, od, .ref T, kV, doc, pm, an, cdv, ct, osl, rfl, l, c, .inr ⟨by simp, T, _, [.none], nT, rfl, lT, rfl, .cons rfl .nil⟩, .inl rfl⟩, k⟩⟩
theorem _root_.L2.FunD.fun {K : PySem.W.Frag} {x : Str} {st : Stmt} {dvs : List V} {kws : List (Str × V)} {f : Addr} {fd : FuncData} (F : FunD K x x (C8.fnArgs st) (C8.fnBody st) (C8.fnScope st) dvs kws f fd) : C8.Fun K x x st f fd := by
  obtain ⟨oc, od, dV, kV, doc, pm, an, cdv, ct, osl, e, lk, hc, _, _⟩ := F.ex
  exact ⟨⟨oc, od, dV, kV, doc, pm, an, cdv, ct, osl, e, lk, hc⟩⟩
theorem told3 (T : Addr) (kV doc pm : Value) (an : Option Addr) (cdv ct : Value) (us its : List Value) (l1 : us.length = 3) (l2 : its.length = 1) :
    ∃ k, bindArgs (PySem.W.fnOf "told" "told" (C8.fnArgs st_told) (C8.fnBody st_told) (C8.fnScope st_told) (.ref T) kV doc pm an cdv ct) ⟨us, []⟩ = seqItems? (.ref T) >>= k ∧ k (some its.toArray) = pure (ps_told.zip (us ++ its.drop 1)) := by
  match us, l1, its, l2 with
  | [a, b, c], _, [d], _ => exact ⟨_, rfl, rfl⟩
/-- the maker of the one lambda -/
def CopF (K : PySem.W.Frag) (x : Str) (st : Stmt) (c : Addr) : Prop := ∃ (f : Addr) (fd : FuncData), PySem.W.nsIn K mainGlobals x = some (some (.ref f)) ∧ C8.Fun K x x st f fd ∧ PySem.W.keepIn K (.ref f) = true ∧ fd.defaults = .none ∧ fd.code = .ref c
theorem mk_cop {K : PySem.W.Frag} {x : Str} {st : Stmt} {f c : Addr} {od an : Option Addr} {oc kV doc pm ct : Value} {osl : Array (Option Value)} (a : PySem.W.nsIn K mainGlobals x = some (some (.ref f)))
    (l : K.lookup f = some ⟨oc, od, .func (PySem.W.fnOf x x (C8.fnArgs st) (C8.fnBody st) (C8.fnScope st) .none kV doc pm an (.ref c) ct), osl⟩) (e : PySem.W.codeIn K (.ref c) x = true) (k : PySem.W.keepIn K (.ref f) = true) : CopF K x st c :=
  ⟨f, _, a, ⟨⟨oc, od, .none, kV, doc, pm, an, .ref c, ct, osl, rfl, l, e⟩⟩, k, rfl, rfl⟩
/-- the class of rules -/
structure RulF (K : PySem.W.Frag) (C : Addr) : Prop where
  gR : PySem.W.nsIn K mainGlobals "Rule" = some (some (.ref C))
  pg : PySem.W.plainGet K C Str.empty = true
  hd : PySem.W.hasDictIn K C = true
  po : PySem.W.plainOver K C = true
  sa : PySem.W.findIn K (.ref C) "__setattr__" = some (some (.builtin "object.__setattr__"))
  no : PySem.W.findIn K (.ref C) "_term" = some none
  ha : PySem.W.findIn K (.ref C) "__class__" = some (some (.builtin "object.__class__"))
  hn : PySem.W.specialIn K (.builtin "object.__class__") "__get__" = some (some (.builtin "getset_descriptor.__get__"))
  ht : PySem.W.takesIn K (.builtin "object.__class__") = some true
  hm : PySem.W.mroIn K C (.type "object") = some true
  own : PySem.W.kitOne K (.ref C) (.ref C) = some true
  oth : ∀ T ∈ ["NoneType", "bool", "int", "str", "list", "tuple", "dict"], PySem.W.kitOne K (.type T) (.ref C) = some false
  nfS : PySem.W.notFirst K C (.ref C) = true
  nfO : ∀ T ∈ ["NoneType", "bool", "int", "str", "list", "tuple", "dict"], PySem.W.notFirst K C (.type T) = true
  ne : PySem.W.findIn K (.ref C) "__ne__" = some (some (.builtin "object.__ne__"))
  mks : PySem.W.makesIn K C = true
  kc : PySem.W.keepIn K (.ref C) = true
/-- the error class -/
structure ErrF (K : PySem.W.Frag) (C : Addr) : Prop where
  gC : PySem.W.nsIn K mainGlobals "InvalidTerm" = some (some (.ref C))
  cls : ∃ nm q N bs bm sn sub ab col dd k0 k1 k2 k3 k5, K.lookup C = some (excClassObj nm q C N bs bm true sn sub ab col dd k0 k1 k2 k3 k5 "ValueError.__new__") ∧ PySem.HandSPX.refsVE bm = true
  sa : PySem.W.findIn K (.ref C) "__setattr__" = some (some (.builtin "object.__setattr__"))
  exC : PySem.W.subIn K (.ref C) (.type "BaseException") = some true
  tyC : PySem.W.typeIn K (.ref C) = some (.type "type")
  kC : PySem.W.keepIn K (.ref C) = true
  ga : PySem.W.findIn K (.ref C) "__getattribute__" = some (some (.builtin "BaseException.__getattribute__"))
  gg : PySem.W.findIn K (.ref C) "__getattr__" = some none
  hdC : PySem.W.hasDictIn K C = true
  no : PySem.W.findIn K (.ref C) "value" = some none
  self : PySem.W.exmOne K (.ref C) (.ref C) = some true
theorem mk_cls {K : PySem.W.Frag} {C N : Addr} {nm q : Str} {bs bm : List Value} {sn : List Str} {sub : List Value} {ab : Bool} {col : Option Bool} {dd : Option Addr} {k0 k1 k2 k3 k5 : Option Value} (l : K.lookup C = some (excClassObj nm q C N bs bm true sn sub ab col dd k0 k1 k2 k3 k5 "ValueError.__new__")) (r : PySem.HandSPX.refsVE bm = true) :
    ∃ nm q N bs bm sn sub ab col dd k0 k1 k2 k3 k5, K.lookup C = some (excClassObj nm q C N bs bm true sn sub ab col dd k0 k1 k2 k3 k5 "ValueError.__new__") ∧ PySem.HandSPX.refsVE bm = true := ⟨nm, q, N, bs, bm, sn, sub, ab, col, dd, k0, k1, k2, k3, k5, l, r⟩
/-- its __init__ -/
def IniF (K : PySem.W.Frag) (C : Addr) : Prop := ∃ (f : Addr) (fd : FuncData), PySem.W.findIn K (.ref C) "__init__" = some (some (.ref f)) ∧ PySem.W.typeIn K (.ref f) = some (.type "function") ∧ FunD K "__init__" "InvalidTerm.__init__" (C8.fnArgs st_InvalidTerm_init) (C8.fnBody st_InvalidTerm_init) (C8.fnScope st_InvalidTerm_init) [.non] [] f fd
theorem mk_ini {K : PySem.W.Frag} {C f T : Addr} {od an : Option Addr} {oc kV doc pm cdv ct : Value} {osl : Array (Option Value)} {oT : Option Addr} {cT : Value} {sT : Array (Option Value)} {nT : Nat} (a : PySem.W.findIn K (.ref C) "__init__" = some (some (.ref f))) (t : PySem.W.typeIn K (.ref f) = some (.type "function"))
    (l : K.lookup f = some ⟨oc, od, .func (PySem.W.fnOf "__init__" "InvalidTerm.__init__" (C8.fnArgs st_InvalidTerm_init) (C8.fnBody st_InvalidTerm_init) (C8.fnScope st_InvalidTerm_init) (.ref T) kV doc pm an cdv ct), osl⟩) (c : PySem.W.codeIn K cdv "InvalidTerm.__init__" = true)
    (lT : K.lookup T = some ⟨cT, oT, .seq #[.none] nT, sT⟩) (k : PySem.W.keepIn K (.ref f) = true) : IniF K C :=
  ⟨f, _, a, t, ⟨⟨oc, od, .ref T, kV, doc, pm, an, cdv, ct, osl, rfl, l, c, .inr ⟨by simp, T, _, [.none], nT, rfl, lT, rfl, .cons rfl .nil⟩, .inl rfl⟩, k⟩⟩
section
variable {P : Program} {w : World} {K : PySem.W.Frag} {mg : Str → Option Value} {h : Heap} {fa C CT c Pt cS PS cP PP : Addr} {tk : Tok}
theorem all_mk (X : K.In h) (G : h.Ns mainGlobals mg) (hfa : mg "law" = some (.ref fa)) (tab : h.get? Pt = some tabO) (off : K.lookup Pt = none) (chd : PySem.W.codeHdIn K c Pt = true)
    (dN : PySem.W.nsIn K mainGlobals "LONGEST_NAME" = some (some (.int 8 tk))) (dC : CopF K "copied" st_copied c) (dL : DefF K "law" st_law) (dD : DefD K "told" st_told) (dS : CopF K "shifted_term" st_shifted_term cS) (dP : CopF K "put_in" st_put_in cP) (tabS : h.get? PS = some tabO) (offS : K.lookup PS = none) (chdS : PySem.W.codeHdIn K cS PS = true) (tabP : h.get? PP = some tabO) (offP : K.lookup PP = none) (chdP : PySem.W.codeHdIn K cP PP = true) (nS : Pt ≠ PS) (nP : Pt ≠ PP) (nSP : PS ≠ PP) (R0 : RulF K C) (E0 : ErrF K CT) (I0 : IniF K CT)
    (mI : MetF K C "__init__" "Rule.__init__" st_Rule_init) (mT : MetF K C "term" "Rule.term" st_Rule_term) (mE : MetF K C "__eq__" "Rule.__eq__" st_Rule_eq)
    (d_is_whole : DefF K "is_whole" st_is_whole) (d_is_name : DefF K "is_name" st_is_name) (d_is_hours : DefF K "is_hours" st_is_hours) (d_need_whole : DefF K "need_whole" st_need_whole) (d_need_hours : DefF K "need_hours" st_need_hours) (d_is_term : DefF K "is_term" st_is_term) (d_x_is_term_list : DefF K "_is_term_list" st_x_is_term_list) (d_is_part : DefF K "is_part" st_is_part) (d_rank_of_term : DefF K "rank_of_term" st_rank_of_term) (d_with_terms : DefF K "with_terms" st_with_terms) (d_rebuilt : DefF K "rebuilt" st_rebuilt) (d_mirrored_term : DefF K "mirrored_term" st_mirrored_term) (d_told_by : DefF K "told_by" st_told_by) (d_parts_at : DefF K "parts_at" st_parts_at) (d_need_rule : DefF K "need_rule" st_need_rule) (d_named : DefF K "named" st_named) (d_shifted : DefF K "shifted" st_shifted) (d_mirrored : DefF K "mirrored" st_mirrored) (d_x_is_rule_table : DefF K "_is_rule_table" st_x_is_rule_table) (d_x_put_in_part : DefF K "_put_in_part" st_x_put_in_part) (d_parts : DefF K "parts" st_parts) (d_purse : DefF K "_law_purse" st_purse) (d_mixed : DefF K "_law_mixed" st_mixed) (d_draw : DefF K "_law_draw" st_draw) (d_purses : DefF K "_law_purses" st_purses) (d_one_of : DefF K "_law_one_of" st_one_of) (d_shuffled : DefF K "_law_shuffled" st_shuffled) (d_word : DefF K "_law_word" st_word) (d_names : DefF K "_law_names" st_names) (d_wait : DefF K "_law_wait" st_wait) (d_small_wait : DefF K "_law_small_wait" st_small_wait) (d_part : DefF K "_law_part" st_part) (d_term : DefF K "_law_term" st_term) (d_hours : DefF K "_law_hours" st_hours) (d_l_told : DefF K "_law_told" st_l_told) (d_moved : DefF K "_law_moved" st_moved) (d_l_mirrored : DefF K "_law_mirrored" st_l_mirrored) (d_put : DefF K "_law_put" st_put) (d_turned : DefF K "_law_turned" st_turned) (d_one_right : DefF K "_law_one_right" st_one_right) (d_put_right : DefF K "_law_put_right" st_put_right) (d_right : DefF K "_law_right" st_right)
    (z_isinstance : PySem.W.nsIn K mainGlobals "isinstance" = some none) (z_int : PySem.W.nsIn K mainGlobals "int" = some none) (z_bool : PySem.W.nsIn K mainGlobals "bool" = some none) (z_str : PySem.W.nsIn K mainGlobals "str" = some none) (z_len : PySem.W.nsIn K mainGlobals "len" = some none) (z_all : PySem.W.nsIn K mainGlobals "all" = some none) (z_tuple : PySem.W.nsIn K mainGlobals "tuple" = some none) (z_list : PySem.W.nsIn K mainGlobals "list" = some none) (z_min : PySem.W.nsIn K mainGlobals "min" = some none) (z_max : PySem.W.nsIn K mainGlobals "max" = some none) (z_sum : PySem.W.nsIn K mainGlobals "sum" = some none) (z_range : PySem.W.nsIn K mainGlobals "range" = some none) (z_dict : PySem.W.nsIn K mainGlobals "dict" = some none) (z_sorted : PySem.W.nsIn K mainGlobals "sorted" = some none) (z_set : PySem.W.nsIn K mainGlobals "set" = some none) (z_enumerate : PySem.W.nsIn K mainGlobals "enumerate" = some none)
    : ∃ fd cs T sp, LawG P w K C8.CX0 94 63 "_law_script" mg fa h fd cs T sp := by
  obtain ⟨f_is_whole, fd_is_whole, F_is_whole, e_is_whole⟩ := d_is_whole.def_ X G
  have b_is_whole := F_is_whole.fn.binds e_is_whole (ps := ps_is_whole) fun _ _ _ _ _ _ us hl => match us, hl with | [_], _ => rfl
  obtain ⟨f_is_name, fd_is_name, F_is_name, e_is_name⟩ := d_is_name.def_ X G
  have b_is_name := F_is_name.fn.binds e_is_name (ps := ps_is_name) fun _ _ _ _ _ _ us hl => match us, hl with | [_], _ => rfl
  obtain ⟨f_is_hours, fd_is_hours, F_is_hours, e_is_hours⟩ := d_is_hours.def_ X G
  have b_is_hours := F_is_hours.fn.binds e_is_hours (ps := ps_is_hours) fun _ _ _ _ _ _ us hl => match us, hl with | [_, _], _ => rfl
  obtain ⟨f_need_whole, fd_need_whole, F_need_whole, e_need_whole⟩ := d_need_whole.def_ X G
  have b_need_whole := F_need_whole.fn.binds e_need_whole (ps := ps_need_whole) fun _ _ _ _ _ _ us hl => match us, hl with | [_], _ => rfl
  obtain ⟨f_need_hours, fd_need_hours, F_need_hours, e_need_hours⟩ := d_need_hours.def_ X G
  have b_need_hours := F_need_hours.fn.binds e_need_hours (ps := ps_need_hours) fun _ _ _ _ _ _ us hl => match us, hl with | [_, _], _ => rfl
  obtain ⟨f_is_term, fd_is_term, F_is_term, e_is_term⟩ := d_is_term.def_ X G
  have b_is_term := F_is_term.fn.binds e_is_term (ps := ps_is_term) fun _ _ _ _ _ _ us hl => match us, hl with | [_], _ => rfl
  obtain ⟨f_x_is_term_list, fd_x_is_term_list, F_x_is_term_list, e_x_is_term_list⟩ := d_x_is_term_list.def_ X G
  have b_x_is_term_list := F_x_is_term_list.fn.binds e_x_is_term_list (ps := ps_x_is_term_list) fun _ _ _ _ _ _ us hl => match us, hl with | [_], _ => rfl
  obtain ⟨f_is_part, fd_is_part, F_is_part, e_is_part⟩ := d_is_part.def_ X G
  have b_is_part := F_is_part.fn.binds e_is_part (ps := ps_is_part) fun _ _ _ _ _ _ us hl => match us, hl with | [_], _ => rfl
  obtain ⟨f_rank_of_term, fd_rank_of_term, F_rank_of_term, e_rank_of_term⟩ := d_rank_of_term.def_ X G
  have b_rank_of_term := F_rank_of_term.fn.binds e_rank_of_term (ps := ps_rank_of_term) fun _ _ _ _ _ _ us hl => match us, hl with | [_], _ => rfl
  obtain ⟨f_with_terms, fd_with_terms, F_with_terms, e_with_terms⟩ := d_with_terms.def_ X G
  have b_with_terms := F_with_terms.fn.binds e_with_terms (ps := ps_with_terms) fun _ _ _ _ _ _ us hl => match us, hl with | [_, _], _ => rfl
  obtain ⟨f_rebuilt, fd_rebuilt, F_rebuilt, e_rebuilt⟩ := d_rebuilt.def_ X G
  have b_rebuilt := F_rebuilt.fn.binds e_rebuilt (ps := ps_rebuilt) fun _ _ _ _ _ _ us hl => match us, hl with | [_, _], _ => rfl
  obtain ⟨f_mirrored_term, fd_mirrored_term, F_mirrored_term, e_mirrored_term⟩ := d_mirrored_term.def_ X G
  have b_mirrored_term := F_mirrored_term.fn.binds e_mirrored_term (ps := ps_mirrored_term) fun _ _ _ _ _ _ us hl => match us, hl with | [_], _ => rfl
  obtain ⟨f_told_by, fd_told_by, F_told_by, e_told_by⟩ := d_told_by.def_ X G
  have b_told_by := F_told_by.fn.binds e_told_by (ps := ps_told_by) fun _ _ _ _ _ _ us hl => match us, hl with | [_, _, _], _ => rfl
  obtain ⟨f_parts_at, fd_parts_at, F_parts_at, e_parts_at⟩ := d_parts_at.def_ X G
  have b_parts_at := F_parts_at.fn.binds e_parts_at (ps := ps_parts_at) fun _ _ _ _ _ _ us hl => match us, hl with | [_, _], _ => rfl
  obtain ⟨f_need_rule, fd_need_rule, F_need_rule, e_need_rule⟩ := d_need_rule.def_ X G
  have b_need_rule := F_need_rule.fn.binds e_need_rule (ps := ps_need_rule) fun _ _ _ _ _ _ us hl => match us, hl with | [_], _ => rfl
  obtain ⟨f_named, fd_named, F_named, e_named⟩ := d_named.def_ X G
  have b_named := F_named.fn.binds e_named (ps := ps_named) fun _ _ _ _ _ _ us hl => match us, hl with | [_], _ => rfl
  obtain ⟨f_shifted, fd_shifted, F_shifted, e_shifted⟩ := d_shifted.def_ X G
  have b_shifted := F_shifted.fn.binds e_shifted (ps := ps_shifted) fun _ _ _ _ _ _ us hl => match us, hl with | [_, _], _ => rfl
  obtain ⟨f_mirrored, fd_mirrored, F_mirrored, e_mirrored⟩ := d_mirrored.def_ X G
  have b_mirrored := F_mirrored.fn.binds e_mirrored (ps := ps_mirrored) fun _ _ _ _ _ _ us hl => match us, hl with | [_], _ => rfl
  obtain ⟨f_x_is_rule_table, fd_x_is_rule_table, F_x_is_rule_table, e_x_is_rule_table⟩ := d_x_is_rule_table.def_ X G
  have b_x_is_rule_table := F_x_is_rule_table.fn.binds e_x_is_rule_table (ps := ps_x_is_rule_table) fun _ _ _ _ _ _ us hl => match us, hl with | [_], _ => rfl
  obtain ⟨f_x_put_in_part, fd_x_put_in_part, F_x_put_in_part, e_x_put_in_part⟩ := d_x_put_in_part.def_ X G
  have b_x_put_in_part := F_x_put_in_part.fn.binds e_x_put_in_part (ps := ps_x_put_in_part) fun _ _ _ _ _ _ us hl => match us, hl with | [_, _], _ => rfl
  obtain ⟨f_parts, fd_parts, F_parts, e_parts⟩ := d_parts.def_ X G
  have b_parts := F_parts.fn.binds e_parts (ps := ps_parts) fun _ _ _ _ _ _ us hl => match us, hl with | [_], _ => rfl
  obtain ⟨f_purse, fd_purse, F_purse, e_purse⟩ := d_purse.def_ X G
  have b_purse := F_purse.fn.binds e_purse (ps := ps_purse) fun _ _ _ _ _ _ us hl => match us, hl with | [_, _], _ => rfl
  obtain ⟨f_mixed, fd_mixed, F_mixed, e_mixed⟩ := d_mixed.def_ X G
  have b_mixed := F_mixed.fn.binds e_mixed (ps := ps_mixed) fun _ _ _ _ _ _ us hl => match us, hl with | [_, _, _], _ => rfl
  obtain ⟨f_draw, fd_draw, F_draw, e_draw⟩ := d_draw.def_ X G
  have b_draw := F_draw.fn.binds e_draw (ps := ps_draw) fun _ _ _ _ _ _ us hl => match us, hl with | [_, _], _ => rfl
  obtain ⟨f_purses, fd_purses, F_purses, e_purses⟩ := d_purses.def_ X G
  have b_purses := F_purses.fn.binds e_purses (ps := ps_purses) fun _ _ _ _ _ _ us hl => match us, hl with | [_, _], _ => rfl
  obtain ⟨f_one_of, fd_one_of, F_one_of, e_one_of⟩ := d_one_of.def_ X G
  have b_one_of := F_one_of.fn.binds e_one_of (ps := ps_one_of) fun _ _ _ _ _ _ us hl => match us, hl with | [_, _], _ => rfl
  obtain ⟨f_shuffled, fd_shuffled, F_shuffled, e_shuffled⟩ := d_shuffled.def_ X G
  have b_shuffled := F_shuffled.fn.binds e_shuffled (ps := ps_shuffled) fun _ _ _ _ _ _ us hl => match us, hl with | [_, _], _ => rfl
  obtain ⟨f_word, fd_word, F_word, e_word⟩ := d_word.def_ X G
  have b_word := F_word.fn.binds e_word (ps := ps_word) fun _ _ _ _ _ _ us hl => match us, hl with | [_], _ => rfl
  obtain ⟨f_names, fd_names, F_names, e_names⟩ := d_names.def_ X G
  have b_names := F_names.fn.binds e_names (ps := ps_names) fun _ _ _ _ _ _ us hl => match us, hl with | [_, _], _ => rfl
  obtain ⟨f_wait, fd_wait, F_wait, e_wait⟩ := d_wait.def_ X G
  have b_wait := F_wait.fn.binds e_wait (ps := ps_wait) fun _ _ _ _ _ _ us hl => match us, hl with | [_], _ => rfl
  obtain ⟨f_small_wait, fd_small_wait, F_small_wait, e_small_wait⟩ := d_small_wait.def_ X G
  have b_small_wait := F_small_wait.fn.binds e_small_wait (ps := ps_small_wait) fun _ _ _ _ _ _ us hl => match us, hl with | [_], _ => rfl
  obtain ⟨f_part, fd_part, F_part, e_part⟩ := d_part.def_ X G
  have b_part := F_part.fn.binds e_part (ps := ps_part) fun _ _ _ _ _ _ us hl => match us, hl with | [_, _, _, _], _ => rfl
  obtain ⟨f_term, fd_term, F_term, e_term⟩ := d_term.def_ X G
  have b_term := F_term.fn.binds e_term (ps := ps_term) fun _ _ _ _ _ _ us hl => match us, hl with | [_, _, _, _, _], _ => rfl
  obtain ⟨f_hours, fd_hours, F_hours, e_hours⟩ := d_hours.def_ X G
  have b_hours := F_hours.fn.binds e_hours (ps := ps_hours) fun _ _ _ _ _ _ us hl => match us, hl with | [_, _], _ => rfl
  obtain ⟨f_l_told, fd_l_told, F_l_told, e_l_told⟩ := d_l_told.def_ X G
  have b_l_told := F_l_told.fn.binds e_l_told (ps := ps_l_told) fun _ _ _ _ _ _ us hl => match us, hl with | [_, _, _], _ => rfl
  obtain ⟨f_moved, fd_moved, F_moved, e_moved⟩ := d_moved.def_ X G
  have b_moved := F_moved.fn.binds e_moved (ps := ps_moved) fun _ _ _ _ _ _ us hl => match us, hl with | [_, _], _ => rfl
  obtain ⟨f_l_mirrored, fd_l_mirrored, F_l_mirrored, e_l_mirrored⟩ := d_l_mirrored.def_ X G
  have b_l_mirrored := F_l_mirrored.fn.binds e_l_mirrored (ps := ps_l_mirrored) fun _ _ _ _ _ _ us hl => match us, hl with | [_], _ => rfl
  obtain ⟨f_put, fd_put, F_put, e_put⟩ := d_put.def_ X G
  have b_put := F_put.fn.binds e_put (ps := ps_put) fun _ _ _ _ _ _ us hl => match us, hl with | [_, _], _ => rfl
  obtain ⟨f_turned, fd_turned, F_turned, e_turned⟩ := d_turned.def_ X G
  have b_turned := F_turned.fn.binds e_turned (ps := ps_turned) fun _ _ _ _ _ _ us hl => match us, hl with | [_], _ => rfl
  obtain ⟨f_one_right, fd_one_right, F_one_right, e_one_right⟩ := d_one_right.def_ X G
  have b_one_right := F_one_right.fn.binds e_one_right (ps := ps_one_right) fun _ _ _ _ _ _ us hl => match us, hl with | [_, _, _], _ => rfl
  obtain ⟨f_put_right, fd_put_right, F_put_right, e_put_right⟩ := d_put_right.def_ X G
  have b_put_right := F_put_right.fn.binds e_put_right (ps := ps_put_right) fun _ _ _ _ _ _ us hl => match us, hl with | [_, _, _], _ => rfl
  obtain ⟨f_right, fd_right, F_right, e_right⟩ := d_right.def_ X G
  have b_right := F_right.fn.binds e_right (ps := ps_right) fun _ _ _ _ _ _ us hl => match us, hl with | [_], _ => rfl
  obtain ⟨f_law, fd_law, F_law, e_law⟩ := dL.def_ X G
  obtain ⟨f_c, fd_c, a_c, F_c, k_c, e_c, code_c⟩ := dC
  have D_c : C8.Def K mg "copied" st_copied f_c fd_c := ⟨F_c, PySem.W.mg_of X G a_c, k_c⟩
  have b_c := F_c.binds e_c (ps := ps_copied) fun _ _ _ _ _ _ us hl => match us, hl with | [_], _ => rfl
  obtain ⟨f_I, fd_I, F_I, M_I, e_I⟩ := mI
  have b_I := F_I.binds e_I (ps := ps_Rule_init) fun _ _ _ _ _ _ us hl => match us, hl with | [_, _], _ => rfl
  obtain ⟨f_T, fd_T, F_T, M_T, e_T⟩ := mT
  have b_T := F_T.binds e_T (ps := ps_Rule_term) fun _ _ _ _ _ _ us hl => match us, hl with | [_], _ => rfl
  obtain ⟨f_E, fd_E, F_E, M_E, e_E⟩ := mE
  have b_E := F_E.binds e_E (ps := ps_Rule_eq) fun _ _ _ _ _ _ us hl => match us, hl with | [_, _], _ => rfl
  obtain ⟨f_told, fd_told, a_told, F_told⟩ := dD
  have D_told : C8.Def K mg "told" st_told f_told fd_told := ⟨F_told.fun, PySem.W.mg_of X G a_told, F_told.kp⟩
  obtain ⟨ds3, v3_told, b3_told⟩ := F_told.binds1 (ps := ps_told) 3 1 (by simp) rfl told3
  cases v3_told
  obtain ⟨f_s, fd_s, a_s, F_s, k_s, e_s, code_s⟩ := dS
  have D_s : C8.Def K mg "shifted_term" st_shifted_term f_s fd_s := ⟨F_s, PySem.W.mg_of X G a_s, k_s⟩
  have b_s := F_s.binds e_s (ps := ps_shifted_term) fun _ _ _ _ _ _ us hl => match us, hl with | [_, _], _ => rfl
  obtain ⟨f_p, fd_p, a_p, F_p, k_p, e_p, code_p⟩ := dP
  have D_p : C8.Def K mg "put_in" st_put_in f_p fd_p := ⟨F_p, PySem.W.mg_of X G a_p, k_p⟩
  have b_p := F_p.binds e_p (ps := ps_put_in) fun _ _ _ _ _ _ us hl => match us, hl with | [_, _], _ => rfl
  obtain ⟨f_ini, fd_ini, a_ini, t_ini, F_ini⟩ := I0
  have n_isinstance := PySem.W.mg_none_of X G z_isinstance
  have n_int := PySem.W.mg_none_of X G z_int
  have n_bool := PySem.W.mg_none_of X G z_bool
  have n_str := PySem.W.mg_none_of X G z_str
  have n_len := PySem.W.mg_none_of X G z_len
  have n_all := PySem.W.mg_none_of X G z_all
  have n_tuple := PySem.W.mg_none_of X G z_tuple
  have n_list := PySem.W.mg_none_of X G z_list
  have n_min := PySem.W.mg_none_of X G z_min
  have n_max := PySem.W.mg_none_of X G z_max
  have n_sum := PySem.W.mg_none_of X G z_sum
  have n_range := PySem.W.mg_none_of X G z_range
  have n_dict := PySem.W.mg_none_of X G z_dict
  have n_sorted := PySem.W.mg_none_of X G z_sorted
  have n_set := PySem.W.mg_none_of X G z_set
  have n_enumerate := PySem.W.mg_none_of X G z_enumerate
  have n_LONG := PySem.W.mg_of X G dN
  have e := hfa.symm.trans F_law.mgf
  cases e
  have lam : Str := "copied" ++ ".<locals>." ++ "<lambda>"
  refine ⟨fd_law, [(c, Pt), (cS, PS), (cP, PP)], [(Pt, (("copied" : Str) ++ ".<locals>." ++ "<lambda>")), (PS, (("shifted_term" : Str) ++ ".<locals>." ++ "<lambda>")), (PP, (("put_in" : Str) ++ ".<locals>." ++ "<lambda>"))], sp_law ⟨P, w, K, mg, h, [(Pt, (("copied" : Str) ++ ".<locals>." ++ "<lambda>")), (PS, (("shifted_term" : Str) ++ ".<locals>." ++ "<lambda>")), (PP, (("put_in" : Str) ++ ".<locals>." ++ "<lambda>"))]⟩, ?_⟩
  refine ⟨fun p hp => ?_, fun p hp => ?_, fun p hp => ?_, ?_, ?_, ?_⟩
  · simp only [List.mem_cons, List.not_mem_nil, or_false] at hp; rcases hp with rfl | rfl | rfl <;> assumption
  · simp only [List.mem_cons, List.not_mem_nil, or_false] at hp; rcases hp with rfl | rfl | rfl <;> assumption
  · simp only [List.mem_cons, List.not_mem_nil, or_false] at hp; rcases hp with rfl | rfl | rfl <;> (apply PySem.W.codeHd_of_K X; assumption)
  · intro s u
    obtain ⟨oc, od, dV, kV, doc, pm, an, cdv, ct, osl, hfd, lk, hcd⟩ := F_law.fn.ex
    have e0 : dV = .none := by have := e_law; rw [hfd] at this; exact this
    subst e0
    subst hfd
    exact .of_eq rfl
  · intro H a ns hl _ hH hS
    refine ⟨a, ns, rfl, hS, by omega, fun p hp => ?_, fun _ => rfl⟩
    simp only [List.mem_cons, List.not_mem_nil, or_false] at hp
    rcases hp with rfl | rfl | rfl
    · exact TabS.nil (hH (c, Pt) (by simp))
    · exact TabS.nil (hH (cS, PS) (by simp))
    · exact TabS.nil (hH (cP, PP) (by simp))
  · intro base GB XB TB
    obtain ⟨m, hm⟩ : ∃ m : Md, m = ⟨P, w, K, mg, base, [(Pt, (("copied" : Str) ++ ".<locals>." ++ "<lambda>")), (PS, (("shifted_term" : Str) ++ ".<locals>." ++ "<lambda>")), (PP, (("put_in" : Str) ++ ".<locals>." ++ "<lambda>"))]⟩ := ⟨_, rfl⟩
    rw [← hm]
    have hK : m.K = K := by rw [hm]
    have hg : m.mg = mg := by rw [hm]
    have hb : m.base = base := by rw [hm]
    have hTT : m.T = [(Pt, (("copied" : Str) ++ ".<locals>." ++ "<lambda>")), (PS, (("shifted_term" : Str) ++ ".<locals>." ++ "<lambda>")), (PP, (("put_in" : Str) ++ ".<locals>." ++ "<lambda>"))] := by rw [hm]
    clear hm
    subst hK hg hb
    have R : RuleC m C := ⟨⟨R0.pg, R0.hd, R0.po, R0.sa⟩, R0.no, PySem.W.mg_of X G R0.gR, R0.ha, R0.hn, R0.ht, R0.hm, R0.own, R0.oth⟩
    have E2 : RuleE m C := ⟨R0.nfS, R0.nfO, R0.ne⟩
    have Er : ErrC m "InvalidTerm" CT "value" := ⟨⟨E0.cls, E0.sa, E0.exC, E0.tyC, E0.kC⟩, ⟨E0.ga, E0.gg, E0.exC, E0.hdC⟩, E0.no, PySem.W.mg_of X G E0.gC, E0.self, f_ini, fd_ini, ps_InvalidTerm_init, a_ini, t_ini, init_binds F_ini, init_ok F_ini ⟨E0.cls, E0.sa, E0.exC, E0.tyC, E0.kC⟩ E0.no⟩
    have c1 := c_is_whole F_is_whole b_is_whole n_isinstance n_int n_bool
    have c2 := c_is_name F_is_name b_is_name n_isinstance n_str n_len n_all n_LONG
    have c3 := (c_is_term F_is_term b_is_term F_x_is_term_list b_x_is_term_list n_isinstance n_tuple n_list n_len n_all c2 c1 40).1
    have c4 := c_is_part F_is_part b_is_part
    have c5 := c_with_terms F_with_terms b_with_terms n_min n_len
    have c6 := c_rebuilt F_rebuilt b_rebuilt 1 (by omega) c4 c5 40
    have c7 := c_copied D_c b_c ⟨c, Pt, code_c, TB (c, Pt) (by simp), by rw [hTT]; simp, fun p hp e => by
      rw [hTT] at hp
      simp only [List.mem_cons, List.not_mem_nil, or_false] at hp
      rcases hp with rfl | rfl | rfl
      · rfl
      · exact (nS e.symm).elim
      · exact (nP e.symm).elim⟩ 40 c6
    have mT := m_term R F_T b_T M_T 40 c7
    have mE := m_eq R F_E b_E M_E n_isinstance
    have mI := f_rinit R F_I 40 c3 c7 Er
    have MK : MakX m (L2.CX m.P m.w) 44 "Rule" C (sp_rinit m C CT 40) [] := ⟨f_I, fd_I, ps_Rule_init, [], mI, ⟨R0.mks, M_I.at_, M_I.fn, R0.kc⟩, PySem.W.mg_of X G R0.gR, b_I, .nil⟩
    have l1 := c_mixed F_mixed b_mixed
    have l2 := c_draw F_draw b_draw n_range l1
    have l3 := c_purse F_purse b_purse n_sum n_max
    have l4 := c_purses F_purses b_purses n_range n_max n_min n_len l3
    have l5 := c_one_of F_one_of b_one_of n_len l2
    have l6 := c_shuffled F_shuffled b_shuffled n_len l2
    have l7 := c_word F_word b_word n_range l2
    have l8 := c_names F_names b_names l7 l6
    have l9 := c_small_wait F_small_wait b_small_wait l2
    have l10 := c_wait F_wait b_wait l2 l5
    have l11 := c_part F_part b_part l2 l5 l10 l9
    have l12 := c_term F_term b_term n_range n_min n_max l2 l5 l11 8
    have p1 := c_rank_of_term F_rank_of_term b_rank_of_term n_len
    have p2 := c_told_by F_told_by b_told_by n_sorted c4 p1 40
    have p3 := c_parts_at F_parts_at b_parts_at n_enumerate c4 40
    have p4 := c_need_rule R F_need_rule b_need_rule n_isinstance
    have p5 := c_parts F_parts b_parts 40 (by omega) p4 p3 mT
    have p6 := c_named F_named b_named n_set n_sorted 40 p4 p5
    have p7 := c_is_hours F_is_hours b_is_hours n_isinstance n_dict n_all c2 c1
    have p8 := c_need_hours F_need_hours b_need_hours p7
    have pT := c_told (ds := []) D_told 40 p4 p6 p8 p7 p2 mT
    have T3 : Cal m 48 "told" (sp_told m C 40) := ⟨f_told, fd_told, ps_told, [], pT, D_told.mgf, D_told.kp, b3_told, .nil⟩
    have p9 := c_need_whole F_need_whole b_need_whole c1
    have pS := c_sterm D_s b_s ⟨cS, PS, code_s, TB (cS, PS) (by simp), by rw [hTT]; simp, fun p hp e => by
      rw [hTT] at hp
      simp only [List.mem_cons, List.not_mem_nil, or_false] at hp
      rcases hp with rfl | rfl | rfl
      · exact (nS e).elim
      · rfl
      · exact (nSP e.symm).elim⟩ 40 c6
    have q1 := c_shifted F_shifted b_shifted 40 rfl p4 p9 pS mT MK
    have q2 := c_mterm F_mirrored_term b_mirrored_term n_len c4 40
    have q3 := c_mirrored F_mirrored b_mirrored 40 p4 q2 mT MK
    have q4 := c_irt R F_x_is_rule_table b_x_is_rule_table n_isinstance n_dict n_all c2
    have q5 := c_pip F_x_put_in_part b_x_put_in_part 40 pS mT
    have q6 := c_rebuilt F_rebuilt b_rebuilt 46 (by omega) c4 c5 40
    have q7 := c_put_in D_p b_p ⟨cP, PP, code_p, TB (cP, PP) (by simp), by rw [hTT]; simp, fun p hp e => by
      rw [hTT] at hp
      simp only [List.mem_cons, List.not_mem_nil, or_false] at hp
      rcases hp with rfl | rfl | rfl
      · exact (nP e).elim
      · exact (nSP e).elim
      · rfl⟩ 40 p4 q4 q5 q6 mT MK
    have a1 := c_hours F_hours b_hours n_dict l2 l5
    have a3 := c_l_told F_l_told b_l_told n_sorted 40
    have a4 := c_lmoved F_moved b_moved 40
    have a5 := c_lmir F_l_mirrored b_l_mirrored n_len 40
    have a6 := c_lput F_put b_put 40 a4 40
    have a7 := c_turned F_turned b_turned n_dict
    have a8 := c_one_right (CT := CT) F_one_right b_one_right n_range R E2 l10 mT mE q1 q3 a4 a5 a1 a3 T3 a7
    have a9 := c_put_right F_put_right b_put_right n_range n_dict R E2 l2 l6 l12 MK mT mE q7 a6 a1 a3 T3
    have aa := c_right F_right b_right R E2 l2 l8 l5 l12 MK mT a8 a9
    refine (f_law F_law.fn R E2 l4 aa MK mT mE q7 q3).imp fun vs H Q E z => ?_
    obtain ⟨a, ns, e, hs, hn, hT, k⟩ := z
    exact ⟨a, ns, e, hs, hn, by rw [hTT]; exact hT, k⟩
end
end Vf
open PySem PySem.W PyProof.Rows
set_option maxRecDepth 100000 in
set_option maxHeartbeats 0 in
theorem PySem.Challenge.cw_leafwaits_k04_whole_rules_turned_about_a_holds : PySem.Challenge.rw_leafwaits_k04_whole_rules_turned_about_a.Holds := by
  w_on; o_law; k_head; (case hw => w_witness2)
  k_fill
  refine Vf.walkG (l := PySem.Challenge.rw_leafwaits_k04_whole_rules_turned_about_a) (n := 63) (k := 94) (x := "_law_script") (CX := fun _ => C8.CX0) rfl (by decide) rfl ⟨rfl, by decide, by decide⟩ (fun w h Y => PySem.W.km_in_of Y) ?F (fun _ _ _ _ _ z => z)
  case F =>
    intro w mg fa h Y KX G hmg
    refine' Vf.all_mk KX G hmg ?tab ?off ?chd ?dN ?dC ?dL ?dD ?dS ?dP ?tabS ?offS ?chdS ?tabP ?offP ?chdP ?nS ?nP ?nSP ?R0 ?E0 ?I0 ?mI ?mT ?mE ?d_is_whole ?d_is_name ?d_is_hours ?d_need_whole ?d_need_hours ?d_is_term ?d_x_is_term_list ?d_is_part ?d_rank_of_term ?d_with_terms ?d_rebuilt ?d_mirrored_term ?d_told_by ?d_parts_at ?d_need_rule ?d_named ?d_shifted ?d_mirrored ?d_x_is_rule_table ?d_x_put_in_part ?d_parts ?d_purse ?d_mixed ?d_draw ?d_purses ?d_one_of ?d_shuffled ?d_word ?d_names ?d_wait ?d_small_wait ?d_part ?d_term ?d_hours ?d_l_told ?d_moved ?d_l_mirrored ?d_put ?d_turned ?d_one_right ?d_put_right ?d_right ?z_isinstance ?z_int ?z_bool ?z_str ?z_len ?z_all ?z_tuple ?z_list ?z_min ?z_max ?z_sum ?z_range ?z_dict ?z_sorted ?z_set ?z_enumerate
    (case dC => (refine' Vf.mk_cop ?a ?l ?c ?k; (case a => k_is); (case l => k_is); (case c => k_is); (case k => k_is)))
    (case dS => (refine' Vf.mk_cop ?a ?l ?c ?k; (case a => k_is); (case l => k_is); (case c => k_is); (case k => k_is)))
    (case dP => (refine' Vf.mk_cop ?a ?l ?c ?k; (case a => k_is); (case l => k_is); (case c => k_is); (case k => k_is)))
    (case tabS => exact PySem.W.km_tabs_of Y _ List.mem_cons_self)
    (case offS => kernel_rfl)
    (case chdS => kernel_rfl)
    (case tabP => exact PySem.W.km_tabs_of Y _ (List.mem_cons_of_mem _ List.mem_cons_self))
    (case offP => kernel_rfl)
    (case chdP => kernel_rfl)
    (case tab => exact PySem.W.km_tabs_of Y _ (List.mem_cons_of_mem _ (List.mem_cons_of_mem _ List.mem_cons_self)))
    (case off => kernel_rfl)
    (case chd => kernel_rfl)
    (case nS => decide)
    (case nP => decide)
    (case nSP => decide)
    (case dN => k_is)
    (case dL => (refine' Vf.mk_def ?a ?l ?c ?k; (case a => k_is); (case l => k_is); (case c => k_is); (case k => k_is)))
    (case dD => (refine' Vf.mk_defd ?a ?l ?c ?lT ?k; (case a => k_is); (case l => k_is); (case c => k_is); (case lT => k_is); (case k => k_is)))
    (case R0 =>
      refine' ⟨?gR, ?pg, ?hd, ?po, ?sa, ?no, ?ha, ?hn, ?ht, ?hm, ?own, ?oth, ?nfS, ?nfO, ?ne, ?mks, ?kc⟩
      (case gR => k_is); (case pg => k_is); (case hd => k_is); (case po => k_is); (case sa => k_is); (case no => k_is); (case ha => k_is); (case hn => k_is); (case ht => k_is); (case hm => k_is)
      (case own => first | k_is | kernel_rfl)
      (case oth => intro T hT; simp only [List.mem_cons, List.not_mem_nil, or_false] at hT; rcases hT with rfl | rfl | rfl | rfl | rfl | rfl | rfl <;> first | k_is | kernel_rfl)
      (case nfS => k_is)
      (case nfO => intro T hT; simp only [List.mem_cons, List.not_mem_nil, or_false] at hT; rcases hT with rfl | rfl | rfl | rfl | rfl | rfl | rfl <;> k_is)
      (case ne => k_is); (case mks => k_is); (case kc => k_is))
    (case E0 =>
      refine' ⟨?gC, ?cls, ?sa, ?exC, ?tyC, ?kC, ?ga, ?gg, ?hdC, ?no, ?self⟩
      (case gC => k_is)
      (case cls => (refine' Vf.mk_cls ?l ?r; (case l => k_is); (case r => rfl)))
      (case sa => k_is); (case exC => k_is); (case tyC => k_is); (case kC => k_is); (case ga => k_is); (case gg => k_is); (case hdC => k_is); (case no => k_is)
      (case self => first | k_is | kernel_rfl))
    (case I0 => (refine' Vf.mk_ini ?a ?t ?l ?c ?lT ?k; (case a => k_is); (case t => k_is); (case l => k_is); (case c => k_is); (case lT => k_is); (case k => k_is)))
    (case mI => (refine' Vf.mk_met ?a ?i ?l ?c ?k; (case a => k_is); (case i => k_is); (case l => k_is); (case c => k_is); (case k => k_is)))
    (case mT => (refine' Vf.mk_met ?a ?i ?l ?c ?k; (case a => k_is); (case i => k_is); (case l => k_is); (case c => k_is); (case k => k_is)))
    (case mE => (refine' Vf.mk_met ?a ?i ?l ?c ?k; (case a => k_is); (case i => k_is); (case l => k_is); (case c => k_is); (case k => k_is)))
    (case d_is_whole => (refine' Vf.mk_def ?a ?l ?c ?k; (case a => k_is); (case l => k_is); (case c => k_is); (case k => k_is)))
    (case d_is_name => (refine' Vf.mk_def ?a ?l ?c ?k; (case a => k_is); (case l => k_is); (case c => k_is); (case k => k_is)))
    (case d_is_hours => (refine' Vf.mk_def ?a ?l ?c ?k; (case a => k_is); (case l => k_is); (case c => k_is); (case k => k_is)))
    (case d_need_whole => (refine' Vf.mk_def ?a ?l ?c ?k; (case a => k_is); (case l => k_is); (case c => k_is); (case k => k_is)))
    (case d_need_hours => (refine' Vf.mk_def ?a ?l ?c ?k; (case a => k_is); (case l => k_is); (case c => k_is); (case k => k_is)))
    (case d_is_term => (refine' Vf.mk_def ?a ?l ?c ?k; (case a => k_is); (case l => k_is); (case c => k_is); (case k => k_is)))
    (case d_x_is_term_list => (refine' Vf.mk_def ?a ?l ?c ?k; (case a => k_is); (case l => k_is); (case c => k_is); (case k => k_is)))
    (case d_is_part => (refine' Vf.mk_def ?a ?l ?c ?k; (case a => k_is); (case l => k_is); (case c => k_is); (case k => k_is)))
    (case d_rank_of_term => (refine' Vf.mk_def ?a ?l ?c ?k; (case a => k_is); (case l => k_is); (case c => k_is); (case k => k_is)))
    (case d_with_terms => (refine' Vf.mk_def ?a ?l ?c ?k; (case a => k_is); (case l => k_is); (case c => k_is); (case k => k_is)))
    (case d_rebuilt => (refine' Vf.mk_def ?a ?l ?c ?k; (case a => k_is); (case l => k_is); (case c => k_is); (case k => k_is)))
    (case d_mirrored_term => (refine' Vf.mk_def ?a ?l ?c ?k; (case a => k_is); (case l => k_is); (case c => k_is); (case k => k_is)))
    (case d_told_by => (refine' Vf.mk_def ?a ?l ?c ?k; (case a => k_is); (case l => k_is); (case c => k_is); (case k => k_is)))
    (case d_parts_at => (refine' Vf.mk_def ?a ?l ?c ?k; (case a => k_is); (case l => k_is); (case c => k_is); (case k => k_is)))
    (case d_need_rule => (refine' Vf.mk_def ?a ?l ?c ?k; (case a => k_is); (case l => k_is); (case c => k_is); (case k => k_is)))
    (case d_named => (refine' Vf.mk_def ?a ?l ?c ?k; (case a => k_is); (case l => k_is); (case c => k_is); (case k => k_is)))
    (case d_shifted => (refine' Vf.mk_def ?a ?l ?c ?k; (case a => k_is); (case l => k_is); (case c => k_is); (case k => k_is)))
    (case d_mirrored => (refine' Vf.mk_def ?a ?l ?c ?k; (case a => k_is); (case l => k_is); (case c => k_is); (case k => k_is)))
    (case d_x_is_rule_table => (refine' Vf.mk_def ?a ?l ?c ?k; (case a => k_is); (case l => k_is); (case c => k_is); (case k => k_is)))
    (case d_x_put_in_part => (refine' Vf.mk_def ?a ?l ?c ?k; (case a => k_is); (case l => k_is); (case c => k_is); (case k => k_is)))
    (case d_parts => (refine' Vf.mk_def ?a ?l ?c ?k; (case a => k_is); (case l => k_is); (case c => k_is); (case k => k_is)))
    (case d_purse => (refine' Vf.mk_def ?a ?l ?c ?k; (case a => k_is); (case l => k_is); (case c => k_is); (case k => k_is)))
    (case d_mixed => (refine' Vf.mk_def ?a ?l ?c ?k; (case a => k_is); (case l => k_is); (case c => k_is); (case k => k_is)))
    (case d_draw => (refine' Vf.mk_def ?a ?l ?c ?k; (case a => k_is); (case l => k_is); (case c => k_is); (case k => k_is)))
    (case d_purses => (refine' Vf.mk_def ?a ?l ?c ?k; (case a => k_is); (case l => k_is); (case c => k_is); (case k => k_is)))
    (case d_one_of => (refine' Vf.mk_def ?a ?l ?c ?k; (case a => k_is); (case l => k_is); (case c => k_is); (case k => k_is)))
    (case d_shuffled => (refine' Vf.mk_def ?a ?l ?c ?k; (case a => k_is); (case l => k_is); (case c => k_is); (case k => k_is)))
    (case d_word => (refine' Vf.mk_def ?a ?l ?c ?k; (case a => k_is); (case l => k_is); (case c => k_is); (case k => k_is)))
    (case d_names => (refine' Vf.mk_def ?a ?l ?c ?k; (case a => k_is); (case l => k_is); (case c => k_is); (case k => k_is)))
    (case d_wait => (refine' Vf.mk_def ?a ?l ?c ?k; (case a => k_is); (case l => k_is); (case c => k_is); (case k => k_is)))
    (case d_small_wait => (refine' Vf.mk_def ?a ?l ?c ?k; (case a => k_is); (case l => k_is); (case c => k_is); (case k => k_is)))
    (case d_part => (refine' Vf.mk_def ?a ?l ?c ?k; (case a => k_is); (case l => k_is); (case c => k_is); (case k => k_is)))
    (case d_term => (refine' Vf.mk_def ?a ?l ?c ?k; (case a => k_is); (case l => k_is); (case c => k_is); (case k => k_is)))
    (case d_hours => (refine' Vf.mk_def ?a ?l ?c ?k; (case a => k_is); (case l => k_is); (case c => k_is); (case k => k_is)))
    (case d_l_told => (refine' Vf.mk_def ?a ?l ?c ?k; (case a => k_is); (case l => k_is); (case c => k_is); (case k => k_is)))
    (case d_moved => (refine' Vf.mk_def ?a ?l ?c ?k; (case a => k_is); (case l => k_is); (case c => k_is); (case k => k_is)))
    (case d_l_mirrored => (refine' Vf.mk_def ?a ?l ?c ?k; (case a => k_is); (case l => k_is); (case c => k_is); (case k => k_is)))
    (case d_put => (refine' Vf.mk_def ?a ?l ?c ?k; (case a => k_is); (case l => k_is); (case c => k_is); (case k => k_is)))
    (case d_turned => (refine' Vf.mk_def ?a ?l ?c ?k; (case a => k_is); (case l => k_is); (case c => k_is); (case k => k_is)))
    (case d_one_right => (refine' Vf.mk_def ?a ?l ?c ?k; (case a => k_is); (case l => k_is); (case c => k_is); (case k => k_is)))
    (case d_put_right => (refine' Vf.mk_def ?a ?l ?c ?k; (case a => k_is); (case l => k_is); (case c => k_is); (case k => k_is)))
    (case d_right => (refine' Vf.mk_def ?a ?l ?c ?k; (case a => k_is); (case l => k_is); (case c => k_is); (case k => k_is)))
    (case z_isinstance => k_is)
    (case z_int => k_is)
    (case z_bool => k_is)
    (case z_str => k_is)
    (case z_len => k_is)
    (case z_all => k_is)
    (case z_tuple => k_is)
    (case z_list => k_is)
    (case z_min => k_is)
    (case z_max => k_is)
    (case z_sum => k_is)
    (case z_range => k_is)
    (case z_dict => k_is)
    (case z_sorted => k_is)
    (case z_set => k_is)
    (case z_enumerate => k_is)
