import PyProof.Rows.All
import Wide.All
import OpenK.AllK
import Wide.FinOn
import HandS.ForMost
import HandS.ForExc
import HandS.Codes
import HandS.Wide
import HandS.WideBits
import HandS.Deep
import HandS.More
import HandS.Flow
import HandS.Lambda
import HandS.Nested
import HandS.EndTab
import PyProof.Rows.RegFStrParts
import HandS.OwnEq
import HandS.IsInst
import HandS.ExcInit
import HandS.ExcField
import HandS.Walk
import HandS.Text
import PyProof.EqKinds
import HandS.Zip
import HandS.Style
import HandS.Property
import HandS.SetFor
import HandS.Strs
import HandS.SetTxt0
import HandS.TupSets
import PyProof.Rows.SortShellAny
import HandS.SortInts
import PyProof.Rows.StrMeet
import HandS.Comp
import HandS.Star
import HandS.SortRule
import HandS.SortOrd
import PyProof.TupleOfSeq
import HandS.Defaults
import HandS.TupAny
import HandS.DeepEq
import PySem.Challenge.RW_leafwaits_k44_whole_stairs_put_together
set_option Elab.async false
set_option linter.all false
set_option maxRecDepth 100000
set_option maxHeartbeats 4000000
set_option maxRecDepth 100000
set_option maxHeartbeats 4000000
/-! Core: the layer's judgements as weakest preconditions over the syntax. Own work. -/
namespace Vf
open PySem PySem.Spec PyProof.Rows L2

/-! ### canonical readings -/
@[irreducible] def wE (X : Cx) (e : Expr) : TE := fun σ H Q => ∀ (pins : List (Addr × Obj)) (s : Shared), Inv X pins σ H s → wpAny (model X.prog X.w) X.A (eval e X.env) (EP X pins σ Q) X.xe s
@[irreducible] def wT (X : Cx) (e : Expr) : TT := fun σ H Q => ∀ (pins : List (Addr × Obj)) (s : Shared), Inv X pins σ H s → wpAny (model X.prog X.w) X.A (isTrue e X.env (eval e X.env)) (TP X pins σ Q) X.xe s
@[irreducible] def wW (X : Cx) (e : Expr) : TT := fun σ H Q => ∀ (whole : Sem Value) (pins : List (Addr × Obj)) (s : Shared), Inv X pins σ H s → wpAny (model X.prog X.w) X.A (isTrue e X.env whole) (TP X pins σ Q) X.xe s
@[irreducible] def wA (X : Cx) (es : List Expr) : TA := fun σ H Q => ∀ (pos : Pos) (pins : List (Addr × Obj)) (s : Shared), Inv X pins σ H s → wpAny (model X.prog X.w) X.A (spliced (backTo pos (starEach es X.env))) (AP X pins σ Q) X.xe s
@[irreducible] def wS (X : Cx) (st : Stmt) : TS := fun D σ H => ∀ (pins : List (Addr × Obj)) (s : Shared), Inv X pins σ H s → wpAny (model X.prog X.w) X.A (exec st X.env) (SP X pins D) X.xe s
@[irreducible] def wB (X : Cx) (st : List Stmt) : TS := fun D σ H => ∀ (pins : List (Addr × Obj)) (s : Shared), Inv X pins σ H s → wpAny (model X.prog X.w) X.A (execs st X.env) (SP X pins D) X.xe s
section
variable {X : Cx} {e a b c : Expr} {es : List Expr} {st : Stmt} {sts : List Stmt} {t : TE} {σ : L2.St} {H : Hp} {Q : VK} {D : Ends}
theorem cE : PE X e (wE X e) := ⟨fun pins s _ _ _ I h => by unfold wE at h; exact h pins s I⟩
theorem cT : PT X e (wT X e) := ⟨fun pins s _ _ _ I h => by unfold wT at h; exact h pins s I⟩
theorem cW : PW X e (wW X e) := ⟨fun wh pins s _ _ _ I h => by unfold wW at h; exact h wh pins s I⟩
theorem cA : PA X es (wA X es) := ⟨fun pos pins s _ _ _ I h => by unfold wA at h; exact h pos pins s I⟩
theorem cS : PS X st (wS X st) := ⟨fun pins s _ _ _ I h => by unfold wS at h; exact h pins s I⟩
theorem cB : PSs X sts (wB X sts) := ⟨fun pins s _ _ _ I h => by unfold wB at h; exact h pins s I⟩
theorem toE (h : PE X e t) (q : t σ H Q) : wE X e σ H Q := by unfold wE; exact fun pins s I => h.run pins s σ H Q I q
theorem toT {t : TT} {Q : Bool → Hp → Prop} (h : PT X e t) (q : t σ H Q) : wT X e σ H Q := by unfold wT; exact fun pins s I => h.run pins s σ H Q I q
theorem toW {t : TT} {Q : Bool → Hp → Prop} (h : PW X e t) (q : t σ H Q) : wW X e σ H Q := by unfold wW; exact fun wh pins s I => h.run wh pins s σ H Q I q
theorem toA {t : TA} {Q : List V → Hp → Prop} (h : PA X es t) (q : t σ H Q) : wA X es σ H Q := by unfold wA; exact fun pos pins s I => h.run pos pins s σ H Q I q
theorem toS {t : TS} (h : PS X st t) (q : t D σ H) : wS X st D σ H := by unfold wS; exact fun pins s I => h.run pins s σ H D I q
theorem toB {t : TS} (h : PSs X sts t) (q : t D σ H) : wB X sts D σ H := by unfold wB; exact fun pins s I => h.run pins s σ H D I q
theorem wE.mono {Q' : VK} (h : wE X e σ H Q) (k : ∀ v H', Q v H' → Q' v H') : wE X e σ H Q' := by
  unfold wE at h ⊢
  exact fun pins s I => thn (h pins s I) fun _ _ ⟨v, H', I', r, q⟩ => ⟨v, H', I', r, k v H' q⟩
end

/-! ### the module: program, world, written part, globals, base -/
structure Md where
  P : Program
  w : World
  K : PySem.W.Frag
  mg : Str → Option Value
  base : Heap
  /-- the tables of code objects (a lambda is looked up in its maker's), each with the one name that it tells -/
  T : List (Addr × Str)
/-- a def that keeps a promise where nothing is being shown (no repr under way): what is asked of it at one place is known of all -/
structure FnG (m : Md) (CX : CXT) (k : Nat) (f : Addr) (fd : FuncData) (ps : List Str) (sp : Sp) : Prop where
  len : ∀ vs H Q E, sp vs H Q E → vs.length = ps.length
  run : ∀ (A : Around) (outer : List Env) (s : Shared) (H : Hp) (args : Args) (us : List Value) (vs : List V) (Q : VK) (E : XK), A.guards = some [] → Room k A → Env0 m.P m.w m.K m.mg m.base A outer s H →
    BindsTo s fd args (ps.zip us) → Vals vs us → sp vs H Q E → codeAny (model m.P m.w) A (.call (.ref f) args) (CR CX outer m.P m.w H s Q E) s
theorem FnG.mono {m : Md} {CX : CXT} {j k : Nat} {f : Addr} {fd : FuncData} {ps : List Str} {sp : Sp} (F : FnG m CX j f fd ps sp) (h : j ≤ k) : FnG m CX k f fd ps sp := ⟨F.len, fun A outer s H args us vs Q E hg hr => F.run A outer s H args us vs Q E hg (hr.mono h)⟩
theorem FnG.imp {m : Md} {CX : CXT} {k : Nat} {f : Addr} {fd : FuncData} {ps : List Str} {sp sp' : Sp} (F : FnG m CX k f fd ps sp) (h : ∀ vs H Q E, sp' vs H Q E → sp vs H Q E) : FnG m CX k f fd ps sp' :=
  ⟨fun vs H Q E q => F.len vs H Q E (h _ _ _ _ q), fun A outer s H args us vs Q E hg hr he hb hv hs => F.run A outer s H args us vs Q E hg hr he hb hv (h _ _ _ _ hs)⟩
/-- X is a place in a def of the module m: names N, scope sc, room for k calls -/
structure At (m : Md) (N : List Str) (sc : Scope) (k : Nat) (X : Cx) : Prop where
  pp : X.prog = m.P
  ww : X.w = m.w
  kk : X.K = m.K
  mm : X.mg = m.mg
  bb : X.base = m.base
  nn : X.N = N
  ss : X.env.scope = sc
  calm : X.calm = true
  room : Room k X.A
  pass : PassesOwn (model X.prog X.w) X.A X.env X.xe
  nd : N.Nodup
  gd : X.A.guards = some []
section
variable {m : Md} {N : List Str} {sc : Scope} {k : Nat} {X : Cx} (h : At m N sc k X)
include h
theorem At.hu : X.A.units + 1 < cLine := hu_of h.room
end

def visB (sc : Scope) (x : Str) : Bool := match sc.names.lookup x with
  | some .local => true | some .cell => true | some .free => true | _ => false
theorem vis_of {sc : Scope} {x : Str} (h : visB sc x = true) : Vis sc x := by
  unfold visB at h
  unfold Vis
  split at h
  · next e => exact .inl e
  · next e => exact .inr (.inl e)
  · next e => exact .inr (.inr e)
  · cases h
section
variable {m : Md} {N : List Str} {sc : Scope} {k : Nat} {X : Cx} {a b c e : Expr} {es : List Expr} {σ : L2.St} {H : Hp} {Q : VK} {QB : Bool → Hp → Prop} {D : Ends} {pos p p1 p2 : Pos} {x y : Str} {i j : Nat} {v : V}
theorem At.gl (h : At m N sc k X) (e : sc.names.lookup x = some .globalImplicit) : Gl X x := by
  unfold Gl Env.kindOf
  rw [h.ss]
  exact e
theorem At.vis (h : At m N sc k X) (e : visB sc x = true) : Vis X.env.scope x := by rw [h.ss]; exact vis_of e

/-- the i-th name is x, a plain local of the scope; a local that others capture; one captured from outside -/
structure NL (N : List Str) (sc : Scope) (i : Nat) (x : Str) : Prop where
  ix : N[i]? = some x
  loc : sc.names.lookup x = some .local
structure NC (N : List Str) (sc : Scope) (i : Nat) (x : Str) : Prop where
  ix : N[i]? = some x
  cel : sc.names.lookup x = some .cell
structure NFr (N : List Str) (sc : Scope) (i : Nat) (x : Str) : Prop where
  ix : N[i]? = some x
  fre : sc.names.lookup x = some .free
/-! ### expressions -/
theorem w_var (h : At m N sc k X) (i : Nat) (hN : N[i]? = some x) (hv : visB sc x = true) (hs : σ[i]? = some (some v)) (q : Q v H) (hd : (x == ("__debug__" : Str)) = false := by with_unfolding_all decide) (hcd : (x == ("__classdict__" : Str)) = false := by with_unfolding_all decide) : wE X (.Name x pos) σ H Q :=
  toE (pe_var (by rw [h.nn]; exact hN) (h.vis hv) hd hcd) ⟨v, hs, q⟩
theorem w_nl (h : At m N sc k X) (n : NL N sc i x) (hs : σ[i]? = some (some v)) (q : Q v H) (hd : (x == ("__debug__" : Str)) = false := by with_unfolding_all decide) (hcd : (x == ("__classdict__" : Str)) = false := by with_unfolding_all decide) : wE X (.Name x pos) σ H Q :=
  toE (pe_var (by rw [h.nn]; exact n.ix) (by rw [h.ss]; exact .inl n.loc) hd hcd) ⟨v, hs, q⟩
theorem w_nc (h : At m N sc k X) (n : NC N sc i x) (hs : σ[i]? = some (some v)) (q : Q v H) (hd : (x == ("__debug__" : Str)) = false := by with_unfolding_all decide) (hcd : (x == ("__classdict__" : Str)) = false := by with_unfolding_all decide) : wE X (.Name x pos) σ H Q :=
  toE (pe_var (by rw [h.nn]; exact n.ix) (by rw [h.ss]; exact .inr (.inl n.cel)) hd hcd) ⟨v, hs, q⟩
theorem w_nf (h : At m N sc k X) (n : NFr N sc i x) (hs : σ[i]? = some (some v)) (q : Q v H) (hd : (x == ("__debug__" : Str)) = false := by with_unfolding_all decide) (hcd : (x == ("__classdict__" : Str)) = false := by with_unfolding_all decide) : wE X (.Name x pos) σ H Q :=
  toE (pe_var (by rw [h.nn]; exact n.ix) (by rw [h.ss]; exact .inr (.inr n.fre)) hd hcd) ⟨v, hs, q⟩
theorem w_int {i : Int} (q : Q (.int i) H) : wE X (.Constant (.int i) j pos) σ H Q := toE pe_int q
theorem w_bl {b : Bool} (q : Q (.bl b) H) : wE X (.Constant (.bool b) j pos) σ H Q := toE pe_bl q
theorem w_non (q : Q .non H) : wE X (.Constant .none j pos) σ H Q := toE pe_non q
theorem w_str {z : Str} (q : Q (.str z) H) : wE X (.Constant (.str z) j pos) σ H Q := toE pe_str q
theorem w_bin {op : Operator} {r : R2} (ho : OpR X (binaryOp op) r) (q : wE X a σ H fun x H1 => wE X b σ H1 fun y H2 => r x y H2 Q) : wE X (.BinOp a op b pos) σ H Q := toE (pe_op ho cE cE) q
theorem w_un {op : UnaryOp} {r : V → Hp → VK → Prop} (ho : UnR X (unaryOp op) r) (q : wE X a σ H fun x H1 => r x H1 Q) : wE X (.UnaryOp op a pos) σ H Q := toE (pe_un ho cE) q
theorem w_cmp {op : CmpOp} {r : R2} (ho : OpR X (compareOp op) r) (hm : behindInMarks op b = false) (q : wE X a σ H fun x H1 => wE X b σ H1 fun y H2 => r x y H2 Q) : wE X (.Compare a [op] [b] pos) σ H Q := toE (pe_cmpR ho cE cE hm) q
theorem w_not (q : wE X a σ H fun x H1 => ∃ c, x = .bl c ∧ Q (.bl (!c)) H1) : wE X (.UnaryOp .Not a pos) σ H Q := toE (pe_not cE) q
theorem w_and {rest : List Expr} (q : wE X a σ H fun x H1 => ∃ c, x = .bl c ∧ if c = true then wE X (.BoolOp .And (b :: rest) pos) σ H1 Q else Q (.bl false) H1) : wE X (.BoolOp .And (a :: b :: rest) pos) σ H Q := toE (pe_and cE cE) q
theorem w_or {rest : List Expr} (q : wE X a σ H fun x H1 => ∃ c, x = .bl c ∧ if c = true then Q (.bl true) H1 else wE X (.BoolOp .Or (b :: rest) pos) σ H1 Q) : wE X (.BoolOp .Or (a :: b :: rest) pos) σ H Q := toE (pe_or cE cE) q
theorem w_one {op : BoolOp} (q : wE X a σ H Q) : wE X (.BoolOp op [a] pos) σ H Q := toE (pe_one cE) q
theorem w_if (q : wT X c σ H fun k H1 => if k = true then wE X a σ H1 Q else wE X b σ H1 Q) : wE X (.IfExp c a b pos) σ H Q := toE (pe_ifExp cT cE cE) q
theorem w_tup {x1} (q : wA X es σ H fun xs H1 => xs.length ≤ sizeLine ∧ ∀ p, H1 p = none → Q (.ref p) (upd H1 p (.tup xs))) : wE X (.Tuple es x1 pos) σ H Q := toE (pe_tup cA) q
theorem w_lst (q : wA X es σ H fun xs H1 => xs.length ≤ sizeLine ∧ ∀ p, H1 p = none → Q (.ref p) (upd H1 p (.lst xs))) : wE X (.List es pos) σ H Q := toE (pe_lst cA) q
theorem w_ix {r : R2} (hr : IxR X r) (hs : PlainIx b) (q : wE X a σ H fun x H1 => wE X b σ H1 fun y H2 => r x y H2 Q) : wE X (.Subscript a b pos) σ H Q := toE (pe_ix hr cE cE hs) q
theorem w_nil {Q : List V → Hp → Prop} (q : Q [] H) : wA X [] σ H Q := toA pa_nil q
theorem w_cons {Q : List V → Hp → Prop} (q : wE X e σ H fun x H1 => wA X es σ H1 fun xs H2 => Q (x :: xs) H2) (hs : starEach (e :: es) X.env = (false, eval e X.env) :: starEach es X.env := by with_unfolding_all rfl) : wA X (e :: es) σ H Q := toA (pa_cons cE cA hs) q
/-- what a run of the def at f leaves, seen from X -/
theorem fnG_run {CX : CXT} {f : Addr} {fd : FuncData} {ps : List Str} {sp : Sp} {E : XK} {args : Args} {us : List Value} {vs : List V} {pins : List (Addr × Obj)} {s : Shared} (h : At m N sc k X) (F : FnG m CX j f fd ps sp) (hk : j ≤ k) (hx : Passes CX X E) (I : Inv X pins σ H s)
    (hb : BindsTo s fd args (ps.zip us)) (r : Vals vs us) (q : sp vs H Q E) : codeAny (model X.prog X.w) X.A (.call (.ref f) args) (fun r s' => match r with | .ok (.ret u) => EP X pins σ Q u s' | .ok _ => False | .error e => X.xe e s') s := by
  have e0 := I.env0
  rw [h.pp, h.ww, h.kk, h.mm, h.bb] at e0
  have rc := F.run X.A X.stack s H args us vs Q E h.gd (h.room.mono hk) e0 hb r q
  rw [← h.pp, ← h.ww] at rc
  refine codeAny_mono rc fun r s' hq => ?_
  match r, hq with
  | .error e, hq => exact hx pins σ H s e s' I hq
  | .ok (.ret u), hq => exact I.after hq
/-- a def that may be called by its name; dvs: what stands for the parameters that are left out -/
structure CalX (m : Md) (CX : CXT) (k : Nat) (x : Str) (sp : Sp) (dvs : List V) : Prop where
  ex : ∃ (f : Addr) (fd : FuncData) (ps : List Str) (ds : List Value), FnG m CX k f fd ps sp ∧ m.mg x = some (.ref f) ∧ PySem.W.keepIn m.K (.ref f) = true ∧ Binds m.K fd ps ds ∧ Vals dvs ds
abbrev Cal (m : Md) (k : Nat) (x : Str) (sp : Sp) : Prop := CalX m C8.CX0 k x sp []
theorem w_callX {CX : CXT} {sp : Sp} {dvs : List V} {E : XK} (h : At m N sc k X) (c : CalX m CX j x sp dvs) (hk : j ≤ k) (hg : sc.names.lookup x = some .globalImplicit) (hx : Passes CX X E) (q : wA X (e :: es) σ H fun vs H1 => sp (vs ++ dvs) H1 Q E)
    (hdb : (x == ("__debug__" : Str)) = false := by with_unfolding_all decide) (he : starEach (e :: es) X.env = (false, eval e X.env) :: starEach es X.env := by with_unfolding_all rfl) (hpl : (backTo pos (starEach es X.env)).any (·.1) = false := by with_unfolding_all rfl) : wE X (.Call (.Name x p) (e :: es) [] pos) σ H Q := by
  obtain ⟨f, fd, ps, ds, F, hm, kp, b, d⟩ := c.ex
  unfold wE
  intro pins s I
  refine wpAny_Call_Name_kw (ld_glob (u := .ref f) I (h.gl hg) (by rw [h.mm]; exact hm) ?_ hdb)
  refine PySem.W.callWith_K (h₀ := X.base) I.ok.mod.kin (by rw [h.kk]; exact kp) (thn ((cA (X := X) (es := e :: es)).run pos pins s σ H _ I q) fun us s1 ⟨vs, H1, I1, r, q1⟩ => ⟨I1.kIn, ?_⟩) he hpl
  have r2 := Vals.append r d
  refine wpAny_call (codeAny_mono (fnG_run (us := us ++ ds) (vs := vs ++ dvs) h F hk hx I1 (b s1 us (by rw [← h.kk]; exact I1.kIn) (by rw [← r2.length]; exact F.len _ _ _ _ q1)) r2 q1) fun r s' hq => ?_)
  match r, hq with
  | .error e, hq => exact hq
  | .ok (.ret u), hq => exact hq
theorem w_callX0 {CX : CXT} {sp : Sp} {dvs : List V} {E : XK} (h : At m N sc k X) (c : CalX m CX j x sp dvs) (hk : j ≤ k) (hg : sc.names.lookup x = some .globalImplicit) (hx : Passes CX X E) (q : sp dvs H Q E)
    (hdb : (x == ("__debug__" : Str)) = false := by with_unfolding_all decide) : wE X (.Call (.Name x p) [] [] pos) σ H Q := by
  obtain ⟨f, fd, ps, ds, F, hm, kp, b, d⟩ := c.ex
  unfold wE
  intro pins s I
  refine wpAny_Call_Name_kw (ld_glob (u := .ref f) I (h.gl hg) (by rw [h.mm]; exact hm) ?_ hdb)
  refine PySem.W.callWith_K0 I.kIn (by rw [h.kk]; exact kp) (wpAny_call (codeAny_mono (fnG_run (us := ds) (vs := dvs) h F hk hx I (b s [] (by rw [← h.kk]; exact I.kIn) (by simpa [← d.length] using F.len _ _ _ _ q)) d q) fun r s' hq => ?_))
  match r, hq with
  | .error e, hq => exact hq
  | .ok (.ret u), hq => exact hq
theorem w_call {sp : Sp} (h : At m N sc k X) (c : Cal m j x sp) (hk : j ≤ k) (hg : sc.names.lookup x = some .globalImplicit) (q : wA X (e :: es) σ H fun vs H1 => sp vs H1 Q C8.E0)
    (hdb : (x == ("__debug__" : Str)) = false := by with_unfolding_all decide) (he : starEach (e :: es) X.env = (false, eval e X.env) :: starEach es X.env := by with_unfolding_all rfl) (hpl : (backTo pos (starEach es X.env)).any (·.1) = false := by with_unfolding_all rfl) : wE X (.Call (.Name x p) (e :: es) [] pos) σ H Q := by
  refine w_callX (E := C8.E0) h c hk hg C8.pass0 ?_ hdb he hpl
  simpa using q
/-- a built-in function by its name -/
theorem w_blt {id : String} {r : List V → Hp → VK → Prop} (h : At m N sc k X) (hc : CallR X (.builtin id) r) (hm : m.mg x = none) (hg : sc.names.lookup x = some .globalImplicit) (hv : bootBuiltins x = some (.builtin id)) (q : wA X (e :: es) σ H fun vs H1 => r vs H1 Q)
    (hn : x ≠ "__name__" := by with_unfolding_all decide) (hdb : (x == ("__debug__" : Str)) = false := by with_unfolding_all decide) (he : starEach (e :: es) X.env = (false, eval e X.env) :: starEach es X.env := by with_unfolding_all rfl) (hpl : (backTo pos (starEach es X.env)).any (·.1) = false := by with_unfolding_all rfl) : wE X (.Call (.Name x p) (e :: es) [] pos) σ H Q :=
  toE (pe_callB hc (h.gl hg) (by rw [h.mm]; exact hm) hv cA hn hdb he hpl) q
theorem w_ty {T : String} {r : List V → Hp → VK → Prop} (h : At m N sc k X) (hc : CallR X (.type T) r) (hm : m.mg x = none) (hg : sc.names.lookup x = some .globalImplicit) (hv : bootBuiltins x = some (.type T)) (q : wA X (e :: es) σ H fun vs H1 => r vs H1 Q)
    (hn : x ≠ "__name__" := by with_unfolding_all decide) (hdb : (x == ("__debug__" : Str)) = false := by with_unfolding_all decide) (he : starEach (e :: es) X.env = (false, eval e X.env) :: starEach es X.env := by with_unfolding_all rfl) (hpl : (backTo pos (starEach es X.env)).any (·.1) = false := by with_unfolding_all rfl) : wE X (.Call (.Name x p) (e :: es) [] pos) σ H Q :=
  toE (pe_callTy hc (h.gl hg) (by rw [h.mm]; exact hm) hv cA hn hdb he hpl) q

/-! ### tests -/
theorem t_val (q : wE X e σ H fun x H1 => ∃ c, x = .bl c ∧ QB c H1) (he : ∀ whole, isTrue e X.env whole = (do let v ← whole; standAt e.pos; holding [v] (truthy v)) := by with_unfolding_all (intro _; rfl)) : wT X e σ H QB := toT (pt_val cE he) q
theorem t_cmp {op : CmpOp} {r : R2} (ho : OpR X (compareOp op) r) (hm : behindInMarks op b = false) (q : wE X a σ H fun x H1 => wE X b σ H1 fun y H2 => r x y H2 fun z H' => ∃ k, z = .bl k ∧ QB k H') : wT X (.Compare a [op] [b] pos) σ H QB := toT (pt_cmpR ho cE cE hm) q
theorem t_not (q : wT X a σ H fun c H1 => QB (!c) H1) : wT X (.UnaryOp .Not a pos) σ H QB := toT (pt_not cT) q
theorem t_and {rest : List Expr} (q : wW X (.BoolOp .And (a :: b :: rest) pos) σ H QB) : wT X (.BoolOp .And (a :: b :: rest) pos) σ H QB := toT (cW.pt) q
theorem t_or {rest : List Expr} (q : wW X (.BoolOp .Or (a :: b :: rest) pos) σ H QB) : wT X (.BoolOp .Or (a :: b :: rest) pos) σ H QB := toT (cW.pt) q
theorem k_and {rest : List Expr} (q : wT X a σ H fun c H1 => if c = true then wW X (.BoolOp .And (b :: rest) pos) σ H1 QB else QB false H1) : wW X (.BoolOp .And (a :: b :: rest) pos) σ H QB := toW (pw_and cT cW) q
theorem k_or {rest : List Expr} (q : wT X a σ H fun c H1 => if c = true then QB true H1 else wW X (.BoolOp .Or (b :: rest) pos) σ H1 QB) : wW X (.BoolOp .Or (a :: b :: rest) pos) σ H QB := toW (pw_or cT cW) q
theorem k_and1 (q : wT X a σ H QB) : wW X (.BoolOp .And [a] pos) σ H QB := toW (pw_and1 cT) q
theorem k_or1 (q : wT X a σ H QB) : wW X (.BoolOp .Or [a] pos) σ H QB := toW (pw_or1 cT) q
theorem t_truth (q : wE X a σ H fun x H1 => ∃ k, TruV X.K x H1 k ∧ QB k H1) (he : ∀ whole, isTrue a X.env whole = (do let v ← whole; standAt a.pos; holding [v] (truthy v)) := by with_unfolding_all (intro _; rfl)) : wT X a σ H QB := toT (pt_truth cE he) q

/-! ### statements: what is wanted behind is written out -/
variable {st : Stmt} {sts rest th el body : List Stmt} {nx : L2.St → Hp → Prop} {rt : VK} {bk ct : L2.St → Hp → Prop}
theorem b_nil (q : nx σ H) : wB X [] ⟨nx, rt, bk, ct⟩ σ H := toB pss_nil q
theorem b_cons (q : wS X st ⟨wB X rest ⟨nx, rt, bk, ct⟩, rt, bk, ct⟩ σ H) : wB X (st :: rest) ⟨nx, rt, bk, ct⟩ σ H := toB (pss_cons cS cB) q
theorem b_one (q : wS X st ⟨nx, rt, bk, ct⟩ σ H) : wB X [st] ⟨nx, rt, bk, ct⟩ σ H := toB (pss_one cS) q
theorem s_ret (q : wE X e σ H rt) : wS X (.Return (some e) pos) ⟨nx, rt, bk, ct⟩ σ H := toS (ps_ret cE) q
theorem s_retN (q : rt .non H) : wS X (.Return none pos) ⟨nx, rt, bk, ct⟩ σ H := toS ps_retN q
theorem s_if (q : wT X c σ H fun b H1 => if b = true then wB X th ⟨nx, rt, bk, ct⟩ σ H1 else wB X el ⟨nx, rt, bk, ct⟩ σ H1) : wS X (.If c th el pos) ⟨nx, rt, bk, ct⟩ σ H := toS (ps_if cT cB cB) q
theorem s_expr (q : wE X e σ H fun _ H1 => nx σ H1) (hs : swapsWith e none pos.line X.env = pure false := by with_unfolding_all rfl) : wS X (.Expr e pos) ⟨nx, rt, bk, ct⟩ σ H := toS (ps_expr cE hs) q
theorem s_set (h : At m N sc k X) (i : Nat) (hN : N[i]? = some x) (hl : sc.names.lookup x = some .local) (q : wE X e σ H fun v H1 => nx (σ.set i (some v)) H1) (hs : swapsWith e (some (.Name x p1)) pos.line X.env = pure false := by with_unfolding_all rfl) :
    wS X (.Assign [.Name x p1] e pos) ⟨nx, rt, bk, ct⟩ σ H :=
  toS (ps_set (by rw [h.nn]; exact h.nd) (by rw [h.nn]; exact hN) (by rw [h.ss]; exact .inl hl) cE hs (.inr (by rw [h.ss]; exact hl))) q
theorem s_nl (h : At m N sc k X) (n : NL N sc i x) (q : wE X e σ H fun v H1 => nx (σ.set i (some v)) H1) (hs : swapsWith e (some (.Name x p1)) pos.line X.env = pure false := by with_unfolding_all rfl) : wS X (.Assign [.Name x p1] e pos) ⟨nx, rt, bk, ct⟩ σ H := s_set h i n.ix n.loc q hs
theorem s_nc (h : At m N sc k X) (n : NC N sc i x) (hf : ∀ y, X.fn y = true) (q : wE X e σ H fun v H1 => nx (σ.set i (some v)) H1) (hs : swapsWith e (some (.Name x p1)) pos.line X.env = pure false := by with_unfolding_all rfl) : wS X (.Assign [.Name x p1] e pos) ⟨nx, rt, bk, ct⟩ σ H :=
  toS (ps_set (by rw [h.nn]; exact h.nd) (by rw [h.nn]; exact n.ix) (by rw [h.ss]; exact .inr n.cel) cE hs (.inl (hf x))) q
theorem pg_nl (h : At m N sc k X) (n : NL N sc i x) : PG X (.Name x pos) (gName i) := pg_name (by rw [h.nn]; exact h.nd) (by rw [h.nn]; exact n.ix) (by rw [h.ss]; exact .inl n.loc) (.inr (by rw [h.ss]; exact n.loc))
theorem pg_nc (h : At m N sc k X) (n : NC N sc i x) (hf : ∀ y, X.fn y = true) : PG X (.Name x pos) (gName i) := pg_name (by rw [h.nn]; exact h.nd) (by rw [h.nn]; exact n.ix) (by rw [h.ss]; exact .inr n.cel) (.inl (hf x))
/-- xs[i] = e -/
theorem s_sub {o ix : Expr} {t : TSet} (hs : PSet X t) (q : wE X e σ H fun v H1 => wE X o σ H1 fun x H2 => wE X ix σ H2 fun y H3 => t x y v H3 fun H4 => nx σ H4)
    (ha : ∀ v : Value, assign (.Subscript o ix p1) X.env v = (do
      let ov ← holding [v] (eval o X.env)
      let iv ← holding [v, ov] (eval ix X.env)
      standAt p1
      holding [v, ov, iv] (setItem ov iv v)
      release [v, ov, iv] []) := by with_unfolding_all (intro _; rfl))
    (h1 : swapsWithSole [.Subscript o ix p1] e pos.line X.env = pure false := by with_unfolding_all rfl) (h2 : swappedStores [.Subscript o ix p1] e X.env = pure none := by with_unfolding_all rfl) : wS X (.Assign [.Subscript o ix p1] e pos) ⟨nx, rt, bk, ct⟩ σ H :=
  toS (ps_asg cE (pg_sub cE cE hs ha) h1 h2) q
/-- xs[i] = e, xs a list -/
theorem s_subL {o ix : Expr} (q : wE X e σ H fun v H1 => wE X o σ H1 fun x H2 => wE X ix σ H2 fun y H3 => ∃ (p : Addr) (xs : List V) (z : Int) (j : Nat), x = .ref p ∧ y = .int z ∧ H3 p = some (.lst xs) ∧ ixN xs.length z = some j ∧ nx σ (upd H3 p (.lst (xs.set j v))))
    (ha : ∀ v : Value, assign (.Subscript o ix p1) X.env v = (do
      let ov ← holding [v] (eval o X.env)
      let iv ← holding [v, ov] (eval ix X.env)
      standAt p1
      holding [v, ov, iv] (setItem ov iv v)
      release [v, ov, iv] []) := by with_unfolding_all (intro _; rfl))
    (h1 : swapsWithSole [.Subscript o ix p1] e pos.line X.env = pure false := by with_unfolding_all rfl) (h2 : swappedStores [.Subscript o ix p1] e X.env = pure none := by with_unfolding_all rfl) : wS X (.Assign [.Subscript o ix p1] e pos) ⟨nx, rt, bk, ct⟩ σ H :=
  s_sub set_list q ha h1 h2
/-- for x in range(e) -/
theorem s_forR {tg : Expr} {g : TG} {po : Pos} (h : At m N sc k X) (hg : PG X tg g) (hm : m.mg "range" = none) (hgl : sc.names.lookup ("range" : Str) = some .globalImplicit)
    (q : wE X e σ H fun v H1 => ∃ z : Int, v = .int z ∧ -(2 ^ 62) ≤ z ∧ z < 2 ^ 62 ∧ ∃ Pv : Nat → L2.St → Hp → Prop, Pv 0 σ H1 ∧ (∀ i σ H, i < z.toNat → Pv i σ H → g (.int i) σ H fun σ2 H2 => wB X body ⟨Pv (i + 1), rt, nx, Pv (i + 1)⟩ σ2 H2) ∧ ∀ σ H, Pv z.toNat σ H → nx σ H)
    (hs : starEach [e] X.env = [(false, eval e X.env)] := by with_unfolding_all rfl) (hf : ∀ x, foldedSetIterable (.Call (.Name "range" p1) [e] [] p2) X.env x = pure x := by with_unfolding_all (intro _; rfl)) : wS X (.For tg (.Call (.Name "range" p1) [e] [] p2) body [] po) ⟨nx, rt, bk, ct⟩ σ H := by
  refine toS (ps_for h.pass h.calm (pi_range1 (h.gl hgl) (by rw [h.mm]; exact hm) (pa_cons cE pa_nil hs) hs) hg cB hf) ?_
  refine wE.mono q fun v H1 ⟨z, ez, z1, z2, Pv, p0, turn, fin⟩ => ⟨z, by rw [ez], z1, z2, ?_⟩
  exact for_range (lo := 0) (n := z.toNat) Pv p0 (fun i σ H hi hp => by simpa using turn i σ H hi hp) fin
/-- for x in xs, xs a list that stands still -/
theorem s_forL {tg : Expr} {g : TG} {po : Pos} (h : At m N sc k X) (hg : PG X tg g)
    (q : wE X e σ H fun v H1 => ∃ (a : Addr) (xs : List V), v = .ref a ∧ SqL m.K H1 a xs ∧ ∃ Pv : Nat → L2.St → Hp → Prop, Pv 0 σ H1 ∧ (∀ i σ H, i ≤ xs.length → Pv i σ H → SqL m.K H a xs) ∧ (∀ i x σ H, xs[i]? = some x → Pv i σ H → g x σ H fun σ2 H2 => wB X body ⟨Pv (i + 1), rt, nx, Pv (i + 1)⟩ σ2 H2) ∧ ∀ σ H, Pv xs.length σ H → nx σ H)
    (hf : ∀ x, foldedSetIterable e X.env x = pure x := by with_unfolding_all (intro _; rfl)) : wS X (.For tg e body [] po) ⟨nx, rt, bk, ct⟩ σ H := by
  refine toS (ps_for h.pass h.calm (pi_list cE) hg cB hf) ?_
  refine wE.mono q fun v H1 ⟨a, xs, ea, hs, Pv, p0, hl, turn, fin⟩ => ⟨a, ea, ⟨xs, by rw [h.kk]; exact hs⟩, ?_⟩
  exact for_list (K := X.K) (a := a) (xs := xs) Pv p0 (fun i σ H hi hp => by rw [h.kk]; exact hl i σ H hi hp) turn fin
/-- for x in t, t a tuple -/
theorem s_forT {tg : Expr} {g : TG} {po : Pos} (h : At m N sc k X) (hg : PG X tg g)
    (q : wE X e σ H fun v H1 => ∃ (a : Addr) (xs : List V), v = .ref a ∧ SqT m.K H1 a xs ∧ ∃ Pv : Nat → L2.St → Hp → Prop, Pv 0 σ H1 ∧ (∀ i σ H, i ≤ xs.length → Pv i σ H → SqT m.K H a xs) ∧ (∀ i x σ H, xs[i]? = some x → Pv i σ H → g x σ H fun σ2 H2 => wB X body ⟨Pv (i + 1), rt, nx, Pv (i + 1)⟩ σ2 H2) ∧ ∀ σ H, Pv xs.length σ H → nx σ H)
    (hf : ∀ x, foldedSetIterable e X.env x = pure x := by with_unfolding_all (intro _; rfl)) : wS X (.For tg e body [] po) ⟨nx, rt, bk, ct⟩ σ H := by
  refine toS (ps_for h.pass h.calm (pi_tup cE) hg cB hf) ?_
  refine wE.mono q fun v H1 ⟨a, xs, ea, hs, Pv, p0, hl, turn, fin⟩ => ⟨a, ea, ⟨xs, by rw [h.kk]; exact hs⟩, ?_⟩
  exact for_tup (K := X.K) (a := a) (xs := xs) Pv p0 (fun i σ H hi hp => by rw [h.kk]; exact hl i σ H hi hp) turn fin
end

/-! ### a def by its body -/
/-- what a def that makes lambdas knows of its place besides -/
structure AtM (X : Cx) (x : Str) (cdv : Value) : Prop where
  code : X.env.code = cdv
  qual : X.env.qual = x ++ ".<locals>."
  fn : ∀ y, X.fn y = true
  ex : X.ex = []
section
variable {m : Md} {N ps : List Str} {k : Nat} {x qual : Str} {st : Stmt} {f : Addr} {fd : FuncData} {sp : Sp}
/-- a def that lets no exception out, by its body -/
theorem fnG_of (F : C8.Fun m.K x qual st f fd) (S : FnScope N ps (C8.fnScope st)) (len : ∀ vs H Q E, sp vs H Q E → vs.length = ps.length)
    (hb : ∀ (X : Cx) (vs : List V) (H : Hp) (Q : VK) (E : XK), At m N (C8.fnScope st) k X → AtM X qual fd.code → sp vs H Q E → wB X (C8.fnBody st) { nx := fun _ H' => Q .non H', rt := Q } (start N vs) H) : FnG m C8.CX0 (k + 1) f fd ps sp := by
  obtain ⟨oc, od, dV, kV, doc, pm, an, cdv, ct, osl, rfl, lk, hc⟩ := F.ex
  refine ⟨len, fun A outer s H args us vs Q E hg hr e0 bt r q => ?_⟩
  refine LamX.run_ofS (CX := C8.CX0) (N := N) lk hc S hr e0 bt r (len _ _ _ _ q) fun hr' => ⟨_, PSs.nox cB, ?_⟩
  exact hb (cxOf C8.CX0 m.P m.w m.K m.mg m.base N qual (C8.fnScope st) f cdv A outer s H E).nox vs H Q E ⟨rfl, rfl, rfl, rfl, rfl, rfl, rfl, rfl, hr', PassesOwn.never, S.nd, hg⟩ ⟨rfl, rfl, fun _ => rfl, rfl⟩ q
theorem cal_ofM (F : C8.Def m.K m.mg x st f fd) (b : Binds m.K fd ps []) (S : FnScope N ps (C8.fnScope st)) (len : ∀ vs H Q E, sp vs H Q E → vs.length = ps.length)
    (hb : ∀ (X : Cx) (vs : List V) (H : Hp) (Q : VK) (E : XK), At m N (C8.fnScope st) k X → AtM X x fd.code → sp vs H Q E → wB X (C8.fnBody st) { nx := fun _ H' => Q .non H', rt := Q } (start N vs) H) : Cal m (k + 1) x sp :=
  ⟨f, fd, ps, [], fnG_of F.fn S len hb, F.mgf, F.kp, b, .nil⟩
theorem cal_of (F : C8.Def m.K m.mg x st f fd) (b : Binds m.K fd ps []) (S : FnScope N ps (C8.fnScope st)) (len : ∀ vs H Q E, sp vs H Q E → vs.length = ps.length)
    (hb : ∀ (X : Cx) (vs : List V) (H : Hp) (Q : VK) (E : XK), At m N (C8.fnScope st) k X → sp vs H Q E → wB X (C8.fnBody st) { nx := fun _ H' => Q .non H', rt := Q } (start N vs) H) : Cal m (k + 1) x sp :=
  cal_ofM F b S len fun X vs H Q E h _ q => hb X vs H Q E h q
end
theorem atI_at {α : Type} {xs : List α} {j : Nat} {v : α} (h : xs[j]? = some v) : atI xs (j : Int) = some v := atI_nat h
end Vf
set_option maxRecDepth 100000
set_option maxHeartbeats 4000000
/-! Lam: lambdas with parameters, made in a def's body and handed on. Own work. -/
namespace Vf
open PySem PySem.Spec PyProof.Rows L2 LamX NdefX

/-- a lambda's words -/
structure LF where
  qual : Str
  params : Arguments
  body : Expr
  scope : Scope
  cl : List (Str × Addr)
  c : Addr
abbrev LF.fd (F : LF) (pm ctv : Value) : FuncData := PySem.W.kla_fn "<lambda>" F.qual F.params F.body F.scope F.cl pm (.ref F.c) ctv
abbrev LF.nf (F : LF) : NF := ⟨"<lambda>", F.qual, F.params, [], F.scope, F.cl, F.c⟩
def LamO (f : Addr) (F : LF) : HO := .ext fun h => ∃ (od : Option Addr) (sl : Array (Option Value)) (pm ctv : Value), h.get? f = some (⟨.type "function", od, .func (F.fd pm ctv), sl⟩ : Obj)
theorem lamO_tbl {f : Addr} {F : LF} (ps : Array Value) : LamO f F ≠ .tbl ps := fun z => by unfold LamO at z; cases z
theorem lamO_at {P : Program} {w : World} {H : Hp} {h : Heap} {f : Addr} {F : LF} (hok : HOk P w H h) (e : H f = some (LamO f F)) : ∃ (od : Option Addr) (sl : Array (Option Value)) (pm ctv : Value), h.get? f = some (⟨.type "function", od, .func (F.fd pm ctv), sl⟩ : Obj) := by
  obtain ⟨z, _, _⟩ := hok f _ e
  exact z
theorem lamO_ok {P : Program} {w : World} {H : Hp} {h : Heap} {f : Addr} {F : LF} {od : Option Addr} {sl : Array (Option Value)} {pm ctv : Value} (e : h.get? f = some (⟨.type "function", od, .func (F.fd pm ctv), sl⟩ : Obj)) : ObjOk P w H h f (LamO f F) :=
  ⟨⟨od, sl, pm, ctv, e⟩, ⟨_, e⟩, fun h1 h2 ⟨od, sl, p, t, z⟩ st => ⟨od, sl, p, t, st _ z⟩⟩

section
variable {X : Cx} {pins : List (Addr × Obj)} {σ : L2.St} {H : Hp} {s : Shared}
theorem inv_lam {F : LF} {o : Obj} {t' : Nat} {pm ctv : Value} (I : Inv X pins σ H s) (ho : o = { cls := .type "function", data := .func (F.fd pm ctv) }) :
    Inv X pins σ (upd H s.heap.objs.size (LamO s.heap.objs.size F)) { s with heap := s.heap.push o, toks := t' } := by
  subst ho
  refine I.laid (a := s.heap.objs.size) (fun b u e => Heap.get?_push_of_some _ e) (Nat.le_refl _) ?_
  exact lamO_ok (Heap.get?_push_size _ rfl)
/-- the lambda is made and tracked -/
theorem lam_make3 {T : List (Addr × Str)} {c P : Addr} {params : Arguments} {body : Expr} {scope : Scope} {pos : Pos} {E : Value → Shared → Prop} {Q : Value → Shared → Prop} (I : Inv X pins σ H s) (TB : TabB X.base X.mg c P) (hcode : X.env.code = .ref c)
    (hm : (P, X.env.qual ++ "<lambda>") ∈ T) (hu : ∀ p ∈ T, p.1 = P → p.2 = X.env.qual ++ "<lambda>") (hT : Tabs T H) (hdef : defaultsOf params X.env = ([], [])) (hfree : ∀ y ∈ scope.names, y.2 = .free → ∃ c, X.env.cells.lookup y.1 = some c)
    (h : ∀ (f c' : Addr) (H1 : Hp) (s' : Shared), Inv X pins σ H1 s' → ExtN H H1 → Tabs T H1 → H f = none → H1 f = some (LamO f ⟨X.env.qual ++ "<lambda>", params, body, scope, cloFrom X.env.cells scope.names [], c'⟩) → H1 c' = some (CodeO c' (X.env.qual ++ "<lambda>")) → (∀ b, H1 b = none → H b = none) → Q (.ref f) s') :
    wpAny (model X.prog X.w) X.A (eval (.Lambda params body scope pos) X.env) Q E s := by
  obtain ⟨ps, hP, ht, ha⟩ := hT _ hm
  refine PySem.W.kla_eval hdef ?_
  have bP : s.heap.BuiltinsAt X.mg P := TB.bm.keeps I.bk
  have hP' : s.heap.get? P = some { cls := .none, data := .fields ps } := I.hok P _ hP
  cases hc : codeAmong pos ps.toList with
  | none =>
    refine PySem.W.kla_makeFunction (mg := X.mg) (c := c) (P := P) (ps := ps) (closure_ok hfree) I.ok.glob (I.mod.glob.keeps I.bk) hcode (TB.code.keeps I.bk) hP' ht hc TB.gP bP fun c' ctv h' tk hx hge hlt hrec htb => ?_
    obtain ⟨c2, oc, vs, t, e2, hoc, hd, hv⟩ := hrec
    cases e2
    have nC : H c' = none := I.hok.fresh hge
    have I1 := inv_table (t' := tk) (more := #[rawInt pos.line, rawInt pos.col, .ref c']) (h' := h') I hP (fun b o hb e => hx b o hb e) htb hge ⟨oc, vs, t, hoc, hd, hv⟩
    have hE : ExtN H (upd (upd H P (.tbl (ps ++ #[rawInt pos.line, rawInt pos.col, .ref c']))) c' (CodeO c' (X.env.qual ++ "<lambda>"))) := fun b o e n => by
      rw [upd_ne (ne_of_none e nC), upd_ne (fun z => n ps (Option.some.inj (e.symm.trans (by rw [z]; exact hP))))]
      exact e
    have eL : (ps ++ #[rawInt pos.line, rawInt pos.col, .ref c']).toList = ps.toList ++ [rawInt pos.line, rawInt pos.col, .ref c'] := by simp
    have T1 : Tabs T (upd (upd H P (.tbl (ps ++ #[rawInt pos.line, rawInt pos.col, .ref c']))) c' (CodeO c' (X.env.qual ++ "<lambda>"))) := fun p hp => by
      by_cases hb : p.1 = P
      · rw [hu p hp hb, hb]
        refine ⟨_, by rw [upd_ne (ne_of_none hP nC), upd_same], by rw [eL]; exact PySem.TriplesOk_snoc _ _ _ _ ht, fun p' cv hcv => ?_⟩
        rw [eL] at hcv
        rcases among_app _ ht hcv with z | z
        · obtain ⟨c0, e1, e2⟩ := ha p' cv z
          exact ⟨c0, e1, hE _ _ e2 codeO_ne⟩
        · exact ⟨c', z, upd_same⟩
      · obtain ⟨ps', a1, a2, a3⟩ := hT p hp
        refine ⟨ps', by rw [upd_ne (ne_of_none a1 nC), upd_ne hb]; exact a1, a2, fun p' cv hcv => ?_⟩
        obtain ⟨c0, e1, e2⟩ := a3 p' cv hcv
        exact ⟨c0, e1, hE _ _ e2 codeO_ne⟩
    have nF := I1.hok.fresh (Nat.le_refl _)
    have I2 := inv_lam (F := ⟨X.env.qual ++ "<lambda>", params, body, scope, cloFrom X.env.cells scope.names [], c'⟩) (t' := tk) (pm := (X.mg "__name__").getD .none) (ctv := ctv) I1 rfl
    refine h h'.objs.size c' _ _ I2 (fun b o e n => ?_) (T1.ext fun b o e => ?_) (I.hok.fresh (Nat.le_trans hge (Nat.le_of_lt hlt))) upd_same ?_ (fun b e => upd_none (upd_none (upd_none e)))
    · have e1 := hE b o e n
      exact (upd_ne (ne_of_none e1 nF)).trans e1
    · exact (upd_ne (ne_of_none e nF)).trans e
    · exact (upd_ne (Nat.ne_of_lt hlt)).trans upd_same
  | some cv =>
    obtain ⟨c', e, hco⟩ := ha pos cv hc
    subst e
    refine PySem.W.kla_makeFunctionHit (mg := X.mg) (c := c) (P := P) (ps := ps) (closure_ok hfree) I.ok.glob (I.mod.glob.keeps I.bk) hcode (TB.code.keeps I.bk) hP' ht hc bP fun ctv h' tk hx hsz => ?_
    have I1 : Inv X pins σ H { s with heap := h', toks := tk } := I.kept hx
    have nF : H h'.objs.size = none := I1.hok.fresh (Nat.le_refl _)
    have I2 := inv_lam (F := ⟨X.env.qual ++ "<lambda>", params, body, scope, cloFrom X.env.cells scope.names [], c'⟩) (t' := tk) (pm := (X.mg "__name__").getD .none) (ctv := ctv) I1 rfl
    refine h h'.objs.size c' _ _ I2 (fun b o e n => ?_) (hT.ext fun b o e => ?_) nF upd_same ?_ (fun b e => upd_none e)
    · exact (upd_ne (ne_of_none e nF)).trans e
    · exact (upd_ne (ne_of_none e nF)).trans e
    · exact (upd_ne (ne_of_none hco nF)).trans hco
end

/-! ### what calling a function value promises -/
/-- f, in every heap from H on, keeps the promise sp when it is called -/
structure Callable (m : Md) (k : Nat) (f : Addr) (sp : Sp) (H : Hp) : Prop where
  lam : ∃ F, H f = some (LamO f F)
  run : ∀ (H1 : Hp), ExtN H H1 → ∀ (A : Around) (outer : List Env) (s : Shared) (us : List Value) (vs : List V) (Q : VK), A.guards = some [] → Room k A → Env0 m.P m.w m.K m.mg m.base A outer s H1 → Vals vs us → sp vs H1 Q C8.E0 →
    codeAny (model m.P m.w) A (.call (.ref f) ⟨us, []⟩) (CR C8.CX0 outer m.P m.w H1 s Q C8.E0) s
theorem Callable.ext {m : Md} {k : Nat} {f : Addr} {sp : Sp} {H H' : Hp} (c : Callable m k f sp H) (e : ExtN H H') : Callable m k f sp H' :=
  ⟨by obtain ⟨F, h⟩ := c.lam; exact ⟨F, e _ _ h lamO_tbl⟩, fun H1 e1 => c.run H1 (e.trans e1)⟩
theorem Callable.mono {m : Md} {k j : Nat} {f : Addr} {sp : Sp} {H : Hp} (c : Callable m k f sp H) (h : k ≤ j) : Callable m j f sp H := ⟨c.lam, fun H1 e1 A outer s us vs Q hg hr => c.run H1 e1 A outer s us vs Q hg (hr.mono h)⟩
theorem Callable.imp {m : Md} {k : Nat} {f : Addr} {sp sp' : Sp} {H : Hp} (c : Callable m k f sp H) (h : ∀ H1, ExtN H H1 → ∀ vs Q E, sp' vs H1 Q E → sp vs H1 Q E) : Callable m k f sp' H := ⟨c.lam, fun H1 e1 A outer s us vs Q hg hr e0 r q => c.run H1 e1 A outer s us vs Q hg hr e0 r (h H1 e1 _ _ _ q)⟩

/-- the context of a lambda's body -/
abbrev lcx (m : Md) (N : List Str) (F : LF) (f : Addr) (A : Around) (outer : List Env) (s : Shared) (H : Hp) : Cx := (ncx C8.CX0 m.P m.w m.K m.mg m.base N F.nf f A outer s H C8.E0).nox
/-- a lambda called: its body in its own context; ws: what its captured cells hold -/
theorem lam_run {m : Md} {N ps fr : List Str} {F : LF} {f : Addr} {k : Nat} {A : Around} {outer : List Env} {s : Shared} {H : Hp} {us : List Value} {vs : List V} {ws : List (Option V)} {Q : VK} (S : NScope N ps fr F.scope)
    (hb : ∀ (pm ctv : Value) (us : List Value), us.length = ps.length → bindArgs (F.fd pm ctv) ⟨us, []⟩ = pure (ps.zip us)) (hg : A.guards = some []) (hr : Room (k + 1) A) (e0 : Env0 m.P m.w m.K m.mg m.base A outer s H) (hf : ∃ (od : Option Addr) (sl : Array (Option Value)) (pm ctv : Value), s.heap.get? f = some (⟨.type "function", od, .func (F.fd pm ctv), sl⟩ : Obj))
    (hc : H F.c = some (CodeO F.c F.qual)) (C : CellsAt F.cl fr ws s.heap H) (r : Vals vs us) (hl : vs.length = ps.length)
    (hbody : ∀ (X : Cx), At m N F.scope k X → wE X F.body (startF N vs ws) H Q) : codeAny (model m.P m.w) A (.call (.ref f) ⟨us, []⟩) (CR C8.CX0 outer m.P m.w H s Q C8.E0) s := by
  have lim : s.heap.NoLimit := e0.mod.nolimit.keeps fun b o e => (e0.bs b o e).1
  obtain ⟨od, sl, pm, ctv, ho⟩ := hf
  refine PySem.W.kla_callFunE hr.depth ho rfl S.co S.gen rfl (codeO_at e0.hok hc) ?_
  rw [hb pm ctv us (by rw [← r.length]; exact hl)]
  refine wpAny_pure (wpAny_newFunctionEnv S.nocell (fun ⟨n, _⟩ hy => S.par n (List.of_mem_zip hy).1) (fun h₁ hns hsb => ⟨lim.fresh _ hsb, ?_⟩) S.kind)
  show codeAny _ _ (.expr F.body (envF F.nf f s.heap.objs.size)) _ _
  have kp : ∀ b o, s.heap.get? b = some o → h₁.get? b = some o := fun b o e => hsb.extBut b o (Nat.ne_of_lt (Heap.lt_size e)) (Heap.get?_push_of_some _ e)
  have I : Inv (ncx C8.CX0 m.P m.w m.K m.mg m.base N F.nf f A outer s H C8.E0) [] (startF N vs ws) H { s with heap := h₁, toks := s.toks + (ps.zip us).length } := inv_startN S hr.hd e0 hl r C hns kp
  have hA : At m N F.scope k (lcx m N F f A outer s H) := ⟨rfl, rfl, rfl, rfl, rfl, rfl, rfl, rfl, hr.deeper _, PassesOwn.never, S.nd, hg⟩
  have q := hbody _ hA
  have pe : PE (ncx C8.CX0 m.P m.w m.K m.mg m.base N F.nf f A outer s H C8.E0) F.body (wE (lcx m N F f A outer s H) F.body) := PE.nox cE
  refine PySem.W.kla_codeExpr (wpAny_mono (pe.run [] _ _ H Q I q) (fun v s' hq => ?_) fun e s' hq => hq)
  obtain ⟨w', H', J', rv, q⟩ := hq
  exact ⟨w', H', J'.os, J'.bare, J'.base, J'.hok, rv, q⟩

/-- a name that holds a function value, called -/
theorem w_callv {m : Md} {N : List Str} {sc : Scope} {j k i : Nat} {X : Cx} {x : Str} {sp : Sp} {f : Addr} {σ : L2.St} {H : Hp} {Q : VK} {e : Expr} {es : List Expr} {p pos : Pos} (h : At m N sc j X) (hN : N[i]? = some x) (hv : visB sc x = true) (hs : σ[i]? = some (some (.ref f))) (c : Callable m k f sp H) (hk : k ≤ j)
    (q : wA X (e :: es) σ H fun vs H1 => ExtN H H1 ∧ sp vs H1 Q C8.E0) (hd : (x == ("__debug__" : Str)) = false := by with_unfolding_all decide) (hcd : (x == ("__classdict__" : Str)) = false := by with_unfolding_all decide)
    (he : starEach (e :: es) X.env = (false, eval e X.env) :: starEach es X.env := by with_unfolding_all rfl) (hpl : (backTo pos (starEach es X.env)).any (·.1) = false := by with_unfolding_all rfl) : wE X (.Call (.Name x p) (e :: es) [] pos) σ H Q := by
  unfold wE
  intro pins s I
  refine wpAny_Call_Name_kw (thn ((pe_var (pos := p) (by rw [h.nn]; exact hN) (h.vis hv) hd hcd).run pins s σ H (fun v H1 => v = .ref f ∧ H1 = H) I ⟨.ref f, hs, rfl, rfl⟩) fun u s1 ⟨v, H1, I1, r1, q1⟩ => ?_)
  obtain ⟨rfl, rfl⟩ := q1
  obtain rfl : u = Value.ref f := r1
  obtain ⟨F, hF⟩ := c.lam
  have fnAt : ∀ {H2 : Hp} {s2 : Shared}, Inv X pins σ H2 s2 → ExtN H1 H2 → PySem.W.FnAt f s2.heap := fun {H2 s2} I2 e2 => by
    obtain ⟨od, sl, pm, ctv, ho⟩ := lamO_at I2.hok (e2 _ _ hF lamO_tbl)
    exact ⟨_, od, _, sl, ho⟩
  refine PySem.W.callWith_F (first := []) (fnAt I1 (ExtN.refl _)) (thn ((cA (X := X) (es := e :: es)).run pos pins s1 σ _ _ I1 q) fun us s2 ⟨vs, H2, I2, r, e2, q2⟩ => ⟨fnAt I2 e2, ?_⟩) he hpl
  show wpAny _ _ (call (.ref f) us) _ _ _
  have e0 := I2.env0
  rw [h.pp, h.ww, h.kk, h.mm, h.bb] at e0
  have rc := c.run H2 e2 X.A X.stack s2 us vs Q h.gd (h.room.mono hk) e0 r q2
  rw [← h.pp, ← h.ww] at rc
  refine wpAny_call (codeAny_mono rc fun r s' hq => ?_)
  cases r with
  | error e => exact (show False from hq).elim
  | ok fl =>
    cases fl with
    | ret u => exact I2.after hq
    | next => exact False.elim hq
    | brk => exact False.elim hq
    | cont => exact False.elim hq

/-- a lambda that captures nothing, as a value -/
theorem w_lam0 {m : Md} {N : List Str} {sc : Scope} {j k : Nat} {X : Cx} {T : List (Addr × Str)} {c P : Addr} {qual : Str} {NL ps : List Str} {params : Arguments} {body : Expr} {scope : Scope} {pos : Pos} {sp : Sp} {σ : L2.St} {H : Hp} {Q : VK} (h : At m N sc j X)
    (TB : TabB m.base m.mg c P) (hcode : X.env.code = .ref c) (hqual : X.env.qual ++ "<lambda>" = qual) (hm : (P, qual) ∈ T) (hu : ∀ p ∈ T, p.1 = P → p.2 = qual) (S : NScope NL ps [] scope) (hb : ∀ (c' : Addr) (cl : List (Str × Addr)) (pm ctv : Value) (us : List Value), us.length = ps.length → bindArgs (LF.fd ⟨qual, params, body, scope, cl, c'⟩ pm ctv) ⟨us, []⟩ = pure (ps.zip us))
    (hlen : ∀ vs H Q E, sp vs H Q E → vs.length = ps.length)
    (hbody : ∀ (X : Cx) (vs : List V) (H : Hp) (Q : VK), At m NL scope k X → sp vs H Q C8.E0 → wE X body (startF NL vs []) H Q)
    (hT : Tabs T H) (q : ∀ f H1, ExtN H H1 → Tabs T H1 → (∀ b, H1 b = none → H b = none) → Callable m (k + 1) f sp H1 → Q (.ref f) H1) (hdef : defaultsOf params X.env = ([], []) := by with_unfolding_all rfl) : wE X (.Lambda params body scope pos) σ H Q := by
  unfold wE
  intro pins s I
  subst hqual
  have nofree : ∀ y ∈ scope.names, y.2 = .free → ∃ c, X.env.cells.lookup y.1 = some c := fun y hy e => absurd (S.free y hy e) (by simp)
  refine lam_make3 (T := T) (c := c) (P := P) I (by rw [h.bb, h.mm]; exact TB) hcode hm hu hT hdef nofree fun f c' H1 s' I1 eN T1 f0 f1 c1 nn => ?_
  refine ⟨.ref f, H1, I1, rfl, q f H1 eN T1 nn ⟨⟨_, f1⟩, fun H2 e2 A outer s2 us vs Q2 hg hr e0 r hsp => ?_⟩⟩
  refine lam_run (N := NL) (ps := ps) (fr := []) (ws := []) S (fun pm ctv us hl => hb c' _ pm ctv us hl) hg hr e0 (lamO_at e0.hok (e2 _ _ f1 lamO_tbl)) (e2 _ _ c1 codeO_ne) ?_ r (hlen _ _ _ _ hsp) fun X' hA => hbody X' vs H2 Q2 hA hsp
  have ecl : cloFrom X.env.cells scope.names [] = [] := by
    cases hcl : cloFrom X.env.cells scope.names [] with
    | nil => rfl
    | cons y r =>
      have hm2 : (y.1, y.2) ∈ cloFrom X.env.cells scope.names [] := by rw [hcl]; exact List.mem_cons_self
      rcases cloFrom_mem hm2 with z | ⟨z, _⟩
      · cases z
      · exact absurd (S.free _ z rfl) (by simp)
  refine ⟨rfl, fun y c e => ?_, fun x y c e => ?_, fun i y e => ?_⟩
  · rw [ecl] at e; cases e
  · rw [ecl] at e; cases e
  · simp at e

/-! ### one captured cell, locked while the function is handed on -/
def dl (H : Hp) (c : Addr) : Hp := fun b => if b = c then none else H b
theorem dl_same {H : Hp} {c : Addr} : dl H c c = none := if_pos rfl
theorem dl_ne {H : Hp} {b c : Addr} (h : b ≠ c) : dl H c b = H b := if_neg h
theorem dl_some {H : Hp} {b c : Addr} {o : HO} (h : dl H c b = some o) : b ≠ c ∧ H b = some o := by
  by_cases e : b = c
  · subst e; rw [dl_same] at h; cases h
  · rw [dl_ne e] at h; exact ⟨e, h⟩
abbrev lkO (o : Obj) : HO := .frz o (.own 0)
section
variable {P : Program} {w : World} {H H1 : Hp} {h h' : Heap} {c : Addr} {o : Obj} {fs ex : List Addr}
theorem HOk.lock (x : HOk P w H h) (n : H c = none) (e : h.get? c = some o) : HOk P w (upd H c (lkO o)) h := fun b u q => by
  by_cases hb : b = c
  · subst hb; rw [upd_same] at q; cases q; exact ⟨e, ⟨o, e⟩⟩
  · rw [upd_ne hb] at q
    exact (x b u q).stay (fun _ _ _ r => r) (fun d r => by rw [upd_ne (ne_of_none r n)]; exact r) fun d xs r => by rw [upd_ne (ne_of_none r n)]; exact r
theorem HOk.unlock (x : HOk P w H h) (e : H c = some (lkO o)) : HOk P w (dl H c) h := fun b u q => by
  obtain ⟨hb, q⟩ := dl_some q
  exact (x b u q).stay (fun _ _ _ r => r) (fun d r => by rw [dl_ne (fun z => by subst z; rw [e] at r; cases r)]; exact r) fun d xs r => by rw [dl_ne (fun z => by subst z; rw [e] at r; cases r)]; exact r
/-- behind a run that saw the lock -/
theorem Un.unlock (u : Un fs ex (upd H c (lkO o)) H1 h h') (ok : HOk P w H1 h') (n : H c = none) (e : h.get? c = some o) (hfs : c ∉ fs) (hex : c ∉ ex) : Un fs ex H (dl H1 c) h h' := by
  have hc1 : H1 c = some (lkO o) := u.frzs c o _ upd_same
  have hc' : h'.get? c = some o := (ok c _ hc1).1
  refine ⟨fun b ob q nb hf hx => ?_, fun b ob q nb hf hx => ?_, fun b ob q nb hx => ?_, fun b ob q hx => u.there b ob q hx, fun b xs q => ?_, fun b ob z q => ?_, fun b ps q => ?_⟩
  · by_cases hb : b = c
    · subst hb; rw [e] at q; cases q; exact hc'
    · exact u.keep b ob q (by rw [upd_ne hb]; exact nb) hf hx
  · by_cases hb : b = c
    · subst hb; exact absurd hf hfs
    · exact u.slot b ob q (by rw [upd_ne hb]; exact nb) hf hx
  · by_cases hb : b = c
    · subst hb; exact dl_same
    · rw [dl_ne hb]; exact u.free b ob q (by rw [upd_ne hb]; exact nb) hx
  · have hb : b ≠ c := ne_of_none q n
    rw [dl_ne hb]; exact u.tups b xs (by rw [upd_ne hb]; exact q)
  · have hb : b ≠ c := ne_of_none q n
    rw [dl_ne hb]; exact u.frzs b ob z (by rw [upd_ne hb]; exact q)
  · have hb : b ≠ c := ne_of_none q n
    obtain ⟨more, z⟩ := u.tbls b ps (by rw [upd_ne hb]; exact q)
    exact ⟨more, by rw [dl_ne hb]; exact z⟩
/-- a run from which the lock was taken away, with it again -/
theorem Un.relock (u : Un fs ex (dl H c) H1 h h') (e : H c = some (lkO o)) (ec : h.get? c = some o) (hfs : c ∉ fs) (hex : c ∉ ex) : Un fs ex H (upd H1 c (lkO o)) h h' := by
  refine ⟨fun b ob q nb hf hx => ?_, fun b ob q nb hf hx => ?_, fun b ob q nb hx => ?_, fun b ob q hx => u.there b ob q hx, fun b xs q => ?_, fun b ob z q => ?_, fun b ps q => ?_⟩
  · have hb : b ≠ c := fun z => by subst z; rw [e] at nb; cases nb
    exact u.keep b ob q (by rw [dl_ne hb]; exact nb) hf hx
  · have hb : b ≠ c := fun z => by subst z; rw [e] at nb; cases nb
    exact u.slot b ob q (by rw [dl_ne hb]; exact nb) hf hx
  · have hb : b ≠ c := fun z => by subst z; rw [e] at nb; cases nb
    rw [upd_ne hb]; exact u.free b ob q (by rw [dl_ne hb]; exact nb) hx
  · have hb : b ≠ c := fun z => by subst z; rw [e] at q; cases q
    rw [upd_ne hb]; exact u.tups b xs (by rw [dl_ne hb]; exact q)
  · by_cases hb : b = c
    · subst hb; rw [e] at q; cases q; exact upd_same
    · rw [upd_ne hb]; exact u.frzs b ob z (by rw [dl_ne hb]; exact q)
  · have hb : b ≠ c := fun z => by subst z; rw [e] at q; cases q
    obtain ⟨more, z⟩ := u.tbls b ps (by rw [dl_ne hb]; exact q)
    exact ⟨more, by rw [upd_ne hb]; exact z⟩
theorem HOk.relock (x : HOk P w H1 h') (u : Un fs ex (dl H c) H1 h h') (ec : h.get? c = some o) (hfs : c ∉ fs) (hex : c ∉ ex) : HOk P w (upd H1 c (lkO o)) h' := by
  have hn : H1 c = none := u.free c o ec dl_same hex
  exact HOk.lock x hn (u.keep c o ec dl_same hfs hex)
end
/-- the captured cell of a function value: its address, its object, what it holds -/
structure Cap1 (F : LF) (y : Str) (c : Addr) (o : Obj) (v : V) : Prop where
  look : F.cl.lookup y = some c
  only : ∀ y' c', F.cl.lookup y' = some c' → y' = y
  data : ∃ u, o.data = .cell (some u) ∧ RelV v u
theorem ExtN.frz {H H' : Hp} (e : ExtN H H') {c : Addr} {o : Obj} {u : HO} (h : H c = some (.frz o u)) : H' c = some (.frz o u) := e _ _ h (fun _ z => by cases z)
/-- a lambda that captures one name, handed to a def by its last argument: g(e1, lambda ..: ..) -/
theorem w_lam1 {m : Md} {N : List Str} {sc : Scope} {j k kg iy : Nat} {X : Cx} {T : List (Addr × Str)} {c P : Addr} {x y xg : Str} {cdv : Value} {NL ps : List Str} {params : Arguments} {body e1 : Expr} {scope : Scope} {lpos p pos : Pos} {spw spg : Sp} {v : V} {σ : L2.St} {H : Hp} {Q : VK}
    (h : At m N sc j X) (hm' : AtM X x cdv) (TB : TabB m.base m.mg c P) (hcode : cdv = .ref c) (hm : (P, x ++ ".<locals>." ++ "<lambda>") ∈ T) (hu : ∀ p ∈ T, p.1 = P → p.2 = x ++ ".<locals>." ++ "<lambda>") (S : NScope NL ps [y] scope) (hy : (y, NameKind.free) ∈ scope.names)
    (hyN : N[iy]? = some y) (hyc : sc.names.lookup y = some .cell) (hyv : σ[iy]? = some (some v))
    (hb : ∀ (c' : Addr) (cl : List (Str × Addr)) (pm ctv : Value) (us : List Value), us.length = ps.length → bindArgs (LF.fd ⟨x ++ ".<locals>." ++ "<lambda>", params, body, scope, cl, c'⟩ pm ctv) ⟨us, []⟩ = pure (ps.zip us))
    (hlen : ∀ vs H Q E, spw vs H Q E → vs.length = ps.length) (hbody : ∀ (X : Cx) (vs : List V) (H : Hp) (Q : VK), At m NL scope k X → spw vs H Q C8.E0 → wE X body (startF NL vs [some v]) H Q)
    (g : Cal m kg xg spg) (hkg : kg ≤ j) (hgl : sc.names.lookup xg = some .globalImplicit)
    (q : wE X e1 σ H fun v1 H1 => Tabs T H1 ∧ ∀ (f ca : Addr) (o : Obj) (H2 : Hp), H1 ca = none → ExtN H1 H2 → Tabs T H2 → H2 ca = some (lkO o) →
      Callable m (k + 1) f (fun vs H Q E => H ca = some (lkO o) ∧ spw vs (dl H ca) (fun v H' => Q v (upd H' ca (lkO o))) E) H2 → spg [v1, .ref f] H2 (fun v H3 => Q v (dl H3 ca)) C8.E0)
    (hdef : defaultsOf params X.env = ([], []) := by with_unfolding_all rfl) (hdb : (xg == ("__debug__" : Str)) = false := by with_unfolding_all decide)
    (he : starEach [e1, .Lambda params body scope lpos] X.env = (false, eval e1 X.env) :: starEach [.Lambda params body scope lpos] X.env := by with_unfolding_all rfl) (he2 : starEach [.Lambda params body scope lpos] X.env = [(false, eval (.Lambda params body scope lpos) X.env)] := by with_unfolding_all rfl)
    (hpl : (backTo pos (starEach [.Lambda params body scope lpos] X.env)).any (·.1) = false := by with_unfolding_all rfl) : wE X (.Call (.Name xg p) [e1, .Lambda params body scope lpos] [] pos) σ H Q := by
  subst hcode
  obtain ⟨fg, fdg, psg, dsg, Fg, hmg, kpg, bg, dg⟩ := g.ex
  unfold wE
  intro pins s I
  have bs0 := I.ok
  refine wpAny_Call_Name_kw (ld_glob (u := .ref fg) I (h.gl hgl) (by rw [h.mm]; exact hmg) ?_ hdb)
  refine PySem.W.callWith_K (h₀ := X.base) I.ok.mod.kin (by rw [h.kk]; exact kpg) ?_ he hpl
  rw [he]
  show wpAny _ _ (spliced ((false, eval e1 X.env) :: backTo pos (starEach [.Lambda params body scope lpos] X.env))) _ _ s
  refine Calls.spliced_cons (thn ((cE (X := X) (e := e1)).run pins s σ H _ I q) fun u1 s1 ⟨v1, H1, I1, r1, hT, q1⟩ => ?_)
  rw [he2]
  show wpAny _ _ (spliced ((false, eval (.Lambda params body scope lpos) X.env) :: backTo pos [])) _ _ s1
  have hq : X.env.qual ++ "<lambda>" = x ++ ".<locals>." ++ "<lambda>" := by rw [hm'.qual]
  have hfree : ∀ z ∈ scope.names, z.2 = .free → X.env.scope.names.lookup z.1 = some .cell ∨ X.env.scope.names.lookup z.1 = some .free := fun z hz e => by
    have := S.free z hz e
    simp only [List.mem_singleton] at this
    rw [this, h.ss]; exact .inl hyc
  have hfree' : ∀ z ∈ scope.names, z.2 = .free → ∃ c, X.env.cells.lookup z.1 = some c := fun z hz e => (hfree z hz e).elim (fun k => I1.ok.has _ (.inl k)) fun k => I1.ok.has _ (.inr k)
  refine Calls.spliced_cons (lam_make3 (T := T) (c := c) (P := P) I1 (by rw [h.bb, h.mm]; exact TB) hm'.code (by rw [hq]; exact hm) (by rw [hq]; exact hu) hT hdef hfree' fun f c' H2 s2 I2 eN T2 f0 f1 c1 nn => ?_)
  refine Calls.spliced_nil ⟨I2.kIn, ?_⟩
  rw [hq] at f1 c1
  -- the captured cell
  have cp : Caps X (cloFrom X.env.cells scope.names []) [y] [iy] := Caps.made I2.ok hfree (fun z hz => by simp only [List.mem_singleton] at hz; subst hz; exact hy) (by simp [h.nn, hyN])
  have C := cells_of I2 cp
  obtain ⟨ca, hca, hval⟩ := C.has 0 y rfl
  have eslot : slotAt σ iy = some v := slotAt_of hyv
  obtain ⟨u, ru, o, ho, hod⟩ := hval v (by show ([iy].map (slotAt σ))[0]? = _; simp [eslot])
  have nca : H2 ca = none := (C.all y ca hca).1
  have nca1 : H1 ca = none := nn ca nca
  have hX : X.env.cells.lookup y = some ca := cp.sub y ca hca
  have only : ∀ y' c'', (cloFrom X.env.cells scope.names []).lookup y' = some c'' → y' = y := fun y' c'' e => by
    rcases cloFrom_mem (PySem.mem_of_lookup e) with z | ⟨z, _⟩
    · cases z
    · simpa using S.free (y', .free) z rfl
  have cs0 : X.s_0.heap.objs.size ≤ ca := I2.ok.cab y ca (hm'.fn y) hX
  have ncb : ∀ b ob, X.base.get? b = some ob → b ≠ ca := fun b ob e z => by
    subst z
    exact absurd (Nat.lt_of_lt_of_le (Heap.lt_size e) (Nat.le_trans I2.ok.bsz cs0)) (Nat.lt_irrefl _)
  have nfs : ca ∉ frs X.stack := fun z => by
    rcases List.mem_cons.mp (I2.stkSub _ z) with e | hb'
    · exact I2.cne y ca hX e
    · obtain ⟨_, ob, hob, _⟩ := I2.ok.funs.mem hb'
      exact absurd (Nat.lt_of_lt_of_le (Heap.lt_size hob) cs0) (Nat.lt_irrefl _)
  let H3 := upd H2 ca (lkO o)
  have ok3 : HOk X.prog X.w H3 s2.heap := HOk.lock I2.hok nca ho
  have e0 := I2.env0
  have e03 : Env0 X.prog X.w X.K X.mg X.base X.A X.stack s2 H3 := ⟨e0.frames, e0.mod, fun b ob e => ⟨(e0.bs b ob e).1, by show upd H2 ca (lkO o) b = none; rw [upd_ne (ncb b ob e)]; exact (e0.bs b ob e).2⟩, e0.bsz, e0.funs,
    fun b hb' => by show upd H2 ca (lkO o) b = none; rw [upd_ne (fun z => nfs (by rw [← z]; exact hb'))]; exact e0.frf b hb', ok3, e0.bare⟩
  have x23 : ExtN H2 H3 := fun b ob e _ => by show upd H2 ca (lkO o) b = _; rw [upd_ne (ne_of_none e nca)]; exact e
  have t3 : Tabs T H3 := Tabs.ext T2 fun b ob e => by show upd H2 ca (lkO o) b = _; rw [upd_ne (ne_of_none e nca)]; exact e
  have F3 : H3 f = some (LamO f _) := x23 _ _ f1 lamO_tbl
  have C3 : H3 c' = some (CodeO c' _) := x23 _ _ c1 codeO_ne
  have hcall : Callable m (k + 1) f (fun vs H Q E => H ca = some (lkO o) ∧ spw vs (dl H ca) (fun v H' => Q v (upd H' ca (lkO o))) E) H3 := by
    refine ⟨⟨_, F3⟩, fun H4 e4 A outer s4 us vs Q4 hg hr e04 r hsp => ?_⟩
    obtain ⟨hc4, hsp⟩ := hsp
    have ho4 : s4.heap.get? ca = some o := (e04.hok ca _ hc4).1
    have nf4 : ca ∉ frs outer := fun z => by have := e04.frf ca z; rw [hc4] at this; cases this
    have e05 : Env0 m.P m.w m.K m.mg m.base A outer s4 (dl H4 ca) := ⟨e04.frames, e04.mod, fun b ob e => ⟨(e04.bs b ob e).1, by
        by_cases hb' : b = ca
        · subst hb'; exact dl_same
        · rw [dl_ne hb']; exact (e04.bs b ob e).2⟩, e04.bsz, e04.funs, fun b hb' => by rw [dl_ne (fun z => nf4 (by rw [← z]; exact hb'))]; exact e04.frf b hb', HOk.unlock e04.hok hc4, e04.bare⟩
    have nef : c' ≠ ca := ne_of C3 (show H3 ca = some (lkO o) from upd_same) (by unfold CodeO; intro z; cases z)
    have F4 := e4 _ _ F3 lamO_tbl
    have C4 : dl H4 ca c' = some (CodeO c' (x ++ ".<locals>." ++ "<lambda>")) := by rw [dl_ne nef]; exact e4 _ _ C3 codeO_ne
    have run := lam_run (m := m) (N := NL) (ps := ps) (fr := [y]) (ws := [some v]) (F := ⟨x ++ ".<locals>." ++ "<lambda>", params, body, scope, cloFrom X.env.cells scope.names [], c'⟩) (f := f) (Q := fun v H' => Q4 v (upd H' ca (lkO o))) S (fun pm ctv us hl => hb c' _ pm ctv us hl) hg hr e05 (lamO_at e04.hok F4) C4
      ⟨rfl, fun y' c'' e => ?_, fun a b c0 h1 h2 => by rw [only a c0 h1, only b c0 h2], fun i y' e => ?_⟩ r (hlen _ _ _ _ hsp) fun X' hA => hbody X' vs _ _ hA hsp
    · refine codeAny_mono run fun r s' hq => ?_
      cases r with
      | error e => exact hq
      | ok fl =>
        cases fl with
        | ret u' =>
          obtain ⟨v', H', os, bare, un, hok, rv, qq⟩ := hq
          exact ⟨v', upd H' ca (lkO o), os, bare, Un.relock un hc4 ho4 nf4 (by simp), HOk.relock hok un ho4 nf4 (by simp), rv, qq⟩
        | next => exact hq
        | brk => exact hq
        | cont => exact hq
    · have := only y' c'' e
      subst this
      rw [hca] at e; cases e
      exact ⟨dl_same, _, o, ho4, hod⟩
    · match i, e with
      | 0, e =>
        cases e
        exact ⟨ca, hca, fun v' ev => by cases ev; exact ⟨u, ru, o, ho4, hod⟩⟩
  have hsp := q1 f ca o H3 nca1 (eN.trans x23) t3 upd_same hcall
  have r2 : Vals ([v1, .ref f] ++ []) ([u1, .ref f] ++ dsg) := Vals.append (Paired.cons r1 (Paired.cons rfl .nil) : Vals [v1, .ref f] [u1, .ref f]) dg
  have rc := Fg.run X.A X.stack s2 H3 ⟨[u1, .ref f], []⟩ ([u1, .ref f] ++ dsg) [v1, .ref f] (fun v H3 => Q v (dl H3 ca)) C8.E0 h.gd (h.room.mono hkg) (by rw [← h.pp, ← h.ww, ← h.kk, ← h.mm, ← h.bb]; exact e03)
    (bg s2 [u1, .ref f] (by rw [← h.kk]; exact I2.kIn) (by rw [← r2.length]; have := Fg.len _ _ _ _ hsp; simpa using this)) (by simpa using r2) hsp
  show wpAny _ _ (call (.ref fg) [u1, .ref f]) _ _ _
  rw [← h.pp, ← h.ww] at rc
  refine wpAny_call (codeAny_mono rc fun r s' hq => ?_)
  cases r with
  | error e => exact (show False from hq).elim
  | ok fl =>
    cases fl with
    | ret u' =>
      obtain ⟨v', H', os, bare, un, hok, rv, qq⟩ := hq
      exact I2.after ⟨v', dl H' ca, os, bare, Un.unlock un hok nca ho nfs (by simp), HOk.unlock hok (un.frzs ca o _ upd_same), rv, qq⟩
    | next => exact False.elim hq
    | brk => exact False.elim hq
    | cont => exact False.elim hq
end Vf
set_option maxRecDepth 100000
set_option maxHeartbeats 4000000
/-! Dat: data at any depth in the abstract heap, with the addresses that it lies at. Own work. -/
namespace Vf
open PySem PySem.Spec PyProof.Rows L2 LamX

mutual
/-- v is the data d; all lists of it lie at addresses of A -/
inductive Da (K : PySem.W.Frag) (A : Addr → Prop) (H : Hp) : V → PyData → Prop
  | non : Da K A H .non .none
  | bl (b : Bool) : Da K A H (.bl b) (.bool b)
  | int (i : Int) : Da K A H (.int i) (.int i)
  | str (x : Str) : Da K A H (.str x) (.str x)
  | lst {a : Addr} {xs : List V} {ds : List PyData} : A a → SqL K H a xs → DaAll K A H xs ds → Da K A H (.ref a) (.list ds)
  | tup {a : Addr} {xs : List V} {ds : List PyData} : SqT K H a xs → DaAll K A H xs ds → Da K A H (.ref a) (.tuple ds)
inductive DaAll (K : PySem.W.Frag) (A : Addr → Prop) (H : Hp) : List V → List PyData → Prop
  | nil : DaAll K A H [] []
  | cons {v : V} {vs : List V} {d : PyData} {ds : List PyData} : Da K A H v d → DaAll K A H vs ds → DaAll K A H (v :: vs) (d :: ds)
end
section
variable {K : PySem.W.Frag} {A A' : Addr → Prop} {H H' : Hp}
mutual
theorem Da.dp : ∀ (d : PyData) (v : V), Da K A H v d → Dp K H v d
  | .none, _, h => by cases h; exact .non
  | .bool b, _, h => by cases h; exact .bl b
  | .int i, _, h => by cases h; exact .int i
  | .str x, _, h => by cases h; exact .str x
  | .list ds, _, h => by cases h with | lst _ s r => exact .lst s (DaAll.dp ds _ r)
  | .tuple ds, _, h => by cases h with | tup s r => exact .tup s (DaAll.dp ds _ r)
  | .dict _, _, h => by cases h
theorem DaAll.dp : ∀ (ds : List PyData) (vs : List V), DaAll K A H vs ds → DpAll K H vs ds
  | [], _, h => by cases h; exact .nil
  | d :: ds, _, h => by cases h with | cons a b => exact .cons (Da.dp d _ a) (DaAll.dp ds _ b)
end
mutual
theorem Da.mono (hA : ∀ a, A a → A' a) (hL : ∀ a xs, A a → SqL K H a xs → SqL K H' a xs) (hT : ∀ a xs, SqT K H a xs → SqT K H' a xs) : ∀ (d : PyData) (v : V), Da K A H v d → Da K A' H' v d
  | .none, _, h => by cases h; exact .non
  | .bool b, _, h => by cases h; exact .bl b
  | .int i, _, h => by cases h; exact .int i
  | .str x, _, h => by cases h; exact .str x
  | .list ds, _, h => by cases h with | lst a s r => exact .lst (hA _ a) (hL _ _ a s) (DaAll.mono hA hL hT ds _ r)
  | .tuple ds, _, h => by cases h with | tup s r => exact .tup (hT _ _ s) (DaAll.mono hA hL hT ds _ r)
  | .dict _, _, h => by cases h
theorem DaAll.mono (hA : ∀ a, A a → A' a) (hL : ∀ a xs, A a → SqL K H a xs → SqL K H' a xs) (hT : ∀ a xs, SqT K H a xs → SqT K H' a xs) : ∀ (ds : List PyData) (vs : List V), DaAll K A H vs ds → DaAll K A' H' vs ds
  | [], _, h => by cases h; exact .nil
  | d :: ds, _, h => by cases h with | cons a b => exact .cons (Da.mono hA hL hT d _ a) (DaAll.mono hA hL hT ds _ b)
end
mutual
theorem Dp.noDict : ∀ (d : PyData) (v : V), Dp K H v d → d.hasDict = false
  | .none, _, _ => rfl
  | .bool _, _, _ => rfl
  | .int _, _, _ => rfl
  | .str _, _, _ => rfl
  | .list ds, _, h => by cases h with | lst s r => show PyData.hasDictAll ds = false; exact DpAll.noDict ds _ r
  | .tuple ds, _, h => by cases h with | tup s r => show PyData.hasDictAll ds = false; exact DpAll.noDict ds _ r
  | .dict _, _, h => by cases h
theorem DpAll.noDict : ∀ (ds : List PyData) (vs : List V), DpAll K H vs ds → PyData.hasDictAll ds = false
  | [], _, _ => rfl
  | d :: ds, _, h => by cases h with | cons a b => show (d.hasDict || PyData.hasDictAll ds) = false; rw [Dp.noDict d _ a, DpAll.noDict ds _ b]; rfl
end
/-- everything -/
abbrev Any : Addr → Prop := fun _ => True
mutual
theorem Da.of : ∀ (d : PyData) (v : V), Dp K H v d → Da K Any H v d
  | .none, _, h => by cases h; exact .non
  | .bool b, _, h => by cases h; exact .bl b
  | .int i, _, h => by cases h; exact .int i
  | .str x, _, h => by cases h; exact .str x
  | .list ds, _, h => by cases h with | lst s r => exact .lst trivial s (DaAll.of ds _ r)
  | .tuple ds, _, h => by cases h with | tup s r => exact .tup s (DaAll.of ds _ r)
  | .dict _, _, h => by cases h
theorem DaAll.of : ∀ (ds : List PyData) (vs : List V), DpAll K H vs ds → DaAll K Any H vs ds
  | [], _, h => by cases h; exact .nil
  | d :: ds, _, h => by cases h with | cons a b => exact .cons (Da.of d _ a) (DaAll.of ds _ b)
end
theorem DaAll.length : ∀ {vs : List V} {ds : List PyData}, DaAll K A H vs ds → vs.length = ds.length
  | _, _, .nil => rfl
  | _, _, .cons _ r => congrArg (· + 1) (DaAll.length r)
theorem DaAll.get : ∀ {vs : List V} {ds : List PyData} {i : Nat} {d : PyData}, DaAll K A H vs ds → ds[i]? = some d → ∃ v, vs[i]? = some v ∧ Da K A H v d
  | _, _, i, _, .nil, e => by simp at e
  | _, _, 0, _, .cons a _, e => by simp at e; subst e; exact ⟨_, rfl, a⟩
  | _, _, i + 1, d, .cons _ r, e => by
    obtain ⟨v, h1, h2⟩ := DaAll.get (i := i) r (by simpa using e)
    exact ⟨v, by simpa using h1, h2⟩
theorem DaAll.getV : ∀ {vs : List V} {ds : List PyData} {i : Nat} {v : V}, DaAll K A H vs ds → vs[i]? = some v → ∃ d, ds[i]? = some d ∧ Da K A H v d
  | _, _, i, _, .nil, e => by simp at e
  | _, _, 0, _, .cons a _, e => by simp at e; subst e; exact ⟨_, rfl, a⟩
  | _, _, i + 1, d, .cons _ r, e => by
    obtain ⟨v, h1, h2⟩ := DaAll.getV (i := i) r (by simpa using e)
    exact ⟨v, by simpa using h1, h2⟩
theorem DaAll.append : ∀ {vs ws : List V} {ds es : List PyData}, DaAll K A H vs ds → DaAll K A H ws es → DaAll K A H (vs ++ ws) (ds ++ es)
  | _, _, _, _, .nil, s => s
  | _, _, _, _, .cons a r, s => .cons a (DaAll.append r s)
end

/-! ### how heaps grow -/
theorem SqL.ext {K : PySem.W.Frag} {H H' : Hp} {a : Addr} {xs : List V} (e : ExtN H H') (h : SqL K H a xs) : SqL K H' a xs := by
  rcases h with (h | ⟨o, h⟩) | h
  · exact .inl (.inl (e _ _ h (fun _ z => by cases z)))
  · exact .inl (.inr ⟨o, e _ _ h (fun _ z => by cases z)⟩)
  · exact .inr h
theorem SqT.ext {K : PySem.W.Frag} {H H' : Hp} {a : Addr} {xs : List V} (e : ExtN H H') (h : SqT K H a xs) : SqT K H' a xs := by
  rcases h with (h | ⟨o, h⟩) | h
  · exact .inl (.inl (e _ _ h (fun _ z => by cases z)))
  · exact .inl (.inr ⟨o, e _ _ h (fun _ z => by cases z)⟩)
  · exact .inr h
/-- what was tracked stays, but for the objects of S (and tables of code, which grow); the tables T stay tables; no tuple and nothing frozen changes -/
structure GrowX (T : List (Addr × Str)) (S : Addr → Prop) (H H' : Hp) : Prop where
  ext : ∀ b o, ¬ S b → H b = some o → (∀ ps, o ≠ .tbl ps) → H' b = some o
  tab : Tabs T H → Tabs T H'
  keep : ∀ b, H' b = none → H b = none
  tup : ∀ b xs, H b = some (.tup xs) → H' b = some (.tup xs)
  frz : ∀ b o u, H b = some (.frz o u) → H' b = some (.frz o u)
abbrev Grow (T : List (Addr × Str)) (H H' : Hp) : Prop := GrowX T (fun _ => False) H H'
section
variable {T : List (Addr × Str)} {S S' : Addr → Prop} {H H1 H2 : Hp} {K : PySem.W.Frag} {A : Addr → Prop}
theorem GrowX.refl : GrowX T S H H := ⟨fun _ _ _ h _ => h, id, fun _ h => h, fun _ _ h => h, fun _ _ _ h => h⟩
theorem GrowX.trans (a : GrowX T S H H1) (b : GrowX T S H1 H2) : GrowX T S H H2 := ⟨fun c o s h n => b.ext c o s (a.ext c o s h n) n, fun t => b.tab (a.tab t), fun c h => a.keep c (b.keep c h), fun c xs h => b.tup c xs (a.tup c xs h), fun c o u h => b.frz c o u (a.frz c o u h)⟩
theorem GrowX.weak (a : GrowX T S H H1) (h : ∀ b, S b → S' b) : GrowX T S' H H1 := ⟨fun c o s e n => a.ext c o (fun z => s (h c z)) e n, a.tab, a.keep, a.tup, a.frz⟩
theorem Grow.extN (a : Grow T H H1) : ExtN H H1 := fun b o h n => a.ext b o (fun z => z) h n
theorem Grow.of (a : ExtN H H1) (t : Tabs T H → Tabs T H1) (k : ∀ b, H1 b = none → H b = none) : Grow T H H1 := ⟨fun b o _ h n => a b o h n, t, k, fun b xs h => a b _ h (fun _ z => by cases z), fun b o u h => a b _ h (fun _ z => by cases z)⟩
theorem Grow.to (a : Grow T H H1) : GrowX T S H H1 := a.weak fun _ z => z.elim
theorem Grow.new {p : Addr} {o : HO} (h : H p = none) : Grow T H (upd H p o) := ⟨fun b u _ e _ => by rw [upd_ne (ne_of_none e h)]; exact e, fun t => t.ext fun b u e => by rw [upd_ne (ne_of_none e h)]; exact e, fun b e => NdefX.upd_none e, fun b xs e => by rw [upd_ne (ne_of_none e h)]; exact e, fun b u v e => by rw [upd_ne (ne_of_none e h)]; exact e⟩
theorem GrowX.set {p : Addr} {o u : HO} (hp : S p) (h : H p = some u) (n : ∀ ps, u ≠ .tbl ps) (hc : ∀ q, u ≠ CodeO p q) (ht : ∀ xs, u ≠ .tup xs) (hf : ∀ w v, u ≠ .frz w v) : GrowX T S H (upd H p o) := by
  refine ⟨fun b w s e _ => by rw [upd_ne (fun z => s (by rw [z]; exact hp))]; exact e, fun t q hq => ?_, fun b e => NdefX.upd_none e, fun b xs e => by rw [upd_ne (fun z => ht xs (Option.some.inj (h.symm.trans (by rw [← z]; exact e))))]; exact e, fun b w v e => by rw [upd_ne (fun z => hf w v (Option.some.inj (h.symm.trans (by rw [← z]; exact e))))]; exact e⟩
  obtain ⟨ps, h1, h2, h3⟩ := t q hq
  refine ⟨ps, by rw [upd_ne (fun z => n ps (Option.some.inj (h.symm.trans (by rw [← z]; exact h1))))]; exact h1, h2, fun pos cv hc' => ?_⟩
  obtain ⟨c, e1, e2⟩ := h3 pos cv hc'
  exact ⟨c, e1, by rw [upd_ne (fun z => hc q.2 (Option.some.inj (h.symm.trans (by rw [← z]; exact e2))))]; exact e2⟩
theorem GrowX.seqL {a : Addr} {xs : List V} (g : GrowX T S H H1) (h : SqL K H a xs) (n : ¬ S a) : SqL K H1 a xs := by
  rcases h with (h | ⟨o, h⟩) | h
  · exact .inl (.inl (g.ext _ _ n h (fun _ z => by cases z)))
  · exact .inl (.inr ⟨o, g.ext _ _ n h (fun _ z => by cases z)⟩)
  · exact .inr h
theorem GrowX.seqT {a : Addr} {xs : List V} (g : GrowX T S H H1) (h : SqT K H a xs) : SqT K H1 a xs := by
  rcases h with (h | ⟨o, h⟩) | h
  · exact .inl (.inl (g.tup _ _ h))
  · exact .inl (.inr ⟨o, g.frz _ _ _ h⟩)
  · exact .inr h
theorem GrowX.da {v : V} {d : PyData} (g : GrowX T S H H1) (h : Da K A H v d) (n : ∀ a, A a → ¬ S a) : Da K A H1 v d := Da.mono (fun _ z => z) (fun a xs ha e => g.seqL e (n a ha)) (fun a xs e => g.seqT e) d v h
theorem GrowX.daAll {v : List V} {d : List PyData} (g : GrowX T S H H1) (h : DaAll K A H v d) (n : ∀ a, A a → ¬ S a) : DaAll K A H1 v d := DaAll.mono (fun _ z => z) (fun a xs ha e => g.seqL e (n a ha)) (fun a xs e => g.seqT e) d v h
theorem Grow.da {v : V} {d : PyData} (g : Grow T H H1) (h : Da K A H v d) : Da K A H1 v d := GrowX.da g h fun _ _ z => z
theorem Grow.daAll {v : List V} {d : List PyData} (g : Grow T H H1) (h : DaAll K A H v d) : DaAll K A H1 v d := GrowX.daAll g h fun _ _ z => z
theorem Da.sub {A' : Addr → Prop} {v : V} {d : PyData} (h : Da K A H v d) (s : ∀ a, A a → A' a) : Da K A' H v d := Da.mono s (fun _ _ _ e => e) (fun _ _ e => e) d v h
theorem DaAll.sub {A' : Addr → Prop} {v : List V} {d : List PyData} (h : DaAll K A H v d) (s : ∀ a, A a → A' a) : DaAll K A' H v d := DaAll.mono s (fun _ _ _ e => e) (fun _ _ e => e) d v h
/-- free addresses -/
abbrev New (H : Hp) : Addr → Prop := fun a => H a = none
theorem GrowX.new {a : Addr} (g : GrowX T S H H1) (h : New H1 a) : New H a := g.keep a h
end

/-! ### repr of data -/
theorem call_reprD {X : Cx} (hg : X.A.guards = some []) (hu : X.A.units + 64 < cLine) : CallR X (.builtin "repr") (fun xs H Q => ∃ v d, xs = [v] ∧ Dp X.K H v d ∧ d.showable = true ∧ d.shown.length ≤ sizeLine ∧ d.depth ≤ 60 ∧ Q (.str d.shown) H) := by
  intro pins s σ H xs us Q I r h
  obtain ⟨v, d, rfl, hd, hs, hl, hdp, q⟩ := h
  obtain ⟨u, rfl, ru⟩ := vals1 r
  have fin : ∀ (h' : Heap) (u' tk : Tok), (∀ b o, s.heap.get? b = some o → h'.get? b = some o) → EP X pins σ Q (.str d.shown u') { s with heap := h', toks := tk } := fun h' u' tk kp => ⟨.str d.shown, H, I.kept kp, ⟨_, rfl⟩, q⟩
  cases hd with
  | non => cases ru; exact PySem.P.repr_of_none (fin _ _ _ fun _ _ e => e)
  | bl b => cases ru; exact PySem.P.repr_of_bool (fin _ _ _ fun _ _ e => e)
  | int i => obtain ⟨t, rfl⟩ := ru; exact PySem.P.repr_of_int (by simpa [PyData.showable] using hs) (fin _ _ _ fun _ _ e => e)
  | str x => obtain ⟨t, rfl⟩ := ru; exact PySem.P.repr_of_str (fin _ _ _ fun _ _ e => e) hl
  | lst hsq hda =>
    obtain ⟨as, rd⟩ := Dp.reads I _ _ _ (Dp.lst hsq hda) ru
    cases ru
    exact repr_of_reads' rd hs (PyData.noDict_hsm (Dp.noDict _ _ (Dp.lst hsq hda))) hg (by omega) (fun _ _ e => e) (fun h' u tk kp => fin h' u tk kp) hl
  | tup hsq hda =>
    obtain ⟨as, rd⟩ := Dp.reads I _ _ _ (Dp.tup hsq hda) ru
    cases ru
    exact repr_of_reads' rd hs (PyData.noDict_hsm (Dp.noDict _ _ (Dp.tup hsq hda))) hg (by omega) (fun _ _ e => e) (fun h' u tk kp => fin h' u tk kp) hl
end Vf
set_option maxRecDepth 100000
set_option maxHeartbeats 4000000
/-! Gen: operators, subscripts, calls at values: what is left of an expression when its parts are known. Own work. -/
namespace Vf
open PySem PySem.Spec PyProof.Rows L2 LamX
/-- a binary operator or comparison at two values -/
def gOp (X : Cx) (f : Value → Value → Sem Value) (x y : V) (H : Hp) (Q : VK) : Prop := ∀ (pins : List (Addr × Obj)) (s : Shared) (σ : L2.St) (v u : Value), Inv X pins σ H s → L2.RelV x v → L2.RelV y u → wpAny (model X.prog X.w) X.A (f v u) (EP X pins σ Q) X.xe s
/-- a subscript at two values -/
def gIx (X : Cx) (x y : V) (H : Hp) (Q : VK) : Prop := ∀ (value slice : Expr) (pins : List (Addr × Obj)) (s : Shared) (σ : L2.St) (v u : Value), Inv X pins σ H s → L2.RelV x v → L2.RelV y u →
  subscripted slice false v u = operate [v, u] (getItem v u) → wpAny (model X.prog X.w) X.A (subscriptTail value slice v u) (EP X pins σ Q) X.xe s
/-- a store x[y] = z at three values -/
def gSet (X : Cx) (x y z : V) (H : Hp) (Q : Hp → Prop) : Prop := ∃ t, PSet X t ∧ t x y z H Q
/-- a built-in's call at values -/
def gCall (X : Cx) (f : Value) (xs : List V) (H : Hp) (Q : VK) : Prop := ∃ r, CallR X f r ∧ r xs H Q
/-- truth -/
def gTru (X : Cx) (x : V) (H : Hp) (Q : Bool → Hp → Prop) : Prop := ∃ k, TruV X.K x H k ∧ Q k H
section
variable {m : Md} {N : List Str} {sc : Scope} {k : Nat} {X : Cx} {a b c e o : Expr} {es : List Expr} {σ : L2.St} {H : Hp} {Q : VK} {QB : Bool → Hp → Prop} {D : Ends} {pos p p1 p2 : Pos} {x y : Str} {i j : Nat} {v w : V}
theorem gOp_ok {f : Value → Value → Sem Value} : OpR X f (gOp X f) := fun pins s σ H x y v u Q I rx ry h => h pins s σ v u I rx ry
theorem gOp.of {f : Value → Value → Sem Value} {r : R2} (h : OpR X f r) {x y : V} (q : r x y H Q) : gOp X f x y H Q := fun pins s σ v u I rx ry => h pins s σ H x y v u Q I rx ry q
theorem gIx_ok : IxR X (gIx X) := fun value slice pins s σ H x y v u Q I rx ry h hs => h value slice pins s σ v u I rx ry hs
theorem gIx.of {r : R2} (h : IxR X r) {x y : V} (q : r x y H Q) : gIx X x y H Q := fun value slice pins s σ v u I rx ry hs => h value slice pins s σ H x y v u Q I rx ry q hs
theorem g_bin {op : Operator} (q : wE X a σ H fun x H1 => wE X b σ H1 fun y H2 => gOp X (binaryOp op) x y H2 Q) : wE X (.BinOp a op b pos) σ H Q := w_bin gOp_ok q
theorem g_cmp {op : CmpOp} (q : wE X a σ H fun x H1 => wE X b σ H1 fun y H2 => gOp X (compareOp op) x y H2 Q) (hm : behindInMarks op b = false := by with_unfolding_all first | exact nomark _ | rfl) : wE X (.Compare a [op] [b] pos) σ H Q := w_cmp gOp_ok hm q
theorem gt_cmp {op : CmpOp} (q : wE X a σ H fun x H1 => wE X b σ H1 fun y H2 => gOp X (compareOp op) x y H2 fun z H' => ∃ k, z = .bl k ∧ QB k H') (hm : behindInMarks op b = false := by with_unfolding_all first | exact nomark _ | rfl) : wT X (.Compare a [op] [b] pos) σ H QB := t_cmp gOp_ok hm q
theorem g_ix (q : wE X a σ H fun x H1 => wE X b σ H1 fun y H2 => gIx X x y H2 Q) (hs : PlainIx b := by with_unfolding_all exact fun _ _ => rfl) : wE X (.Subscript a b pos) σ H Q := w_ix gIx_ok hs q
theorem gt_tru (q : wE X a σ H fun x H1 => gTru X x H1 QB) (he : ∀ whole, isTrue a X.env whole = (do let v ← whole; standAt a.pos; holding [v] (truthy v)) := by with_unfolding_all (intro _; rfl)) : wT X a σ H QB := t_truth q he
theorem decI {i j : Int} : decide (V.int i = V.int j) = decide (i = j) := by rw [decide_eq_decide]; exact ⟨fun z => by injection z, fun z => by rw [z]⟩
theorem decS {i j : Str} : decide (V.str i = V.str j) = decide (i = j) := by rw [decide_eq_decide]; exact ⟨fun z => by injection z, fun z => by rw [z]⟩
/-- .. ints -/
theorem g_addI {i j : Int} (q : Q (.int (i + j)) H) : gOp X (binaryOp .Add) (.int i) (.int j) H Q := gOp.of op_add ⟨_, _, rfl, rfl, q⟩
theorem g_subI {i j : Int} (q : Q (.int (i - j)) H) : gOp X (binaryOp .Sub) (.int i) (.int j) H Q := gOp.of op_sub ⟨_, _, rfl, rfl, q⟩
theorem g_mulI {i j : Int} (hc : CMul i j) (q : Q (.int (i * j)) H) : gOp X (binaryOp .Mult) (.int i) (.int j) H Q := gOp.of op_mul ⟨_, _, rfl, rfl, hc, q⟩
theorem g_modI {i j : Int} (hj : 0 < j) (q : Q (.int (i % j)) H) : gOp X (binaryOp .Mod) (.int i) (.int j) H Q := gOp.of op_mod ⟨_, _, rfl, rfl, hj, q⟩
/-- the rest alone is known by its bounds -/
theorem g_modB {i j : Int} (hj : 0 < j) (q : ∀ r, 0 ≤ r → r < j → Q (.int r) H) : gOp X (binaryOp .Mod) (.int i) (.int j) H Q := g_modI hj (q _ (Int.emod_nonneg _ (by omega)) (Int.emod_lt_of_pos _ hj))
theorem g_divI {i j : Int} (hj : 0 < j ∧ j < 1073741824) (q : Q (.int (i / j)) H) : gOp X (binaryOp .FloorDiv) (.int i) (.int j) H Q := gOp.of op_fdiv ⟨_, _, rfl, rfl, hj, q⟩
theorem g_divW {i j : Int} (hj : CDivW i j) (q : Q (.int (i / j)) H) : gOp X (binaryOp .FloorDiv) (.int i) (.int j) H Q := gOp.of op_fdivW ⟨_, _, rfl, rfl, hj, q⟩
theorem g_powI {i j : Int} (hc : CPow i j) (q : Q (.int (i ^ j.toNat)) H) : gOp X (binaryOp .Pow) (.int i) (.int j) H Q := gOp.of op_pow ⟨_, _, rfl, rfl, hc, q⟩
theorem g_ltI {i j : Int} (q : Q (.bl (decide (i < j))) H) : gOp X (compareOp .Lt) (.int i) (.int j) H Q := gOp.of op_lt ⟨_, _, rfl, rfl, q⟩
theorem g_leI {i j : Int} (q : Q (.bl (decide (i ≤ j))) H) : gOp X (compareOp .LtE) (.int i) (.int j) H Q := gOp.of op_le ⟨_, _, rfl, rfl, q⟩
theorem g_gtI {i j : Int} (q : Q (.bl (decide (j < i))) H) : gOp X (compareOp .Gt) (.int i) (.int j) H Q := gOp.of op_gt ⟨_, _, rfl, rfl, q⟩
theorem g_geI {i j : Int} (q : Q (.bl (decide (j ≤ i))) H) : gOp X (compareOp .GtE) (.int i) (.int j) H Q := gOp.of op_ge ⟨_, _, rfl, rfl, q⟩
theorem g_eqI {i j : Int} (q : Q (.bl (decide (i = j))) H) : gOp X (compareOp .Eq) (.int i) (.int j) H Q := gOp.of op_eq ⟨rfl, by rw [decI]; exact q⟩
theorem g_neI {i j : Int} (q : Q (.bl (!decide (i = j))) H) : gOp X (compareOp .NotEq) (.int i) (.int j) H Q := gOp.of op_ne ⟨rfl, by rw [decI]; exact q⟩
theorem g_eqS {i j : Str} (q : Q (.bl (decide (i = j))) H) : gOp X (compareOp .Eq) (.str i) (.str j) H Q := gOp.of op_eq ⟨rfl, by rw [decS]; exact q⟩
theorem g_neS {i j : Str} (q : Q (.bl (!decide (i = j))) H) : gOp X (compareOp .NotEq) (.str i) (.str j) H Q := gOp.of op_ne ⟨rfl, by rw [decS]; exact q⟩
theorem g_leS {i j : Str} (q : Q (.bl (!decide (j.cps.toList < i.cps.toList))) H) (hr : OpR X (compareOp .LtE) (fun x y H Q => ∃ i j, x = .str i ∧ y = .str j ∧ Q (.bl (!decide (j.cps.toList < i.cps.toList))) H)) : gOp X (compareOp .LtE) (.str i) (.str j) H Q := gOp.of hr ⟨_, _, rfl, rfl, q⟩
theorem g_isN (q : Q (.bl (decide (v = .non))) H) : gOp X (compareOp .Is) v .non H Q := gOp.of op_isN ⟨rfl, q⟩
theorem g_notN (q : Q (.bl (!decide (v = .non))) H) : gOp X (compareOp .IsNot) v .non H Q := gOp.of op_notN ⟨rfl, q⟩
/-- .. texts -/
theorem g_addS {i j : Str} (hl : i.length + j.length ≤ sizeLine) (q : Q (.str (i ++ j)) H) : gOp X (binaryOp .Add) (.str i) (.str j) H Q := gOp.of op_add_str ⟨_, _, rfl, rfl, hl, q⟩
/-- .. lists -/
theorem g_cat {l r : Addr} {xs zs : List V} (h1 : H l = some (.lst xs)) (h2 : H r = some (.lst zs)) (hz : xs.length + zs.length ≤ sizeLine) (q : ∀ p, H p = none → Q (.ref p) (upd H p (.lst (xs ++ zs)))) : gOp X (binaryOp .Add) (.ref l) (.ref r) H Q := gOp.of op_cat ⟨_, _, _, _, rfl, rfl, h1, h2, hz, q⟩
theorem g_ixL (h : At m N sc k X) {l : Addr} {xs : List V} {i : Int} {v : V} (hs : SqL m.K H l xs) (e : atI xs i = some v) (q : Q v H) : gIx X (.ref l) (.int i) H Q := gIx.of ix_list ⟨_, _, _, _, rfl, rfl, by rw [h.kk]; exact hs, e, q⟩
theorem g_ixT (h : At m N sc k X) {l : Addr} {xs : List V} {i : Int} {v : V} (hs : SqT m.K H l xs) (e : atI xs i = some v) (q : Q v H) : gIx X (.ref l) (.int i) H Q := gIx.of ix_tup ⟨_, _, _, _, rfl, rfl, by rw [h.kk]; exact hs, e, q⟩
theorem g_ixS {z : Str} {i : Int} {c : Nat} (hz : z.length ≤ sizeLine) (e : atI z.cps.toList i = some c) (q : Q (.str ⟨#[c]⟩) H) : gIx X (.str z) (.int i) H Q := gIx.of ix_str ⟨_, _, _, rfl, rfl, hz, e, q⟩
theorem g_eqD (h : At m N sc k X) {v w : V} {d e : PyData} (hd : Dp m.K H v d) (he : Dp m.K H w e) (sd : SeqAt.shaped d = true) (se : SeqAt.shaped e = true) (q : Q (.bl (PyData.eqv d e)) H) : gOp X (compareOp .Eq) v w H Q := gOp.of (op_eqD h.room.units) ⟨d, e, by rw [h.kk]; exact hd, by rw [h.kk]; exact he, sd, se, q⟩
theorem g_neD (h : At m N sc k X) {v w : V} {d e : PyData} (hd : Dp m.K H v d) (he : Dp m.K H w e) (sd : SeqAt.shaped d = true) (se : SeqAt.shaped e = true) (q : Q (.bl (!PyData.eqv d e)) H) : gOp X (compareOp .NotEq) v w H Q := gOp.of (op_neD h.room.units) ⟨d, e, by rw [h.kk]; exact hd, by rw [h.kk]; exact he, sd, se, q⟩
theorem g_inF (h : At m N sc k X) {v : V} {l : Addr} {xs : List V} (hs : SqL m.K H l xs ∨ SqT m.K H l xs) (f1 : flatV v = true) (f2 : xs.all flatV = true) (q : Q (.bl (inV v xs)) H) : gOp X (compareOp .In) v (.ref l) H Q := gOp.of op_in_seq ⟨_, _, rfl, by rw [h.kk]; exact hs, f1, f2, q⟩
theorem g_notInF (h : At m N sc k X) {v : V} {l : Addr} {xs : List V} (hs : SqL m.K H l xs ∨ SqT m.K H l xs) (f1 : flatV v = true) (f2 : xs.all flatV = true) (q : Q (.bl (!inV v xs)) H) : gOp X (compareOp .NotIn) v (.ref l) H Q := gOp.of op_notIn_seq ⟨_, _, rfl, by rw [h.kk]; exact hs, f1, f2, q⟩
/-- a built-in function by its name -/
theorem g_blt {id : String} (h : At m N sc k X) (hm : m.mg x = none) (hg : sc.names.lookup x = some .globalImplicit) (hv : bootBuiltins x = some (.builtin id)) (q : wA X (e :: es) σ H fun vs H1 => gCall X (.builtin id) vs H1 Q)
    (hn : x ≠ "__name__" := by with_unfolding_all decide) (hdb : (x == ("__debug__" : Str)) = false := by with_unfolding_all decide) (he : starEach (e :: es) X.env = (false, eval e X.env) :: starEach es X.env := by with_unfolding_all rfl) (hpl : (backTo pos (starEach es X.env)).any (·.1) = false := by with_unfolding_all rfl) : wE X (.Call (.Name x p) (e :: es) [] pos) σ H Q :=
  w_blt (r := fun vs H1 Q => gCall X (.builtin id) vs H1 Q) h (fun pins s σ H xs us Q I r ⟨rr, hr, q⟩ => hr pins s σ H xs us Q I r q) hm hg hv q hn hdb he hpl
theorem g_typ {T : String} (h : At m N sc k X) (hm : m.mg x = none) (hg : sc.names.lookup x = some .globalImplicit) (hv : bootBuiltins x = some (.type T)) (q : wA X (e :: es) σ H fun vs H1 => gCall X (.type T) vs H1 Q)
    (hn : x ≠ "__name__" := by with_unfolding_all decide) (hdb : (x == ("__debug__" : Str)) = false := by with_unfolding_all decide) (he : starEach (e :: es) X.env = (false, eval e X.env) :: starEach es X.env := by with_unfolding_all rfl) (hpl : (backTo pos (starEach es X.env)).any (·.1) = false := by with_unfolding_all rfl) : wE X (.Call (.Name x p) (e :: es) [] pos) σ H Q :=
  w_ty (r := fun vs H1 Q => gCall X (.type T) vs H1 Q) h (fun pins s σ H xs us Q I r ⟨rr, hr, q⟩ => hr pins s σ H xs us Q I r q) hm hg hv q hn hdb he hpl
theorem g_sum (h : At m N sc k X) {l : Addr} {ns : List Int} (hs : SqL m.K H l (ns.map V.int)) (q : Q (.int ns.sum) H) : gCall X (.builtin "sum") [.ref l] H Q := ⟨_, cr_sum h.calm, _, _, rfl, by rw [h.kk]; exact hs, q⟩
theorem g_max2 (h : At m N sc k X) {i j : Int} (q : Q (.int (if j > i then j else i)) H) : gCall X (.builtin "max") [.int i, .int j] H Q := ⟨_, call_max2 h.calm, _, _, rfl, q⟩
theorem g_min2 (h : At m N sc k X) {i j : Int} (q : Q (.int (if j < i then j else i)) H) : gCall X (.builtin "min") [.int i, .int j] H Q := ⟨_, call_min2 h.calm, _, _, rfl, q⟩
theorem g_lenL (h : At m N sc k X) {l : Addr} {xs : List V} (hs : SqL m.K H l xs) (q : Q (.int xs.length) H) : gCall X (.builtin "len") [.ref l] H Q := ⟨_, call_len, _, xs.length, rfl, .inl ⟨_, by rw [h.kk]; exact hs, rfl⟩, q⟩
theorem g_lenT (h : At m N sc k X) {l : Addr} {xs : List V} (hs : SqT m.K H l xs) (q : Q (.int xs.length) H) : gCall X (.builtin "len") [.ref l] H Q := ⟨_, call_len, _, xs.length, rfl, .inr ⟨_, by rw [h.kk]; exact hs, rfl⟩, q⟩
theorem g_lenS {z : Str} (hz : z.length ≤ sizeLine) (q : Q (.int z.length) H) : gCall X (.builtin "len") [.str z] H Q := ⟨_, call_len, _, z.length, rfl, ⟨hz, rfl⟩, q⟩
theorem g_listOf (h : At m N sc k X) {l : Addr} {ys : List V} (hs : SqL m.K H l ys ∨ SqT m.K H l ys) (q : ∀ p, H p = none → Q (.ref p) (upd H p (.lst ys))) : gCall X (.type "list") [.ref l] H Q := ⟨_, call_list_of, _, _, rfl, by rw [h.kk]; exact hs, q⟩
theorem g_all (h : At m N sc k X) {l : Addr} {bs : List Bool} (hs : SqL m.K H l (bs.map V.bl)) (q : Q (.bl (bs.all id)) H) : gCall X (.builtin "all") [.ref l] H Q := ⟨_, cr_all h.calm, _, _, rfl, by rw [h.kk]; exact hs, q⟩
theorem g_any (h : At m N sc k X) {l : Addr} {bs : List Bool} (hs : SqL m.K H l (bs.map V.bl)) (q : Q (.bl (bs.any id)) H) : gCall X (.builtin "any") [.ref l] H Q := ⟨_, cr_any h.calm, _, _, rfl, by rw [h.kk]; exact hs, q⟩
theorem g_repr (h : At m N sc k X) {v : V} {d : PyData} (hd : Dp m.K H v d) (h1 : d.showable = true) (h2 : d.shown.length ≤ sizeLine) (h3 : d.depth ≤ 60) (q : Q (.str d.shown) H) : gCall X (.builtin "repr") [v] H Q := ⟨_, call_reprD h.gd h.room.units, _, _, rfl, by rw [h.kk]; exact hd, h1, h2, h3, q⟩
/-- n.bit_length() -/
theorem g_bits (q : wE X o σ H fun x H1 => ∃ i, x = .int i ∧ Q (.int (Builtin.Int.intBits i : Nat)) H1) (hbase : attributeBase o "bit_length" X.env (eval o X.env) = eval o X.env := by with_unfolding_all rfl) {apos : Pos} (hline : (apos.endLine == pos.line) = true := by with_unfolding_all rfl) : wE X (.Call (.Attribute o "bit_length" apos) [] [] pos) σ H Q := toE (pe_bits cE hbase hline) q
/-- xs.append(e) -/
theorem g_append (q : wE X o σ H fun x H1 => tyV X.K "list" x H1 ∧ wA X [e] σ H1 fun ys H2 => ∃ l xs y, x = .ref l ∧ ys = [y] ∧ H2 l = some (.lst xs) ∧ xs.length < sizeLine ∧ Q .non (upd H2 l (.lst (xs ++ [y])))) {apos : Pos}
    (hbase : attributeBase o "append" X.env (eval o X.env) = eval o X.env := by with_unfolding_all rfl)
    (hfew : ((backTo pos (starEach [e] X.env)).all (fun x => !x.1) && (backToKw pos (keywordEach [] X.env)).all (fun x => x.1.isSome) && decide ([e].length + ([] : List Keyword).length + (if ([] : List Keyword).isEmpty then 0 else 1) < 30)) = true := by with_unfolding_all rfl)
    (hline : (apos.endLine == pos.line) = true := by with_unfolding_all rfl) (hs : starEach [e] X.env = (false, eval e X.env) :: starEach [] X.env := by with_unfolding_all rfl) (hplain : (backTo pos (starEach [] X.env)).any (·.1) = false := by with_unfolding_all rfl) : wE X (.Call (.Attribute o "append" apos) [e] [] pos) σ H Q :=
  toE (pe_bm PySem.F.plainAttrs_list PySem.F.slot_list_append PySem.F.type_list_append mt_append cE cA hbase hfew hline hs hplain) q
/-- e[lo:hi] of a list -/
theorem tyL {l : Addr} {xs : List V} (h : H l = some (.lst xs)) : tyV X.K "list" (.ref l) H := .inl ⟨rfl, _, SqL.of h⟩
end
theorem bt_sum : bootBuiltins "sum" = some (.builtin "sum") := by decide +kernel
theorem bt_max : bootBuiltins "max" = some (.builtin "max") := by decide +kernel
theorem bt_min : bootBuiltins "min" = some (.builtin "min") := by decide +kernel
theorem bt_len : bootBuiltins "len" = some (.builtin "len") := by decide +kernel
theorem bt_all : bootBuiltins "all" = some (.builtin "all") := by decide +kernel
theorem bt_any : bootBuiltins "any" = some (.builtin "any") := by decide +kernel
theorem bt_repr : bootBuiltins "repr" = some (.builtin "repr") := by decide +kernel
theorem bt_sorted : bootBuiltins "sorted" = some (.builtin "sorted") := by decide +kernel
theorem bt_isinstance : bootBuiltins "isinstance" = some (.builtin "isinstance") := by decide +kernel
theorem bt_abs : bootBuiltins "abs" = some (.builtin "abs") := by decide +kernel
theorem bt_list : bootBuiltins "list" = some (.type "list") := by decide +kernel
theorem bt_int : bootBuiltins "int" = some (.type "int") := by decide +kernel
theorem bt_str : bootBuiltins "str" = some (.type "str") := by decide +kernel
theorem bt_set : bootBuiltins "set" = some (.type "set") := by decide +kernel
theorem bt_dict : bootBuiltins "dict" = some (.type "dict") := by decide +kernel
theorem bt_tuple : bootBuiltins "tuple" = some (.type "tuple") := by decide +kernel
theorem bt_bool : bootBuiltins "bool" = some (.type "bool") := by decide +kernel
end Vf
set_option maxRecDepth 100000
set_option maxHeartbeats 4000000
/-! Lc: list comprehensions, slices, powers. Own work. -/
namespace Vf
open PySem PySem.Spec PyProof.Rows L2 LamX
section
variable {m : Md} {N : List Str} {sc scope : Scope} {k : Nat} {X : Cx} {a b c e o elt iter : Expr} {es : List Expr} {σ : L2.St} {H : Hp} {Q : VK} {D : Ends} {pos p p1 p2 p3 : Pos} {x y : Str} {i j : Nat} {v w : V}
theorem blk_at (h : At m N sc k X) (s : Shared) (H : Hp) (C : Addr) (cl : List (Str × Addr)) (fp : List Addr) : At m N (relS scope sc) k (X.blk s H scope (compEnvC scope cl C X.env) fp) :=
  ⟨h.pp, h.ww, h.kk, h.mm, h.bb, h.nn, by show relS scope X.env.scope = _; rw [h.ss], h.calm, h.room, PassesOwn.never, h.nd, h.gd⟩
theorem wipe1 {u : Option V} : wipe (σ.set i u) [i] = wipe σ [i] := by simp [wipe, List.set_set]
/-- the new list's element, run wherever the block may stand -/
abbrev inBlk (m : Md) (N : List Str) (sc : Scope) (k : Nat) (e : Expr) : TE := fun σ H Q => ∀ X', At m N sc k X' → wE X' e σ H Q
abbrev inBlkT (m : Md) (N : List Str) (sc : Scope) (k : Nat) (e : Expr) : TT := fun σ H Q => ∀ X', At m N sc k X' → wT X' e σ H Q
theorem blk_pe (h : At m N sc k X) (s : Shared) (H : Hp) (C : Addr) (cl : List (Str × Addr)) (fp : List Addr) : PE (X.blk s H scope (compEnvC scope cl C X.env) fp) e (inBlk m N (relS scope sc) k e) := ⟨fun pins s' σ' H' Q I q => cE.run pins s' σ' H' Q I (q _ (blk_at h s H C cl fp))⟩
theorem blk_pt (h : At m N sc k X) (s : Shared) (H : Hp) (C : Addr) (cl : List (Str × Addr)) (fp : List Addr) : PT (X.blk s H scope (compEnvC scope cl C X.env) fp) e (inBlkT m N (relS scope sc) k e) := ⟨fun pins s' σ' H' Q I q => cT.run pins s' σ' H' Q I (q _ (blk_at h s H C cl fp))⟩
theorem set_wipe {z : V} : (wipe σ [i]).set i (some z) = σ.set i (some z) := by simp [wipe, List.set_set]
/-- what one turn of a block asks: the element is appended to the list at D, then the invariant -/
abbrev App (D : Addr) (P : Hp → Prop) : VK := fun y H4 => ∃ acc, H4 D = some (.lst acc) ∧ acc.length < sizeLine ∧ P (upd H4 D (.lst (acc ++ [y])))
/-- [elt for x in iter], iter a list that the block leaves as it is -/
theorem w_lcL (h : At m N sc k X) (ok : blkC N sc scope [(x, i)] = true) (n : NL N (relS scope sc) i x)
    (q : wE X iter σ H fun v H1 => ∃ (a : Addr) (xs : List V), v = .ref a ∧ SqL m.K H1 a xs ∧ ∀ D, H1 D = none → ∃ Pv : Nat → Hp → Prop, Pv 0 (upd H1 D (.lst [])) ∧ (∀ j H, j ≤ xs.length → Pv j H → SqL m.K H a xs) ∧
      (∀ j x H, xs[j]? = some x → Pv j H → ∀ X', At m N (relS scope sc) k X' → wE X' elt (σ.set i (some x)) H (App D (Pv (j + 1)))) ∧ ∀ H, Pv xs.length H → Q (.ref D) H)
    (hs : ∀ x, foldedSetIterable iter X.env x = pure x := by with_unfolding_all (intro _; rfl)) : wE X (.ListComp elt [⟨.Name x p1, iter, [], 0⟩] scope pos) σ H Q := by
  refine toE (pe_lc (own := [(x, i)]) (g := gName i) (tt := tYes) (te := inBlk m N (relS scope sc) k elt) h.calm (by rw [h.nn]; exact h.nd) (pi_list cE) (by rw [h.nn, h.ss]; exact blkOk_by ok) (fun s H C cl fp => pg_nl (blk_at h s H C cl fp) n) (fun _ _ _ _ _ => pts_nil) (fun s H C cl fp => blk_pe h s H C cl fp) hs) ?_
  refine wE.mono q fun v H1 ⟨a, xs, ea, hl, go⟩ => ⟨a, ea, ⟨xs, by rw [h.kk]; exact hl⟩, fun D hD => ?_⟩
  obtain ⟨Pv, p0, st, turn, fin⟩ := go D hD
  refine lc_list (K := X.K) (a := a) (xs := xs) (g := gName i) (tt := tYes) (te := inBlk m N (relS scope sc) k elt) (vs := [i]) (σ := σ) Pv p0 (fun j H hj hp => by rw [h.kk]; exact st j H hj hp) (fun j z H hz hp => ?_) fin
  refine ⟨by rw [wipe1]; simp [wipe, List.set_set], ?_⟩
  unfold tYes
  refine iteT fun X' hX' => ?_
  rw [set_wipe]
  exact turn j z H hz hp X' hX'
/-- [elt for x in iter if c] -/
theorem w_lcLi (h : At m N sc k X) (ok : blkC N sc scope [(x, i)] = true) (n : NL N (relS scope sc) i x)
    (q : wE X iter σ H fun v H1 => ∃ (a : Addr) (xs : List V), v = .ref a ∧ SqL m.K H1 a xs ∧ ∀ D, H1 D = none → ∃ Pv : Nat → Hp → Prop, Pv 0 (upd H1 D (.lst [])) ∧ (∀ j H, j ≤ xs.length → Pv j H → SqL m.K H a xs) ∧
      (∀ j x H, xs[j]? = some x → Pv j H → ∀ X', At m N (relS scope sc) k X' → wT X' c (σ.set i (some x)) H fun b H3 => if b = true then (∀ X', At m N (relS scope sc) k X' → wE X' elt (σ.set i (some x)) H3 (App D (Pv (j + 1)))) else Pv (j + 1) H3) ∧
      ∀ H, Pv xs.length H → Q (.ref D) H)
    (hs : ∀ x, foldedSetIterable iter X.env x = pure x := by with_unfolding_all (intro _; rfl)) : wE X (.ListComp elt [⟨.Name x p1, iter, [c], 0⟩] scope pos) σ H Q := by
  refine toE (pe_lc (own := [(x, i)]) (g := gName i) (tt := inBlkT m N (relS scope sc) k c) (te := inBlk m N (relS scope sc) k elt) h.calm (by rw [h.nn]; exact h.nd) (pi_list cE) (by rw [h.nn, h.ss]; exact blkOk_by ok) (fun s H C cl fp => pg_nl (blk_at h s H C cl fp) n) (fun s H C cl fp => pts_one (blk_pt h s H C cl fp)) (fun s H C cl fp => blk_pe h s H C cl fp) hs) ?_
  refine wE.mono q fun v H1 ⟨a, xs, ea, hl, go⟩ => ⟨a, ea, ⟨xs, by rw [h.kk]; exact hl⟩, fun D hD => ?_⟩
  obtain ⟨Pv, p0, st, turn, fin⟩ := go D hD
  refine lc_list (K := X.K) (a := a) (xs := xs) (g := gName i) (tt := inBlkT m N (relS scope sc) k c) (te := inBlk m N (relS scope sc) k elt) (vs := [i]) (σ := σ) Pv p0 (fun j H hj hp => by rw [h.kk]; exact st j H hj hp) (fun j z H hz hp => ?_) fin
  refine ⟨by rw [wipe1]; simp [wipe, List.set_set], fun X' hX' => ?_⟩
  have t := turn j z H hz hp X' hX'
  rw [set_wipe]
  exact t
/-- [elt for x in range(e)] -/
theorem w_lcR (h : At m N sc k X) (hm : m.mg "range" = none) (hgl : sc.names.lookup ("range" : Str) = some .globalImplicit) (ok : blkC N sc scope [(x, i)] = true) (n : NL N (relS scope sc) i x)
    (q : wE X e σ H fun v H1 => ∃ z : Int, v = .int z ∧ -(2 ^ 62) ≤ z ∧ z < 2 ^ 62 ∧ ∀ D, H1 D = none → ∃ Pv : Nat → Hp → Prop, Pv 0 (upd H1 D (.lst [])) ∧
      (∀ j H, j < z.toNat → Pv j H → ∀ X', At m N (relS scope sc) k X' → wE X' elt (σ.set i (some (.int j))) H (App D (Pv (j + 1)))) ∧ ∀ H, Pv z.toNat H → Q (.ref D) H)
    (hst : starEach [e] X.env = [(false, eval e X.env)] := by with_unfolding_all rfl) (hs : ∀ x, foldedSetIterable (.Call (.Name "range" p2) [e] [] p3) X.env x = pure x := by with_unfolding_all (intro _; rfl)) : wE X (.ListComp elt [⟨.Name x p1, .Call (.Name "range" p2) [e] [] p3, [], 0⟩] scope pos) σ H Q := by
  refine toE (pe_lc (own := [(x, i)]) (g := gName i) (tt := tYes) (te := inBlk m N (relS scope sc) k elt) h.calm (by rw [h.nn]; exact h.nd) (pi_range1 (h.gl hgl) (by rw [h.mm]; exact hm) (pa_cons cE pa_nil hst) hst) (by rw [h.nn, h.ss]; exact blkOk_by ok) (fun s H C cl fp => pg_nl (blk_at h s H C cl fp) n) (fun _ _ _ _ _ => pts_nil) (fun s H C cl fp => blk_pe h s H C cl fp) hs) ?_
  refine wE.mono q fun v H1 ⟨z, ez, z1, z2, go⟩ => ⟨z, by rw [ez], z1, z2, fun D hD => ?_⟩
  obtain ⟨Pv, p0, turn, fin⟩ := go D hD
  refine lc_range (lo := 0) (n := z.toNat) (g := gName i) (tt := tYes) (te := inBlk m N (relS scope sc) k elt) (vs := [i]) (σ := σ) Pv p0 (fun j H hj hp => ?_) fin
  refine ⟨by rw [wipe1]; simp [wipe, List.set_set], ?_⟩
  unfold tYes
  refine iteT fun X' hX' => ?_
  rw [set_wipe, Int.zero_add]
  exact turn j H hj hp X' hX'
/-- [elt for x in range(e) if c] -/
theorem w_lcRi (h : At m N sc k X) (hm : m.mg "range" = none) (hgl : sc.names.lookup ("range" : Str) = some .globalImplicit) (ok : blkC N sc scope [(x, i)] = true) (n : NL N (relS scope sc) i x)
    (q : wE X e σ H fun v H1 => ∃ z : Int, v = .int z ∧ -(2 ^ 62) ≤ z ∧ z < 2 ^ 62 ∧ ∀ D, H1 D = none → ∃ Pv : Nat → Hp → Prop, Pv 0 (upd H1 D (.lst [])) ∧
      (∀ j H, j < z.toNat → Pv j H → ∀ X', At m N (relS scope sc) k X' → wT X' c (σ.set i (some (.int j))) H fun b H3 => if b = true then (∀ X', At m N (relS scope sc) k X' → wE X' elt (σ.set i (some (.int j))) H3 (App D (Pv (j + 1)))) else Pv (j + 1) H3) ∧ ∀ H, Pv z.toNat H → Q (.ref D) H)
    (hst : starEach [e] X.env = [(false, eval e X.env)] := by with_unfolding_all rfl) (hs : ∀ x, foldedSetIterable (.Call (.Name "range" p2) [e] [] p3) X.env x = pure x := by with_unfolding_all (intro _; rfl)) : wE X (.ListComp elt [⟨.Name x p1, .Call (.Name "range" p2) [e] [] p3, [c], 0⟩] scope pos) σ H Q := by
  refine toE (pe_lc (own := [(x, i)]) (g := gName i) (tt := inBlkT m N (relS scope sc) k c) (te := inBlk m N (relS scope sc) k elt) h.calm (by rw [h.nn]; exact h.nd) (pi_range1 (h.gl hgl) (by rw [h.mm]; exact hm) (pa_cons cE pa_nil hst) hst) (by rw [h.nn, h.ss]; exact blkOk_by ok) (fun s H C cl fp => pg_nl (blk_at h s H C cl fp) n) (fun s H C cl fp => pts_one (blk_pt h s H C cl fp)) (fun s H C cl fp => blk_pe h s H C cl fp) hs) ?_
  refine wE.mono q fun v H1 ⟨z, ez, z1, z2, go⟩ => ⟨z, by rw [ez], z1, z2, fun D hD => ?_⟩
  obtain ⟨Pv, p0, turn, fin⟩ := go D hD
  refine lc_range (lo := 0) (n := z.toNat) (g := gName i) (tt := inBlkT m N (relS scope sc) k c) (te := inBlk m N (relS scope sc) k elt) (vs := [i]) (σ := σ) Pv p0 (fun j H hj hp => ?_) fin
  refine ⟨by rw [wipe1]; simp [wipe, List.set_set], fun X' hX' => ?_⟩
  have t := turn j H hj hp X' hX'
  rw [set_wipe, Int.zero_add]
  exact t
/-! ### slices of lists; powers of any size -/
theorem w_slice {lo hi : Expr} (h : At m N sc k X) (q : wE X e σ H fun x H1 => wE X lo σ H1 fun l H2 => ∃ i : Int, l = .int i ∧ wE X hi σ H2 fun u H3 => ∃ j : Int, u = .int j ∧ ∃ (a : Addr) (xs : List V), x = .ref a ∧ SqL m.K H3 a xs ∧ ∀ p, H3 p = none → Q (.ref p) (upd H3 p (.lst (cutV xs (some i) (some j))))) :
    wE X (.Subscript e (.Slice (some lo) (some hi) none p2) pos) σ H Q := by
  refine toE (pe_slice sl_list cE (po_some cE) (po_some cE)) ?_
  refine wE.mono q fun x H1 q1 => wE.mono q1 fun l H2 ⟨i, ei, q2⟩ => ⟨i, ei, wE.mono q2 fun u H3 ⟨j, ej, a, xs, ea, hs, q3⟩ => ⟨j, ej, a, xs, ea, by rw [h.kk]; exact hs, q3⟩⟩
theorem w_sliceTo {hi : Expr} (h : At m N sc k X) (q : wE X e σ H fun x H1 => wE X hi σ H1 fun u H3 => ∃ j : Int, u = .int j ∧ ∃ (a : Addr) (xs : List V), x = .ref a ∧ SqL m.K H3 a xs ∧ ∀ p, H3 p = none → Q (.ref p) (upd H3 p (.lst (cutV xs none (some j))))) :
    wE X (.Subscript e (.Slice none (some hi) none p2) pos) σ H Q := by
  refine toE (pe_slice sl_list cE po_none (po_some cE)) ?_
  refine wE.mono q fun x H1 q1 => ?_
  show wE X hi σ H1 _
  exact wE.mono q1 fun u H3 ⟨j, ej, a, xs, ea, hs, q3⟩ => ⟨j, ej, a, xs, ea, by rw [h.kk]; exact hs, q3⟩
theorem w_sliceFrom {lo : Expr} (h : At m N sc k X) (q : wE X e σ H fun x H1 => wE X lo σ H1 fun u H3 => ∃ j : Int, u = .int j ∧ ∃ (a : Addr) (xs : List V), x = .ref a ∧ SqL m.K H3 a xs ∧ ∀ p, H3 p = none → Q (.ref p) (upd H3 p (.lst (cutV xs (some j) none)))) :
    wE X (.Subscript e (.Slice (some lo) none none p2) pos) σ H Q := by
  refine toE (pe_slice sl_list cE (po_some cE) po_none) ?_
  exact wE.mono q fun x H1 q1 => wE.mono q1 fun u H3 ⟨j, ej, a, xs, ea, hs, q3⟩ => ⟨j, ej, a, xs, ea, by rw [h.kk]; exact hs, q3⟩
theorem cutV_map {α : Type} (f : α → V) (xs : List α) (lo hi : Option Int) : ∃ ys : List α, cutV (xs.map f) lo hi = ys.map f ∧ ys.length ≤ xs.length := by
  unfold cutV
  rw [List.length_map]
  exact ⟨(xs.drop (HT.sIx xs.length 0 lo)).take (HT.sIx xs.length xs.length hi - HT.sIx xs.length 0 lo), by rw [List.map_take, List.map_drop], by rw [List.length_take, List.length_drop]; omega⟩
theorem g_powW {i j : Int} (h0 : 0 ≤ j) (hb : (Builtin.Int.intBits i : Int) * j ≤ 2 ^ 27) (q : Q (.int (i ^ j.toNat)) H) : gOp X (binaryOp .Pow) (.int i) (.int j) H Q := fun pins s σ v u I rx ry => by
  obtain ⟨t, rfl⟩ := rx
  obtain ⟨t', rfl⟩ := ry
  exact PyProof.Rows.pow_int h0 hb ⟨.int _, H, I.tok _, ⟨_, rfl⟩, q⟩
end
end Vf
set_option maxRecDepth 100000
set_option maxHeartbeats 4000000
/-! Lcs: comprehensions that are stored at once. Own work. -/
namespace Vf
open PySem PySem.Spec PyProof.Rows L2 LamX
section
variable {m : Md} {N : List Str} {sc scope : Scope} {k l : Nat} {X : Cx} {a b c e o elt iter : Expr} {es : List Expr} {σ : L2.St} {H : Hp} {nx : L2.St → Hp → Prop} {rt : VK} {bk ct : L2.St → Hp → Prop} {pos p p1 p2 p3 py spos : Pos} {x y : Str} {i j : Nat} {v w : V}
/-- y = [..], y a name of this place alone -/
theorem s_lcL (h : At m N sc k X) (nl : NL N sc l y) (ok : blkC N sc scope [(x, i)] = true) (n : NL N (relS scope sc) i x)
    (q : wE X iter σ H fun v H1 => ∃ (a : Addr) (xs : List V), v = .ref a ∧ SqL m.K H1 a xs ∧ ∀ D, H1 D = none → ∃ Pv : Nat → Hp → Prop, Pv 0 (upd H1 D (.lst [])) ∧ (∀ j H, j ≤ xs.length → Pv j H → SqL m.K H a xs) ∧
      (∀ j x H, xs[j]? = some x → Pv j H → ∀ X', At m N (relS scope sc) k X' → wE X' elt (σ.set i (some x)) H (App D (Pv (j + 1)))) ∧ ∀ H, Pv xs.length H → nx (σ.set l (some (.ref D))) H)
    (hs : ∀ x, foldedSetIterable iter X.env x = pure x := by with_unfolding_all (intro _; rfl)) (hk : sc.kind = .function := by with_unfolding_all rfl) (hl : (py.line == pos.line) = true := by with_unfolding_all rfl) (ha : (scope.names.any fun (n, k) => n == y && (k == .local || k == .cell)) = false := by with_unfolding_all (decide +kernel)) : wS X (.Assign [.Name y py] (.ListComp elt [⟨.Name x p1, iter, [], 0⟩] scope pos) spos) ⟨nx, rt, bk, ct⟩ σ H := by
  refine toS (ps_setLc (i := l) (y := y) (py := py) (own := [(x, i)]) (g := gName i) (tt := tYes) (te := inBlk m N (relS scope sc) k elt) h.calm (by rw [h.nn]; exact h.nd) (by rw [h.nn]; exact nl.ix) (by rw [h.ss]; exact nl.loc) (sw_true (by rw [h.ss]; exact hk) (by rw [h.ss]; exact nl.loc) hl ha) (pi_list cE) (by rw [h.nn, h.ss]; exact blkOk_by ok) (fun s H C cl fp => pg_nl (blk_at h s H C cl fp) n) (fun _ _ _ _ _ => pts_nil) (fun s H C cl fp => blk_pe h s H C cl fp) hs) ?_
  refine wE.mono q fun v H1 ⟨a, xs, ea, hl, go⟩ => ⟨a, ea, ⟨xs, by rw [h.kk]; exact hl⟩, fun D hD => ?_⟩
  obtain ⟨Pv, p0, st, turn, fin⟩ := go D hD
  refine lc_list (K := X.K) (a := a) (xs := xs) (g := gName i) (tt := tYes) (te := inBlk m N (relS scope sc) k elt) (vs := [i]) (σ := σ) Pv p0 (fun j H hj hp => by rw [h.kk]; exact st j H hj hp) (fun j z H hz hp => ?_) fin
  refine ⟨by rw [wipe1]; simp [wipe, List.set_set], ?_⟩
  unfold tYes
  refine iteT fun X' hX' => ?_
  rw [set_wipe]
  exact turn j z H hz hp X' hX'
/-- y = [..], y a name of this place alone -/
theorem s_lcLi (h : At m N sc k X) (nl : NL N sc l y) (ok : blkC N sc scope [(x, i)] = true) (n : NL N (relS scope sc) i x)
    (q : wE X iter σ H fun v H1 => ∃ (a : Addr) (xs : List V), v = .ref a ∧ SqL m.K H1 a xs ∧ ∀ D, H1 D = none → ∃ Pv : Nat → Hp → Prop, Pv 0 (upd H1 D (.lst [])) ∧ (∀ j H, j ≤ xs.length → Pv j H → SqL m.K H a xs) ∧
      (∀ j x H, xs[j]? = some x → Pv j H → ∀ X', At m N (relS scope sc) k X' → wT X' c (σ.set i (some x)) H fun b H3 => if b = true then (∀ X', At m N (relS scope sc) k X' → wE X' elt (σ.set i (some x)) H3 (App D (Pv (j + 1)))) else Pv (j + 1) H3) ∧
      ∀ H, Pv xs.length H → nx (σ.set l (some (.ref D))) H)
    (hs : ∀ x, foldedSetIterable iter X.env x = pure x := by with_unfolding_all (intro _; rfl)) (hk : sc.kind = .function := by with_unfolding_all rfl) (hl : (py.line == pos.line) = true := by with_unfolding_all rfl) (ha : (scope.names.any fun (n, k) => n == y && (k == .local || k == .cell)) = false := by with_unfolding_all (decide +kernel)) : wS X (.Assign [.Name y py] (.ListComp elt [⟨.Name x p1, iter, [c], 0⟩] scope pos) spos) ⟨nx, rt, bk, ct⟩ σ H := by
  refine toS (ps_setLc (i := l) (y := y) (py := py) (own := [(x, i)]) (g := gName i) (tt := inBlkT m N (relS scope sc) k c) (te := inBlk m N (relS scope sc) k elt) h.calm (by rw [h.nn]; exact h.nd) (by rw [h.nn]; exact nl.ix) (by rw [h.ss]; exact nl.loc) (sw_true (by rw [h.ss]; exact hk) (by rw [h.ss]; exact nl.loc) hl ha) (pi_list cE) (by rw [h.nn, h.ss]; exact blkOk_by ok) (fun s H C cl fp => pg_nl (blk_at h s H C cl fp) n) (fun s H C cl fp => pts_one (blk_pt h s H C cl fp)) (fun s H C cl fp => blk_pe h s H C cl fp) hs) ?_
  refine wE.mono q fun v H1 ⟨a, xs, ea, hl, go⟩ => ⟨a, ea, ⟨xs, by rw [h.kk]; exact hl⟩, fun D hD => ?_⟩
  obtain ⟨Pv, p0, st, turn, fin⟩ := go D hD
  refine lc_list (K := X.K) (a := a) (xs := xs) (g := gName i) (tt := inBlkT m N (relS scope sc) k c) (te := inBlk m N (relS scope sc) k elt) (vs := [i]) (σ := σ) Pv p0 (fun j H hj hp => by rw [h.kk]; exact st j H hj hp) (fun j z H hz hp => ?_) fin
  refine ⟨by rw [wipe1]; simp [wipe, List.set_set], fun X' hX' => ?_⟩
  have t := turn j z H hz hp X' hX'
  rw [set_wipe]
  exact t
/-- y = [..], y a name of this place alone -/
theorem s_lcR (h : At m N sc k X) (hm : m.mg "range" = none) (hgl : sc.names.lookup ("range" : Str) = some .globalImplicit) (nl : NL N sc l y) (ok : blkC N sc scope [(x, i)] = true) (n : NL N (relS scope sc) i x)
    (q : wE X e σ H fun v H1 => ∃ z : Int, v = .int z ∧ -(2 ^ 62) ≤ z ∧ z < 2 ^ 62 ∧ ∀ D, H1 D = none → ∃ Pv : Nat → Hp → Prop, Pv 0 (upd H1 D (.lst [])) ∧
      (∀ j H, j < z.toNat → Pv j H → ∀ X', At m N (relS scope sc) k X' → wE X' elt (σ.set i (some (.int j))) H (App D (Pv (j + 1)))) ∧ ∀ H, Pv z.toNat H → nx (σ.set l (some (.ref D))) H)
    (hst : starEach [e] X.env = [(false, eval e X.env)] := by with_unfolding_all rfl) (hs : ∀ x, foldedSetIterable (.Call (.Name "range" p2) [e] [] p3) X.env x = pure x := by with_unfolding_all (intro _; rfl)) (hk : sc.kind = .function := by with_unfolding_all rfl) (hl : (py.line == pos.line) = true := by with_unfolding_all rfl) (ha : (scope.names.any fun (n, k) => n == y && (k == .local || k == .cell)) = false := by with_unfolding_all (decide +kernel)) : wS X (.Assign [.Name y py] (.ListComp elt [⟨.Name x p1, .Call (.Name "range" p2) [e] [] p3, [], 0⟩] scope pos) spos) ⟨nx, rt, bk, ct⟩ σ H := by
  refine toS (ps_setLc (i := l) (y := y) (py := py) (own := [(x, i)]) (g := gName i) (tt := tYes) (te := inBlk m N (relS scope sc) k elt) h.calm (by rw [h.nn]; exact h.nd) (by rw [h.nn]; exact nl.ix) (by rw [h.ss]; exact nl.loc) (sw_true (by rw [h.ss]; exact hk) (by rw [h.ss]; exact nl.loc) hl ha) (pi_range1 (h.gl hgl) (by rw [h.mm]; exact hm) (pa_cons cE pa_nil hst) hst) (by rw [h.nn, h.ss]; exact blkOk_by ok) (fun s H C cl fp => pg_nl (blk_at h s H C cl fp) n) (fun _ _ _ _ _ => pts_nil) (fun s H C cl fp => blk_pe h s H C cl fp) hs) ?_
  refine wE.mono q fun v H1 ⟨z, ez, z1, z2, go⟩ => ⟨z, by rw [ez], z1, z2, fun D hD => ?_⟩
  obtain ⟨Pv, p0, turn, fin⟩ := go D hD
  refine lc_range (lo := 0) (n := z.toNat) (g := gName i) (tt := tYes) (te := inBlk m N (relS scope sc) k elt) (vs := [i]) (σ := σ) Pv p0 (fun j H hj hp => ?_) fin
  refine ⟨by rw [wipe1]; simp [wipe, List.set_set], ?_⟩
  unfold tYes
  refine iteT fun X' hX' => ?_
  rw [set_wipe, Int.zero_add]
  exact turn j H hj hp X' hX'
/-- y = [..], y a name of this place alone -/
theorem s_lcRi (h : At m N sc k X) (hm : m.mg "range" = none) (hgl : sc.names.lookup ("range" : Str) = some .globalImplicit) (nl : NL N sc l y) (ok : blkC N sc scope [(x, i)] = true) (n : NL N (relS scope sc) i x)
    (q : wE X e σ H fun v H1 => ∃ z : Int, v = .int z ∧ -(2 ^ 62) ≤ z ∧ z < 2 ^ 62 ∧ ∀ D, H1 D = none → ∃ Pv : Nat → Hp → Prop, Pv 0 (upd H1 D (.lst [])) ∧
      (∀ j H, j < z.toNat → Pv j H → ∀ X', At m N (relS scope sc) k X' → wT X' c (σ.set i (some (.int j))) H fun b H3 => if b = true then (∀ X', At m N (relS scope sc) k X' → wE X' elt (σ.set i (some (.int j))) H3 (App D (Pv (j + 1)))) else Pv (j + 1) H3) ∧ ∀ H, Pv z.toNat H → nx (σ.set l (some (.ref D))) H)
    (hst : starEach [e] X.env = [(false, eval e X.env)] := by with_unfolding_all rfl) (hs : ∀ x, foldedSetIterable (.Call (.Name "range" p2) [e] [] p3) X.env x = pure x := by with_unfolding_all (intro _; rfl)) (hk : sc.kind = .function := by with_unfolding_all rfl) (hl : (py.line == pos.line) = true := by with_unfolding_all rfl) (ha : (scope.names.any fun (n, k) => n == y && (k == .local || k == .cell)) = false := by with_unfolding_all (decide +kernel)) : wS X (.Assign [.Name y py] (.ListComp elt [⟨.Name x p1, .Call (.Name "range" p2) [e] [] p3, [c], 0⟩] scope pos) spos) ⟨nx, rt, bk, ct⟩ σ H := by
  refine toS (ps_setLc (i := l) (y := y) (py := py) (own := [(x, i)]) (g := gName i) (tt := inBlkT m N (relS scope sc) k c) (te := inBlk m N (relS scope sc) k elt) h.calm (by rw [h.nn]; exact h.nd) (by rw [h.nn]; exact nl.ix) (by rw [h.ss]; exact nl.loc) (sw_true (by rw [h.ss]; exact hk) (by rw [h.ss]; exact nl.loc) hl ha) (pi_range1 (h.gl hgl) (by rw [h.mm]; exact hm) (pa_cons cE pa_nil hst) hst) (by rw [h.nn, h.ss]; exact blkOk_by ok) (fun s H C cl fp => pg_nl (blk_at h s H C cl fp) n) (fun s H C cl fp => pts_one (blk_pt h s H C cl fp)) (fun s H C cl fp => blk_pe h s H C cl fp) hs) ?_
  refine wE.mono q fun v H1 ⟨z, ez, z1, z2, go⟩ => ⟨z, by rw [ez], z1, z2, fun D hD => ?_⟩
  obtain ⟨Pv, p0, turn, fin⟩ := go D hD
  refine lc_range (lo := 0) (n := z.toNat) (g := gName i) (tt := inBlkT m N (relS scope sc) k c) (te := inBlk m N (relS scope sc) k elt) (vs := [i]) (σ := σ) Pv p0 (fun j H hj hp => ?_) fin
  refine ⟨by rw [wipe1]; simp [wipe, List.set_set], fun X' hX' => ?_⟩
  have t := turn j H hj hp X' hX'
  rw [set_wipe, Int.zero_add]
  exact t
end
end Vf
set_option maxRecDepth 100000
set_option maxHeartbeats 4000000
/-! St: stores into several names, insert. Own work. -/
namespace Vf
open PySem PySem.Spec PyProof.Rows L2 LamX
/-- what changes in objects that were not there is growth -/
theorem GrowX.into {T : List (Addr × Str)} {S S' : Addr → Prop} {H H1 H2 : Hp} (a : GrowX T S H H1) (b : GrowX T S' H1 H2) (h : ∀ c, S' c → New H c ∨ S c) : GrowX T S H H2 :=
  ⟨fun c o s e n => b.ext c o (fun z => (h c z).elim (fun z => by rw [z] at e; cases e) s) (a.ext c o s e n) n, fun t => b.tab (a.tab t), fun c z => a.keep c (b.keep c z), fun c xs z => b.tup c xs (a.tup c xs z), fun c o u z => b.frz c o u (a.frz c o u z)⟩
theorem Grow.intoNew {T : List (Addr × Str)} {S' : Addr → Prop} {H H1 H2 : Hp} (a : Grow T H H1) (b : GrowX T S' H1 H2) (h : ∀ c, S' c → New H c) : Grow T H H2 := a.into b fun c z => .inl (h c z)
/-- a list's new elements -/
theorem GrowX.lst {T : List (Addr × Str)} {H : Hp} {p : Addr} {xs ys : List V} (h : H p = some (.lst xs)) : GrowX T (· = p) H (upd H p (.lst ys)) := GrowX.set rfl h (fun _ z => by cases z) (fun _ z => by unfold CodeO at z; cases z) (fun _ z => by cases z) (fun _ _ z => by cases z)
theorem New.ne {H : Hp} {a p : Addr} {o : HO} (n : New H p) (h : H a = some o) : p ≠ a := fun z => by rw [← z, n] at h; cases h
section
variable {m : Md} {N : List Str} {sc : Scope} {k : Nat} {X : Cx} {a b c e o : Expr} {es : List Expr} {σ : L2.St} {H : Hp} {Q : VK} {nx : L2.St → Hp → Prop} {rt : VK} {bk ct : L2.St → Hp → Prop} {pos p1 p2 p3 p4 : Pos} {x y z : Str} {i j l : Nat} {k1 k2 : Nat}
theorem nl_of (h : At m N sc k X) (i : Nat) (x : Str) (a : N[i]? = some x := by rfl) (b : sc.names.lookup x = some .local := by rfl) : NL N sc i x := ⟨a, b⟩
theorem nc_of (h : At m N sc k X) (i : Nat) (x : Str) (a : N[i]? = some x := by rfl) (b : sc.names.lookup x = some .cell := by rfl) : NC N sc i x := ⟨a, b⟩
theorem env_sc {env : Env} (h : env.scope = sc) : { env with scope := sc } = env := by cases env; cases h; rfl
/-- x, y = a, b, both names of this place alone -/
theorem s_par (h : At m N sc k X) (n1 : NL N sc i x) (n2 : NL N sc j y) (q : wA X [a, b] σ H fun vs H1 => ∃ v w, vs = [v, w] ∧ nx ((σ.set i (some v)).set j (some w)) H1) (hij : i ≠ j := by decide)
    (hw : ∀ env : Env, swappedStores [.Tuple [.Name x p1, .Name y p2] k1 p3] (.Tuple [a, b] k2 p4) { env with scope := sc } = pure (some [x, y]) := by with_unfolding_all (intro _; rfl))
    (hs : swapsWithSole [.Tuple [.Name x p1, .Name y p2] k1 p3] (.Tuple [a, b] k2 p4) pos.line X.env = pure false := by with_unfolding_all rfl) : wS X (.Assign [.Tuple [.Name x p1, .Name y p2] k1 p3] (.Tuple [a, b] k2 p4) pos) ⟨nx, rt, bk, ct⟩ σ H :=
  toS (ps_par h.calm (by rw [h.nn]; exact h.nd) (by rw [h.nn]; exact n1.ix) (by rw [h.nn]; exact n2.ix) hij (by rw [h.ss]; exact n1.loc) (by rw [h.ss]; exact n2.loc) cA (by have := hw X.env; rw [env_sc h.ss] at this; exact this) hs) q
/-- x, y = e where the pair is made, then taken apart -/
theorem s_two {t1 t2 : Expr} (h : At m N sc k X) (hg1 : PG X t1 (gName i)) (hg2 : PG X t2 (gName j)) (q : wE X e σ H fun v H1 => ∃ (p : Addr) (v1 v2 : V), v = .ref p ∧ SqT m.K H1 p [v1, v2] ∧ nx ((σ.set i (some v1)).set j (some v2)) H1)
    (hw : ∀ env : Env, swappedStores [.Tuple [t1, t2] k1 p3] e { env with scope := sc } = pure none := by with_unfolding_all (intro _; rfl))
    (hs : swapsWithSole [.Tuple [t1, t2] k1 p3] e pos.line X.env = pure false := by with_unfolding_all rfl)
    (hz : (assignEach [t1, t2] X.env).map (·.2) = assign t1 X.env :: (assignEach [t2] X.env).map (·.2) := by with_unfolding_all rfl) (hz2 : (assignEach [t2] X.env).map (·.2) = assign t2 X.env :: (assignEach [] X.env).map (·.2) := by with_unfolding_all rfl)
    (hn : (assignEach [t1, t2] X.env).length = 2 := by with_unfolding_all rfl) (hst : (assignEach [t1, t2] X.env).findIdx? (·.1) = none := by with_unfolding_all rfl)
    (ho : (assignEach [.Tuple [t1, t2] k1 p3] X.env).map (·.2) = [assign (.Tuple [t1, t2] k1 p3) X.env] := by with_unfolding_all rfl) : wS X (.Assign [.Tuple [t1, t2] k1 p3] e pos) ⟨nx, rt, bk, ct⟩ σ H := by
  refine toS (ps_asg cE (pg_tup h.calm (pgs_cons hg1 (pgs_cons hg2 pgs_nil hz2) hz) hn hst) hs (by have := hw X.env; rw [env_sc h.ss] at this; exact this) ho) ?_
  exact wE.mono q fun v H1 ⟨p, v1, v2, ev, hp, q1⟩ => ⟨p, [v1, v2], ev, by rw [h.kk]; exact hp, rfl, v1, [v2], rfl, v2, [], rfl, rfl, q1⟩
theorem g_truB {b : Bool} {QB : Bool → Hp → Prop} (q : QB b H) : gTru X (.bl b) H QB := ⟨b, rfl, q⟩
theorem w_neg (q : wE X e σ H fun v H1 => ∃ i : Int, v = .int i ∧ Q (.int (-i)) H1) : wE X (.UnaryOp .USub e pos) σ H Q := toE (pe_un un_neg cE) q
/-- xs.insert(a, b) -/
theorem g_insert (q : wE X o σ H fun x H1 => tyV X.K "list" x H1 ∧ wA X [a, b] σ H1 fun ys H2 => ∃ (l : Addr) (xs : List V) (i : Int) (y : V), x = .ref l ∧ ys = [.int i, y] ∧ H2 l = some (.lst xs) ∧ xs.length < sizeLine ∧ 0 ≤ i ∧ i < 2 ^ 63 ∧ Q .non (upd H2 l (.lst (xs.take i.toNat ++ [y] ++ xs.drop i.toNat)))) {apos : Pos}
    (hbase : attributeBase o "insert" X.env (eval o X.env) = eval o X.env := by with_unfolding_all rfl)
    (hfew : ((backTo pos (starEach [a, b] X.env)).all (fun x => !x.1) && (backToKw pos (keywordEach [] X.env)).all (fun x => x.1.isSome) && decide ([a, b].length + ([] : List Keyword).length + (if ([] : List Keyword).isEmpty then 0 else 1) < 30)) = true := by with_unfolding_all rfl)
    (hline : (apos.endLine == pos.line) = true := by with_unfolding_all rfl) (hs : starEach [a, b] X.env = (false, eval a X.env) :: starEach [b] X.env := by with_unfolding_all rfl) (hplain : (backTo pos (starEach [b] X.env)).any (·.1) = false := by with_unfolding_all rfl) : wE X (.Call (.Attribute o "insert" apos) [a, b] [] pos) σ H Q :=
  toE (pe_bm PySem.F.plainAttrs_list PySem.F.slot_list_insert PySem.F.type_list_insert mt_insert cE cA hbase hfew hline hs hplain) q
end
end Vf
set_option maxRecDepth 100000
set_option maxHeartbeats 4000000
/-! Tm: terms of the program as data. Own work. -/
namespace Vf
open PySem PySem.Spec PyProof.Rows L2 LamX
/-- 1 to 8 signs a to z -/
def IsName (z : Str) : Prop := 1 ≤ z.length ∧ z.length ≤ 8 ∧ ∀ c ∈ z.cps.toList, 97 ≤ c ∧ c ≤ 122
inductive Tm
  | part (now : Bool) (z : Str) (w : Int)
  | all (first : Bool) (ts : List Tm)
  | rank (r : Int) (ts : List Tm)
namespace Tm
mutual
/-- the tuple that a term is -/
def py : Tm → PyData
  | .part n z w => .tuple [.str (if n then "now" else "of"), .str z, .int w]
  | .all f ts => .tuple [.str (if f then "first" else "last"), .list (pys ts)]
  | .rank r ts => .tuple [.str "rank", .int r, .list (pys ts)]
def pys : List Tm → List PyData
  | [] => []
  | t :: ts => py t :: pys ts
end
mutual
/-- names of the two lists, waits up to W, ranks in their bounds, no list empty -/
def ok (W : Int) (zs ns : List Str) : Tm → Prop
  | .part n z w => (if n then z ∈ ns else z ∈ zs) ∧ -W ≤ w ∧ w ≤ W
  | .all _ ts => ts ≠ [] ∧ oks W zs ns ts
  | .rank r ts => ts ≠ [] ∧ 1 ≤ r ∧ r ≤ ts.length ∧ oks W zs ns ts
def oks (W : Int) (zs ns : List Str) : List Tm → Prop
  | [] => True
  | t :: ts => ok W zs ns t ∧ oks W zs ns ts
end
mutual
def dep : Tm → Nat
  | .part _ _ _ => 0
  | .all _ ts => deps ts + 1
  | .rank _ ts => deps ts + 1
def deps : List Tm → Nat
  | [] => 0
  | t :: ts => max (dep t) (deps ts)
end
mutual
/-- parts -/
def cnt : Tm → Nat
  | .part _ _ _ => 1
  | .all _ ts => cnts ts
  | .rank _ ts => cnts ts
def cnts : List Tm → Nat
  | [] => 0
  | t :: ts => cnt t + cnts ts
end
mutual
/-- parts and lists -/
def siz : Tm → Nat
  | .part _ _ _ => 1
  | .all _ ts => sizs ts + 1
  | .rank _ ts => sizs ts + 1
def sizs : List Tm → Nat
  | [] => 0
  | t :: ts => siz t + sizs ts
end
mutual
/-- a term: no list empty or beyond bounds, ranks in their bounds -/
def wf : Tm → Prop
  | .part _ _ _ => True
  | .all _ ts => ts ≠ [] ∧ ts.length < 1000 ∧ wfs ts
  | .rank r ts => ts ≠ [] ∧ ts.length < 1000 ∧ 1 ≤ r ∧ r ≤ ts.length ∧ wfs ts
def wfs : List Tm → Prop
  | [] => True
  | t :: ts => wf t ∧ wfs ts
end
mutual
/-- the parts changed -/
def reb (g : Tm → Tm) : Tm → Tm
  | .part n z w => g (.part n z w)
  | .all f ts => .all f (rebs g ts)
  | .rank r ts => .rank r (rebs g ts)
def rebs (g : Tm → Tm) : List Tm → List Tm
  | [] => []
  | t :: ts => reb g t :: rebs g ts
end
mutual
theorem reb_id : ∀ t : Tm, reb (fun x => x) t = t
  | .part _ _ _ => rfl
  | .all f ts => by rw [reb, rebs_id ts]
  | .rank r ts => by rw [reb, rebs_id ts]
theorem rebs_id : ∀ ts : List Tm, rebs (fun x => x) ts = ts
  | [] => rfl
  | t :: ts => by rw [rebs, reb_id t, rebs_id ts]
end
theorem rebs_map (g : Tm → Tm) : ∀ ts : List Tm, rebs g ts = ts.map (reb g)
  | [] => rfl
  | t :: ts => by rw [rebs, rebs_map g ts]; rfl
theorem wfs_iff : ∀ {ts : List Tm}, wfs ts ↔ ∀ t ∈ ts, wf t
  | [] => by simp [wfs]
  | t :: ts => by rw [wfs, wfs_iff]; simp
theorem dep_mem : ∀ {ts : List Tm} {t : Tm}, t ∈ ts → dep t ≤ deps ts
  | [], _, h => by simp at h
  | a :: ts, t, h => by
    rw [deps]
    rcases List.mem_cons.1 h with e | e
    · rw [e]; omega
    · have := dep_mem e; omega
theorem pys_map : ∀ ts : List Tm, pys ts = ts.map py
  | [] => rfl
  | t :: ts => by rw [pys, pys_map ts]; rfl
theorem oks_iff {W : Int} {zs ns : List Str} : ∀ {ts : List Tm}, oks W zs ns ts ↔ ∀ t ∈ ts, ok W zs ns t
  | [] => by simp [oks]
  | t :: ts => by rw [oks, oks_iff]; simp
theorem pys_length (ts : List Tm) : (pys ts).length = ts.length := by rw [pys_map, List.length_map]
theorem cnts_sum : ∀ ts : List Tm, cnts ts = (ts.map cnt).sum
  | [] => rfl
  | t :: ts => by rw [cnts, cnts_sum ts]; rfl
theorem sizs_append : ∀ a b : List Tm, sizs (a ++ b) = sizs a + sizs b
  | [], b => by simp [sizs]
  | t :: a, b => by rw [List.cons_append, sizs, sizs, sizs_append a b]; omega
theorem cnts_append : ∀ a b : List Tm, cnts (a ++ b) = cnts a + cnts b
  | [], b => by simp [cnts]
  | t :: a, b => by rw [List.cons_append, cnts, cnts, cnts_append a b]; omega
theorem pys_append (a b : List Tm) : pys (a ++ b) = pys a ++ pys b := by rw [pys_map, pys_map, pys_map, List.map_append]
theorem oks_append {W : Int} {zs ns : List Str} {a b : List Tm} (h1 : oks W zs ns a) (h2 : oks W zs ns b) : oks W zs ns (a ++ b) := by
  rw [oks_iff] at *
  intro t ht
  rcases List.mem_append.1 ht with h | h
  · exact h1 t h
  · exact h2 t h
section
variable {W : Int} {zs ns : List Str} (hz : ∀ z ∈ zs, IsName z) (hn : ∀ z ∈ ns, IsName z)
include hz hn
theorem part_name {n : Bool} {z : Str} (h : if n = true then z ∈ ns else z ∈ zs) : IsName z := by
  cases n
  · exact hz z (by simpa using h)
  · exact hn z (by simpa using h)
mutual
theorem canLay : ∀ t : Tm, ok W zs ns t → (py t).canLay0 = true
  | .part n z w, h => by
    have e := (part_name hz hn h.1).2.2
    have e1 : PyData.strOk z = true := by
      unfold PyData.strOk
      rw [Array.all_eq_true']
      intro c hc
      have := e c (by simpa using hc)
      simp; omega
    have e2 : PyData.strOk (if n = true then "now" else "of") = true := by cases n <;> decide +kernel
    simp [py, PyData.canLay0, PyData.canLayAll0, e1, e2]
  | .all f ts, h => by
    have e2 : PyData.strOk (if f = true then "first" else "last") = true := by cases f <;> decide +kernel
    simp [py, PyData.canLay0, PyData.canLayAll0, e2, canLays ts h.2]
  | .rank r ts, h => by
    have e2 : PyData.strOk "rank" = true := by decide +kernel
    simp [py, PyData.canLay0, PyData.canLayAll0, e2, canLays ts h.2.2.2]
theorem canLays : ∀ ts : List Tm, oks W zs ns ts → PyData.canLayAll0 (pys ts) = true
  | [], _ => rfl
  | t :: ts, h => by
    rw [pys, PyData.canLayAll0, canLay t h.1, canLays ts h.2]; rfl
end
end
mutual
theorem depth_le : ∀ t : Tm, (py t).depth ≤ 2 * dep t + 1
  | .part n z w => by simp [py, PyData.depth, PyData.depthAll, dep]
  | .all f ts => by have := depths_le ts; simp [py, PyData.depth, PyData.depthAll, dep]; omega
  | .rank r ts => by have := depths_le ts; simp [py, PyData.depth, PyData.depthAll, dep]; omega
theorem depths_le : ∀ ts : List Tm, PyData.depthAll (pys ts) ≤ 2 * deps ts + 1
  | [] => by simp [pys, PyData.depthAll]
  | t :: ts => by have := depth_le t; have := depths_le ts; simp [pys, PyData.depthAll, deps]; omega
end
mutual
theorem dep_le : ∀ t : Tm, dep t ≤ siz t
  | .part n z w => by simp [dep]
  | .all f ts => by have := deps_le ts; simp [dep, siz]; omega
  | .rank r ts => by have := deps_le ts; simp [dep, siz]; omega
theorem deps_le : ∀ ts : List Tm, deps ts ≤ sizs ts
  | [] => by simp [deps]
  | t :: ts => by have := dep_le t; have := deps_le ts; simp [deps, sizs]; omega
end
mutual
theorem siz_pos : ∀ t : Tm, 1 ≤ siz t
  | .part n z w => by simp [siz]
  | .all f ts => by simp [siz]
  | .rank r ts => by simp [siz]
theorem len_le : ∀ ts : List Tm, ts.length ≤ sizs ts
  | [] => by simp
  | t :: ts => by have := siz_pos t; have := len_le ts; simp [sizs]; omega
end
mutual
theorem ok_wf {W : Int} {zs ns : List Str} : ∀ t : Tm, ok W zs ns t → siz t < 1000 → wf t
  | .part _ _ _, _, _ => trivial
  | .all f ts, h, l => by
    have := len_le ts
    simp only [siz] at l
    exact ⟨h.1, by omega, oks_wf ts h.2 (by omega)⟩
  | .rank r ts, h, l => by
    have := len_le ts
    simp only [siz] at l
    exact ⟨h.1, by omega, h.2.1, h.2.2.1, oks_wf ts h.2.2.2 (by omega)⟩
theorem oks_wf {W : Int} {zs ns : List Str} : ∀ ts : List Tm, oks W zs ns ts → sizs ts < 1000 → wfs ts
  | [], _, _ => trivial
  | t :: ts, h, l => by
    simp only [sizs] at l
    exact ⟨ok_wf t h.1 (by omega), oks_wf ts h.2 (by omega)⟩
end
mutual
theorem eqv_py : ∀ a b : Tm, PyData.eqv (py a) (py b) = true ↔ a = b
  | .part n z w, .part n' z' w' => by
    have : (if n = true then ("now" : Str) else "of") = (if n' = true then ("now" : Str) else "of") ↔ n = n' := by cases n <;> cases n' <;> decide +kernel
    simp [py, PyData.eqv, PyData.eqvAll, this]
  | .part n z w, .all f ts => by simp [py, PyData.eqv, PyData.eqvAll]
  | .part n z w, .rank r ts => by simp [py, PyData.eqv, PyData.eqvAll]
  | .all f ts, .part n z w => by simp [py, PyData.eqv, PyData.eqvAll]
  | .all f ts, .all f' ts' => by
    have : (if f = true then ("first" : Str) else "last") = (if f' = true then ("first" : Str) else "last") ↔ f = f' := by cases f <;> cases f' <;> decide +kernel
    simp [py, PyData.eqv, PyData.eqvAll, this, eqv_pys ts ts']
  | .all f ts, .rank r ts' => by simp [py, PyData.eqv, PyData.eqvAll]
  | .rank r ts, .part n z w => by simp [py, PyData.eqv, PyData.eqvAll]
  | .rank r ts, .all f ts' => by simp [py, PyData.eqv, PyData.eqvAll]
  | .rank r ts, .rank r' ts' => by simp [py, PyData.eqv, PyData.eqvAll, eqv_pys ts ts']
theorem eqv_pys : ∀ a b : List Tm, PyData.eqvAll (pys a) (pys b) = true ↔ a = b
  | [], [] => by simp [pys, PyData.eqvAll]
  | [], _ :: _ => by simp [pys, PyData.eqvAll]
  | _ :: _, [] => by simp [pys, PyData.eqvAll]
  | a :: as, b :: bs => by simp [pys, PyData.eqvAll, eqv_py a b, eqv_pys as bs]
end
theorem wt_int {i : Int} (h : i.natAbs < 2 ^ 47) : PyData.weight (.int i) ≤ 47 := by
  unfold PyData.weight
  split
  · omega
  · have : i.natAbs ≠ 0 := by rename_i g; intro w; exact g (by simpa using Int.natAbs_eq_zero.1 w)
    have := (Nat.log2_lt this).2 h
    omega
section
variable {W : Int} {zs ns : List Str} (hz : ∀ z ∈ zs, IsName z) (hn : ∀ z ∈ ns, IsName z) (hW : W < 10 ^ 12)
include hz hn hW
mutual
theorem weight_le : ∀ t : Tm, ok W zs ns t → sizs [t] ≤ 1000 → (py t).weight + 1 ≤ 100 * siz t
  | .part n z w, h, _ => by
    have e : z.cps.size ≤ 8 := (part_name hz hn h.1).2.1
    have e2 : (if n = true then ("now" : Str) else "of").cps.size ≤ 8 := by cases n <;> decide +kernel
    have e3 := wt_int (i := w) (by have := h.2; omega)
    simp only [py, PyData.weight, PyData.weightAll, siz] at e3 ⊢
    omega
  | .all f ts, h, l => by
    have e2 : (if f = true then ("first" : Str) else "last").cps.size ≤ 8 := by cases f <;> decide +kernel
    have := weights_le ts h.2 (by simp only [sizs, siz] at l; omega)
    simp only [py, PyData.weight, PyData.weightAll, siz] at this ⊢
    omega
  | .rank r ts, h, l => by
    have e2 : ("rank" : Str).cps.size ≤ 8 := by decide +kernel
    have := weights_le ts h.2.2.2 (by simp only [sizs, siz] at l; omega)
    have e4 : ts.length ≤ sizs ts := len_le ts
    have e3 := wt_int (i := r) (by have := h.2; simp only [sizs, siz] at l; omega)
    simp only [py, PyData.weight, PyData.weightAll, siz] at this e3 ⊢
    omega
theorem weights_le : ∀ ts : List Tm, oks W zs ns ts → sizs ts ≤ 1000 → PyData.weightAll (pys ts) ≤ 100 * sizs ts
  | [], _, _ => by simp [pys, PyData.weightAll]
  | t :: ts, h, l => by
    have l' : siz t + sizs ts ≤ 1000 := l
    have h1 := weight_le t h.1 (by simp only [sizs]; omega)
    have h2 := weights_le ts h.2 (by omega)
    have h3 := siz_pos t
    simp only [pys, PyData.weightAll, sizs]
    omega
end
mutual
theorem short : ∀ t : Tm, ok W zs ns t → siz t ≤ 1000 → (py t).intsShort 13 = true
  | .part n z w, h, _ => by
    have e3 := PyData.shown_int_le (i := w) (by have := h.2; omega)
    simp [py, PyData.intsShort, PyData.intsShortAll, e3]
  | .all f ts, h, l => by
    have := shorts ts h.2 (by simp only [siz] at l; omega)
    simp [py, PyData.intsShort, PyData.intsShortAll, this]
  | .rank r ts, h, l => by
    have := shorts ts h.2.2.2 (by simp only [siz] at l; omega)
    have e4 : ts.length ≤ sizs ts := len_le ts
    have e3 := PyData.shown_int_le (i := r) (by have := h.2; simp only [siz] at l; omega)
    simp [py, PyData.intsShort, PyData.intsShortAll, this, e3]
theorem shorts : ∀ ts : List Tm, oks W zs ns ts → sizs ts ≤ 1000 → PyData.intsShortAll 13 (pys ts) = true
  | [], _, _ => rfl
  | t :: ts, h, l => by
    have l' : siz t + sizs ts ≤ 1000 := l
    rw [pys, PyData.intsShortAll, short t h.1 (by omega), shorts ts h.2 (by omega)]; rfl
end
mutual
theorem shows : ∀ t : Tm, ok W zs ns t → siz t ≤ 1000 → (py t).showable = true
  | .part n z w, h, _ => by
    have e3 : w.natAbs.log2 < 1920 := by
      rcases Nat.eq_zero_or_pos w.natAbs with e | e
      · rw [e]; decide
      · exact (Nat.log2_lt (by omega)).2 (by have := h.2; omega)
    simp [py, PyData.showable, PyData.showableAll, e3]
  | .all f ts, h, l => by
    have := showss ts h.2 (by simp only [siz] at l; omega)
    simp [py, PyData.showable, PyData.showableAll, this]
  | .rank r ts, h, l => by
    have := showss ts h.2.2.2 (by simp only [siz] at l; omega)
    have e4 : ts.length ≤ sizs ts := len_le ts
    have e3 : r.natAbs.log2 < 1920 := (Nat.log2_lt (by have := h.2; omega)).2 (by have := h.2; simp only [siz] at l; omega)
    simp [py, PyData.showable, PyData.showableAll, this, e3]
theorem showss : ∀ ts : List Tm, oks W zs ns ts → sizs ts ≤ 1000 → PyData.showableAll (pys ts) = true
  | [], _, _ => rfl
  | t :: ts, h, l => by
    have l' : siz t + sizs ts ≤ 1000 := l
    rw [pys, PyData.showableAll, shows t h.1 (by omega), showss ts h.2 (by omega)]; rfl
end
/-- a term's text is of a size that repr makes -/
theorem shown_fits (t : Tm) (h : ok W zs ns t) (l : siz t ≤ 29) : (py t).showable = true ∧ (py t).shown.length ≤ sizeLine ∧ (py t).depth ≤ 60 := by
  have h1 := weight_le hz hn hW t h (by simp only [sizs]; omega)
  have h2 := depth_le t
  have h3 := dep_le t
  refine ⟨shows hz hn hW t h (by omega), ?_, by omega⟩
  have := shown_le13 (d := py t) ?_ (short hz hn hW t h (by omega))
  · rw [sizeLine_eq]; omega
  · unfold PyData.layable0
    rw [canLay hz hn t h]
    simp only [Bool.true_and, Bool.and_eq_true, decide_eq_true_eq]
    exact ⟨by omega, by omega⟩
end
end Tm
end Vf
set_option maxRecDepth 100000
set_option maxHeartbeats 4000000
/-! Own: instances of the text's own classes: fields, methods, making, ==, isinstance. Own work. -/
namespace Vf
open PySem PySem.Spec PyProof.Rows L2 LamX
section
variable {m : Md} {N : List Str} {sc : Scope} {j k : Nat} {X : Cx} {a b c e o : Expr} {es : List Expr} {σ : L2.St} {H : Hp} {Q : VK} {nx : L2.St → Hp → Prop} {rt : VK} {bk ct : L2.St → Hp → Prop} {pos p p1 p2 apos : Pos} {x mn f : Str} {C : Addr} {sp : Sp} {dvs : List V} {CX : CXT} {E : XK}
/-! ### fields -/
theorem w_fld (h : At m N sc k X) (c : Cls m.K C) (n : NoAttr m.K C f) (q : wE X e σ H fun x H1 => ∃ a dx fs v, x = .ref a ∧ H1 a = some (.ins C dx fs) ∧ fs.lookup f = some v ∧ Q v H1)
    (hb : attributeBase e f X.env (eval e X.env) = eval e X.env := by with_unfolding_all rfl) : wE X (.Attribute e f pos) σ H Q := by
  refine toE (pe_fld cE hb) (wE.mono q fun x H1 ⟨a, dx, fs, v, ex, ea, l, q1⟩ => ?_)
  exact ⟨a, C, dx, fs, v, ex, ea, by rw [h.kk]; exact c, by rw [h.kk]; exact n, l, q1⟩
theorem s_fld (h : At m N sc k X) (c : Cls m.K C) (n : NoAttr m.K C f) (q : wE X e σ H fun y H1 => wE X o σ H1 fun x H2 => ∃ a dx fs, x = .ref a ∧ H2 a = some (.ins C dx fs) ∧ fs.length < 1000 ∧ nx σ (upd H2 a (.ins C dx (putF f y fs))))
    (hs : swapsWith e (some (.Attribute o f p1)) pos.line X.env = pure false := by with_unfolding_all rfl) : wS X (.Assign [.Attribute o f p1] e pos) ⟨nx, rt, bk, ct⟩ σ H := by
  refine toS (ps_fld cE cE hs) (wE.mono q fun y H1 q1 => wE.mono q1 fun x H2 ⟨a, dx, fs, ex, ea, l, q2⟩ => ?_)
  exact ⟨a, C, dx, fs, ex, ea, by rw [h.kk]; exact c, by rw [h.kk]; exact n, l, q2⟩
/-! ### methods -/
/-- a method of the class at C that keeps sp -/
structure MetX (m : Md) (CX : CXT) (k : Nat) (C : Addr) (mn : Str) (sp : Sp) (dvs : List V) : Prop where
  ex : ∃ (f : Addr) (fd : FuncData) (ps : List Str) (ds : List Value), FnG m CX k f fd ps sp ∧ Cls m.K C ∧ Meth m.K C mn f ∧ Binds m.K fd ps ds ∧ Vals dvs ds
/-- the callee's run, as a call -/
theorem run_call {pins : List (Addr × Obj)} {s : Shared} {g : Addr} {fd : FuncData} {ps : List Str} {ds us : List Value} {vs : List V} (h : At m N sc k X) (F : FnG m CX j g fd ps sp) (hk : j ≤ k) (hx : Passes CX X E) (I : Inv X pins σ H s) (b : Binds m.K fd ps ds) (d : Vals dvs ds) (r : Vals vs us) (q : sp (vs ++ dvs) H Q E) :
    wpAny (model X.prog X.w) X.A (call (.ref g) us) (EP X pins σ Q) X.xe s := by
  have r2 := Vals.append r d
  refine wpAny_call (codeAny_mono (fnG_run (us := us ++ ds) (vs := vs ++ dvs) h F hk hx I (b s us (by rw [← h.kk]; exact I.kIn) (by rw [← r2.length]; exact F.len _ _ _ _ q)) r2 q) fun r s' hq => ?_)
  match r, hq with
  | .error e, hq => exact hq
  | .ok (.ret u), hq => exact hq
theorem w_metX {pl : Sem Bool} (h : At m N sc k X) (c : MetX m CX j C mn sp dvs) (hk : j ≤ k) (hx : Passes CX X E)
    (q : wE X o σ H fun x H1 => ∃ a dx fs, x = .ref a ∧ H1 a = some (.ins C dx fs) ∧ fs.lookup mn = none ∧ wA X (e :: es) σ H1 fun vs H2 => sp (x :: (vs ++ dvs)) H2 Q E)
    (hst : starEach (e :: es) X.env = (false, eval e X.env) :: starEach es X.env := by with_unfolding_all rfl) (hpl : (backTo pos (starEach es X.env)).any (·.1) = false := by with_unfolding_all rfl)
    (ht : eval (.Call (.Attribute o mn apos) (e :: es) [] pos) X.env = (do
      let ov ← eval o X.env
      standAt apos.atName
      let (f, first) ← holding [ov] (getMethod ov mn pl)
      callWith pos f first (backTo pos (starEach (e :: es) X.env)) (backToKw pos (keywordEach [] X.env))) := by with_unfolding_all rfl) : wE X (.Call (.Attribute o mn apos) (e :: es) [] pos) σ H Q := by
  obtain ⟨g, fd, ps, ds, F, cl, me, b, d⟩ := c.ex
  unfold wE
  intro pins s I
  refine PySem.W.methodCall_KW (pl := pl) (thn ((cE (X := X) (e := o)).run pins s σ H _ I q) fun u s1 ⟨x, H1, I1, rx, i, dx, fs, ex, ea, l, q1⟩ => ?_) ht
  subst ex
  obtain rfl : u = Value.ref i := rx
  refine getmeth_ok I1 ea (by rw [h.kk]; exact cl) (by rw [h.kk]; exact me) l ?_
  refine PySem.W.callWith_K (first := [.ref i]) (h₀ := X.base) I.ok.mod.kin (by rw [h.kk]; exact me.kp) (thn ((cA (X := X) (es := e :: es)).run pos pins s1 σ H1 _ I1 q1) fun us s2 ⟨vs, H2, I2, r, q2⟩ => ⟨I2.kIn, ?_⟩) hst hpl
  exact run_call (us := .ref i :: us) (vs := .ref i :: vs) h F hk hx I2 b d (.cons rfl r) q2
theorem w_met0 {pl : Sem Bool} (h : At m N sc k X) (c : MetX m CX j C mn sp dvs) (hk : j ≤ k) (hx : Passes CX X E)
    (q : wE X o σ H fun x H1 => ∃ a dx fs, x = .ref a ∧ H1 a = some (.ins C dx fs) ∧ fs.lookup mn = none ∧ sp (x :: dvs) H1 Q E)
    (ht : eval (.Call (.Attribute o mn apos) [] [] pos) X.env = (do
      let ov ← eval o X.env
      standAt apos.atName
      let (f, first) ← holding [ov] (getMethod ov mn pl)
      callWith pos f first (backTo pos (starEach [] X.env)) (backToKw pos (keywordEach [] X.env))) := by with_unfolding_all rfl) : wE X (.Call (.Attribute o mn apos) [] [] pos) σ H Q := by
  obtain ⟨g, fd, ps, ds, F, cl, me, b, d⟩ := c.ex
  unfold wE
  intro pins s I
  refine PySem.W.methodCall_KW (pl := pl) (thn ((cE (X := X) (e := o)).run pins s σ H _ I q) fun u s1 ⟨x, H1, I1, rx, i, dx, fs, ex, ea, l, q1⟩ => ?_) ht
  subst ex
  obtain rfl : u = Value.ref i := rx
  refine getmeth_ok I1 ea (by rw [h.kk]; exact cl) (by rw [h.kk]; exact me) l ?_
  exact PySem.W.callWith_K0 (first := [.ref i]) I1.kIn (by rw [h.kk]; exact me.kp) (run_call (us := [.ref i]) (vs := [.ref i]) h F hk hx I1 b d (.cons rfl .nil) q1)
/-! ### making -/
/-- the class x, at C, whose __init__ keeps sp -/
structure MakX (m : Md) (CX : CXT) (k : Nat) (x : Str) (C : Addr) (sp : Sp) (dvs : List V) : Prop where
  ex : ∃ (f : Addr) (fd : FuncData) (ps : List Str) (ds : List Value), FnG m CX k f fd ps sp ∧ Mk m.K C f ∧ m.mg x = some (.ref C) ∧ Binds m.K fd ps ds ∧ Vals dvs ds
theorem w_makX (h : At m N sc k X) (c : MakX m CX j x C sp dvs) (hk : j + 1 ≤ k) (hg : sc.names.lookup x = some .globalImplicit) (hx : L2.PassesAt CX X σ E)
    (q : wA X (e :: es) σ H fun vs H1 => ∀ i dx, H1 i = none → H1 dx = none → dx ≠ i → sp (.ref i :: (vs ++ dvs)) (upd (upd H1 dx (.own i)) i (.ins C dx [])) (fun v H2 => v = .non ∧ Q (.ref i) H2) E)
    (hdb : (x == ("__debug__" : Str)) = false := by with_unfolding_all decide) (he : starEach (e :: es) X.env = (false, eval e X.env) :: starEach es X.env := by with_unfolding_all rfl) (hpl : (backTo pos (starEach es X.env)).any (·.1) = false := by with_unfolding_all rfl) : wE X (.Call (.Name x p) (e :: es) [] pos) σ H Q := by
  obtain ⟨g, fd, ps, ds, F, M, hm, b, d⟩ := c.ex
  unfold wE
  intro pins s I
  refine wpAny_Call_Name_kw (ld_glob (u := .ref C) I (h.gl hg) (by rw [h.mm]; exact hm) ?_ hdb)
  refine PySem.W.callWith_K (h₀ := X.base) I.ok.mod.kin (by rw [h.kk]; exact M.kp) (thn ((cA (X := X) (es := e :: es)).run pos pins s σ H _ I q) fun us s1 ⟨vs, H1, I1, r, q1⟩ => ⟨I1.kIn, ?_⟩) he hpl
  have hq := q1 (s1.heap.objs.size + 1) s1.heap.objs.size (I1.hok.fresh (Nat.le_succ _)) (I1.hok.fresh (Nat.le_refl _)) (Nat.ne_of_lt (Nat.lt_succ_self _))
  have I2 := Inv.made (C := C) I1
  have r2 : Vals (V.ref (s1.heap.objs.size + 1) :: (vs ++ dvs)) (Value.ref (s1.heap.objs.size + 1) :: (us ++ ds)) := .cons rfl (Vals.append r d)
  have e0 := I2.env0.make C us []
  rw [h.pp, h.ww, h.kk, h.mm, h.bb] at e0
  have rc := F.run _ X.stack _ _ ⟨Value.ref (s1.heap.objs.size + 1) :: us, []⟩ (Value.ref (s1.heap.objs.size + 1) :: (us ++ ds)) _ _ E (by exact h.gd) ((h.room.mono hk).make C us []) e0
    (b _ (Value.ref (s1.heap.objs.size + 1) :: us) (by rw [← h.kk]; exact I2.kIn) (by have z := r2.length; rw [F.len _ _ _ _ hq] at z; exact z.symm)) r2 hq
  rw [← h.pp, ← h.ww] at rc
  refine wpAny_call (make_map (f := g) I1.kIn (by rw [h.kk]; exact M.makes) (by rw [h.kk]; exact M.init) (by rw [h.kk]; exact beq_iff_eq.mp M.fn) (codeAny_mono rc fun r s' hq' => ?_))
  match r, hq' with
  | .error e, hq' => exact hx pins _ _ e s' I2 hq'
  | .ok (.ret u), hq' =>
    obtain ⟨v, H', I3, rv, ev, q3⟩ := I2.after hq'
    subst ev
    exact ⟨rv, ⟨V.ref (s1.heap.objs.size + 1), H', I3, rfl, q3⟩⟩
/-! ### isinstance -/
theorem g_isi (h : At m N sc k X) {x c : V} {t u : Value} {r : Bool} (hc : ClsV c u) (ht : TyX m.K H x t) (hr : PySem.W.kitOne m.K t u = some r) (q : Q (.bl r) H) : gCall X (.builtin "isinstance") [x, c] H Q :=
  ⟨_, call_isi, x, c, t, u, r, rfl, hc, by rw [h.kk]; exact ht, by rw [h.kk]; exact hr, q⟩
/-- == by an own __eq__ -/
theorem g_eqIns (h : At m N sc k X) (c : MetX m CX j C "__eq__" sp []) (hk : j ≤ k) (hx : Passes CX X E) {i dx : Addr} {fs : List (Str × V)} {y : V} {t : Value} (hi : H i = some (.ins C dx fs)) (ty : TyX m.K H y t) (nf : PySem.W.notFirst m.K C t = true)
    (q : sp [.ref i, y] H (fun z H' => ∃ r, z = .bl r ∧ Q (.bl r) H') E) : gOp X (compareOp .Eq) (.ref i) y H Q := by
  obtain ⟨g, fd, ps, ds, F, cl, me, b, d⟩ := c.ex
  intro pins s σ v u I rx ry
  cases rx
  have ty' : TyX X.K H y t := by rw [h.kk]; exact ty
  obtain ⟨P, Z, p, _⟩ := kit_of I ry ty'
  obtain ⟨mA, J, _⟩ := ins_get I.hok hi
  obtain ⟨od, J, _⟩ := J.look
  obtain ⟨mm, hF⟩ := I.fr
  show wpAny (model X.prog X.w) X.A (richCompare .Eq (.ref i) u) (EP X pins σ Q) X.xe s
  have hu := h.hu
  refine PySem.W.cmp_K (op := .Eq) (tb := t) (by omega) hF I.ok.mod.kin J (Z.ty _ _ I.kIn p) (by rw [h.kk]; exact nf) (by rw [h.kk]; exact me.at_) (by rw [h.kk]; exact me.fn) ?_
  refine wpAny_mono (run_call (Q := fun z H' => ∃ r, z = .bl r ∧ Q (.bl r) H') (us := [.ref i, u]) (vs := [.ref i, y]) h F hk hx I b d (.cons rfl (.cons ry .nil)) (by cases d; simpa using q)) (fun w s' hq => ?_) fun _ _ x => x
  obtain ⟨z, H', I', rz, r, ez, q'⟩ := hq
  subst ez
  cases rz
  exact ⟨.bl r, _, I', rfl, q'⟩
/-! != where the class has an own __eq__ and no __ne__ -/
section
variable {M : Model} {prog : Program} {w : World} {A : Around} {EE : Value → Shared → Prop} {s : Shared} {K : PySem.W.Frag} {i g : Addr} {oi : Obj} {od : Option Obj} {u tb : Value}
theorem bound_ne {args : List Value} {R : Option Value → Shared → Prop} (KI : K.In s.heap) (J : PySem.W.InstAt s.heap i oi C od) (hs : PySem.W.findIn K (.ref C) "__ne__" = some (some (.builtin "object.__ne__")))
    (q : wpAny M A (call (.builtin "object.__ne__") (.ref i :: args)) (fun v => R (some v)) EE s) : wpAny M A (callSpecialIfBound? (.ref i) "__ne__" args) R EE s := by
  have last : wpAny M A (do let v ← call (.builtin "object.__ne__") ([.ref i] ++ args); pure (some v)) R EE s := wpAny_bind (wpAny_mono q (fun v s' z => wpAny_pure z) fun _ _ z => z)
  simp only [callSpecialIfBound?, bindSpecialIfBound?]
  refine wpAny_holding (wpAny_bind (wpAny_bind (wpAny_bind (J.type.here ((PySem.W.looks_findIn KI hs).here (wpAny_bind (wpAny_askSetting (wpAny_ite ?_))))))))
  split
  · exact wpAny_bind (wpAny_of_eq (F.cmp_object.ne.bind _) (wpAny_pure (by exact last)))
  · exact wpAny_tryCatch (wpAny_bind (wpAny_of_eq (F.cmp_object.ne.bind _) (wpAny_pure (by exact last))))
theorem body_ne (KI : K.In s.heap) (J : PySem.W.InstAt s.heap i oi C od) (he : PySem.W.findIn K (.ref C) "__eq__" = some (some (.ref g))) (hf : PySem.W.isFn K (.ref g) = true) (hu : A.units < cLine) {R : Fin → Shared → Prop}
    (q : wpAny M A (call (.ref g) [.ref i, u]) (fun v s' => ∃ b, v = .bool b ∧ R (.done (.ret (.bool (!b)))) s') EE s) : wpAny M A (Builtin.«object.__ne__» ⟨[.ref i, u], []⟩) R EE s := by
  unfold Builtin.«object.__ne__»
  repeat (first
    | with_reducible refine wpAny_cRoomFor hu ?_
    | (refine wpAny_bind (m := callSpecialIfBound? (.ref i) (Str.ofString "__eq__") [u]) (PySem.W.ifBound_K KI J he hf (wpAny_mono q (fun r s' z => by
          obtain ⟨b, rfl, hq⟩ := z
          repeat (first | exact hq | exact wpAny_pure hq | exact wpAny_truthy_bool hq | (refine wpAny_bind (m := truthy (.bool _)) (wpAny_truthy_bool ?_)) | wp_step)) fun _ _ z => z)))
    | wp_step)
end
/-- the callee's run one built-in deeper -/
theorem run_call1 {pins : List (Addr × Obj)} {s : Shared} {g : Addr} {fd : FuncData} {ps : List Str} {us : List Value} {vs : List V} (h : At m N sc k X) (F : FnG m CX j g fd ps sp) (hk : j + 1 ≤ k) (hx : Passes CX X E) (I : Inv X pins σ H s) (b : Binds m.K fd ps []) (r : Vals vs us) (q : sp vs H Q E) :
    wpAny (model X.prog X.w) X.A.in1 (call (.ref g) us) (EP X pins σ Q) X.xe s := by
  have e0 := I.env0.in1
  rw [h.pp, h.ww, h.kk, h.mm, h.bb] at e0
  have hl : us.length = ps.length := by rw [← r.length]; exact F.len _ _ _ _ q
  have rc := F.run X.A.in1 X.stack s H ⟨us, []⟩ us vs Q E (by exact h.gd) ((h.room.mono hk).in1) e0 (by have := b s us (by rw [← h.kk]; exact I.kIn) (by simpa using hl); simpa using this) r q
  rw [← h.pp, ← h.ww] at rc
  refine wpAny_call (codeAny_mono rc fun r s' hq => ?_)
  match r, hq with
  | .error e, hq => exact hx pins σ H s e s' I hq
  | .ok (.ret u), hq => exact I.after hq
/-- != where the class has an own __eq__ and no __ne__ -/
theorem g_neIns (h : At m N sc k X) (c : MetX m CX j C "__eq__" sp []) (hn : PySem.W.findIn m.K (.ref C) "__ne__" = some (some (.builtin "object.__ne__"))) (hm : PySem.W.mroIn m.K C (.type "object") = some true) (hk : j + 1 ≤ k) (hx : Passes CX X E) {i dx : Addr} {fs : List (Str × V)} {y : V} {t : Value} (hi : H i = some (.ins C dx fs)) (ty : TyX m.K H y t) (nf : PySem.W.notFirst m.K C t = true)
    (q : sp [.ref i, y] H (fun z H' => ∃ r, z = .bl r ∧ Q (.bl (!r)) H') E) : gOp X (compareOp .NotEq) (.ref i) y H Q := by
  obtain ⟨g, fd, ps, ds, F, cl, me, b, d⟩ := c.ex
  intro pins s σ v u I rx ry
  cases rx
  cases d
  have ty' : TyX X.K H y t := by rw [h.kk]; exact ty
  obtain ⟨P, Z, p, _⟩ := kit_of I ry ty'
  obtain ⟨mA, J, _⟩ := ins_get I.hok hi
  obtain ⟨od, J, _⟩ := J.look
  have hu := h.hu
  have KI := I.kIn
  have hb := Z.ty (model X.prog X.w) _ I.kIn p
  have run := run_call1 (Q := fun z H' => ∃ r, z = .bl r ∧ Q (.bl (!r)) H') (us := [.ref i, u]) (vs := [.ref i, y]) h F hk hx I b (.cons rfl (.cons ry .nil)) (by simpa using q)
  have one : wpAny (model X.prog X.w) X.A (tryCompare (.ref i) (cmpInfo .NotEq).2.1 u) (fun r s' => ∃ v, r = some v ∧ EP X pins σ Q v s') X.xe s := by
    unfold tryCompare
    refine wpAny_bind (bound_ne KI J (by rw [h.kk]; exact hn) (wpAny_call (codeAny_call_builtin PySem.F.cmp_object.ne.plain PySem.F.cmpEntry_ne (PySem.W.check_slot PySem.F.cmpKind_ne PySem.F.cmpSplit_ne (J.type.andThen (PySem.W.looks_mroIn KI (by rw [h.kk]; exact hm))) (PySem.F.cmpArgs_ne _ _)
      (body_ne (A := X.A.in1) KI J (by rw [h.kk]; exact me.at_) (by rw [h.kk]; exact me.fn) (by show X.A.units + 1 < cLine; omega) (wpAny_mono run (fun v s' hv => ?_) fun _ _ z => z))))))
    obtain ⟨z, H', I', rz, r, ez, q'⟩ := hv
    subst ez
    cases rz
    exact ⟨r, rfl, wpAny_pure ⟨_, rfl, .bl (!r), H', I', rfl, q'⟩⟩
  show wpAny (model X.prog X.w) X.A (richCompare .NotEq (.ref i) u) (EP X pins σ Q) X.xe s
  unfold richCompare
  simp only [oneThing_ref]
  refine wpAny_holding (wpAny_bind (wpAny_cRoomFor (by omega) ?_))
  refine wpAny_bind (J.type.here (wpAny_bind (hb.here ?_)))
  have nf' : PySem.W.notFirst X.K C t = true := by rw [h.kk]; exact nf
  split
  · rename_i w
    have e : PySem.W.subIn X.K t (.ref C) = some false := by
      rcases Bool.or_eq_true_iff.mp nf' with e | e
      · rw [beq_iff_eq.mp e] at w; simp at w
      · exact beq_iff_eq.mp e
    refine wpAny_bind ((PySem.W.looks_subIn KI e).here ?_)
    simp only [Bool.false_eq_true, if_false]
    refine wpAny_bind (wpAny_mono one (fun r s' z => ?_) fun _ _ z => z)
    obtain ⟨v, rfl, hq⟩ := z
    exact wpAny_pure hq
  · refine wpAny_bind (wpAny_pure ?_)
    simp only [Bool.false_eq_true, if_false]
    refine wpAny_bind (wpAny_mono one (fun r s' z => ?_) fun _ _ z => z)
    obtain ⟨v, rfl, hq⟩ := z
    exact wpAny_pure hq
end
end Vf
set_option maxRecDepth 100000
set_option maxHeartbeats 4000000
/-! Exn: defs that raise own errors with a field, and what catches them. Own work. -/
namespace Vf
open PySem PySem.Spec PyProof.Rows L2 LamX
/-- how the frame of a def stands -/
structure Frm (X : Cx) : Prop where
  stk : X.stack = X.env :: X.outer
  frm : X.env.frame = some X.env.locals
section
variable {m : Md} {N ps : List Str} {k : Nat} {x qual : Str} {st : Stmt} {f : Addr} {fd : FuncData} {sp : Sp}
/-- a def that may raise, by its body -/
theorem fnG_ofX (F : C8.Fun m.K x qual st f fd) (S : FnScope N ps (C8.fnScope st)) (len : ∀ vs H Q E, sp vs H Q E → vs.length = ps.length)
    (hb : ∀ (X : Cx) (vs : List V) (H : Hp) (Q : VK) (E : XK), At m N (C8.fnScope st) k X → AtM X qual fd.code → Frm X → L2.Takes X (fun cls d _ H => E cls d H) → sp vs H Q E → wB X (C8.fnBody st) { nx := fun _ H' => Q .non H', rt := Q } (start N vs) H) : FnG m (L2.CX m.P m.w) (k + 1) f fd ps sp := by
  obtain ⟨oc, od, dV, kV, doc, pm, an, cdv, ct, osl, rfl, lk, hc⟩ := F.ex
  refine ⟨len, fun A outer s H args us vs Q E hg hr e0 bt r q => ?_⟩
  refine LamX.run_ofS (CX := L2.CX m.P m.w) (N := N) lk hc S hr e0 bt r (len _ _ _ _ q) fun hr' => ⟨_, cB, ?_⟩
  exact hb (cxOf (L2.CX m.P m.w) m.P m.w m.K m.mg m.base N qual (C8.fnScope st) f cdv A outer s H E) vs H Q E ⟨rfl, rfl, rfl, rfl, rfl, rfl, rfl, rfl, hr', L2.passes_of rfl, S.nd, hg⟩ ⟨rfl, rfl, fun _ => rfl, rfl⟩ ⟨rfl, rfl⟩ (L2.takes_of rfl rfl rfl rfl) q
theorem calX_of (F : C8.Def m.K m.mg x st f fd) (b : Binds m.K fd ps []) (S : FnScope N ps (C8.fnScope st)) (len : ∀ vs H Q E, sp vs H Q E → vs.length = ps.length)
    (hb : ∀ (X : Cx) (vs : List V) (H : Hp) (Q : VK) (E : XK), At m N (C8.fnScope st) k X → AtM X x fd.code → Frm X → L2.Takes X (fun cls d _ H => E cls d H) → sp vs H Q E → wB X (C8.fnBody st) { nx := fun _ H' => Q .non H', rt := Q } (start N vs) H) : CalX m (L2.CX m.P m.w) (k + 1) x sp [] :=
  ⟨f, fd, ps, [], fnG_ofX F.fn S len hb, F.mgf, F.kp, b, .nil⟩
end
/-- an own error class x at C whose __init__ stores its one argument in the field fn -/
structure ErrC (m : Md) (x : Str) (C : Addr) (fn : Str) : Prop where
  oex : OexC m.K C
  xf : XfC m.K C
  no : PySem.W.findIn m.K (.ref C) fn = some none
  gC : m.mg x = some (.ref C)
  self : PySem.W.exmOne m.K (.ref C) (.ref C) = some true
  init : ∃ (fI : Addr) (fd : FuncData) (ps : List Str), PySem.W.findIn m.K (.ref C) "__init__" = some (some (.ref fI)) ∧ PySem.W.typeIn m.K (.ref fI) = some (.type "function") ∧ Binds m.K fd ps [] ∧
    FnOk m.P m.w m.K m.mg m.base C8.CX0 1 fI fd ps (fun vs H Q _ => ∃ (a : Addr) (v : V), vs = [.ref a, v] ∧ H a = some (exo a C none) ∧ ∀ dx, H dx = none → dx ≠ a → Q .non (upd (upd H dx (exd dx [(fn, v)])) a (exo a C (some dx))))
section
variable {m : Md} {N : List Str} {sc : Scope} {i k : Nat} {X : Cx} {a b c e o : Expr} {es : List Expr} {σ : L2.St} {H : Hp} {Q : VK} {D : Ends} {W Wout : WX} {pos p p1 p2 pos2 np pos' : Pos} {x nm fn : Str} {C : Addr}
/-- raise x(e) -/
theorem s_raise (h : At m N sc k X) (tk : L2.Takes X W) (c : ErrC m x C fn) (hk : 2 ≤ k) (hg : sc.names.lookup x = some .globalImplicit)
    (q : wE X e σ H fun v H1 => ∀ d, H1 d = none → W (.ref C) (some d) σ (upd H1 d (.xd [(fn, v)])))
    (hdb : (x == ("__debug__" : Str)) = false := by with_unfolding_all decide) (he : starEach [e] X.env = (false, eval e X.env) :: starEach [] X.env := by with_unfolding_all rfl) (hpl : (backTo pos (starEach [] X.env)).any (·.1) = false := by with_unfolding_all rfl) : wS X (.Raise (some (.Call (.Name x p) [e] [] pos)) none pos2) D σ H := by
  obtain ⟨fI, fd, ps, iC, tI, b, F⟩ := c.init
  have F' := F
  rw [← h.pp, ← h.ww, ← h.kk, ← h.mm, ← h.bb] at F'
  refine toS (L2.ps_raise h.calm tk (pmk_oex (dvs := []) (ds := []) (by rw [h.kk]; exact c.oex) (by rw [h.kk]; exact iC) (by rw [h.kk]; exact tI) F' (h.room.mono hk) (by rw [h.kk]; exact b) .nil C8.pass0 (h.gl hg) (by rw [h.mm]; exact c.gC) (pa_cons (cE (e := e)) pa_nil he) hdb he hpl)) ?_
  show tCons (wE X e) tNil σ H _
  refine wE.mono q fun v H1 q1 => ?_
  refine ⟨(show 1 ≤ 1000 by decide), fun a ha => ⟨a, v, rfl, upd_same, fun dx hdx hne => ⟨rfl, dx, [(fn, v)], upd_same, by rw [upd_ne hne, upd_same], by rw [upd_ne hne] at hdx; exact hdx, ?_⟩⟩⟩
  have hdx1 : H1 dx = none := by rw [upd_ne hne] at hdx; exact hdx
  have e1 : upd (del (upd (upd (upd H1 a (exo a C none)) dx (exd dx [(fn, v)])) a (exo a C (some dx))) a) dx (.xd [(fn, v)]) = upd H1 dx (.xd [(fn, v)]) := by
    funext z
    by_cases z1 : z = dx
    · rw [z1, upd_same, upd_same]
    · rw [upd_ne z1, upd_ne z1]
      by_cases z2 : z = a
      · rw [z2, del_same, ha]
      · rw [del_ne z2, upd_ne z2, upd_ne z1, upd_ne z2]
  rw [e1]
  exact q1 dx hdx1
theorem At.tr (h : At m N sc k X) {pn : List (Addr × Obj)} {xe : Value → Shared → Prop} (hp : PassesOwn (model X.prog X.w) X.A X.env xe) : At m N sc k (X.tr pn xe) := ⟨h.pp, h.ww, h.kk, h.mm, h.bb, h.nn, h.ss, h.calm, h.room, hp, h.nd, h.gd⟩
theorem Frm.tr (h : Frm X) {pn : List (Addr × Obj)} {xe : Value → Shared → Prop} : Frm (X.tr pn xe) := ⟨h.stk, h.frm⟩
/-- the place of an except suite: a the exception, cls its class, d its dict -/
structure Sui (m : Md) (N : List Str) (sc : Scope) (a : Addr) (cls : Value) (d : Option Addr) (X : Cx) : Prop where
  ex : ∃ (X0 : Cx) (oe : Obj) (pn : List (Addr × Obj)), X = X0.suite a ((a, oe) :: pn) ∧ Zc cls d oe ∧ (∃ vs, oe.data = .fields vs)
  kk : X.K = m.K
  nn : X.N = N
  ss : X.env.scope = sc
  nd : N.Nodup
/-- try: .. except x as nm: .. -/
theorem s_tryAs {body suite : List Stmt} {b0 : Stmt} (h : At m N sc k X) (fr : Frm X) (n : NL N sc i nm) (hx : sc.names.lookup x = some .globalImplicit) (hC : m.mg x = some (.ref C)) (tk : L2.Takes X Wout)
    (q : ∀ X', At m N sc k X' → Frm X' → L2.Takes X' (fun cls d σ H => ∃ r, PySem.W.exmOne m.K cls (.ref C) = some r ∧
        (r = true → ∀ a, H a = none → ∀ X2, Sui m N sc a cls d X2 → wB X2 (b0 :: suite) { nx := fun σ' H' => D.nx (σ'.set i none) H', rt := D.rt, bk := fun σ' H' => D.bk (σ'.set i none) H', ct := fun σ' H' => D.ct (σ'.set i none) H' } (σ.set i (some (.ref a))) H) ∧ (r = false → Wout cls d σ H)) → wB X' body D σ H)
    (hdb : (x == ("__debug__" : Str)) = false := by with_unfolding_all decide) : wS X (.Try body [.ExceptHandler (some (.Name x np)) (some nm) (b0 :: suite) pos'] [] [] pos) D σ H := by
  refine toS (L2.ps_try_as (c := .ref C) (i := i) (Wout := Wout) (tb := fun W D σ H => ∀ X', At m N sc k X' → Frm X' → L2.Takes X' W → wB X' body D σ H) (ts := fun a cls d D σ H => ∀ X2, Sui m N sc a cls d X2 → wB X2 (b0 :: suite) D σ H)
    fr.stk fr.frm (by rw [h.nn]; exact h.nd) (by rw [h.nn]; exact n.ix) (by show X.env.scope.names.lookup nm = _; rw [h.ss]; exact n.loc) ⟨h.gl hx, hdb, .inl (by rw [h.mm]; exact hC)⟩ tk
    (fun W pn xe tk' ps => ⟨fun pins s σ H D I z => (cB (X := X.tr pn xe) (sts := body)).run pins s σ H D I (z _ (h.tr ps) fr.tr tk')⟩) (fun a oe cls d pn hz hf => ⟨fun pins s σ H D I z => (cB (X := X.suite a ((a, oe) :: pn)) (sts := b0 :: suite)).run pins s σ H D I (z _ ⟨⟨X, oe, pn, rfl, hz, hf⟩, h.kk, h.nn, h.ss, h.nd⟩)⟩)) ?_
  intro X' hX' fr' tk'
  refine q X' hX' fr' (L2.Takes.imp tk' fun cls d σ H z => ?_)
  unfold wAs
  rw [h.kk]
  exact z
/-! in a suite -/
theorem w_nlS {cls : Value} {d : Option Addr} {z : Addr} {v : V} (h : Sui m N sc z cls d X) (n : NL N sc i nm) (hs : σ[i]? = some (some v)) (q : Q v H) (hd : (nm == ("__debug__" : Str)) = false := by with_unfolding_all decide) (hcd : (nm == ("__classdict__" : Str)) = false := by with_unfolding_all decide) : wE X (.Name nm pos) σ H Q :=
  toE (pe_var (by rw [h.nn]; exact n.ix) (by rw [h.ss]; exact .inl n.loc) hd hcd) ⟨v, hs, q⟩
theorem s_nlS {cls : Value} {d : Option Addr} {z : Addr} (h : Sui m N sc z cls d X) (n : NL N sc i nm) (q : wE X e σ H fun v H1 => D.nx (σ.set i (some v)) H1) (hs : swapsWith e (some (.Name nm p1)) pos.line X.env = pure false := by with_unfolding_all rfl) : wS X (.Assign [.Name nm p1] e pos) D σ H :=
  toS (ps_set (by rw [h.nn]; exact h.nd) (by rw [h.nn]; exact n.ix) (by rw [h.ss]; exact .inl n.loc) cE hs (.inr (by rw [h.ss]; exact n.loc))) q
/-- e.fn of the caught error -/
theorem w_errS {cls : Value} {d : Option Addr} {z : Addr} (h : Sui m N sc z cls d X) (c : ErrC m x C fn) (hcls : cls = .ref C) (q : wE X e σ H fun y H1 => y = .ref z ∧ ∃ (dd : Addr) (v : V), d = some dd ∧ H1 dd = some (.xd [(fn, v)]) ∧ Q v H1)
    (hb : attributeBase e fn X.env (eval e X.env) = eval e X.env := by with_unfolding_all rfl) : wE X (.Attribute e fn pos) σ H Q := by
  obtain ⟨X0, oe, pn, rfl, hz, hf⟩ := h.ex
  have kk : X0.K = m.K := h.kk
  refine toE (pe_xf (C := C) (by rw [kk]; exact c.xf) (by rw [kk]; exact c.no) hz hf cE hb) ?_
  refine wE.mono q fun y H1 ⟨ey, dd, v, ed, hd, q1⟩ => ?_
  exact ⟨ey, hcls, dd, [(fn, v)], v, ed, hd, by simp [List.lookup], q1⟩
end
end Vf
set_option maxRecDepth 100000
set_option maxHeartbeats 4000000
/-! Fin: the end of a row, where nothing is being shown. Own work. -/
namespace Vf
open PySem PySem.Spec PyProof.Rows L2 LamX
/-- the script's own object -/
def scrO (vs : List Value) : Obj := { cls := .type "list", data := .seq vs.toArray }
/-- an empty table of a code object -/
def tabO : Obj := { cls := .none, data := .fields #[] }
/-- what is tracked where the law is called: the tables of ts, and the script, if it stands in no written part -/
def hp0 (K : PySem.W.Frag) (ts : List Addr) (a : Addr) (vs : List Value) (ns : List Int) : Hp := fun b => if b ∈ ts then some (.tbl #[]) else if b = a ∧ K.lookup a = none then some (.frz (scrO vs) (.lst (ns.map V.int))) else none
section
variable {K : PySem.W.Frag} {ts : List Addr} {a b : Addr} {vs : List Value} {ns : List Int} {h : Heap}
theorem hp0_tab (z : b ∈ ts) : hp0 K ts a vs ns b = some (.tbl #[]) := if_pos z
theorem hp0_some {u : HO} (z : hp0 K ts a vs ns b = some u) : b ∈ ts ∧ u = .tbl #[] ∨ b ∉ ts ∧ b = a ∧ K.lookup a = none ∧ u = .frz (scrO vs) (.lst (ns.map V.int)) := by
  unfold hp0 at z
  split at z
  · rename_i c; exact .inl ⟨c, (Option.some.inj z).symm⟩
  · rename_i c
    split at z
    · rename_i e; exact .inr ⟨c, e.1, e.2, (Option.some.inj z).symm⟩
    · cases z
/-- a heap with the script at a and the tables ts -/
structure Scr (h : Heap) (ts : List Addr) (a : Addr) (vs : List Value) : Prop where
  scr : h.get? a = some (scrO vs)
  tab : ∀ b ∈ ts, h.get? b = some tabO
theorem Scr.at_ (S : Scr h ts a vs) {u : HO} (z : hp0 K ts a vs ns b = some u) : h.get? b = some tabO ∨ h.get? b = some (scrO vs) ∧ K.lookup b = none := by
  rcases hp0_some z with ⟨m, _⟩ | ⟨_, e, k, _⟩
  · exact .inl (S.tab b m)
  · subst e; exact .inr ⟨S.scr, k⟩
/-- what is neither a sequence nor an object of fields without any is not tracked -/
theorem Scr.free (S : Scr h ts a vs) {o : Obj} (e : h.get? b = some o) (n1 : ∀ xs k, o.data ≠ .seq xs k) (n2 : o.data ≠ .fields #[]) : hp0 K ts a vs ns b = none := by
  cases z : hp0 K ts a vs ns b with
  | none => rfl
  | some u =>
    rcases S.at_ z with g | ⟨g, _⟩
    · rw [g] at e; cases e; exact absurd rfl n2
    · rw [g] at e; cases e; exact absurd rfl (n1 _ _)
theorem Scr.ok {P : Program} {w : World} (S : Scr h ts a vs) (hi : IntsAre vs ns) (hl : ns.length ≤ sizeLine) : HOk P w (hp0 K ts a vs ns) h := fun b u z => by
  rcases hp0_some z with ⟨m, rfl⟩ | ⟨_, rfl, _, rfl⟩
  · exact S.tab b m
  · exact ⟨S.scr, by rw [List.length_map]; exact hl, vs, _, vals_ints hi, S.scr⟩
theorem Scr.seq (S : Scr h ts a vs) (hi : IntsAre vs ns) (hl : ns.length ≤ sizeLine) (KX : K.In h) : SqL K (hp0 K ts a vs ns) a (ns.map V.int) := by
  have na : a ∉ ts := fun z => by
    have := S.tab a z
    rw [S.scr] at this
    have q := congrArg Obj.data (Option.some.inj this)
    cases q
  cases k : K.lookup a with
  | none => exact .inl (.inr ⟨_, by unfold hp0; rw [if_neg na, if_pos ⟨rfl, k⟩]⟩)
  | some o =>
    have e := KX a o k
    rw [S.scr] at e
    cases e
    exact .inr ⟨_, vs.toArray, _, k, rfl, rfl, rfl, by rw [List.size_toArray, hi.length]; exact hl, by simpa using vals_ints hi⟩
end
section
variable {m : Md} {mb : Str → Option Value} {CX : CXT} {k : Nat} {fa a : Addr} {cs : List (Addr × Addr)} {fd : FuncData} {x : Str} {sp : Sp} {vs : List Value} {ns : List Int}
/-- the written part and the globals as the law's call finds them -/
structure Gnd (K : PySem.W.Frag) (mg mb : Str → Option Value) (cs : List (Addr × Addr)) (h : Heap) : Prop where
  kin : K.In h
  glb : h.Ns mainGlobals mg
  blt : h.Ns builtinsNs mb
  bot : ∀ y : Str, y ≠ "__name__" → mb y = bootBuiltins y
  lim : h.NoLimit
  off : ∀ p ∈ cs, K.lookup p.2 = none
  cod : ∀ p ∈ cs, PySem.W.CodeHd h p.1 p.2
  mod : ∃ (bm : Addr) (ob : Obj), mg "__builtins__" = some (.ref bm) ∧ bm ≠ builtinsNs ∧ h.get? bm = some ob ∧ ob.cls = .type "module" ∧ ob.dict = some builtinsNs ∧ ob.data = .plain
/-- the tables' addresses -/
abbrev tbs (cs : List (Addr × Addr)) : List Addr := cs.map (·.2)
theorem mem_tbs {p : Addr × Addr} (h : p ∈ cs) : p.2 ∈ tbs cs := List.mem_map.2 ⟨p, h, rfl⟩
/-- the base: the heap without what is tracked -/
abbrev bas (K : PySem.W.Frag) (cs : List (Addr × Addr)) (a : Addr) (vs : List Value) (ns : List Int) (h : Heap) : Heap := hidT h (hp0 K (tbs cs) a vs ns)
theorem Gnd.nsB {K : PySem.W.Frag} {h : Heap} (S : Scr h (tbs cs) a vs) {b : Addr} {f : Str → Option Value} (z : h.Ns b f) : (bas K cs a vs ns h).Ns b f := by
  obtain ⟨o, es, ep, e, d, r⟩ := z
  exact ⟨o, es, ep, hidT_get e (S.free e (fun xs j w => by rw [d] at w; cases w) fun w => by rw [d] at w; cases w), d, r⟩
theorem Gnd.kinB {K : PySem.W.Frag} {mg : Str → Option Value} {h : Heap} (G : Gnd K mg mb cs h) (S : Scr h (tbs cs) a vs) : K.In (bas K cs a vs ns h) := fun b o e => by
  refine hidT_get (G.kin b o e) ?_
  cases z : hp0 K (tbs cs) a vs ns b with
  | none => rfl
  | some u =>
    rcases hp0_some z with ⟨w, _⟩ | ⟨_, w, n, _⟩
    · obtain ⟨p, hp, w⟩ := List.mem_map.1 w
      have n := G.off p hp
      rw [w, e] at n; cases n
    · rw [w, n] at e; cases e
theorem Gnd.tabB {K : PySem.W.Frag} {mg : Str → Option Value} {h : Heap} (G : Gnd K mg mb cs h) (S : Scr h (tbs cs) a vs) : ∀ p ∈ cs, TabB (bas K cs a vs ns h) mg p.1 p.2 := fun p hp => by
  have hT := S.tab _ (mem_tbs hp)
  have nG : ∀ b, mainGlobals = b → h.get? b ≠ some tabO := fun b z w => by
    obtain ⟨o, es, ep, e, hd, _⟩ := G.glb
    rw [z, w] at e
    cases e
    cases hd
  refine ⟨?_, ?_, fun z => nG _ z hT⟩
  · obtain ⟨o, us, fl, tf, fg, tg, inF, tx, tt, at1, kind, dat, el, more⟩ := G.cod p hp
    refine ⟨o, us, fl, tf, fg, tg, inF, tx, tt, hidT_get at1 (S.free at1 (fun xs j w => by rw [dat] at w; cases w) fun w => ?_), kind, dat, el, more⟩
    rw [dat] at w
    cases w
    simp at el
  · obtain ⟨bm, ob, b1, b2, b3, b4, b5, b6⟩ := G.mod
    refine ⟨bm, ob, b1, b2, fun q => ?_, fun q => ?_, hidT_get b3 (S.free b3 (fun xs j w => by rw [b6] at w; cases w) fun w => by rw [b6] at w; cases w), b4, b5, b6⟩
    · obtain ⟨o, es, ep, e, hd, _⟩ := G.glb
      rw [← q, b3] at e
      cases e
      rw [b6] at hd; cases hd
    · rw [q, hT] at b3
      cases b3
      cases b6
/-- the call of the law -/
theorem law_run {h : Heap} {s : Shared} (es : s.heap = h) (G : Gnd m.K m.mg mb cs h) (S : Scr h (tbs cs) a vs) (hg : s.gens = #[]) (hi : IntsAre vs ns) (hl : ns.length ≤ sizeLine) (hr : Room k callerA)
    (F : (bas m.K cs a vs ns h).Ns mainGlobals m.mg → m.K.In (bas m.K cs a vs ns h) → (∀ p ∈ cs, TabB (bas m.K cs a vs ns h) m.mg p.1 p.2) → FnG { m with base := bas m.K cs a vs ns h } CX k fa fd [x] sp) (hb : ∀ (s : Shared) (u : Value), BindsTo s fd ⟨[u], []⟩ [(x, u)])
    (q : ∀ H : Hp, (∀ p ∈ cs, H p.2 = some (.tbl #[])) → SqL m.K H a (ns.map V.int) → sp [.ref a] H (fun v _ => v = .bl true) fun _ _ _ => False) (hCX : ∀ H e s', CX [] H s (fun _ _ _ => False) e s' → False) :
    codeAny (model m.P m.w) callerA (.call (.ref fa) ⟨[.ref a], []⟩) (fun r s' => r = .ok (.ret (.bool true)) ∧ OldK s.heap s'.heap ∧ s'.os = s.os ∧ AllBare s'.gens) s := by
  subst es
  have M : L2.Mod m.K m.mg (bas m.K cs a vs ns s.heap) := ⟨G.kinB S, Gnd.nsB S G.glb, ⟨mb, Gnd.nsB S G.blt, G.bot⟩, by obtain ⟨c, h1, h2⟩ := G.lim; exact ⟨c, Gnd.nsB S h1, h2⟩⟩
  have ok := S.ok (P := m.P) (w := m.w) (K := m.K) hi hl
  have e0 : Env0 m.P m.w m.K m.mg (bas m.K cs a vs ns s.heap) callerA [] s (hp0 m.K (tbs cs) a vs ns) :=
    ⟨rfl, M, fun b o e => of_hidT e, Nat.le_of_eq (hidT_size _ _), trivial, fun b hb => absurd (show b ∈ ([] : List Addr) from hb) (by simp), ok, .of_eq hg⟩
  have run := (F (Gnd.nsB S G.glb) (G.kinB S) (G.tabB S)).run callerA [] s (hp0 m.K (tbs cs) a vs ns) ⟨[.ref a], []⟩ [.ref a] [.ref a] _ _ rfl hr e0 (hb s (.ref a)) (.cons rfl .nil) (q _ (fun p hp => hp0_tab (mem_tbs hp)) (S.seq hi hl G.kin))
  refine codeAny_mono run fun r s' z => ?_
  match r, z with
  | .error e, z => exact (hCX _ e s' z).elim
  | .ok (.ret u), z =>
    obtain ⟨v, H', os, bare, un, ok', rv, ev⟩ := z
    subst ev
    obtain rfl : u = Value.bool true := rv
    have grown : ∀ p ∈ cs, ∃ more : Array Value, s'.heap.get? p.2 = some { cls := .none, data := .fields more } := fun p hp => by
      obtain ⟨more, w⟩ := un.tbls p.2 #[] (hp0_tab (mem_tbs hp))
      exact ⟨_, ok' p.2 _ w⟩
    have stays : ∀ b o, b ∉ tbs cs → s.heap.get? b = some o → s'.heap.get? b = some o := fun b o nb e => by
      cases w : hp0 m.K (tbs cs) a vs ns b with
      | none => exact un.keep b o e w (fun y => absurd (show b ∈ ([] : List Addr) from y) (by simp)) (by simp)
      | some u =>
        rcases hp0_some w with ⟨y, _⟩ | ⟨_, rfl, _, rfl⟩
        · exact absurd y nb
        · have y := un.frzs b _ _ w
          obtain ⟨y2, _⟩ := ok' b _ y
          rw [S.scr] at e
          cases e
          exact y2
    refine ⟨rfl, ⟨fun b o e => ?_, fun b o e => ?_⟩, os, bare⟩
    · by_cases y : b ∈ tbs cs
      · obtain ⟨p, hp, rfl⟩ := List.mem_map.1 y
        obtain ⟨more, hm⟩ := grown p hp
        have t := S.tab _ y
        rw [t] at e
        cases e
        exact .inr (.inl ⟨((G.cod p hp).tab t).isCodeTable, rfl, #[], more, rfl, by rw [Array.empty_append]; exact hm⟩)
      · exact .inl (stays b o y e)
    · by_cases y : b ∈ tbs cs
      · obtain ⟨p, hp, rfl⟩ := List.mem_map.1 y
        obtain ⟨more, hm⟩ := grown p hp
        exact ⟨_, hm⟩
      · exact ⟨o, stays b o y e⟩
end
/-- what is to be shown of the law at the head's heap h -/
structure LawG (P : Program) (w : World) (K : PySem.W.Frag) (CX : CXT) (k n : Nat) (x : Str) (mg : Str → Option Value) (fa : Addr) (h : Heap) (fd : FuncData) (cs : List (Addr × Addr)) (T : List (Addr × Str)) (sp : Sp) : Prop where
  tab : ∀ p ∈ cs, h.get? p.2 = some tabO
  off : ∀ p ∈ cs, K.lookup p.2 = none
  cod : ∀ p ∈ cs, PySem.W.CodeHd h p.1 p.2
  bnd : ∀ (s : Shared) (u : Value), BindsTo s fd ⟨[u], []⟩ [(x, u)]
  pre : ∀ (H : Hp) (a : Addr) (ns : List Int), ns.length ≤ n → (∀ z ∈ ns, Builtin.Int.intBits z ≤ 1048576) → (∀ p ∈ cs, H p.2 = some (.tbl #[])) → SqL K H a (ns.map V.int) → sp [.ref a] H (fun v _ => v = .bl true) fun _ _ _ => False
  run : ∀ base : Heap, base.Ns mainGlobals mg → K.In base → (∀ p ∈ cs, TabB base mg p.1 p.2) → FnG ⟨P, w, K, mg, base, T⟩ CX k fa fd [x] sp
theorem walkG {l : PySem.W.OpenLaw} {n k : Nat} {q : Program} {loose : List Str} {XP : (Str → Option Value) → Heap → Prop} {YP : World → Heap → Prop} {d : DefRec} {K : Params → PySem.W.Frag} {CX : World → CXT} {x : Str}
    (hn : l.most = some n) (hn2 : n ≤ sizeLine) (hdf : d.params.defaults = []) (hr : Room k callerA) (hY : ∀ (w : World) (h : Heap), YP w h → (K w.params).In h)
    (F : ∀ (w : World) (mg : Str → Option Value) (fa : Addr) (h : Heap), YP w h → (K w.params).In h → h.Ns mainGlobals mg → mg d.name = some (.ref fa) → ∃ fd cs T sp, LawG l.prog w (K w.params) (CX w) k n x mg fa h fd cs T sp)
    (hCX : ∀ (w : World) (H : Hp) (s : Shared) (e : Value) (s' : Shared), CX w [] H s (fun _ _ _ => False) e s' → False) :
    PySem.W.WalkO q loose XP YP l.row.toRowW d [] (fun f vs => PySem.call f vs) := by
  refine Att.attach_callB hn hdf fun w s0 s1 mg mb fa o pm cd doc a vs ns G Y _ _ _ hmg hobj hints hlen hbits hg => ?_
  have KX := hY w _ Y
  obtain ⟨fd, cs, T, sp, L⟩ := F w mg fa _ Y KX G.T.g hmg
  exact law_run (m := ⟨l.prog, w, K w.params, mg, s1.heap, T⟩) (h := s1.heap) rfl ⟨KX, G.T.g, G.T.b, G.T.builtins, G.T.nolimit, L.off, L.cod, G.T.bmain⟩ ⟨hobj, fun b hb => by
    obtain ⟨p, hp, e⟩ := List.mem_map.1 hb
    rw [← e]; exact L.tab p hp⟩ hg hints (Nat.le_trans hlen hn2) hr (fun h1 h2 h3 => L.run _ h1 h2 h3) L.bnd (fun H h1 h2 => L.pre H a ns hlen hbits h1 h2) fun H e s' z => hCX w H s1 e s' z
end Vf
set_option maxRecDepth 100000
set_option maxHeartbeats 4000000
/-! Ob: any object that is handed: data with dicts in it, of which only is known that they are dicts. Own work. -/
namespace Vf
open PySem PySem.Spec PyProof.Rows L2 LamX
mutual
inductive Ob (K : PySem.W.Frag) (A : Addr → Prop) (H : Hp) : V → PyData → Prop
  | non : Ob K A H .non .none
  | bl (b : Bool) : Ob K A H (.bl b) (.bool b)
  | int (i : Int) : Ob K A H (.int i) (.int i)
  | str (x : Str) : x.length ≤ sizeLine → Ob K A H (.str x) (.str x)
  | lst {a : Addr} {xs : List V} {ds : List PyData} : A a → SqL K H a xs → ObAll K A H xs ds → xs.length < 1000000 → Ob K A H (.ref a) (.list ds)
  | tup {a : Addr} {xs : List V} {ds : List PyData} : SqT K H a xs → ObAll K A H xs ds → Ob K A H (.ref a) (.tuple ds)
  | dct {a : Addr} {kvs : List (Key × V)} : A a → H a = some (.dK kvs) → Ob K A H (.ref a) (.dict [])
inductive ObAll (K : PySem.W.Frag) (A : Addr → Prop) (H : Hp) : List V → List PyData → Prop
  | nil : ObAll K A H [] []
  | cons {v : V} {vs : List V} {d : PyData} {ds : List PyData} : Ob K A H v d → ObAll K A H vs ds → ObAll K A H (v :: vs) (d :: ds)
end
section
variable {K : PySem.W.Frag} {A A' : Addr → Prop} {H H' : Hp}
theorem ObAll.length : ∀ {vs : List V} {ds : List PyData}, ObAll K A H vs ds → vs.length = ds.length
  | _, _, .nil => rfl
  | _, _, .cons _ r => congrArg (· + 1) (ObAll.length r)
theorem ObAll.getV : ∀ {vs : List V} {ds : List PyData} {i : Nat} {v : V}, ObAll K A H vs ds → vs[i]? = some v → ∃ d, ds[i]? = some d ∧ Ob K A H v d
  | _, _, i, _, .nil, e => by simp at e
  | _, _, 0, _, .cons a _, e => by simp at e; subst e; exact ⟨_, rfl, a⟩
  | _, _, i + 1, d, .cons _ r, e => by
    obtain ⟨v, h1, h2⟩ := ObAll.getV (i := i) r (by simpa using e)
    exact ⟨v, by simpa using h1, h2⟩
mutual
theorem Ob.mono (hA : ∀ a, A a → A' a) (hL : ∀ a xs, A a → SqL K H a xs → SqL K H' a xs) (hT : ∀ a xs, SqT K H a xs → SqT K H' a xs) (hD : ∀ a (kvs : List (Key × V)), A a → H a = some (.dK kvs) → H' a = some (.dK kvs)) : ∀ (d : PyData) (v : V), Ob K A H v d → Ob K A' H' v d
  | .none, _, h => by cases h; exact .non
  | .bool b, _, h => by cases h; exact .bl b
  | .int i, _, h => by cases h; exact .int i
  | .str x, _, h => by cases h with | str _ l => exact .str x l
  | .list ds, _, h => by cases h with | lst a s r l => exact .lst (hA _ a) (hL _ _ a s) (ObAll.mono hA hL hT hD ds _ r) l
  | .tuple ds, _, h => by cases h with | tup s r => exact .tup (hT _ _ s) (ObAll.mono hA hL hT hD ds _ r)
  | .dict _, _, h => by cases h with | dct a e => exact .dct (hA _ a) (hD _ _ a e)
theorem ObAll.mono (hA : ∀ a, A a → A' a) (hL : ∀ a xs, A a → SqL K H a xs → SqL K H' a xs) (hT : ∀ a xs, SqT K H a xs → SqT K H' a xs) (hD : ∀ a (kvs : List (Key × V)), A a → H a = some (.dK kvs) → H' a = some (.dK kvs)) : ∀ (ds : List PyData) (vs : List V), ObAll K A H vs ds → ObAll K A' H' vs ds
  | [], _, h => by cases h; exact .nil
  | d :: ds, _, h => by cases h with | cons a b => exact .cons (Ob.mono hA hL hT hD d _ a) (ObAll.mono hA hL hT hD ds _ b)
end
mutual
/-- texts of a size that len asks -/
def txOk : PyData → Prop
  | .str x => x.length ≤ sizeLine
  | .list ds => ds.length < 1000000 ∧ txOks ds
  | .tuple ds => txOks ds
  | .none | .bool _ | .int _ | .dict _ => True
def txOks : List PyData → Prop
  | [] => True
  | d :: ds => txOk d ∧ txOks ds
end
mutual
theorem Da.ob : ∀ (d : PyData) (v : V), Da K A H v d → txOk d → Ob K A H v d
  | .none, _, h, _ => by cases h; exact .non
  | .bool b, _, h, _ => by cases h; exact .bl b
  | .int i, _, h, _ => by cases h; exact .int i
  | .str x, _, h, t => by cases h; exact .str x t
  | .list ds, _, h, t => by cases h with | lst a s r => exact .lst a s (DaAll.ob ds _ r t.2) (by rw [r.length]; exact t.1)
  | .tuple ds, _, h, t => by cases h with | tup s r => exact .tup s (DaAll.ob ds _ r t)
  | .dict _, _, h, _ => by cases h
theorem DaAll.ob : ∀ (ds : List PyData) (vs : List V), DaAll K A H vs ds → txOks ds → ObAll K A H vs ds
  | [], _, h, _ => by cases h; exact .nil
  | d :: ds, _, h, t => by cases h with | cons a b => exact .cons (Da.ob d _ a t.1) (DaAll.ob ds _ b t.2)
end
/-- the type of data -/
def tyD : PyData → String
  | .none => "NoneType"
  | .bool _ => "bool"
  | .int _ => "int"
  | .str _ => "str"
  | .list _ => "list"
  | .tuple _ => "tuple"
  | .dict _ => "dict"
theorem tyx_lst {a : Addr} {xs : List V} (h : SqL K H a xs) : TyX K H (.ref a) (.type "list") := by
  rcases h with (h | ⟨o, h⟩) | ⟨o, its, n, e, c, _⟩
  · exact .base (.lst h)
  · exact .base (.frz h)
  · exact .kList e c
theorem tyx_tup {a : Addr} {xs : List V} (h : SqT K H a xs) : TyX K H (.ref a) (.type "tuple") := by
  rcases h with (h | ⟨o, h⟩) | ⟨o, its, n, e, c, _⟩
  · exact .base (.tup h)
  · exact .fTuple h
  · exact .kTuple e c
theorem Ob.ty {v : V} {d : PyData} (h : Ob K A H v d) : TyX K H v (.type (tyD d)) := by
  cases h with
  | non => exact .base .non
  | bl b => exact .base (.bl b)
  | int i => exact .base (.int i)
  | str x _ => exact .base (.str x)
  | lst _ s _ _ => exact tyx_lst s
  | tup s _ => exact tyx_tup s
  | dct _ e => exact .base (.dK e)
end
/-! ### what is a term -/
/-- the text z -/
def isS (z : Str) : PyData → Bool
  | .str y => y == z
  | _ => false
def isWh : PyData → Bool
  | .int _ => true
  | _ => false
def nmB (z : Str) : Bool := decide (1 ≤ z.length) && decide (z.length ≤ 8) && z.cps.toList.all fun c => decide (97 ≤ c) && decide (c ≤ 122)
theorem nmB_iff {z : Str} : nmB z = true ↔ IsName z := by
  unfold nmB IsName
  rw [Bool.and_eq_true, Bool.and_eq_true, decide_eq_true_eq, decide_eq_true_eq, List.all_eq_true, and_assoc]
  simp only [Bool.and_eq_true, decide_eq_true_eq]
def isNm : PyData → Bool
  | .str z => nmB z
  | _ => false
def rkOk : PyData → PyData → Bool
  | .int r, .list ds => decide (1 ≤ r) && decide (r ≤ ds.length)
  | _, _ => false
mutual
def isTm : PyData → Bool
  | .tuple ds => isTm3 ds
  | _ => false
def isTm3 : List PyData → Bool
  | [d, x] => (isS "first" d || isS "last" d) && isTl x
  | [d, x, y] => ((isS "of" d || isS "now" d) && isNm x && isWh y) || (isS "rank" d && isTl y && rkOk x y)
  | _ => false
def isTl : PyData → Bool
  | .list ds => !ds.isEmpty && isTms ds
  | _ => false
def isTms : List PyData → Bool
  | [] => true
  | d :: ds => isTm d && isTms ds
end
/-! isinstance of any object -/
def isIn (T : String) (d : PyData) : Bool := decide (tyD d = T) || (T == "int" && decide (tyD d = "bool"))
theorem kit_all (T : String) (hT : T ∈ ["int", "bool", "str", "tuple", "list", "dict"]) : ∀ d : PyData, kitB (tyD d) T = some (isIn T d) := by
  have all : ∀ t ∈ ["NoneType", "bool", "int", "str", "list", "tuple", "dict"], ∀ T ∈ ["int", "bool", "str", "tuple", "list", "dict"], kitB t T = some (decide (t = T) || (T == "int" && decide (t = "bool"))) := by decide +kernel
  intro d
  exact all (tyD d) (by cases d <;> simp [tyD]) T hT
theorem isWh_eq (d : PyData) : isWh d = (isIn "int" d && !isIn "bool" d) := by cases d <;> simp [isWh, isIn, tyD]
end Vf
set_option maxRecDepth 100000
set_option maxHeartbeats 4000000
/-! Ex: names of types, constants of modules, chains, comprehensions over texts. Own work. -/
namespace Vf
open PySem PySem.Spec PyProof.Rows L2 LamX
section
variable {m : Md} {N : List Str} {sc scope : Scope} {i j k : Nat} {X : Cx} {a b c e o elt iter : Expr} {es : List Expr} {σ : L2.St} {H : Hp} {Q : VK} {QB : Bool → Hp → Prop} {pos p p1 p2 : Pos} {x y : Str}
/-- a built-in type as a value -/
theorem w_tyn {T : String} (h : At m N sc k X) (hm : m.mg x = none) (hg : sc.names.lookup x = some .globalImplicit) (hv : bootBuiltins x = some (.type T)) (q : Q (.ty T) H) (hn : x ≠ "__name__" := by with_unfolding_all decide) (hd : (x == ("__debug__" : Str)) = false := by with_unfolding_all decide) : wE X (.Name x pos) σ H Q :=
  toE (pe_bltn (v := .ty T) (h.gl hg) (by rw [h.mm]; exact hm) hv rfl hn hd) q
/-- a name of the module -/
theorem w_glb {v : V} {u : Value} (h : At m N sc k X) (hm : m.mg x = some u) (r : L2.RelV v u) (hg : sc.names.lookup x = some .globalImplicit) (q : Q v H) (hd : (x == ("__debug__" : Str)) = false := by with_unfolding_all decide) : wE X (.Name x pos) σ H Q :=
  toE (pe_glob (h.gl hg) (by rw [h.mm]; exact hm) r hd) q
theorem w_chain {op op' : CmpOp} (q : wE X a σ H fun x H1 => wE X b σ H1 fun y H2 => gOp X (compareOp op) x y H2 fun z H3 => ∃ k, z = .bl k ∧ (if k = true then wE X c σ H3 fun w H4 => gOp X (compareOp op') y w H4 Q else Q (.bl false) H3))
    (hm : lastMarks [op, op'] [b, c] = false := by with_unfolding_all rfl) : wE X (.Compare a [op, op'] [b, c] pos) σ H Q := toE (pe_chain gOp_ok gOp_ok cE cE cE hm) q
theorem t_chain {op op' : CmpOp} (q : wE X a σ H fun x H1 => wE X b σ H1 fun y H2 => gOp X (compareOp op) x y H2 fun z H3 => ∃ k, z = .bl k ∧ (if k = true then wE X c σ H3 fun w H4 => gOp X (compareOp op') y w H4 fun r H5 => ∃ k', r = .bl k' ∧ QB k' H5 else QB false H3))
    (hm : lastMarks [op, op'] [b, c] = false := by with_unfolding_all rfl) : wT X (.Compare a [op, op'] [b, c] pos) σ H QB := by
  refine toT (pt_chain gOp_ok gOp_ok cE cE cE hm) ?_
  refine wE.mono q fun x H1 q1 => wE.mono q1 fun y H2 q2 => ?_
  refine fun pins s σ v u I rx ry => wpAny_mono (q2 pins s σ v u I rx ry) (fun w s' z => ?_) fun _ _ z => z
  obtain ⟨z', H', I', rz, k, ez, q3⟩ := z
  refine ⟨z', H', I', rz, k, ez, ?_⟩
  cases k with
  | true => exact q3
  | false => exact ⟨false, rfl, q3⟩
theorem g_leT {i j : Str} (q : Q (.bl (!decide (j.cps.toList < i.cps.toList))) H) : gOp X (compareOp .LtE) (.str i) (.str j) H Q := gOp.of op_le_str ⟨_, _, rfl, rfl, q⟩
/-- [elt for x in z], z a text -/
theorem w_lcS (h : At m N sc k X) (ok : blkC N sc scope [(x, i)] = true) (n : NL N (relS scope sc) i x)
    (q : wE X iter σ H fun v H1 => ∃ z : Str, v = .str z ∧ ∀ D, H1 D = none → ∃ Pv : Nat → Hp → Prop, Pv 0 (upd H1 D (.lst [])) ∧
      (∀ j c H, z.cps[j]? = some c → Pv j H → ∀ X', At m N (relS scope sc) k X' → wE X' elt (σ.set i (some (.str ⟨#[c]⟩))) H (App D (Pv (j + 1)))) ∧ ∀ H, Pv z.cps.size H → Q (.ref D) H)
    (hs : ∀ x, foldedSetIterable iter X.env x = pure x := by with_unfolding_all (intro _; rfl)) : wE X (.ListComp elt [⟨.Name x p1, iter, [], 0⟩] scope pos) σ H Q := by
  refine toE (pe_lc (own := [(x, i)]) (g := gName i) (tt := tYes) (te := inBlk m N (relS scope sc) k elt) h.calm (by rw [h.nn]; exact h.nd) (pi_str cE) (by rw [h.nn, h.ss]; exact blkOk_by ok) (fun s H C cl fp => pg_nl (blk_at h s H C cl fp) n) (fun _ _ _ _ _ => pts_nil) (fun s H C cl fp => blk_pe h s H C cl fp) hs) ?_
  refine wE.mono q fun v H1 ⟨z, ev, go⟩ => ⟨z, ev, fun D hD => ?_⟩
  obtain ⟨Pv, p0, turn, fin⟩ := go D hD
  refine lc_it walk_str (g := gName i) (tt := tYes) (te := inBlk m N (relS scope sc) k elt) (vs := [i]) (σ := σ) Pv p0 (fun _ _ _ _ => trivial) (fun j y H H' hj hp hy => ?_) fin
  obtain ⟨rfl, c, hc, rfl⟩ := hy
  refine ⟨by rw [wipe1]; simp [wipe, List.set_set], ?_⟩
  unfold tYes
  refine iteT fun X' hX' => ?_
  rw [set_wipe]
  exact turn j c _ hc hp X' hX'
end
end Vf
set_option maxRecDepth 100000
set_option maxHeartbeats 4000000
/-! InOb: is an object one of two texts; is it a text. Own work. -/
namespace Vf
open PySem PySem.Spec PyProof.Rows L2 LamX
theorem str_dec (z : Str) (tk : Tok) (l : Addr) (c : Value) (es : Array DictEntry) (ep : Nat) (dd : Option Addr) (sl : Array (Option Value)) :
    Meets (Builtin.«str.__eq__» ⟨[.str z tk, .ref l], []⟩) (fun _ R s => s.heap.get? l = some { cls := c, dict := dd, data := .dict es ep, slots := sl } ∧ R (.ok (.ret .notImplemented)) s) :=
  .of_wp fun prog w A R s q => by
    obtain ⟨hp, g, d, t, os⟩ := s
    obtain ⟨at1, q⟩ := q
    wp_walk using wpAny_loadPart' at1, wpAny_load at1
    exact ⟨_, rfl, q⟩
theorem dict_dec (l : Addr) (es : Array DictEntry) (ep : Nat) (dd : Option Addr) (sl : Array (Option Value)) (z : Str) (tk : Tok) :
    Meets (Builtin.«dict.__eq__» ⟨[.ref l, .str z tk], []⟩) (fun _ R s => s.heap.get? l = some { cls := .type "dict", dict := dd, data := .dict es ep, slots := sl } ∧ R (.ok (.ret .notImplemented)) s) :=
  .of_wp fun prog w A R s q => by
    obtain ⟨hp, g, d, t, os⟩ := s
    obtain ⟨at1, q⟩ := q
    have f1 := F.sub_str_dict
    wp_walk using wpAny_loadPart' at1, wpAny_load at1
    exact ⟨_, rfl, q⟩
section
variable {A : Around} {s : Shared} {l : Addr} {es : Array DictEntry} {ep : Nat} {dd : Option Addr} {sl : Array (Option Value)}
theorem rc_str_dict (z : Str) (tk : Tok) (ho : s.heap.get? l = some { cls := .type "dict", dict := dd, data := .dict es ep, slots := sl }) (hu : A.units < cLine) : SeqAt.RcAt A s (.str z tk) (.ref l) false := fun prog w E Q q =>
  SeqAt.rc_eq_decline_or (k := false) (typeIs_str s z tk) ⟨_, ho, rfl⟩ (by decide) F.sub_dict_str F.slot_str_eq F.slot_dict_eq_refl
    (fun _ hq => call_meets F.slot_str_eq (typeIs_str s z tk) F.entry_str_eq (F.args_str_eq_2 _ _) (str_dec z tk l (.type "dict") es ep dd sl) ⟨ho, hq⟩)
    (fun _ hq => call_meets F.slot_dict_eq_refl ⟨_, ho, rfl⟩ F.entry_dict_eq (F.args_dict_eq_2 _ _) (dict_dec l es ep dd sl z tk) ⟨ho, hq⟩)
    (fun _ hq => wpAny_of_eq (rfl : isSame (.str z tk) (.ref l) = pure false) hq) (.inr hu) q
theorem rc_dict_str (z : Str) (tk : Tok) (ho : s.heap.get? l = some { cls := .type "dict", dict := dd, data := .dict es ep, slots := sl }) (hu : A.units < cLine) : SeqAt.RcAt A s (.ref l) (.str z tk) false := fun prog w E Q q =>
  SeqAt.rc_eq_decline_or (k := false) ⟨_, ho, rfl⟩ (typeIs_str s z tk) (by decide) F.sub_str_dict F.slot_dict_eq F.slot_str_eq_refl
    (fun _ hq => call_meets F.slot_dict_eq ⟨_, ho, rfl⟩ F.entry_dict_eq (F.args_dict_eq_2 _ _) (dict_dec l es ep dd sl z tk) ⟨ho, hq⟩)
    (fun _ hq => call_meets F.slot_str_eq_refl (typeIs_str s z tk) F.entry_str_eq (F.args_str_eq_2 _ _) (str_dec z tk l (.type "dict") es ep dd sl) ⟨ho, hq⟩)
    (fun _ hq => wpAny_of_eq (rfl : isSame (.ref l) (.str z tk) = pure false) hq) (.inr hu) q
theorem eqAt_str_dict (z : Str) (tk : Tok) (ho : s.heap.get? l = some { cls := .type "dict", dict := dd, data := .dict es ep, slots := sl }) (hu : A.units < cLine) : SeqAt.EqAt A s (.str z tk) (.ref l) false := fun prog w E Q q => by
  unfold eqBool
  refine wpAny_holding ?_
  refine wpAny_ite_split (fun e => absurd (eq_of_beq e) nofun) (fun _ => ?_)
  exact wpAny_bind (rc_str_dict z tk ho hu prog w E _ (wpAny_truthy_bool q))
end
section
variable {X : Cx} {pins : List (Addr × Obj)} {σ : L2.St} {H : Hp} {s : Shared} {A : Addr → Prop} {v : V} {d : PyData} {u : Value}
theorem dct_at {a : Addr} {kvs : List (Key × V)} (I : Inv X pins σ H s) (e : H a = some (.dK kvs)) : ∃ dd es ep sl, s.heap.get? a = some ({ cls := .type "dict", dict := dd, data := .dict es ep, slots := sl } : Obj) := by
  obtain ⟨_, _, vs, _, ob, es, ep, h1, h2, h3, _⟩ := (show ObjOk X.prog X.w H s.heap a (.dK kvs) from I.hok a _ e)
  obtain ⟨c, dd, dat, sl⟩ := ob
  have hc : c = .type "dict" := h2.1
  have hd : dat = .dict es ep := h3
  subst hc hd
  exact ⟨dd, es, ep, sl, h1⟩
theorem ob_rc (I : Inv X pins σ H s) (o : Ob X.K A H v d) (r : L2.RelV v u) (hu : X.A.units < cLine) (z : Str) (tk : Tok) : SeqAt.RcAt X.A s u (.str z tk) (isS z d) := by
  cases o with
  | non => cases r; exact SeqAt.RcAt.none_str z tk
  | bl b => cases r; exact SeqAt.RcAt.bool_str b z tk
  | int i => obtain ⟨t, rfl⟩ := r; exact SeqAt.RcAt.int_str i t z tk
  | str y _ => obtain ⟨t, rfl⟩ := r; exact SeqAt.RcAt.str_str y t z tk
  | lst _ hs _ _ => cases r; obtain ⟨its, _, pl, _⟩ := I.list hs; exact SeqAt.RcAt.list_str z tk pl.isList hu
  | tup hs _ => cases r; obtain ⟨its, _, pl, _⟩ := I.tuple hs; exact SeqAt.RcAt.tuple_str z tk pl hu
  | dct _ e =>
    cases r
    obtain ⟨dd, es, ep, sl, h1⟩ := dct_at I e
    exact rc_dict_str z tk h1 hu
theorem ob_eq {A0 : Around} (I : Inv X pins σ H s) (o : Ob X.K A H v d) (r : L2.RelV v u) (hu : A0.units < cLine) (z : Str) (tk : Tok) : SeqAt.EqAt A0 s (.str z tk) u (isS z d) := by
  cases o with
  | non => cases r; exact SeqAt.EqAt.str_none z tk
  | bl b => cases r; exact SeqAt.EqAt.str_bool z tk b
  | int i => obtain ⟨t, rfl⟩ := r; exact SeqAt.EqAt.str_int z tk i t
  | str y _ =>
    obtain ⟨t, rfl⟩ := r
    have e : isS z (.str y) = (z == y) := by
      show (y == z) = (z == y)
      rw [Bool.eq_iff_iff, beq_iff_eq, beq_iff_eq]; exact eq_comm
    rw [e]
    exact SeqAt.EqAt.str_str z tk y t
  | lst _ hs _ _ => cases r; obtain ⟨its, _, pl, _⟩ := I.list hs; exact SeqAt.EqAt.str_list z tk pl.isList hu
  | tup hs _ => cases r; obtain ⟨its, _, pl, _⟩ := I.tuple hs; exact SeqAt.EqAt.str_tuple z tk pl hu
  | dct _ e =>
    cases r
    obtain ⟨dd, es, ep, sl, h1⟩ := dct_at I e
    exact eqAt_str_dict z tk h1 hu
end
section
variable {m : Md} {N : List Str} {sc : Scope} {k : Nat} {X : Cx} {H : Hp} {Q : VK} {A : Addr → Prop} {v : V} {d : PyData}
/-- x == z, z a text -/
theorem g_eqOb (h : At m N sc k X) {z : Str} (o : Ob m.K A H v d) (q : Q (.bl (isS z d)) H) : gOp X (compareOp .Eq) v (.str z) H Q := fun pins s σ u w I r rz => by
  obtain ⟨tk, rfl⟩ := rz
  have hu := h.hu
  exact ob_rc I (by rw [h.kk]; exact o) r (by omega) z tk X.prog X.w X.xe _ ⟨.bl (isS z d), H, I, rfl, q⟩
/-- x in (z1, z2), two texts -/
theorem g_inOb (h : At m N sc k X) {a : Addr} {z1 z2 : Str} (o : Ob m.K A H v d) (ht : H a = some (.tup [.str z1, .str z2])) (q : Q (.bl (isS z1 d || isS z2 d)) H) : gOp X (compareOp .In) v (.ref a) H Q := fun pins s σ u w I r rz => by
  cases rz
  have hu := h.hu
  obtain ⟨its, rv, pl, hz⟩ := I.tuple (SqT.of ht)
  cases rv with | cons r1 rv => cases rv with | cons r2 rv =>
  cases rv
  obtain ⟨t1, rfl⟩ := r1
  obtain ⟨t2, rfl⟩ := r2
  have o' : Ob X.K A H v d := by rw [h.kk]; exact o
  refine SeqAt.in_tupleAt (fun y => match y with | .str z _ => isS z d | _ => false) pl (fun y hy => ?_) ⟨.bl (isS z1 d || isS z2 d), H, I, by simp [L2.RelV], q⟩
  have hy2 : y = .str z1 t1 ∨ y = .str z2 t2 := by simpa using hy
  rcases hy2 with e | e
  · subst e; exact ob_eq I o' r (by show X.A.units + 1 < cLine; omega) z1 t1
  · subst e; exact ob_eq I o' r (by show X.A.units + 1 < cLine; omega) z2 t2
end
end Vf
set_option maxRecDepth 100000
set_option maxHeartbeats 4000000
/-! Tp: slices and sums of tuples. Own work. -/
namespace Vf
open PySem PySem.Spec PyProof.Rows L2 LamX
section
variable {m : Md} {N : List Str} {sc : Scope} {k : Nat} {X : Cx} {a b c e o : Expr} {σ : L2.St} {H : Hp} {Q : VK} {pos p2 : Pos}
/-- e[:hi] of a tuple, not the whole of it -/
theorem w_sliceToT {hi : Expr} (h : At m N sc k X) (q : wE X e σ H fun x H1 => wE X hi σ H1 fun u H3 => ∃ j : Int, u = .int j ∧ ∃ (a : Addr) (xs : List V), x = .ref a ∧ SqT m.K H3 a xs ∧ HT.sIx xs.length xs.length (some j) ≠ xs.length ∧ ∀ p, H3 p = none → Q (.ref p) (upd H3 p (.tup (cutV xs none (some j))))) :
    wE X (.Subscript e (.Slice none (some hi) none p2) pos) σ H Q := by
  refine toE (pe_slice sl_tup cE po_none (po_some cE)) ?_
  refine wE.mono q fun x H1 q1 => ?_
  show wE X hi σ H1 _
  exact wE.mono q1 fun u H3 ⟨j, ej, a, xs, ea, hs, hn, q3⟩ => ⟨j, ej, a, xs, ea, by rw [h.kk]; exact hs, fun z => hn z.2, q3⟩
theorem g_catT (h : At m N sc k X) {l r : Addr} {xs ys : List V} (h1 : SqT m.K H l xs) (h2 : SqT m.K H r ys) (n1 : xs ≠ []) (n2 : ys ≠ []) (hz : xs.length + ys.length ≤ sizeLine) (q : ∀ p, H p = none → Q (.ref p) (upd H p (.tup (xs ++ ys)))) : gOp X (binaryOp .Add) (.ref l) (.ref r) H Q :=
  gOp.of op_catT ⟨l, r, xs, ys, rfl, rfl, by rw [h.kk]; exact h1, by rw [h.kk]; exact h2, n1, hz, fun e => absurd e n2, fun _ => q⟩
end
theorem six_val (hd : List V) (x : V) : HT.sIx (hd ++ [x]).length (hd ++ [x]).length (some (-1)) = hd.length := by
  have e : (hd ++ [x]).length = hd.length + 1 := by simp
  rw [e]
  unfold HT.sIx
  dsimp only
  rw [if_pos (by decide)]
  omega
theorem cut_last (hd : List V) (x : V) : cutV (hd ++ [x]) none (some (-1)) = hd := by
  unfold cutV
  rw [HT.sIx_none, List.drop_zero, Nat.sub_zero, six_val, List.take_left']
  rfl
theorem six_last (hd : List V) (x : V) : HT.sIx (hd ++ [x]).length (hd ++ [x]).length (some (-1)) ≠ (hd ++ [x]).length := by
  rw [six_val]
  simp
theorem at_last (hd : List V) (x : V) : atI (hd ++ [x]) (-1) = some x := by
  unfold atI ixN
  rw [if_neg (by decide), List.length_append, List.length_singleton, if_pos (by omega)]
  show (hd ++ [x])[((-1 : Int) + ((hd.length + 1 : Nat) : Int)).toNat]? = some x
  rw [show ((-1 : Int) + ((hd.length + 1 : Nat) : Int)).toNat = hd.length from by omega]
  simp
end Vf
set_option maxRecDepth 100000
set_option maxHeartbeats 4000000
/-! Dn: data with the places of its lists, told one by one. Own work. -/
namespace Vf
open PySem PySem.Spec PyProof.Rows L2 LamX
mutual
/-- v is the data d; L: where its lists lie, from the left -/
inductive Dn (K : PySem.W.Frag) (H : Hp) : V → PyData → List Addr → Prop
  | non : Dn K H .non .none []
  | bl (b : Bool) : Dn K H (.bl b) (.bool b) []
  | int (i : Int) : Dn K H (.int i) (.int i) []
  | str (x : Str) : Dn K H (.str x) (.str x) []
  | lst {a : Addr} {xs : List V} {ds : List PyData} {L : List Addr} : H a = some (.lst xs) → DnAll K H xs ds L → Dn K H (.ref a) (.list ds) (a :: L)
  | tup {a : Addr} {xs : List V} {ds : List PyData} {L : List Addr} : SqT K H a xs → DnAll K H xs ds L → Dn K H (.ref a) (.tuple ds) L
inductive DnAll (K : PySem.W.Frag) (H : Hp) : List V → List PyData → List Addr → Prop
  | nil : DnAll K H [] [] []
  | cons {v : V} {vs : List V} {d : PyData} {ds : List PyData} {L M : List Addr} : Dn K H v d L → DnAll K H vs ds M → DnAll K H (v :: vs) (d :: ds) (L ++ M)
end
section
variable {K : PySem.W.Frag} {H H' : Hp} {A : Addr → Prop}
mutual
theorem Dn.da : ∀ {v : V} {d : PyData} {L : List Addr}, Dn K H v d L → (∀ a ∈ L, A a) → Da K A H v d
  | _, _, _, .non, _ => .non
  | _, _, _, .bl b, _ => .bl b
  | _, _, _, .int i, _ => .int i
  | _, _, _, .str x, _ => .str x
  | _, _, _, .lst h r, z => .lst (z _ (by simp)) (SqL.of h) (DnAll.da r fun a ha => z a (by simp [ha]))
  | _, _, _, .tup h r, z => .tup h (DnAll.da r z)
theorem DnAll.da : ∀ {v : List V} {d : List PyData} {L : List Addr}, DnAll K H v d L → (∀ a ∈ L, A a) → DaAll K A H v d
  | _, _, _, .nil, _ => .nil
  | _, _, _, .cons a r, z => .cons (Dn.da a fun b hb => z b (by simp [hb])) (DnAll.da r fun b hb => z b (by simp [hb]))
end
mutual
theorem Dn.mono (hL : ∀ a xs, H a = some (.lst xs) → A a → H' a = some (.lst xs)) (hT : ∀ a xs, SqT K H a xs → SqT K H' a xs) : ∀ {v : V} {d : PyData} {L : List Addr}, Dn K H v d L → (∀ a ∈ L, A a) → Dn K H' v d L
  | _, _, _, .non, _ => .non
  | _, _, _, .bl b, _ => .bl b
  | _, _, _, .int i, _ => .int i
  | _, _, _, .str x, _ => .str x
  | _, _, _, .lst h r, z => .lst (hL _ _ h (z _ (by simp))) (DnAll.mono hL hT r fun a ha => z a (by simp [ha]))
  | _, _, _, .tup h r, z => .tup (hT _ _ h) (DnAll.mono hL hT r z)
theorem DnAll.mono (hL : ∀ a xs, H a = some (.lst xs) → A a → H' a = some (.lst xs)) (hT : ∀ a xs, SqT K H a xs → SqT K H' a xs) : ∀ {v : List V} {d : List PyData} {L : List Addr}, DnAll K H v d L → (∀ a ∈ L, A a) → DnAll K H' v d L
  | _, _, _, .nil, _ => .nil
  | _, _, _, .cons a r, z => .cons (Dn.mono hL hT a fun b hb => z b (by simp [hb])) (DnAll.mono hL hT r fun b hb => z b (by simp [hb]))
end
mutual
theorem Dn.some : ∀ {v : V} {d : PyData} {L : List Addr}, Dn K H v d L → ∀ a ∈ L, ∃ xs, H a = some (.lst xs)
  | _, _, _, .non, _, h => by simp at h
  | _, _, _, .bl _, _, h => by simp at h
  | _, _, _, .int _, _, h => by simp at h
  | _, _, _, .str _, _, h => by simp at h
  | _, _, _, .lst h r, a, ha => by
    rcases List.mem_cons.1 ha with e | e
    · exact ⟨_, e ▸ h⟩
    · exact DnAll.some r a e
  | _, _, _, .tup _ r, a, ha => DnAll.some r a ha
theorem DnAll.some : ∀ {v : List V} {d : List PyData} {L : List Addr}, DnAll K H v d L → ∀ a ∈ L, ∃ xs, H a = some (.lst xs)
  | _, _, _, .nil, _, h => by simp at h
  | _, _, _, .cons a r, b, hb => by
    rcases List.mem_append.1 hb with e | e
    · exact Dn.some a b e
    · exact DnAll.some r b e
end
theorem DnAll.length : ∀ {vs : List V} {ds : List PyData} {L : List Addr}, DnAll K H vs ds L → vs.length = ds.length
  | _, _, _, .nil => rfl
  | _, _, _, .cons _ r => congrArg (· + 1) (DnAll.length r)
theorem DnAll.append : ∀ {vs ws : List V} {ds es : List PyData} {L M : List Addr}, DnAll K H vs ds L → DnAll K H ws es M → DnAll K H (vs ++ ws) (ds ++ es) (L ++ M)
  | _, _, _, _, _, _, .nil, s => s
  | _, _, _, _, _, _, .cons a r, s => by rw [List.append_assoc]; exact .cons a (DnAll.append r s)
theorem GrowX.dn {T : List (Addr × Str)} {S : Addr → Prop} {v : V} {d : PyData} {L : List Addr} (g : GrowX T S H H') (h : Dn K H v d L) (n : ∀ a ∈ L, ¬ S a) : Dn K H' v d L :=
  Dn.mono (A := fun a => ¬ S a) (fun a xs e z => g.ext _ _ z e (fun _ w => by cases w)) (fun a xs e => g.seqT e) h n
theorem GrowX.dnAll {T : List (Addr × Str)} {S : Addr → Prop} {v : List V} {d : List PyData} {L : List Addr} (g : GrowX T S H H') (h : DnAll K H v d L) (n : ∀ a ∈ L, ¬ S a) : DnAll K H' v d L :=
  DnAll.mono (A := fun a => ¬ S a) (fun a xs e z => g.ext _ _ z e (fun _ w => by cases w)) (fun a xs e => g.seqT e) h n
/-- fresh data: all its lists are new and apart -/
def Fr (K : PySem.W.Frag) (H H' : Hp) (v : V) (d : PyData) : Prop := ∃ L, Dn K H' v d L ∧ L.Nodup ∧ ∀ a ∈ L, New H a
theorem Fr.da {v : V} {d : PyData} (h : Fr K H H' v d) : Da K (New H) H' v d := by
  obtain ⟨L, h, _, n⟩ := h
  exact h.da n
theorem Fr.pre {T : List (Addr × Str)} {H0 : Hp} {v : V} {d : PyData} (g : Grow T H0 H) (h : Fr K H H' v d) : Fr K H0 H' v d := by
  obtain ⟨L, h, nd, n⟩ := h
  exact ⟨L, h, nd, fun a ha => g.keep _ (n a ha)⟩
theorem Fr.post {T : List (Addr × Str)} {H2 : Hp} {v : V} {d : PyData} (h : Fr K H H' v d) (g : Grow T H' H2) : Fr K H H2 v d := by
  obtain ⟨L, h, nd, n⟩ := h
  exact ⟨L, GrowX.dn g h fun _ _ z => z, nd, n⟩
end
end Vf
set_option maxRecDepth 100000
set_option maxHeartbeats 4000000
/-! Lit: displays of constants, tuples, lists and known names, at once. Own work. -/
namespace Vf
open PySem PySem.Spec PyProof.Rows L2 LamX
mutual
/-- the data that a display is; env: what names hold -/
def lit (env : List (Str × PyData)) : Expr → Option PyData
  | .Constant (.int i) _ _ => some (.int i)
  | .Constant (.bool b) _ _ => some (.bool b)
  | .Constant (.str z) _ _ => if z.length ≤ 1000 then some (.str z) else none
  | .Constant .none _ _ => some .none
  | .Tuple es _ _ => (lits env es).bind fun ds => if ds.length ≤ 1000 then some (.tuple ds) else none
  | .UnaryOp .USub (.Constant (.int i) _ _) _ => some (.int (-i))
  | .List es _ => (lits env es).bind fun ds => if ds.length ≤ 1000 then some (.list ds) else none
  | .Dict [] [] _ => some (.dict [])
  | .Dict [some (.Constant (.str _) _ _)] [e] _ => (lit env e).map fun _ => .dict []
  | .Name x _ => env.lookup x
  | _ => none
def lits (env : List (Str × PyData)) : List Expr → Option (List PyData)
  | [] => some []
  | e :: es => (lit env e).bind fun d => (lits env es).map fun ds => d :: ds
end
section
variable {m : Md} {X : Cx} {σ : L2.St} {env : List (Str × PyData)} {H0 : Hp}
/-- the names of env hold their data, wherever the heap has grown -/
def EnvOk (m : Md) (X : Cx) (σ : L2.St) (env : List (Str × PyData)) (A : Addr → Prop) (H0 : Hp) : Prop := ∀ x d pos, env.lookup x = some d → ∃ v, Ob m.K A H0 v d ∧ ∀ H Q, Q v H → wE X (.Name x pos) σ H Q
theorem starPlain {e : Expr} {es : List Expr} {d : PyData} (h : lit env e = some d) : starEach (e :: es) X.env = (false, eval e X.env) :: starEach es X.env := by
  cases e <;> first | rfl | (simp [lit] at h)
theorem lit_neg {op : UnaryOp} {e : Expr} {pos : Pos} {d : PyData} (h : lit env (.UnaryOp op e pos) = some d) : ∃ i k ps, op = .USub ∧ e = .Constant (.int i) k ps ∧ d = .int (-i) := by
  unfold lit at h
  split at h <;> first | (cases h; done) | skip
  all_goals first
    | (rename_i hh; cases hh; cases h; exact ⟨_, _, _, rfl, rfl, rfl⟩)
    | (simp at *)
theorem lit_d0 {ks : List (Option Expr)} {pos : Pos} {d : PyData} (h : lit env (.Dict ks [] pos) = some d) : ks = [] ∧ d = .dict [] := by
  unfold lit at h
  split at h <;> first | (cases h; done) | skip
  all_goals first
    | (rename_i hh; cases hh; cases h; exact ⟨rfl, rfl⟩)
    | (simp at *)
theorem lit_d1 {ks : List (Option Expr)} {e : Expr} {pos : Pos} {d : PyData} (h : lit env (.Dict ks [e] pos) = some d) : (∃ z k ps, ks = [some (.Constant (.str z) k ps)]) ∧ (∃ d', lit env e = some d') ∧ d = .dict [] := by
  unfold lit at h
  split at h <;> first | (cases h; done) | skip
  all_goals first
    | (rename_i hh; cases hh; obtain ⟨d', h1, h2⟩ := Option.map_eq_some_iff.1 h; cases h2; exact ⟨⟨_, _, _, rfl⟩, ⟨d', h1⟩, rfl⟩)
    | (simp at *)
theorem lit_d2 {ks : List (Option Expr)} {e e2 : Expr} {es : List Expr} {pos : Pos} {d : PyData} (h : lit env (.Dict ks (e :: e2 :: es) pos) = some d) : False := by
  unfold lit at h
  split at h <;> first | (cases h; done) | skip
  all_goals first
    | (rename_i hh; cases hh; done)
    | (simp at *)
theorem grow_ob {T : List (Addr × Str)} {K : PySem.W.Frag} {A : Addr → Prop} {H H1 : Hp} {v : V} {d : PyData} (g : Grow T H H1) (h : Ob K A H v d) : Ob K A H1 v d :=
  Ob.mono (fun _ z => z) (fun a xs _ e => GrowX.seqL g e fun z => z) (fun a xs e => GrowX.seqT g e) (fun a kvs _ e => g.extN _ _ e (fun _ z => by cases z)) d v h
theorem grow_obs {T : List (Addr × Str)} {K : PySem.W.Frag} {A : Addr → Prop} {H H1 : Hp} {v : List V} {d : List PyData} (g : Grow T H H1) (h : ObAll K A H v d) : ObAll K A H1 v d :=
  ObAll.mono (fun _ z => z) (fun a xs _ e => GrowX.seqL g e fun z => z) (fun a xs e => GrowX.seqT g e) (fun a kvs _ e => g.extN _ _ e (fun _ z => by cases z)) d v h
theorem obs_sub {K : PySem.W.Frag} {A A' : Addr → Prop} {H : Hp} {v : List V} {d : List PyData} (h : ObAll K A H v d) (s : ∀ a, A a → A' a) : ObAll K A' H v d := ObAll.mono s (fun _ _ _ e => e) (fun _ _ e => e) (fun _ _ _ e => e) d v h
theorem ob_sub {K : PySem.W.Frag} {A A' : Addr → Prop} {H : Hp} {v : V} {d : PyData} (h : Ob K A H v d) (s : ∀ a, A a → A' a) : Ob K A' H v d := Ob.mono s (fun _ _ _ e => e) (fun _ _ e => e) (fun _ _ _ e => e) d v h
/-- new in H, and there in H' -/
abbrev Nw (H H' : Hp) : Addr → Prop := fun a => New H a ∧ H' a ≠ none
theorem nw_up {T : List (Addr × Str)} {A : Addr → Prop} {H H1 H2 : Hp} (g : Grow T H1 H2) : ∀ a, A a ∨ Nw H H1 a → A a ∨ Nw H H2 a := fun a z => z.imp id fun w => ⟨w.1, fun e => w.2 (g.keep _ e)⟩
mutual
theorem w_lit {A : Addr → Prop} (hE : EnvOk m X σ env A H0) : ∀ (e : Expr) (d : PyData) (H : Hp) (Q : VK), lit env e = some d → Grow m.T H0 H → (∀ v H', Grow m.T H H' → Ob m.K (fun a => A a ∨ Nw H H' a) H' v d → Q v H') → wE X e σ H Q
  | .Constant (.int i) _ _, d, H, Q, h, g0, q => by
    rw [lit] at h; cases h
    exact w_int (q _ _ GrowX.refl (.int i))
  | .Constant (.bool i) _ _, d, H, Q, h, g0, q => by
    rw [lit] at h; cases h
    exact w_bl (q _ _ GrowX.refl (.bl i))
  | .Constant .none _ _, d, H, Q, h, g0, q => by
    rw [lit] at h; cases h
    exact w_non (q _ _ GrowX.refl .non)
  | .Constant (.str z) _ _, d, H, Q, h, g0, q => by
    rw [lit] at h
    split at h
    · cases h
      refine w_str (q _ _ GrowX.refl (.str z ?_))
      rw [sizeLine_eq]; omega
    · cases h
  | .Name x _, d, H, Q, h, g0, q => by
    rw [lit] at h
    obtain ⟨v, o, r⟩ := hE x d _ h
    refine r H Q (q v H GrowX.refl ?_)
    exact Ob.mono (fun _ z => .inl z) (fun a xs _ e => GrowX.seqL g0 e fun z => z) (fun a xs e => GrowX.seqT g0 e) (fun a kvs _ e => g0.extN _ _ e (fun _ z => by cases z)) d v o
  | .Tuple es _ _, d, H, Q, h, g0, q => by
    rw [lit] at h
    obtain ⟨ds, h1, h2⟩ := Option.bind_eq_some_iff.1 h
    split at h2
    · rename_i hl
      cases h2
      refine w_tup (w_lits hE es ds H _ h1 g0 fun vs H' g o => ⟨by rw [o.length, sizeLine_eq]; omega, fun p hp => ?_⟩)
      have gn := Grow.new (T := m.T) (o := .tup vs) hp
      exact q _ _ (g.trans gn) (.tup (SqT.of upd_same) (obs_sub (grow_obs gn o) (nw_up gn)))
    · cases h2
  | .List es _, d, H, Q, h, g0, q => by
    rw [lit] at h
    obtain ⟨ds, h1, h2⟩ := Option.bind_eq_some_iff.1 h
    split at h2
    · rename_i hl
      cases h2
      refine w_lst (w_lits hE es ds H _ h1 g0 fun vs H' g o => ⟨by rw [o.length, sizeLine_eq]; omega, fun p hp => ?_⟩)
      have gn := Grow.new (T := m.T) (o := .lst vs) hp
      exact q _ _ (g.trans gn) (.lst (.inr ⟨g.keep _ hp, by rw [upd_same]; exact fun z => by cases z⟩) (SqL.of upd_same) (obs_sub (grow_obs gn o) (nw_up gn)) (by rw [o.length]; omega))
    · cases h2
  | .UnaryOp op e _, d, H, Q, h, g0, q => by
    obtain ⟨i, k, ps, rfl, rfl, rfl⟩ := lit_neg h
    exact w_neg (w_int ⟨i, rfl, q _ _ GrowX.refl (.int (-i))⟩)
  | .Constant (.float _) _ _, d, H, Q, h, g0, q => by simp [lit] at h
  | .Constant (.complex _ _) _ _, d, H, Q, h, g0, q => by simp [lit] at h
  | .Constant (.bytes _) _ _, d, H, Q, h, g0, q => by simp [lit] at h
  | .Constant .ellipsis _ _, d, H, Q, h, g0, q => by simp [lit] at h
  | .BoolOp .., d, H, Q, h, g0, q => by simp [lit] at h
  | .NamedExpr .., d, H, Q, h, g0, q => by simp [lit] at h
  | .BinOp .., d, H, Q, h, g0, q => by simp [lit] at h
  | .Lambda .., d, H, Q, h, g0, q => by simp [lit] at h
  | .IfExp .., d, H, Q, h, g0, q => by simp [lit] at h
  | .Dict ks [] _, d, H, Q, h, g0, q => by
    obtain ⟨rfl, rfl⟩ := lit_d0 h
    refine toE pe_dnewK fun p hp => ?_
    exact q _ _ (Grow.new hp) (.dct (.inr ⟨hp, by rw [upd_same]; exact fun z => by cases z⟩) upd_same)
  | .Dict ks [e] _, d, H, Q, h, g0, q => by
    obtain ⟨⟨z, k, ps, rfl⟩, ⟨d', h1⟩, rfl⟩ := lit_d1 h
    refine toE (pe_disp (pps_cons (cE (e := .Constant (.str z) k ps)) (cE (e := e)) pps_nil) rfl rfl (by simp) (show 1 ≤ 15 by decide)) fun p hp => ?_
    have g1 := Grow.new (T := m.T) (o := .dK []) hp
    refine w_str ?_
    refine w_lit hE e d' _ _ h1 (g0.trans g1) fun v H1 g2 _ => ?_
    have h2 : H1 p = some (.dK []) := g2.extN _ _ upd_same (fun _ w => by cases w)
    refine ⟨h2, [(.inr z, v)], rfl, by simp, ?_⟩
    have gX : GrowX m.T (· = p) H1 (upd H1 p (.dK (mergeK [] [(.inr z, v)]))) := GrowX.set rfl h2 (fun _ z => by cases z) (fun _ z => by unfold CodeO at z; cases z) (fun _ z => by cases z) (fun _ _ z => by cases z)
    exact q _ _ (Grow.intoNew (g1.trans g2) gX fun c w => by rw [w]; exact hp) (.dct (.inr ⟨hp, by rw [upd_same]; exact fun z => by cases z⟩) upd_same)
  | .Dict ks (e :: e2 :: es) _, d, H, Q, h, g0, q => (lit_d2 h).elim
  | .Set .., d, H, Q, h, g0, q => by simp [lit] at h
  | .ListComp .., d, H, Q, h, g0, q => by simp [lit] at h
  | .SetComp .., d, H, Q, h, g0, q => by simp [lit] at h
  | .DictComp .., d, H, Q, h, g0, q => by simp [lit] at h
  | .GeneratorExp .., d, H, Q, h, g0, q => by simp [lit] at h
  | .Await .., d, H, Q, h, g0, q => by simp [lit] at h
  | .Yield .., d, H, Q, h, g0, q => by simp [lit] at h
  | .YieldFrom .., d, H, Q, h, g0, q => by simp [lit] at h
  | .Compare .., d, H, Q, h, g0, q => by simp [lit] at h
  | .Call .., d, H, Q, h, g0, q => by simp [lit] at h
  | .FormattedValue .., d, H, Q, h, g0, q => by simp [lit] at h
  | .JoinedStr .., d, H, Q, h, g0, q => by simp [lit] at h
  | .Attribute .., d, H, Q, h, g0, q => by simp [lit] at h
  | .Subscript .., d, H, Q, h, g0, q => by simp [lit] at h
  | .Starred .., d, H, Q, h, g0, q => by simp [lit] at h
  | .Slice .., d, H, Q, h, g0, q => by simp [lit] at h
theorem w_lits {A : Addr → Prop} (hE : EnvOk m X σ env A H0) : ∀ (es : List Expr) (ds : List PyData) (H : Hp) (Q : List V → Hp → Prop), lits env es = some ds → Grow m.T H0 H → (∀ vs H', Grow m.T H H' → ObAll m.K (fun a => A a ∨ Nw H H' a) H' vs ds → Q vs H') → wA X es σ H Q
  | [], ds, H, Q, h, g0, q => by
    rw [lits] at h; cases h
    exact w_nil (q [] H GrowX.refl .nil)
  | e :: es, ds, H, Q, h, g0, q => by
    rw [lits] at h
    obtain ⟨d, h1, h2⟩ := Option.bind_eq_some_iff.1 h
    obtain ⟨ds', h3, rfl⟩ := Option.map_eq_some_iff.1 h2
    refine w_cons (w_lit hE e d H _ h1 g0 fun v H1 g1 o => ?_) (starPlain h1)
    refine w_lits hE es ds' H1 _ h3 (g0.trans g1) fun vs H2 g2 os => ?_
    refine q (v :: vs) H2 (g1.trans g2) (.cons (ob_sub (grow_ob g2 o) (nw_up g2)) (obs_sub os fun a z => ?_))
    rcases z with z | z
    · exact .inl z
    · exact .inr ⟨g1.keep _ z.1, z.2⟩
end
end
end Vf
set_option maxRecDepth 100000
set_option maxHeartbeats 4000000
/-! Zs: while, zip, reversed slices, range of two, properties. Own work. -/
namespace Vf
open PySem PySem.Spec PyProof.Rows L2 LamX
section
variable {m : Md} {N : List Str} {sc scope : Scope} {i j k : Nat} {X : Cx} {a b c e e2 o elt : Expr} {es : List Expr} {σ : L2.St} {H : Hp} {Q : VK} {pos p p1 p2 p3 tpos : Pos} {x y : Str} {body : List Stmt} {nx : L2.St → Hp → Prop} {rt : VK} {bk ct : L2.St → Hp → Prop}
/-- while c: body, by a measure; what is wanted of a turn is written out -/
theorem s_while (h : At m N sc k X) (q : ∃ (Pv : L2.St → Hp → Prop) (μ : L2.St → Hp → Nat), Pv σ H ∧ ∀ σ H, Pv σ H → wT X c σ H fun b H1 => if b = true then wB X body ⟨fun σ' H' => Pv σ' H' ∧ μ σ' H' < μ σ H, rt, nx, fun σ' H' => Pv σ' H' ∧ μ σ' H' < μ σ H⟩ σ H1 else nx σ H1) : wS X (.While c body [] pos) ⟨nx, rt, bk, ct⟩ σ H := by
  refine toS (ps_while h.pass cT cB) ?_
  obtain ⟨Pv, μ, h0, hs⟩ := q
  refine ⟨fun n σ H => n = μ σ H ∧ Pv σ H, ⟨_, rfl, h0⟩, ?_⟩
  rintro n σ H ⟨rfl, p⟩
  have t := hs σ H p
  unfold wT at t ⊢
  refine fun pins s I => wpAny_mono (t pins s I) (fun v s' z => ?_) fun _ _ z => z
  obtain ⟨H1, I1, q1⟩ := z
  refine ⟨H1, I1, ?_⟩
  cases v with
  | true => exact ⟨fun σ' H' => Pv σ' H' ∧ μ σ' H' < μ σ H, fun σ' H' ⟨p', l⟩ => ⟨_, l, rfl, p'⟩, q1⟩
  | false => exact q1
/-- for t in zip(e, e2), of two lists of one length that stand still -/
theorem s_forZ {elts : List Expr} {kk : Nat} {g : TG} {po : Pos} (h : At m N sc k X) (hg : PG X (.Tuple elts kk tpos) g) (hm : m.mg "zip" = none) (hgl : sc.names.lookup ("zip" : Str) = some .globalImplicit)
    (q : wA X [e, e2] σ H fun vs H1 => ∃ (a b : Addr) (xs ys : List V), vs = [.ref a, .ref b] ∧ SqL m.K H1 a xs ∧ SqL m.K H1 b ys ∧ xs.length = ys.length ∧ ∃ Pv : Nat → L2.St → Hp → Prop, Pv 0 σ H1 ∧ (∀ i σ H, Pv i σ H → SqL m.K H a xs ∧ SqL m.K H b ys) ∧
      (∀ (i : Nat) (x y : V) (T : Addr) (σ : L2.St) (H : Hp), xs[i]? = some x → ys[i]? = some y → Pv i σ H → H T = none → g (.ref T) σ (upd H T (.tup [x, y])) fun σ2 H2 => wB X body ⟨Pv (i + 1), rt, nx, Pv (i + 1)⟩ σ2 H2) ∧ ∀ σ H, Pv xs.length σ H → nx σ H)
    (hs : starEach [e, e2] X.env = (false, eval e X.env) :: starEach [e2] X.env := by with_unfolding_all rfl) (hpl : (backTo p2 (starEach [e2] X.env)).any (·.1) = false := by with_unfolding_all rfl)
    (hf : ∀ x, foldedSetIterable (.Call (.Name "zip" p1) [e, e2] [] p2) X.env x = pure x := by with_unfolding_all (intro _; rfl)) : wS X (.For (.Tuple elts kk tpos) (.Call (.Name "zip" p1) [e, e2] [] p2) body [] po) ⟨nx, rt, bk, ct⟩ σ H := by
  refine toS (ps_for h.pass h.calm (pi_zip (h.gl hgl) (by rw [h.mm]; exact hm) (cA (es := [e, e2])) hs hpl) hg cB hf) ?_
  unfold wA at q ⊢
  refine fun pos pins s I => wpAny_mono (q pos pins s I) (fun v s' z => ?_) fun _ _ z => z
  obtain ⟨vs, H1, I1, r1, a, b, xs, ys, ev, ha, hb, hl, Pv, p0, hq, turn, fin⟩ := z
  exact ⟨vs, H1, I1, r1, a, b, xs, ys, ev, by rw [h.kk]; exact ha, by rw [h.kk]; exact hb, RZ.for_zipL (K := X.K) hl Pv p0 (fun i σ H z => by rw [h.kk]; exact hq i σ H z) turn fin⟩
/-- e[::-1] of a list -/
theorem w_rev {k1 : Nat} (h : At m N sc k X) (q : wE X e σ H fun x H1 => ∃ (a : Addr) (xs : List V), x = .ref a ∧ SqL m.K H1 a xs ∧ ∀ p, H1 p = none → Q (.ref p) (upd H1 p (.lst xs.reverse))) :
    wE X (.Subscript e (.Slice none none (some (.UnaryOp .USub (.Constant (.int 1) k1 p1) p2)) p3) pos) σ H Q := by
  refine toE (pe_revL cE) ?_
  exact wE.mono q fun x H1 ⟨a, xs, ea, hs, q1⟩ => ⟨a, xs, ea, by rw [h.kk]; exact hs, q1⟩
/-- [elt for x in range(a, b)] -/
theorem w_lcR2 (h : At m N sc k X) (hm : m.mg "range" = none) (hgl : sc.names.lookup ("range" : Str) = some .globalImplicit) (ok : blkC N sc scope [(x, i)] = true) (n : NL N (relS scope sc) i x)
    (q : wA X [a, b] σ H fun vs H1 => ∃ z w : Int, vs = [.int z, .int w] ∧ (-(2 ^ 62) ≤ z ∧ z < 2 ^ 62 ∧ -(2 ^ 62) ≤ w ∧ w < 2 ^ 62) ∧ ∀ D, H1 D = none → ∃ Pv : Nat → Hp → Prop, Pv 0 (upd H1 D (.lst [])) ∧
      (∀ j H, j < (w - z).toNat → Pv j H → ∀ X', At m N (relS scope sc) k X' → wE X' elt (σ.set i (some (.int (z + j)))) H (App D (Pv (j + 1)))) ∧ ∀ H, Pv (w - z).toNat H → Q (.ref D) H)
    (hst : starEach [a, b] X.env = [(false, eval a X.env), (false, eval b X.env)] := by with_unfolding_all rfl) (hst2 : starEach [b] X.env = [(false, eval b X.env)] := by with_unfolding_all rfl) (hs : ∀ x, foldedSetIterable (.Call (.Name "range" p2) [a, b] [] p3) X.env x = pure x := by with_unfolding_all (intro _; rfl)) : wE X (.ListComp elt [⟨.Name x p1, .Call (.Name "range" p2) [a, b] [] p3, [], 0⟩] scope pos) σ H Q := by
  refine toE (pe_lc (own := [(x, i)]) (g := gName i) (tt := tYes) (te := inBlk m N (relS scope sc) k elt) h.calm (by rw [h.nn]; exact h.nd) (pi_range2 (h.gl hgl) (by rw [h.mm]; exact hm) (cA (es := [a, b])) hst hst2) (by rw [h.nn, h.ss]; exact blkOk_by ok) (fun s H C cl fp => pg_nl (blk_at h s H C cl fp) n) (fun _ _ _ _ _ => pts_nil) (fun s H C cl fp => blk_pe h s H C cl fp) hs) ?_
  unfold wA at q ⊢
  refine fun pos pins s I => wpAny_mono (q pos pins s I) (fun v s' z => ?_) fun _ _ z => z
  obtain ⟨vs, H1, I1, r1, z, w, ev, hb, go⟩ := z
  refine ⟨vs, H1, I1, r1, z, w, ev, hb, fun D hD => ?_⟩
  obtain ⟨Pv, p0, turn, fin⟩ := go D hD
  refine lc_range (lo := z) (n := (w - z).toNat) (g := gName i) (tt := tYes) (te := inBlk m N (relS scope sc) k elt) (vs := [i]) (σ := σ) Pv p0 (fun j H hj hp => ?_) fin
  refine ⟨by rw [wipe1]; simp [wipe, List.set_set], ?_⟩
  unfold tYes
  refine iteT fun X' hX' => ?_
  rw [set_wipe]
  exact turn j H hj hp X' hX'
/-- e.f, a property whose getter keeps sp -/
theorem w_prop {f : Str} {C q g : Addr} {fd : FuncData} {ps : List Str} {sp : Sp} (h : At m N sc k X) (c : Cls m.K C) (hp : PropOf m.K C f q g) (F : FnG m C8.CX0 j g fd ps sp) (hb : L2.Binds m.K fd ps []) (hk : j + 1 ≤ k)
    (z : wE X e σ H fun x H1 => ∃ a dx fs, x = .ref a ∧ H1 a = some (.ins C dx fs) ∧ sp [.ref a] H1 Q C8.E0)
    (hab : attributeBase e f X.env (eval e X.env) = eval e X.env := by with_unfolding_all rfl) : wE X (.Attribute e f pos) σ H Q := by
  unfold wE
  intro pins s I
  refine attr_of hab (thn ((cE (X := X) (e := e)).run pins s σ H _ I z) fun u s1 ⟨x, H1, I1, rx, a, dx, fs, ex, ea, q1⟩ => ?_)
  subst ex
  obtain rfl : u = Value.ref a := rx
  obtain ⟨mA, O, _, _, _, _⟩ := ins_get I1.hok ea
  obtain ⟨od, J, _⟩ := O.look
  obtain ⟨rest, hrec⟩ := hp.rec_
  have I2 := I1.tok (s1.toks + 1)
  have c' : Cls X.K C := by rw [h.kk]; exact c
  have hc : (PySem.W.clsIn X.K C).isSome = true := by
    obtain ⟨cd, hc, _⟩ := PySem.W.any_some c'.hd
    rw [hc]; rfl
  refine PySem.W.get_bind I1.kIn J (PySem.W.plainGet_of (c'.get f)).1 (PySem.W.findObj_data hc (by rw [h.kk]; exact hp.at_) (by rw [h.kk]; exact hp.get) (by rw [h.kk]; exact hp.tak)) (PySem.W.plainGet_of (c'.get f)).2 (wpAny_call (PySem.W.prop_get (s := { s1 with toks := s1.toks + 1 }) I1.kIn (by rw [h.kk]; exact hrec) ?_))
  have e0 := I2.env0.in1
  rw [h.pp, h.ww, h.kk, h.mm, h.bb] at e0
  have hl : [Value.ref a].length = ps.length := by
    rw [← F.len _ _ _ _ q1]; rfl
  have rc := F.run X.A.in1 X.stack { s1 with toks := s1.toks + 1 } H1 ⟨[.ref a], []⟩ [.ref a] [.ref a] Q C8.E0 (by exact h.gd) ((h.room.mono hk).in1) e0 (by have := hb { s1 with toks := s1.toks + 1 } [.ref a] (by rw [← h.kk]; exact I2.kIn) (by simpa using hl); simpa using this) (.cons rfl .nil) q1
  rw [← h.pp, ← h.ww] at rc
  refine codeAny_mono rc fun r s' hq => ?_
  match r, hq with
  | .error er, hq => exact hq.elim
  | .ok (.ret u), hq =>
    obtain ⟨v, H', I3, rv, q3⟩ := I2.after hq
    show wpAny _ _ (handedOut u) _ _ _
    rw [PySem.W.handedOut_of (handed_of rv)]
    exact wpAny_pure ⟨v, H', I3, rv, q3⟩
end
end Vf
set_option maxRecDepth 100000
set_option maxHeartbeats 4000000
/-! Sst: set(list) of texts, of whole numbers; sorted(set), len(set). Own work. -/
namespace Vs
open PySem PySem.Spec PyProof.Rows L2
/-- what set.__new__ lays -/
abbrev nSet (w : World) : Obj := { cls := .type "set", dict := none, data := .set #[] 0 (.fresh 0 0 (!w.params.followText "set-order")) }
section
variable {P : Program} {w : World} {A : Around} {E : Value → Shared → Prop} {s : Shared}
/-- what one add keeps going -/
abbrev Step (P : Program) (w : World) (S : Addr) (J : Nat → Heap → Prop) (i : Nat) (v : Value) : Prop :=
  ∀ (A' : Around) (E' : Value → Shared → Prop) (s' : Shared) (Q' : Bool → Shared → Prop), J i s'.heap → (∀ b h' tk, Heap.SameBut S s'.heap h' → s'.toks ≤ tk → J (i + 1) h' → Q' b { s' with heap := h', toks := tk }) → wpAny (model P w) A' (setAdd S v) Q' E' s'
theorem upd_loop {I : Addr} {fp wr : List Addr} {G : Array GenState → Array GenState → Prop} {n : Nat} {Pv : Nat → Value → Prop} {St : Nat → Shared → Prop} {R : Result → Shared → Prop}
    (W : WalksS P w A.in1 I fp wr G n Pv St) (S : Addr) (hSf : S ∉ fp) (J : Nat → Heap → Prop) (jk : ∀ i h h', J i h → (∀ o, h.get? S = some o → h'.get? S = some o) → J i h')
    (js : ∀ i v, i < n → Pv i v → Step P w S J i v) : ∀ (k i : Nat) (s : Shared), n - i = k → i ≤ n → St i s → J i s.heap →
      (∀ s', Moved (S :: wr) G s s' → J n s'.heap → R (.ok (.ret .none)) s') → codeAny (model P w) A (.builtin "set.update.loop" ⟨[.ref S, .ref I], []⟩) R s := by
  have nw : S ∉ wr := fun z => hSf (W.sub _ z)
  have up : ∀ b ∈ wr, b ∈ S :: wr := fun b z => List.mem_cons_of_mem _ z
  intro k
  induction k with
  | zero =>
    intro i s e hi st j hR
    obtain rfl : i = n := by omega
    refine codeAny_builtin F.entry_set_update_loop ?_
    rw [Around.under_plainId F.plain_set_update_loop _]
    show wpAny _ A.in1 (pyNext (.ref I) >>= _) _ _ s
    refine wpAny_bind (W.done s _ _ st fun s1 mv => ?_)
    show wpAny _ A.in1 (ret Value.none) _ _ s1
    exact wpAny_pure (hR s1 (mv.mono up) (jk _ _ _ j fun o z => mv.heap S o nw z))
  | succ k ih =>
    intro i s e hi st j hR
    have lt : i < n := by omega
    refine codeAny_builtin F.entry_set_update_loop ?_
    rw [Around.under_plainId F.plain_set_update_loop _]
    show wpAny _ A.in1 (pyNext (.ref I) >>= _) _ _ s
    refine wpAny_bind (W.item i s _ _ lt st fun v s1 pv st1 mv => ?_)
    show wpAny _ A.in1 (holding [v] (setAdd S v) >>= _) _ _ s1
    refine wpAny_bind (wpAny_holding (js i v lt pv _ _ s1 _ (jk _ _ _ j fun o z => mv.heap S o nw z) fun b h1 tk sb ht j1 => ?_))
    have away : ∀ c, c ≠ S → ∀ o, s1.heap.get? c = some o → h1.get? c = some o := fun c hc o z => (sb.2 c hc).trans z
    refine wpAny_pure ⟨plainId_quiet F.plain_set_update_loop _, ih (i + 1) _ (by omega) lt (W.frame _ s1 _ _ st1 ht fun b hb o z => away b (fun q => hSf (q ▸ hb)) o z) j1 fun s2 mv2 j2 => hR s2 (Moved.trans W.gtrans ((mv.mono up).then_heap ht fun b o hb z => away b (fun q => hb (q ▸ List.mem_cons_self)) o z) mv2) j2⟩

set_option maxHeartbeats 4000000 in
/-- set(xs) of a list, by what is known of the set after each item -/
theorem set_of_list {l : Addr} {items : Array Value} {Q : Value → Shared → Prop} (J : Nat → Heap → Prop) (hh : A.handled = none) (hl : s.heap.IsList l items)
    (jk : ∀ i h h', J i h → (∀ o, h.get? s.heap.objs.size = some o → h'.get? s.heap.objs.size = some o) → J i h') (j0 : ∀ h, h.get? s.heap.objs.size = some (nSet w) → J 0 h)
    (js : ∀ i v, items[i]? = some v → Step P w s.heap.objs.size J i v)
    (q : ∀ (h' : Heap) (tk : Nat), J items.size h' → (∀ b o, s.heap.get? b = some o → h'.get? b = some o) → Q (.ref s.heap.objs.size) { s with heap := h', toks := tk }) :
    wpAny (model P w) A (call (.type "set") [.ref l]) Q E s := by
  obtain ⟨c, tl, hmro⟩ := F.called_set.mro
  have hmade := F.called_set.made
  have hsub := F.called_set.sub
  refine wpAny_call (codeAny_of_tree ?_)
  show wpAny _ _ (callAny (.type "set") _) _ _ _
  refine wpAny_pure ⟨Code.quiet_builtin _ (by decide +kernel), codeAny_builtin F.entry_type_call ?_⟩
  rw [Around.under_plain (weight_type_call_type "set" [.ref l] []) rfl]
  have h1 := F.called_set.notType
  have h2 := F.called_set.canCreate
  have h3 := F.typeCall_set_1 (.ref l)
  repeat (any_goals (first | assumption | wp_step))
  refine codeAny_mono (code_set_led1 (.ref l) (E := E) (Q₁ := fun v s1 => v = .ref s.heap.objs.size ∧ s1 = { s with heap := s.heap.push (nSet w) }) ⟨rfl, rfl⟩) fun r s1 hr => ?_
  cases r with
  | error e => exact hr
  | ok fl =>
    cases fl with
    | ret obj =>
      obtain ⟨rfl, rfl⟩ := hr
      have at1 : (s.heap.push (nSet w)).get? s.heap.objs.size = some (nSet w) := Heap.get?_push_size _ rfl
      have ty1 : Shared.TypeIs { s with heap := s.heap.push (nSet w) } (.ref s.heap.objs.size) "set" := ⟨_, at1, rfl⟩
      have h4 := F.called_set.init.lookup
      have h5 := F.called_set.init.bind (.ref s.heap.objs.size)
      repeat (any_goals (first | assumption | wp_step))
      refine codeAny_mono (codeAny_call_builtin (R := wants (fun r s2 => r = .none ∧ ∃ h' tk, s2 = { s with heap := h', toks := tk } ∧ J items.size h' ∧ ∀ b o, s.heap.get? b = some o → h'.get? b = some o) E)
        F.called_set.init.plain F.entry_set_init (check_set_init_1 ty1 ?_)) fun r2 s2 hr2 => ?_
      · obtain ⟨⟨cls, dict, data, slots⟩, ol, hc, nl, hd⟩ := hl
        simp only at hc hd
        subst hc
        subst hd
        have ol' : (s.heap.push (nSet w)).get? l = some { cls := .type "list", dict := dict, data := .seq items nl, slots := slots } := Heap.get?_push_of_some _ ol
        have h6 := F.sub_list_set
        have h7 := F.sub_list_frozenset
        have h8 : (Value.type "list" == Value.type "dict") = false := by decide
        have il : (s.heap.push (nSet w)).IsList l items := ⟨_, ol', rfl, nl, rfl⟩
        unfold Builtin.«set.__init__» noKeywords Builtin.Frozenset.updateFrom
        generalize hPI : pyIter = PI
        wp_walk
        subst hPI
        refine wpAny_pyIter_list il (wpAny_bind (wpAny_runValue ?_))
        have lS : l < s.heap.objs.size := Heap.lt_size ol
        have h9 : A.in1.in1.in1.handled = none := by simp [hh]
        have sz : (s.heap.push (nSet w)).objs.size = s.heap.objs.size + 1 := Heap.size_push ..
        have neI : l ≠ (s.heap.push (nSet w)).objs.size := by rw [sz]; exact Nat.ne_of_lt (Nat.lt_succ_of_lt lS)
        have nf : s.heap.objs.size ∉ [(s.heap.push (nSet w)).objs.size, l] := by
          rw [sz]
          simp only [List.mem_cons, List.not_mem_nil, or_false, not_or]
          exact ⟨Nat.ne_of_lt (Nat.lt_succ_self _), Nat.ne_of_gt lS⟩
        refine upd_loop ((Walks.list h9 _ l neI items).toS) s.heap.objs.size nf J jk (fun i v _ pv => js i v pv) (items.size - 0) 0 _ rfl (Nat.zero_le _) ⟨⟨_, Heap.get?_push_size _ rfl, rfl, rfl⟩, il.push _⟩
          (j0 _ (Heap.get?_push_of_some _ at1)) fun s' mv j => ?_
        obtain ⟨h', g', d', tk', os'⟩ := s'
        have eg : g' = s.gens := mv.gens
        have ed : d' = s.drawn := mv.drawn
        have eo : os' = s.os := mv.os
        subst eg
        subst ed
        subst eo
        show wpAny _ _ _ _ _ _
        refine wpAny_pure ?_
        show wpAny _ _ (ret Value.none) _ _ _
        refine wpAny_pure ⟨rfl, h', tk', rfl, j, fun b o z => ?_⟩
        have b0 : b < s.heap.objs.size := Heap.lt_size z
        refine mv.heap b o ?_ (Heap.get?_push_of_some _ (Heap.get?_push_of_some _ z))
        rw [sz]
        simp only [List.mem_cons, List.not_mem_nil, or_false, not_or]
        exact ⟨Nat.ne_of_lt b0, Nat.ne_of_lt (Nat.lt_succ_of_lt b0)⟩
      · cases r2 with
        | error e => exact hr2
        | ok fl2 =>
          cases fl2 with
          | ret r =>
            obtain ⟨rfl, h', tk, rfl, j, k⟩ := hr2
            repeat (any_goals (first | assumption | wp_step))
            exact q _ _ j k
          | _ => exact hr2.elim
    | _ => exact hr.elim
end

/-! ### sets of texts -/
open PySem.Froz
/-- the set of the texts l at a: its table rises -/
def SetX (P : Program) (w : World) (h : Heap) (a : Addr) (l : List Str) : Prop :=
  l.Nodup ∧ ∃ D : SD, h.get? a = some (sObj "set" D) ∧ TxOk P w D l ∧ Ris D.2.2.place.toList ∧ (w.params.followText "set-order" = true ∨ D.2.2.led = true)
theorem tail_rl (ep : Nat) (es : Array (Int × Value)) (t : SetTable) (b : Bool) (r : Ris t.place.toList) : Ris (tailTx ep es t b).2.2.place.toList ∧ (tailTx ep es t b).2.2.led = t.led := by
  unfold tailTx
  split
  · exact ⟨relayAll_ris _ _ _, relayAll_led _ _ _⟩
  · exact ⟨r, rfl⟩
theorem add_rl (x : Int) (v : Value) (D : SD) (r : Ris D.2.2.place.toList) : Ris (addTx x v D).2.2.place.toList ∧ (addTx x v D).2.2.led = D.2.2.led := by
  have r1 := layNew_ris D.2.2 D.1 x v r
  have l1 := layNew_led D.2.2 D.1 x v
  unfold addTx
  split
  · have z := tail_rl D.2.1 (layNew D.2.2 D.1 x v).1 { (layNew D.2.2 D.1 x v).2.1 with plain := false } (layNew D.2.2 D.1 x v).2.2.1 r1
    exact ⟨z.1, z.2.trans l1⟩
  · have z := tail_rl D.2.1 (layNew D.2.2 D.1 x v).1 (layNew D.2.2 D.1 x v).2.1 (layNew D.2.2 D.1 x v).2.2.1 r1
    exact ⟨z.1, z.2.trans l1⟩
section
variable {P : Program} {w : World} {A : Around} {E : Value → Shared → Prop} {s : Shared}
theorem SetX.keep {h h' : Heap} {a : Addr} {l : List Str} (x : SetX P w h a l) (k : ∀ o, h.get? a = some o → h'.get? a = some o) : SetX P w h' a l := by
  obtain ⟨n, D, h1, r⟩ := x
  exact ⟨n, D, k _ h1, r⟩
theorem setX_new {h : Heap} {a : Addr} (z : h.get? a = some (nSet w)) : SetX P w h a [] :=
  ⟨List.nodup_nil, (#[], 0, .fresh 0 0 (!w.params.followText "set-order")), z, TxOk.nil (by rfl), List.Pairwise.nil, by
    show _ ∨ (!w.params.followText "set-order") = true
    cases w.params.followText "set-order"
    · exact .inr rfl
    · exact .inl rfl⟩
/-- a text that is there -/
theorem add_there {a : Addr} {D : SD} {l : List Str} {k : Str} {u : Tok} {Q : Bool → Shared → Prop} (ho : s.heap.get? a = some (sObj "set" D)) (F : TxOk P w D l) (hk : k ∈ l) (hb : l.length < scanBound) (h : Q false s) :
    wpAny (model P w) A (setAddHashed a (.str k u) (hashStr w k)) Q E s := by
  obtain ⟨es, ep, t⟩ := D
  have hd : (sObj "set" (es, ep, t)).data = .set es ep t := rfl
  have hf : t.fits es.size = true := F.fit
  have hel : ElemsOf (PySem.strKind P w) es.toList := F.el
  have hsz : es.size = l.length := F.sz
  have hkey : (PySem.strKind P w).is k (.str k u) = true := is_str k u
  unfold setAddHashed setAddHashedIn
  refine wpAny_holding (wpAny_bind (wpAny_setState_of ho hd hf ?_))
  dsimp only
  rw [byScan_of rfl (by rw [hsz]; exact hb) hel]
  simp only [↓reduceIte]
  unfold setAddByScan
  refine wpAny_bind (wpAny_bind (wpAny_rule ?_))
  refine wpAny_bind (wpAny_setScan_of (knd := PySem.strKind P w) (k := k) hkey ho hd hf hel ?_)
  cases hfi : List.findIdx? (fun e => (PySem.strKind P w).is k e.2) es.toList with
  | some j =>
    dsimp only
    exact wpAny_pure (wpAny_pure h)
  | none =>
    obtain ⟨e, he, z⟩ := (F.mem k).mp hk
    have c := List.findIdx?_eq_none_iff.mp hfi e he
    rw [z] at c
    cases c
/-- found.add(text) -/
theorem setX_add {a : Addr} {l : List Str} {k : Str} {u : Tok} {Q : Bool → Shared → Prop} (x : SetX P w s.heap a l) (hb : l.length + 1 < scanBound)
    (q : ∀ b h', Heap.SameBut a s.heap h' → SetX P w h' a (if k ∈ l then l else k :: l) → Q b { s with heap := h', toks := s.toks + 1 }) : wpAny (model P w) A (setAdd a (.str k u)) Q E s := by
  obtain ⟨n, D, ho, F, r, ld⟩ := x
  unfold setAdd
  refine wpAny_holding (wpAny_bind ((PySem.strKind P w).pyHash (k := k) (is_str k u) ?_))
  by_cases c : k ∈ l
  · rw [if_pos c] at q
    exact add_there (s := { s with toks := s.toks + 1 }) ho F c (by omega) (q false s.heap (Heap.SameBut.refl a s.heap) ⟨n, D, ho, F, r, ld⟩)
  · rw [if_neg c] at q
    refine add_x (s := { s with toks := s.toks + 1 }) ho F c hb (q true _ (Heap.SameBut.update ..) ⟨List.nodup_cons.mpr ⟨c, n⟩, _, get_upd _ ho rfl, add_ok u F, (add_rl _ _ _ r).1, ld.imp id fun z => (add_rl _ _ _ r).2.trans z⟩)
/-- set(xs) of a list of texts -/
theorem set_texts {p : Addr} {items : Array Value} {xs : List Str} {Q : Value → Shared → Prop} (hh : A.handled = none) (hl : s.heap.IsList p items) (hx : StrsAre items.toList xs) (hb : xs.length + 1 < scanBound)
    (q : ∀ (h' : Heap) (tk : Nat) (l : List Str), SetX P w h' s.heap.objs.size l → (∀ y, y ∈ l ↔ y ∈ xs) → l.length ≤ xs.length → (∀ b o, s.heap.get? b = some o → h'.get? b = some o) → Q (.ref s.heap.objs.size) { s with heap := h', toks := tk }) :
    wpAny (model P w) A (call (.type "set") [.ref p]) Q E s := by
  have sz : items.size = xs.length := by rw [← Array.length_toList]; exact hx.length
  refine set_of_list (fun i h => ∃ l, SetX P w h s.heap.objs.size l ∧ (∀ y, y ∈ l ↔ y ∈ xs.take i) ∧ l.length ≤ i) hh hl (fun i h h' ⟨l, x, r⟩ k => ⟨l, x.keep k, r⟩) (fun h z => ⟨[], setX_new z, by simp, Nat.le_refl _⟩)
    (fun i v hv A' E' s' Q' ⟨l, x, m, ln⟩ q' => ?_) (fun h' tk ⟨l, x, m, ln⟩ k => q h' tk l x (fun y => by rw [m y, List.take_of_length_le (by omega)]) (by omega) k)
  have hi : i < xs.length := by rw [← sz]; exact (Array.getElem?_eq_some_iff.mp hv).1
  obtain ⟨y, t, rfl, hy⟩ := hx.item i v (by rw [Array.getElem?_toList]; exact hv)
  refine setX_add x (by omega) fun b h' sb x' => q' b h' _ sb (Nat.le_succ _) ⟨_, x', fun z => ?_, ?_⟩
  · rw [List.take_add_one, hy]
    simp only [Option.toList, List.mem_append, List.mem_singleton]
    by_cases c : y ∈ l
    · rw [if_pos c, m z]
      refine ⟨.inl, fun h => h.elim id fun e => ?_⟩
      rw [e]
      exact (m y).1 c
    · rw [if_neg c, List.mem_cons, m z]
      exact Or.comm
  · split
    · omega
    · rw [List.length_cons]; omega
theorem strsAre_all : ∀ (vs : List Value), (∀ v ∈ vs, ∃ k t, v = Value.str k t) → ∃ xs, StrsAre vs xs ∧ xs = vs.map strOf
  | [], _ => ⟨[], .nil, rfl⟩
  | v :: vs, h => by
    obtain ⟨k, t, rfl⟩ := h v List.mem_cons_self
    obtain ⟨xs, h1, h2⟩ := strsAre_all vs fun u hu => h u (List.mem_cons_of_mem _ hu)
    exact ⟨k :: xs, .cons k t h1, by rw [h2]; rfl⟩
theorem perm_sub : ∀ (l r : List Str), l.Nodup → (∀ k ∈ l, k ∈ r) → r.length ≤ l.length → r.Perm l
  | [], r, _, _, h => by
    have z : r = [] := List.length_eq_zero_iff.mp (Nat.le_zero.mp h)
    rw [z]
  | k :: l, r, n, s, h => by
    obtain ⟨n1, n2⟩ := List.nodup_cons.mp n
    have hk := s k List.mem_cons_self
    have e := List.length_erase_of_mem hk
    have ih := perm_sub l (r.erase k) n2 (fun y hy => (List.mem_erase_of_ne fun (z : y = k) => n1 (by rw [← z]; exact hy)).2 (s y (List.mem_cons_of_mem _ hy))) (by rw [List.length_cons] at h; omega)
    exact (List.perm_cons_erase hk).trans (ih.cons k)
theorem tx_strs {D : SD} {l : List Str} (n : l.Nodup) (F : TxOk P w D l) : (∀ v ∈ D.1.toList.map (·.2), ∃ k t, v = Value.str k t) ∧ ((D.1.toList.map (·.2)).map strOf).Perm l := by
  have h1 : ∀ e ∈ D.1.toList, ∃ k t, e.2 = Value.str k t := fun e he => by
    obtain ⟨⟨k, z, _⟩, _⟩ := F.el e he
    obtain ⟨t, z2⟩ := Value.isStrOf_shape z
    exact ⟨k, t, z2⟩
  have h2 : ∀ e ∈ D.1.toList, ∀ k, (PySem.strKind P w).is k e.2 = true ↔ strOf e.2 = k := fun e he k => by
    obtain ⟨k0, t, z⟩ := h1 e he
    rw [z]
    exact ⟨fun q => ((PySem.strKind P w).inj (.str k0 t) k k0 q (is_str k0 t)).symm, fun q => by rw [← show k0 = k from q]; exact is_str k0 t⟩
  have hm : ∀ k, k ∈ l ↔ k ∈ (D.1.toList.map (·.2)).map strOf := fun k => by
    rw [F.mem k, List.map_map, List.mem_map]
    exact ⟨fun ⟨e, he, z⟩ => ⟨e, he, (h2 e he k).1 z⟩, fun ⟨e, he, z⟩ => ⟨e, he, (h2 e he k).2 z⟩⟩
  refine ⟨fun v hv => ?_, ?_⟩
  · obtain ⟨e, he, rfl⟩ := List.mem_map.mp hv
    exact h1 e he
  · refine perm_sub _ _ n (fun k hk => (hm k).1 hk) ?_
    have z : D.1.size = l.length := F.sz
    rw [List.length_map, List.length_map, Array.length_toList, z]
    exact Nat.le_refl _
/-- sorted(found) -/
theorem sorted_setX {a : Addr} {l : List Str} {Q : Value → Shared → Prop} (x : SetX P w s.heap a l) (hh : A.handled = none) (hb : l.length < scanBound)
    (q : ∀ s' p (out : Array Value) (c : Nat) (ys : List Str), (∀ b o, s.heap.get? b = some o → s'.heap.get? b = some o) → s'.gens = s.gens → s'.os = s.os → s.heap.objs.size ≤ p →
      s'.heap.get? p = some (seqObj "list" out c) → StrsAre out.toList ys → ys.Perm l → sortedS ys = true → Q (.ref p) s') :
    wpAny (model P w) A (call (.builtin "sorted") [.ref a]) Q E s := by
  obtain ⟨n, ⟨es, ep, t⟩, ho, F, r, ld⟩ := x
  have sz : es.size = l.length := F.sz
  obtain ⟨st, pl⟩ := tx_strs n F
  refine Calls.call_function_entry kind_sorted plain_sorted entry_sorted (args_sorted1 _) ?_
  unfold Builtin.«sorted»
  refine wpAny_bind (m := checkCount "sorted" 1 1 _) (wpAny_pure ?_)
  refine wpAny_bind (collect_set (A := A.in1) hh ⟨_, ho, rfl, rfl⟩ F.fit (by rw [sz]; exact hb) r ld fun s1 vs k1 hz g1 o1 pm => ?_)
  obtain ⟨xs, hS, ex⟩ := strsAre_all vs fun v hv => st v (pm.mem_iff.mp hv)
  have px : xs.Perm l := by rw [ex]; exact (pm.map strOf).trans pl
  have hL : vs.length ≤ sizeLine := by
    have z : scanBound ≤ sizeLine := by rw [sizeLine_eq]; decide
    rw [hS.length, px.length_eq]
    omega
  refine wpAny_bind (wpAny_newList ?_ hL)
  have hoL : (s1.heap.push (seqObj "list" vs.toArray 0)).get? s1.heap.objs.size = some (seqObj "list" vs.toArray 0) := Heap.get?_push_size _ rfl
  refine wpAny_bind (wpAny_holding (wpAny_call_entry slot_list_sort ⟨_, hoL, rfl⟩ entry_list_sort (list_sort_treeKAny strKind_oneLt hoL hS.keysOf (fun v₁ v₂ rest e => keyKind_strs (by rw [← e]; exact hS)) hL fun st' hp hs => ⟨_, rfl, ?_⟩) (args_list_sort _)))
  obtain ⟨ys, h1, h2, h3⟩ := sorted_out_str hS hp hs
  generalize (arrOf st').map (·.2) = out at h1 ⊢
  obtain ⟨c, hc⟩ := sortedHeap_at (vs := vs) (out := out) hoL
  refine wpAny_pure ⟨_, rfl, q _ s1.heap.objs.size out c ys (fun b u e => ?_) g1 o1 hz hc h1 (h2.trans px) h3⟩
  have z := k1 b u e
  have lt := Heap.lt_size z
  show (sortedHeap (s1.heap.push (seqObj "list" vs.toArray 0)) s1.heap.objs.size vs out).get? b = some u
  rw [sortedHeap_old (Nat.ne_of_lt lt) (by rw [size_push']; exact Nat.lt_succ_of_lt lt)]
  exact Heap.get?_push_of_some _ z
end
end Vs

namespace Vf
open PySem PySem.Spec PyProof.Rows L2 LamX Vs
/-- the set of the texts l, as an object -/
def SetH (P : Program) (w : World) (a : Addr) (l : List Str) : HO := .ext fun h => SetX P w h a l
theorem setH_new {P : Program} {w : World} {H : Hp} {h : Heap} {a : Addr} {l : List Str} (R : SetX P w h a l) : ObjOk P w H h a (SetH P w a l) := by
  have ⟨_, D, ho, _⟩ := R
  exact ⟨R, ⟨_, ho⟩, fun h1 h2 p k => SetX.keep p k⟩
theorem setH_get {X : Cx} {pins : List (Addr × Obj)} {σ : L2.St} {H : Hp} {s : Shared} {a : Addr} {l : List Str} (I : Inv X pins σ H s) (ha : H a = some (SetH X.prog X.w a l)) : SetX X.prog X.w s.heap a l := (I.hok a _ ha).1
section
variable {m : Md} {N : List Str} {sc : Scope} {k : Nat} {X : Cx} {H : Hp} {Q : VK}
/-- set(xs) of a list of texts -/
theorem cr_setX (hc : X.calm = true) : CallR X (.type "set") (fun vs H Q => ∃ (p : Addr) (xs : List Str), vs = [V.ref p] ∧ SqL X.K H p (xs.map V.str) ∧ xs.length < 4000 ∧
    ∀ a l, H a = none → l.Nodup → (∀ y, y ∈ l ↔ y ∈ xs) → l.length ≤ xs.length → Q (.ref a) (upd H a (SetH X.prog X.w a l))) := by
  intro pins s σ H vs us Q I r h
  obtain ⟨p, xs, rfl, hs, hb, q⟩ := h
  obtain ⟨its, rv, hl, _⟩ := I.list hs
  rw [Vals.ref1 r]
  refine set_texts (P := X.prog) (I.ok.hd hc) hl.isList (by simpa using rv.strs) (by unfold scanBound; omega) fun h' tk l x ml ll kp => ?_
  exact ⟨.ref _, upd H s.heap.objs.size (SetH X.prog X.w s.heap.objs.size l), I.laid (t' := tk) kp (Nat.le_refl _) (setH_new x), rfl, q _ l (I.hok.fresh (Nat.le_refl _)) x.1 ml ll⟩
/-- sorted(found) -/
theorem cr_sortedX (hc : X.calm = true) : CallR X (.builtin "sorted") (fun vs H Q => ∃ (a : Addr) (l : List Str), vs = [V.ref a] ∧ H a = some (SetH X.prog X.w a l) ∧ l.length < 4000 ∧
    ∀ ys p, ys.Perm l → sortedS ys = true → H p = none → Q (.ref p) (upd H p (.lst (ys.map V.str)))) := by
  intro pins s σ H vs us Q I r h
  obtain ⟨a, l, rfl, ha, hb, q⟩ := h
  have R := setH_get I ha
  rw [Vals.ref1 r]
  refine sorted_setX R (I.ok.hd hc) (by unfold scanBound; omega) fun s' p out c ys kp g o hp hg hi pm st => ?_
  have hlen : (ys.map V.str).length ≤ sizeLine := by rw [List.length_map, pm.length_eq, sizeLine_eq]; omega
  have hn : H p = none := I.hok.fresh hp
  have J : Inv X pins σ (upd H p (.lst (ys.map V.str))) { s with heap := s'.heap, gens := s'.gens, drawn := s'.drawn, toks := s'.toks } :=
    I.call (ch := []) (Un.laid kp hp hn) (I.hok.laid kp hp ⟨hlen, out.toList, c, vals_of_strs hi, hg⟩) (by rw [g]; exact I.bare) (fun _ z => nomatch z)
  have e : s' = { s with heap := s'.heap, gens := s'.gens, drawn := s'.drawn, toks := s'.toks } := by
    cases s'
    cases s
    cases o
    rfl
  rw [e]
  exact ⟨.ref p, _, J, rfl, q ys p pm st hn⟩
/-- len(found) -/
theorem cr_lenX : CallR X (.builtin "len") (fun vs H Q => ∃ (a : Addr) (l : List Str), vs = [V.ref a] ∧ H a = some (SetH X.prog X.w a l) ∧ l.length < 4000 ∧ Q (.int l.length) H) := by
  intro pins s σ H vs us Q I r h
  obtain ⟨a, l, rfl, ha, hb, q⟩ := h
  obtain ⟨_, D, ho, F, _⟩ := setH_get I ha
  rw [Vals.ref1 r]
  have sz : D.1.size = l.length := F.sz
  refine call_len_set ho ⟨rfl, rfl, rfl⟩ rfl F.fit (by rw [sz]; omega) ⟨.int l.length, H, I.tok _, ⟨_, by rw [sz]⟩, q⟩
theorem g_setX (h : At m N sc k X) {p : Addr} {xs : List Str} (hs : SqL m.K H p (xs.map V.str)) (hb : xs.length < 4000)
    (q : ∀ a l, H a = none → l.Nodup → (∀ y, y ∈ l ↔ y ∈ xs) → l.length ≤ xs.length → Q (.ref a) (upd H a (SetH m.P m.w a l))) : gCall X (.type "set") [.ref p] H Q :=
  ⟨_, cr_setX h.calm, p, xs, rfl, by rw [h.kk]; exact hs, hb, by rw [h.pp, h.ww]; exact q⟩
theorem g_sortedX (h : At m N sc k X) {a : Addr} {l : List Str} (ha : H a = some (SetH m.P m.w a l)) (hb : l.length < 4000)
    (q : ∀ ys p, ys.Perm l → sortedS ys = true → H p = none → Q (.ref p) (upd H p (.lst (ys.map V.str)))) : gCall X (.builtin "sorted") [.ref a] H Q :=
  ⟨_, cr_sortedX h.calm, a, l, rfl, by rw [h.pp, h.ww]; exact ha, hb, q⟩
theorem g_lenX (h : At m N sc k X) {a : Addr} {l : List Str} (ha : H a = some (SetH m.P m.w a l)) (hb : l.length < 4000) (q : Q (.int l.length) H) : gCall X (.builtin "len") [.ref a] H Q :=
  ⟨_, cr_lenX, a, l, rfl, by rw [h.pp, h.ww]; exact ha, hb, q⟩
end
end Vf
set_option maxRecDepth 100000
set_option maxHeartbeats 4000000
/-! Dct: dicts that are walked, looked up, stored, copied, displayed; pairs as targets in comprehensions; enumerate. Own work. -/
namespace Vf
open PySem PySem.Spec PyProof.Rows L2 LamX
/-- what a dict walked over asks: it is locked while the block runs -/
theorem Grow.unlock {T : List (Addr × Str)} {H H' : Hp} {d : Addr} {od : Obj} {kvs : List (Key × V)} (hd : H d = some (.dK kvs)) (g : Grow T (upd H d (.frz od (.dK kvs))) H') : Grow T H (upd H' d (.dK kvs)) ∧ H' d = some (.frz od (.dK kvs)) := by
  have fz := g.frz d od (.dK kvs) upd_same
  refine ⟨⟨fun b o _ e n => ?_, fun t => ?_, fun b e => ?_, fun b xs e => ?_, fun b o u e => ?_⟩, fz⟩
  · by_cases c : b = d
    · subst c
      rw [hd] at e
      rw [upd_same, e]
    · rw [upd_ne c]
      exact g.ext b o (fun z => z) (by rw [upd_ne c]; exact e) n
  · have t1 : Tabs T (upd H d (.frz od (.dK kvs))) := by
      intro q hq
      obtain ⟨ps, h1, h2, h3⟩ := t q hq
      refine ⟨ps, by rw [upd_ne (fun z => by rw [z, hd] at h1; cases h1)]; exact h1, h2, fun pos cv hc => ?_⟩
      obtain ⟨c, e1, e2⟩ := h3 pos cv hc
      exact ⟨c, e1, by rw [upd_ne (fun z => by rw [z, hd] at e2; unfold CodeO at e2; cases e2)]; exact e2⟩
    have t2 := g.tab t1
    intro q hq
    obtain ⟨ps, h1, h2, h3⟩ := t2 q hq
    refine ⟨ps, by rw [upd_ne (fun z => by rw [z, fz] at h1; cases h1)]; exact h1, h2, fun pos cv hc => ?_⟩
    obtain ⟨c, e1, e2⟩ := h3 pos cv hc
    exact ⟨c, e1, by rw [upd_ne (fun z => by rw [z, fz] at e2; unfold CodeO at e2; cases e2)]; exact e2⟩
  · exact NdefX.upd_none (g.keep b (NdefX.upd_none e))
  · have c : b ≠ d := fun z => by rw [z, hd] at e; cases e
    rw [upd_ne c]
    exact g.tup b xs (by rw [upd_ne c]; exact e)
  · have c : b ≠ d := fun z => by rw [z, hd] at e; cases e
    rw [upd_ne c]
    exact g.frz b o u (by rw [upd_ne c]; exact e)
section
variable {m : Md} {N : List Str} {sc scope : Scope} {k i j : Nat} {X : Cx} {a b c e f o elt iter : Expr} {es : List Expr} {σ : L2.St} {H : Hp} {Q : VK} {pos p p1 p2 p3 apos tpos : Pos} {x y : Str} {nx : L2.St → Hp → Prop} {rt : VK} {bk ct : L2.St → Hp → Prop}
/-- [elt for x in d], d a dict -/
theorem w_lcDk (h : At m N sc k X) (ok : blkC N sc scope [(x, i)] = true) (n : NL N (relS scope sc) i x)
    (q : ∃ (d : Addr) (kvs : List (Key × V)), H d = some (.dK kvs) ∧ ∀ od, wE X iter σ (upd H d (.frz od (.dK kvs))) fun v H1 => v = .ref d ∧ H1 = upd H d (.frz od (.dK kvs)) ∧ ∀ D, H1 D = none → ∃ Pv : Nat → Hp → Prop, Pv 0 (upd H1 D (.lst [])) ∧ (∀ t H, t ≤ kvs.length → Pv t H → H d = some (.frz od (.dK kvs))) ∧
      (∀ t p H, kvs[t]? = some p → Pv t H → ∀ X', At m N (relS scope sc) k X' → wE X' elt (σ.set i (some (kV p.1))) H (App D (Pv (t + 1)))) ∧ ∀ H, Pv kvs.length H → Q (.ref D) (upd H d (.dK kvs)))
    (hs : ∀ x, foldedSetIterable iter X.env x = pure x := by with_unfolding_all (intro _; rfl)) : wE X (.ListComp elt [⟨.Name x p1, iter, [], 0⟩] scope pos) σ H Q := by
  refine toE (pe_lock (pe_lc (own := [(x, i)]) (g := gName i) (tt := tYes) (te := inBlk m N (relS scope sc) k elt) h.calm (by rw [h.nn]; exact h.nd) (pi_keys cE) (by rw [h.nn, h.ss]; exact blkOk_by ok) (fun s H C cl fp => pg_nl (blk_at h s H C cl fp) n) (fun _ _ _ _ _ => pts_nil) (fun s H C cl fp => blk_pe h s H C cl fp) hs)) ?_
  obtain ⟨d, kvs, hd, q⟩ := q
  refine ⟨d, .dK kvs, hd, trivial, fun od => ?_⟩
  refine wE.mono (q od) fun v H1 ⟨ev, eH, go⟩ => ?_
  refine ⟨d, od, ev, .inl ⟨kvs, by rw [eH]; exact upd_same, fun D hD => ?_⟩⟩
  obtain ⟨Pv, p0, st, turn, fin⟩ := go D hD
  refine lc_it walk_keys (g := gName i) (tt := tYes) (te := inBlk m N (relS scope sc) k elt) (vs := [i]) (σ := σ) Pv p0 st (fun t z H H' ht hp y => ?_) fun H hp => ⟨st _ _ (Nat.le_refl _) hp, fin H hp⟩
  obtain ⟨rfl, kk, v, hk, rfl⟩ := y
  refine ⟨by rw [wipe1]; simp [wipe, List.set_set], ?_⟩
  unfold tYes
  refine iteT fun X' hX' => ?_
  rw [set_wipe]
  exact turn t (kk, v) H' hk hp X' hX'
/-- [elt for x in d.values()] -/
theorem w_lcDv (h : At m N sc k X) (ok : blkC N sc scope [(x, i)] = true) (n : NL N (relS scope sc) i x)
    (q : ∃ (d : Addr) (kvs : List (Key × V)), H d = some (.dK kvs) ∧ ∀ od, wE X e σ (upd H d (.frz od (.dK kvs))) fun v H1 => v = .ref d ∧ H1 = upd H d (.frz od (.dK kvs)) ∧ ∀ D, H1 D = none → ∃ Pv : Nat → Hp → Prop, Pv 0 (upd H1 D (.lst [])) ∧ (∀ t H, t ≤ kvs.length → Pv t H → H d = some (.frz od (.dK kvs))) ∧
      (∀ t p H, kvs[t]? = some p → Pv t H → ∀ X', At m N (relS scope sc) k X' → wE X' elt (σ.set i (some p.2)) H (App D (Pv (t + 1)))) ∧ ∀ H, Pv kvs.length H → Q (.ref D) (upd H d (.dK kvs)))
    (hbase : attributeBase e "values" X.env (eval e X.env) = eval e X.env := by with_unfolding_all rfl) (hline : (apos.endLine == p2.line) = true := by with_unfolding_all rfl)
    (hs : ∀ x, foldedSetIterable (.Call (.Attribute e "values" apos) [] [] p2) X.env x = pure x := by with_unfolding_all (intro _; rfl)) : wE X (.ListComp elt [⟨.Name x p1, .Call (.Attribute e "values" apos) [] [] p2, [], 0⟩] scope pos) σ H Q := by
  refine toE (pe_lock (pe_lc (own := [(x, i)]) (g := gName i) (tt := tYes) (te := inBlk m N (relS scope sc) k elt) h.calm (by rw [h.nn]; exact h.nd) (pi_values cE hbase hline) (by rw [h.nn, h.ss]; exact blkOk_by ok) (fun s H C cl fp => pg_nl (blk_at h s H C cl fp) n) (fun _ _ _ _ _ => pts_nil) (fun s H C cl fp => blk_pe h s H C cl fp) hs)) ?_
  obtain ⟨d, kvs, hd, q⟩ := q
  refine ⟨d, .dK kvs, hd, trivial, fun od => ?_⟩
  refine wE.mono (q od) fun v H1 ⟨ev, eH, go⟩ => ?_
  refine ⟨d, od, kvs, ev, by rw [eH]; exact upd_same, fun D hD => ?_⟩
  obtain ⟨Pv, p0, st, turn, fin⟩ := go D hD
  refine lc_it walk_values (g := gName i) (tt := tYes) (te := inBlk m N (relS scope sc) k elt) (vs := [i]) (σ := σ) Pv p0 st (fun t z H H' ht hp y => ?_) fun H hp => ⟨st _ _ (Nat.le_refl _) hp, fin H hp⟩
  obtain ⟨rfl, kk, hk⟩ := y
  refine ⟨by rw [wipe1]; simp [wipe, List.set_set], ?_⟩
  unfold tYes
  refine iteT fun X' hX' => ?_
  rw [set_wipe]
  exact turn t (kk, z) H' hk hp X' hX'
theorem set2_wipe {u w : V} : ((wipe σ [i, j]).set i (some u)).set j (some w) = (σ.set i (some u)).set j (some w) := by
  by_cases c : i = j
  · subst c; simp [wipe, List.set_set]
  · simp [wipe, List.set_set, List.set_comm _ _ c]
theorem wipe2 {u w : V} : wipe ((σ.set i (some u)).set j (some w)) [i, j] = wipe σ [i, j] := by
  by_cases c : i = j
  · subst c; simp [wipe, List.set_set]
  · simp [wipe, List.set_set, List.set_comm _ _ c]
/-- [elt for x, y in xs], xs a list of pairs -/
theorem w_lcP {k1 : Nat} (h : At m N sc k X) (ok : blkC N sc scope [(x, i), (y, j)] = true) (n1 : NL N (relS scope sc) i x) (n2 : NL N (relS scope sc) j y)
    (q : wE X iter σ H fun v H1 => ∃ (a : Addr) (xs : List V), v = .ref a ∧ SqL m.K H1 a xs ∧ ∀ D, H1 D = none → ∃ Pv : Nat → Hp → Prop, Pv 0 (upd H1 D (.lst [])) ∧ (∀ t H, t ≤ xs.length → Pv t H → SqL m.K H a xs) ∧
      (∀ t z H, xs[t]? = some z → Pv t H → ∃ p u w, z = .ref p ∧ SqT m.K H p [u, w] ∧ ∀ X', At m N (relS scope sc) k X' → wE X' elt ((σ.set i (some u)).set j (some w)) H (App D (Pv (t + 1)))) ∧ ∀ H, Pv xs.length H → Q (.ref D) H)
    (hs : ∀ x, foldedSetIterable iter X.env x = pure x := by with_unfolding_all (intro _; rfl)) : wE X (.ListComp elt [⟨.Tuple [.Name x p1, .Name y p2] k1 p3, iter, [], 0⟩] scope pos) σ H Q := by
  refine toE (pe_lc (own := [(x, i), (y, j)]) (g := gTup X.K 2 (gCons (gName i) (gCons (gName j) gNil))) (tt := tYes) (te := inBlk m N (relS scope sc) k elt) h.calm (by rw [h.nn]; exact h.nd) (pi_list cE) (by rw [h.nn, h.ss]; exact blkOk_by ok) (fun s H C cl fp => pg_tup (blk_at h s H C cl fp).calm (pgs_cons (pg_nl (blk_at h s H C cl fp) n1) (pgs_cons (pg_nl (blk_at h s H C cl fp) n2) pgs_nil (by with_unfolding_all rfl)) (by with_unfolding_all rfl)) (by with_unfolding_all rfl) (by with_unfolding_all rfl)) (fun _ _ _ _ _ => pts_nil) (fun s H C cl fp => blk_pe h s H C cl fp) hs) ?_
  refine wE.mono q fun v H1 ⟨a, xs, ea, hl, go⟩ => ⟨a, ea, ⟨xs, by rw [h.kk]; exact hl⟩, fun D hD => ?_⟩
  obtain ⟨Pv, p0, st, turn, fin⟩ := go D hD
  refine lc_list (K := X.K) (a := a) (xs := xs) (g := gTup X.K 2 (gCons (gName i) (gCons (gName j) gNil))) (tt := tYes) (te := inBlk m N (relS scope sc) k elt) (vs := [i, j]) (σ := σ) Pv p0 (fun j H hj hp => by rw [h.kk]; exact st j H hj hp) (fun t z H hz hp => ?_) fin
  obtain ⟨p, u, w, rfl, hp2, go2⟩ := turn t z H hz hp
  refine ⟨p, [u, w], rfl, by show SqT X.K H p [u, w]; rw [h.kk]; exact hp2, rfl, u, [w], rfl, w, [], rfl, rfl, ?_⟩
  rw [set2_wipe]
  refine ⟨wipe2, ?_⟩
  unfold tYes
  exact iteT fun X' hX' => go2 X' hX'
/-- z = [elt for x, y in xs] -/
theorem s_lcP {k1 l : Nat} {y0 : Str} {py spos : Pos} (h : At m N sc k X) (nl : NL N sc l y0) (ok : blkC N sc scope [(x, i), (y, j)] = true) (n1 : NL N (relS scope sc) i x) (n2 : NL N (relS scope sc) j y)
    (q : wE X iter σ H fun v H1 => ∃ (a : Addr) (xs : List V), v = .ref a ∧ SqL m.K H1 a xs ∧ ∀ D, H1 D = none → ∃ Pv : Nat → Hp → Prop, Pv 0 (upd H1 D (.lst [])) ∧ (∀ t H, t ≤ xs.length → Pv t H → SqL m.K H a xs) ∧
      (∀ t z H, xs[t]? = some z → Pv t H → ∃ p u w, z = .ref p ∧ SqT m.K H p [u, w] ∧ ∀ X', At m N (relS scope sc) k X' → wE X' elt ((σ.set i (some u)).set j (some w)) H (App D (Pv (t + 1)))) ∧ ∀ H, Pv xs.length H → nx (σ.set l (some (.ref D))) H)
    (hs : ∀ x, foldedSetIterable iter X.env x = pure x := by with_unfolding_all (intro _; rfl)) (hk : sc.kind = .function := by with_unfolding_all rfl) (hl : (py.line == pos.line) = true := by with_unfolding_all rfl) (ha : (scope.names.any fun (n, k) => n == y0 && (k == .local || k == .cell)) = false := by with_unfolding_all (decide +kernel)) : wS X (.Assign [.Name y0 py] (.ListComp elt [⟨.Tuple [.Name x p1, .Name y p2] k1 p3, iter, [], 0⟩] scope pos) spos) ⟨nx, rt, bk, ct⟩ σ H := by
  refine toS (ps_setLc (i := l) (y := y0) (py := py) (own := [(x, i), (y, j)]) (g := gTup X.K 2 (gCons (gName i) (gCons (gName j) gNil))) (tt := tYes) (te := inBlk m N (relS scope sc) k elt) h.calm (by rw [h.nn]; exact h.nd) (by rw [h.nn]; exact nl.ix) (by rw [h.ss]; exact nl.loc) (sw_true (by rw [h.ss]; exact hk) (by rw [h.ss]; exact nl.loc) hl ha) (pi_list cE) (by rw [h.nn, h.ss]; exact blkOk_by ok) (fun s H C cl fp => pg_tup (blk_at h s H C cl fp).calm (pgs_cons (pg_nl (blk_at h s H C cl fp) n1) (pgs_cons (pg_nl (blk_at h s H C cl fp) n2) pgs_nil (by with_unfolding_all rfl)) (by with_unfolding_all rfl)) (by with_unfolding_all rfl) (by with_unfolding_all rfl)) (fun _ _ _ _ _ => pts_nil) (fun s H C cl fp => blk_pe h s H C cl fp) hs) ?_
  refine wE.mono q fun v H1 ⟨a, xs, ea, hl, go⟩ => ⟨a, ea, ⟨xs, by rw [h.kk]; exact hl⟩, fun D hD => ?_⟩
  obtain ⟨Pv, p0, st, turn, fin⟩ := go D hD
  refine lc_list (K := X.K) (a := a) (xs := xs) (g := gTup X.K 2 (gCons (gName i) (gCons (gName j) gNil))) (tt := tYes) (te := inBlk m N (relS scope sc) k elt) (vs := [i, j]) (σ := σ) Pv p0 (fun j H hj hp => by rw [h.kk]; exact st j H hj hp) (fun t z H hz hp => ?_) fin
  obtain ⟨p, u, w, rfl, hp2, go2⟩ := turn t z H hz hp
  refine ⟨p, [u, w], rfl, by show SqT X.K H p [u, w]; rw [h.kk]; exact hp2, rfl, u, [w], rfl, w, [], rfl, rfl, ?_⟩
  rw [set2_wipe]
  refine ⟨wipe2, ?_⟩
  unfold tYes
  exact iteT fun X' hX' => go2 X' hX'
/-- [elt for x, y in xs if c] -/
theorem w_lcPi {k1 : Nat} (h : At m N sc k X) (ok : blkC N sc scope [(x, i), (y, j)] = true) (n1 : NL N (relS scope sc) i x) (n2 : NL N (relS scope sc) j y)
    (q : wE X iter σ H fun v H1 => ∃ (a : Addr) (xs : List V), v = .ref a ∧ SqL m.K H1 a xs ∧ ∀ D, H1 D = none → ∃ Pv : Nat → Hp → Prop, Pv 0 (upd H1 D (.lst [])) ∧ (∀ t H, t ≤ xs.length → Pv t H → SqL m.K H a xs) ∧
      (∀ t z H, xs[t]? = some z → Pv t H → ∃ p u w, z = .ref p ∧ SqT m.K H p [u, w] ∧ ∀ X', At m N (relS scope sc) k X' → wT X' c ((σ.set i (some u)).set j (some w)) H fun b H3 => if b = true then (∀ X', At m N (relS scope sc) k X' → wE X' elt ((σ.set i (some u)).set j (some w)) H3 (App D (Pv (t + 1)))) else Pv (t + 1) H3) ∧ ∀ H, Pv xs.length H → Q (.ref D) H)
    (hs : ∀ x, foldedSetIterable iter X.env x = pure x := by with_unfolding_all (intro _; rfl)) : wE X (.ListComp elt [⟨.Tuple [.Name x p1, .Name y p2] k1 p3, iter, [c], 0⟩] scope pos) σ H Q := by
  refine toE (pe_lc (own := [(x, i), (y, j)]) (g := gTup X.K 2 (gCons (gName i) (gCons (gName j) gNil))) (tt := inBlkT m N (relS scope sc) k c) (te := inBlk m N (relS scope sc) k elt) h.calm (by rw [h.nn]; exact h.nd) (pi_list cE) (by rw [h.nn, h.ss]; exact blkOk_by ok) (fun s H C cl fp => pg_tup (blk_at h s H C cl fp).calm (pgs_cons (pg_nl (blk_at h s H C cl fp) n1) (pgs_cons (pg_nl (blk_at h s H C cl fp) n2) pgs_nil (by with_unfolding_all rfl)) (by with_unfolding_all rfl)) (by with_unfolding_all rfl) (by with_unfolding_all rfl)) (fun s H C cl fp => pts_one (blk_pt h s H C cl fp)) (fun s H C cl fp => blk_pe h s H C cl fp) hs) ?_
  refine wE.mono q fun v H1 ⟨a, xs, ea, hl, go⟩ => ⟨a, ea, ⟨xs, by rw [h.kk]; exact hl⟩, fun D hD => ?_⟩
  obtain ⟨Pv, p0, st, turn, fin⟩ := go D hD
  refine lc_list (K := X.K) (a := a) (xs := xs) (g := gTup X.K 2 (gCons (gName i) (gCons (gName j) gNil))) (tt := inBlkT m N (relS scope sc) k c) (te := inBlk m N (relS scope sc) k elt) (vs := [i, j]) (σ := σ) Pv p0 (fun j H hj hp => by rw [h.kk]; exact st j H hj hp) (fun t z H hz hp => ?_) fin
  obtain ⟨p, u, w, rfl, hp2, go2⟩ := turn t z H hz hp
  refine ⟨p, [u, w], rfl, by show SqT X.K H p [u, w]; rw [h.kk]; exact hp2, rfl, u, [w], rfl, w, [], rfl, rfl, ?_⟩
  rw [set2_wipe]
  exact ⟨wipe2, fun X' hX' => go2 X' hX'⟩
/-- for x, y in enumerate(e): the pair is new each time -/
theorem s_forEn {elts : List Expr} {kk : Nat} {g : TG} {po : Pos} {body : List Stmt} (h : At m N sc k X) (hg : PG X (.Tuple elts kk tpos) g) (hm : m.mg "enumerate" = none) (hgl : sc.names.lookup ("enumerate" : Str) = some .globalImplicit)
    (q : wE X e σ H fun v H1 => ∃ (a : Addr) (xs : List V), v = .ref a ∧ SqL m.K H1 a xs ∧ ∃ Pv : Nat → L2.St → Hp → Prop, Pv 0 σ H1 ∧ (∀ t σ H, t ≤ xs.length → Pv t σ H → SqL m.K H a xs) ∧
      (∀ (t : Nat) (z : V) (T : Addr) (σ : L2.St) (H : Hp), xs[t]? = some z → Pv t σ H → H T = none → g (.ref T) σ (upd H T (.tup [.int t, z])) fun σ2 H2 => wB X body ⟨Pv (t + 1), rt, nx, Pv (t + 1)⟩ σ2 H2) ∧ ∀ σ H, Pv xs.length σ H → nx σ H)
    (hs : starEach [e] X.env = [(false, eval e X.env)] := by with_unfolding_all rfl) (hf : ∀ x, foldedSetIterable (.Call (.Name "enumerate" p1) [e] [] p2) X.env x = pure x := by with_unfolding_all (intro _; rfl)) :
    wS X (.For (.Tuple elts kk tpos) (.Call (.Name "enumerate" p1) [e] [] p2) body [] po) ⟨nx, rt, bk, ct⟩ σ H := by
  refine toS (ps_for h.pass h.calm (pi_enum (h.gl hgl) (by rw [h.mm]; exact hm) (pa_cons cE pa_nil hs) hs) hg cB hf) ?_
  refine wE.mono q fun v H1 ⟨a, xs, ea, hl, Pv, p0, st, turn, fin⟩ => ⟨a, xs, by rw [ea], by rw [h.kk]; exact hl, ?_⟩
  refine for_it (walk_enum (K := X.K) (a := a) (xs := xs)) Pv p0 (fun t σ H ht hp => by rw [h.kk]; exact st t σ H ht hp) (fun t z σ H H' ht hp y => ?_) fin
  obtain ⟨T, u, w, rfl, hT, rfl, hu, hw⟩ := y
  have eu : V.int (t : Nat) = u := Option.some.inj hu
  rw [← eu]
  exact turn t w T σ H hw hp hT
/-- xs.extend(e) -/
theorem g_extend (q : wE X o σ H fun x H1 => tyV X.K "list" x H1 ∧ wA X [e] σ H1 fun ys H2 => ∃ l b xs zs, x = .ref l ∧ ys = [.ref b] ∧ H2 l = some (.lst xs) ∧ H2 b = some (.lst zs) ∧ xs.length + zs.length ≤ sizeLine ∧ Q .non (upd H2 l (.lst (xs ++ zs))))
    (hbase : attributeBase o "extend" X.env (eval o X.env) = eval o X.env := by with_unfolding_all rfl)
    (hfew : ((backTo pos (starEach [e] X.env)).all (fun x => !x.1) && (backToKw pos (keywordEach [] X.env)).all (fun x => x.1.isSome) && decide ([e].length + ([] : List Keyword).length + (if ([] : List Keyword).isEmpty then 0 else 1) < 30)) = true := by with_unfolding_all rfl)
    (hline : (apos.endLine == pos.line) = true := by with_unfolding_all rfl) (hs : starEach [e] X.env = (false, eval e X.env) :: starEach [] X.env := by with_unfolding_all rfl) (hplain : (backTo pos (starEach [] X.env)).any (·.1) = false := by with_unfolding_all rfl) : wE X (.Call (.Attribute o "extend" apos) [e] [] pos) σ H Q :=
  toE (pe_bm PySem.F.plainAttrs_list PySem.F.slot_list_extend PySem.F.type_list_extend mt_extend cE cA hbase hfew hline hs hplain) q
/-! dicts of texts -/
theorem w_dget (h : At m N sc k X) {ix : Expr} (q : wE X o σ H fun x H1 => wE X ix σ H1 fun y H2 => ∃ a v, x = .ref a ∧ DGet H2 a y (some v) ∧ Q v H2) (hns : NoSl ix := by with_unfolding_all exact fun _ _ => rfl) : wE X (.Subscript o ix pos) σ H Q := by
  refine toE (pe_dget h.hu cE cE hns) ?_
  exact wE.mono q fun x H1 q1 => wE.mono q1 fun y H2 q2 => q2
/-- d[y] at values -/
theorem g_ixD (h : At m N sc k X) {d : Addr} {y r : V} (g : DGet H d y (some r)) (q : Q r H) : gIx X (.ref d) y H Q := fun value slice pins s σ v u I rx ry hs => by
  obtain rfl : v = Value.ref d := rx
  have hT := dict_typeIs I g
  have h2 := d_getItem (E := X.xe) (A := X.A) h.hu I g ry (Q := EP X pins σ Q) fun w' s3 I3 rw' => ⟨r, H, I3, rw', q⟩
  unfold subscriptTail
  refine wpAny_bind ?_
  rw [getitemInPython_of_ne hT.not_modules]
  refine wpAny_bind (wpAny_specialOf hT PySem.F.slot_dict_getitem.lookup ?_)
  have fin : wpAny (model X.prog X.w) X.A (subscripted slice false (.ref d) u) (fun r s3 => wpAny (model X.prog X.w) X.A (letTemporaryGo value (.ref d) r >>= fun _ => pure r) (EP X pins σ Q) X.xe s3) X.xe s := by
    rw [hs]
    exact wpAny_operating (wpAny_mono h2 (fun r s3 h3 => wpAny_bind (wpAny_letTemporaryGo (wpAny_pure h3))) fun _ _ x => x)
  first
    | exact wpAny_pure (wpAny_bind fin)
    | exact wpAny_bind (wpAny_pure (wpAny_bind fin))
    | exact wpAny_bind fin
theorem g_notInD (h : At m N sc k X) {d : Addr} {kvs : List (Key × V)} {z : Str} (hd : H d = some (.dK kvs)) (q : Q (.bl (!(valV kvs (.inr z)).isSome)) H) : gOp X (compareOp .NotIn) (.str z) (.ref d) H Q := by
  intro pins s σ v u I rx ry
  obtain rfl : u = Value.ref d := ry
  have hu := h.hu
  exact d_notIn hu I (DGet.k (k := .inr z) hd) rx fun s3 I3 => ⟨.bl _, _, I3, rfl, q⟩
theorem g_inD (h : At m N sc k X) {d : Addr} {kvs : List (Key × V)} {z : Str} (hd : H d = some (.dK kvs)) (q : Q (.bl (valV kvs (.inr z)).isSome) H) : gOp X (compareOp .In) (.str z) (.ref d) H Q := by
  intro pins s σ v u I rx ry
  obtain rfl : u = Value.ref d := ry
  have hu := h.hu
  exact d_in hu I (DGet.k (k := .inr z) hd) rx fun s3 I3 => ⟨.bl _, _, I3, rfl, q⟩
theorem s_dput (h : At m N sc k X) {ix : Expr} (q : wE X e σ H fun v H1 => wE X o σ H1 fun x H2 => wE X ix σ H2 fun y H3 => ∃ a H4, x = .ref a ∧ DPut H3 a y v H4 ∧ nx σ H4)
    (hs : swapsWith e (some (.Subscript o ix p1)) pos.line X.env = pure false := by with_unfolding_all rfl) : wS X (.Assign [.Subscript o ix p1] e pos) ⟨nx, rt, bk, ct⟩ σ H := by
  refine toS (ps_dput h.hu cE cE cE hs) ?_
  exact wE.mono q fun v H1 q1 => wE.mono q1 fun x H2 q2 => wE.mono q2 fun y H3 q3 => q3
theorem g_dictD (h : At m N sc k X) {d : Addr} {kvs : List (Key × V)} (hd : H d = some (.dK kvs)) (q : ∀ p, H p = none → Q (.ref p) (upd H p (.dK kvs))) : gCall X (.type "dict") [.ref d] H Q := ⟨_, call_dictD, d, kvs, rfl, .inl hd, q⟩
theorem g_dictP (h : At m N sc k X) {l : Addr} {ps : List Addr} {kvs : List (Key × V)} (hl : SqL m.K H l (ps.map V.ref)) (hp : Paired (fun p kv => SqT m.K H p [kV kv.1, kv.2]) ps kvs) (q : ∀ p, H p = none → Q (.ref p) (upd H p (.dK (mergeK [] kvs)))) : gCall X (.type "dict") [.ref l] H Q :=
  ⟨_, call_dictP h.calm, l, ps, kvs, rfl, by rw [h.kk]; exact hl, by rw [h.kk]; exact hp, q⟩
theorem g_sortedD (h : At m N sc k X) {d : Addr} {kvs : List (Key × V)} {ks : List Str} (hd : H d = some (.dK kvs)) (hk : kvs.map (·.1) = ks.map Sum.inr) (hl : ks.length < 64) (q : ∀ ys p, ys.Perm ks → sortedS ys = true → H p = none → Q (.ref p) (upd H p (.lst (ys.map V.str)))) : gCall X (.builtin "sorted") [.ref d] H Q :=
  ⟨_, call_sortedD h.calm, d, kvs, ks, rfl, .inl hd, hk, hl, q⟩
theorem g_sortedI (h : At m N sc k X) {l : Addr} {ns : List Int} (hl : SqL m.K H l (ns.map V.int)) (q : ∀ (ns' : List Int) (p : Addr), ns'.Perm ns → ns'.Pairwise (· ≤ ·) → H p = none → Q (.ref p) (upd H p (.lst (ns'.map V.int)))) : gCall X (.builtin "sorted") [.ref l] H Q :=
  ⟨_, cr_sortedI, l, ns, rfl, by rw [h.kk]; exact hl, q⟩
theorem g_sortedS (h : At m N sc k X) {l : Addr} {xs : List Str} (hl : SqL m.K H l (xs.map V.str)) (h64 : xs.length < 64) (q : ∀ (ys : List Str) (p : Addr), ys.Perm xs → sortedS ys = true → H p = none → Q (.ref p) (upd H p (.lst (ys.map V.str)))) : gCall X (.builtin "sorted") [.ref l] H Q :=
  ⟨_, cr_sortedS, l, xs, rfl, by rw [h.kk]; exact hl, h64, q⟩
end
theorem ltCps_total {a b : Str} (h1 : ltCps a.cps.toList b.cps.toList = false) (h2 : ltCps b.cps.toList a.cps.toList = false) : a = b := by
  rw [ltCps_eq, decide_eq_false_iff_not] at h1 h2
  have e : a.cps.toList = b.cps.toList := List.le_antisymm (List.not_lt.mp h2) (List.not_lt.mp h1)
  cases a
  cases b
  have e2 := Array.toList_inj.mp e
  simp only at e2
  rw [e2]
theorem rising_pw : ∀ (l : List Str) (p : Str), risingS p l = true → (p :: l).Pairwise (fun a b => ltCps b.cps.toList a.cps.toList = false)
  | [], p, _ => List.pairwise_singleton _ _
  | x :: r, p, h => by
    have h' : (!ltCps x.cps.toList p.cps.toList && risingS x r) = true := h
    rw [Bool.and_eq_true, Bool.not_eq_true'] at h'
    have ih := rising_pw r x h'.2
    refine List.pairwise_cons.mpr ⟨fun y hy => ?_, ih⟩
    rcases List.mem_cons.mp hy with e | e
    · rw [e]; exact h'.1
    · have h2 := List.rel_of_pairwise_cons ih e
      have h1 := h'.1
      rw [ltCps_eq, decide_eq_false_iff_not] at h1 h2 ⊢
      exact List.not_lt.mpr (List.le_trans (List.not_lt.mp h1) (List.not_lt.mp h2))
theorem sorted_pw : ∀ (l : List Str), sortedS l = true → l.Pairwise (fun a b => ltCps b.cps.toList a.cps.toList = false)
  | [], _ => List.Pairwise.nil
  | x :: r, h => rising_pw r x h
/-- sorted lists of the same texts are one list -/
theorem sorted_same {l r : List Str} (p : l.Perm r) (h1 : sortedS l = true) (h2 : sortedS r = true) : l = r :=
  p.eq_of_pairwise (le := fun a b => ltCps b.cps.toList a.cps.toList = false) (fun a b _ _ x y => ltCps_total y x) (sorted_pw l h1) (sorted_pw r h2)
theorem perm_nodup {l r : List Str} (n1 : l.Nodup) (n2 : r.Nodup) (h : ∀ y, y ∈ l ↔ y ∈ r) : l.Perm r := (List.perm_ext_iff_of_nodup n1 n2).mpr h
end Vf
set_option maxRecDepth 100000
set_option maxHeartbeats 4000000
/-! Zn: zip of any number of lists. Own work. -/
namespace Vf
open PySem PySem.Spec PyProof.Rows L2 LamX
/-- the places of n new objects from k on -/
def refsFrom (k : Nat) : Nat → List Value
  | 0 => []
  | n + 1 => .ref k :: refsFrom (k + 1) n
theorem refsFrom_len : ∀ n k, (refsFrom k n).length = n
  | 0, _ => rfl
  | n + 1, k => by show (refsFrom (k + 1) n).length + 1 = n + 1; rw [refsFrom_len n]
theorem refsFrom_get : ∀ n k j, j < n → (refsFrom k n)[j]? = some (.ref (k + j))
  | 0, _, _, h => by omega
  | n + 1, k, 0, _ => rfl
  | n + 1, k, j + 1, h => by
    show (refsFrom (k + 1) n)[j]? = _
    rw [refsFrom_get n (k + 1) j (by omega), show k + 1 + j = k + (j + 1) from by omega]
theorem wp_iters {prog : Program} {w : World} {A : Around} {E : Value → Shared → Prop} : ∀ (ls : List Addr) (acc : Array Value) (s : Shared) (Q : Array Value → Shared → Prop), (∀ l ∈ ls, ∃ items, s.heap.IsList l items) →
    (∀ h' : Heap, h'.objs.size = s.heap.objs.size + ls.length → (∀ c o, s.heap.get? c = some o → h'.get? c = some o) → (∀ j l, ls[j]? = some l → h'.IsListIter (s.heap.objs.size + j) l 0) →
      Q (acc ++ (refsFrom s.heap.objs.size ls.length).toArray) { heap := h', gens := s.gens, drawn := s.drawn, toks := s.toks, os := s.os }) →
    wpAny (model prog w) A (forIn (ls.map Value.ref) acc fun x its => do
        let y ← holding its.toList (pyIter x)
        pure (ForInStep.yield (its.push y))) Q E s
  | [], acc, s, Q, _, k => by
    simp only [List.map_nil, List.forIn_nil]
    refine wpAny_pure ?_
    have := k s.heap rfl (fun _ _ z => z) (fun j l z => by simp at z)
    simpa [refsFrom] using this
  | l :: ls, acc, s, Q, hl, k => by
    obtain ⟨items, hi⟩ := hl l (by simp)
    simp only [List.map_cons, List.forIn_cons]
    refine wpAny_bind ?_
    refine wpAny_bind (wpAny_holding (wpAny_pyIter_list hi ?_))
    refine wpAny_pure ?_
    have sz := Heap.size_push s.heap { cls := Value.type "list_iterator", data := Data.fields #[Value.ref l, Value.int 0 0] }
    refine wp_iters ls _ _ Q (fun l' hl' => ?_) fun h' hs hk hit => ?_
    · obtain ⟨it', o, h1, h2, h3⟩ := hl l' (by simp [hl'])
      exact ⟨it', o, Heap.get?_push_of_some _ h1, h2, h3⟩
    · simp only [] at hs hk hit
      have := k h' (by rw [hs, sz, List.length_cons]; omega) (fun c o z => hk c o (Heap.get?_push_of_some _ z)) (fun j l' z => by
        cases j with
        | zero =>
          simp only [List.getElem?_cons_zero, Option.some.injEq] at z
          subst z
          exact ⟨_, hk _ _ (Heap.get?_push_size s.heap rfl), rfl, rfl⟩
        | succ j =>
          have := hit j l' (by simpa using z)
          rw [sz] at this
          rw [show s.heap.objs.size + (j + 1) = s.heap.objs.size + 1 + j from by omega]
          exact this)
      simp only [List.length_cons, refsFrom] at this
      simp only [sz]
      have e : (acc.push (Value.ref s.heap.objs.size)) ++ (refsFrom (s.heap.objs.size + 1) ls.length).toArray = acc ++ (Value.ref s.heap.objs.size :: refsFrom (s.heap.objs.size + 1) ls.length).toArray := by
        apply Array.ext'
        simp
      rw [e]
      exact this
/-- a zip of n iterators: its iterators in a tuple, a tuple that it hands out again -/
def ZipOf (h : Heap) (z TI TO : Addr) (its tos : List Value) : Prop := IsZip h z TI TO Value.none ∧ h.get? TI = some { cls := Value.type "tuple", data := Data.seq its.toArray } ∧ h.get? TO = some { cls := Value.type "tuple", data := Data.seq tos.toArray }
theorem zn_new (ls : List Addr) (hs : ls.length < 1000) : Meets (Builtin.«zip.__new__» { pos := Value.type "zip" :: ls.map Value.ref }) fun _ R s =>
    (∀ l ∈ ls, ∃ items, s.heap.IsList l items) ∧ ∀ h' : Heap, h'.objs.size = s.heap.objs.size + ls.length + 3 → (∀ c o, s.heap.get? c = some o → h'.get? c = some o) → (∀ j l, ls[j]? = some l → h'.IsListIter (s.heap.objs.size + j) l 0) →
      ZipOf h' (s.heap.objs.size + ls.length + 2) (s.heap.objs.size + ls.length) (s.heap.objs.size + ls.length + 1) (refsFrom s.heap.objs.size ls.length) (ls.map fun _ => Value.none) →
      R (Except.ok (Flow.ret (Value.ref (s.heap.objs.size + ls.length + 2)))) { heap := h', gens := s.gens, drawn := s.drawn, toks := s.toks, os := s.os } := by
  refine Meets.of_wp fun prog w A R s ⟨hl, k⟩ => ?_
  unfold Builtin.«zip.__new__»
  refine wpAny_bind ?_
  unfold Builtin.SmallTypes.newClass
  simp only [isType, sub_zip, pure_bind, Bool.not_true, Bool.false_eq_true, if_false]
  refine wpAny_pure ?_
  simp only [List.length_nil, gt_iff_lt, Nat.not_lt_zero, if_false]
  refine wpAny_bind ?_
  unfold Builtin.SmallTypes.iterAll
  refine wpAny_bind (wp_iters ls #[] s _ hl fun h' hs' hk hit => ?_)
  refine wpAny_pure ?_
  have lenR : ((#[] : Array Value) ++ (refsFrom s.heap.objs.size ls.length).toArray).toList = refsFrom s.heap.objs.size ls.length := by simp
  rw [lenR]
  refine wpAny_bind (wpAny_newTuple ?_ (by rw [refsFrom_len, sizeLine_eq]; omega))
  refine wpAny_bind (wpAny_newTuple ?_ (by rw [List.length_map, refsFrom_len, sizeLine_eq]; omega))
  refine wpAny_bind ?_
  unfold Builtin.SmallTypes.newRecord newObj newObjAsIs
  simp only []
  rw [if_neg (by show ¬ (5 > sizeLine + 2); rw [sizeLine_eq]; omega)]
  refine wpAny_bind (wpAny_alloc' ?_)
  refine wpAny_pure ?_
  refine wpAny_pure ⟨_, rfl, ?_⟩
  generalize eo1 : ({ cls := Value.type "tuple", data := Data.seq (refsFrom s.heap.objs.size ls.length).toArray } : Obj) = o1
  have em : (refsFrom s.heap.objs.size ls.length).map (fun _ => Value.none) = ls.map fun _ => Value.none := by
    rw [List.map_const', List.map_const', refsFrom_len]
  rw [em]
  generalize eo2 : ({ cls := Value.type "tuple", data := Data.seq (ls.map fun _ => Value.none).toArray } : Obj) = o2
  have z1 := Heap.size_push h' o1
  have z2 := Heap.size_push (h'.push o1) o2
  rw [z1] at z2
  rw [z2, z1, hs']
  generalize eo3 : ({ cls := Value.type "zip", data := Data.fields (Builtin.SmallTypes.ownedTupleFields ++ [Value.bool false, Value.ref (s.heap.objs.size + ls.length), Value.ref (s.heap.objs.size + ls.length + 1)]).toArray } : Obj) = o3
  have z3 := Heap.size_push ((h'.push o1).push o2) o3
  rw [z2, hs'] at z3
  refine k _ (by rw [z3]) (fun c o z => Heap.get?_push_of_some _ (Heap.get?_push_of_some _ (Heap.get?_push_of_some _ (hk c o z)))) (fun j l z => ?_) ⟨?_, ?_, ?_⟩
  · obtain ⟨o, h1, h2⟩ := hit j l z
    exact ⟨o, Heap.get?_push_of_some _ (Heap.get?_push_of_some _ (Heap.get?_push_of_some _ h1)), h2⟩
  · have := Heap.get?_push_size ((h'.push o1).push o2) (o := o3) (by rw [← eo3]; rfl)
    rw [z2, hs'] at this
    rw [show s.heap.objs.size + ls.length + 2 = s.heap.objs.size + ls.length + 1 + 1 from rfl]
    exact this.trans (by rw [← eo3]; rfl)
  · have := Heap.get?_push_size h' (o := o1) (by rw [← eo1]; rfl)
    rw [hs'] at this
    rw [eo1]
    exact Heap.get?_push_of_some _ (Heap.get?_push_of_some _ this)
  · have := Heap.get?_push_size (h'.push o1) (o := o2) (by rw [← eo2]; rfl)
    rw [z1, hs'] at this
    rw [eo2]
    exact Heap.get?_push_of_some _ this
theorem call_zipN {prog : Program} {w : World} {A : Around} {E : Value → Shared → Prop} {s : Shared} {Q : Value → Shared → Prop} (ls : List Addr) (hs : ls.length < 1000) (ck : checkBuiltinCall "zip.__new__" { pos := Value.type "zip" :: ls.map Value.ref } = pure ())
    (hl : ∀ l ∈ ls, ∃ items, s.heap.IsList l items)
    (k : ∀ h' : Heap, h'.objs.size = s.heap.objs.size + ls.length + 3 → (∀ c o, s.heap.get? c = some o → h'.get? c = some o) → (∀ j l, ls[j]? = some l → h'.IsListIter (s.heap.objs.size + j) l 0) →
      ZipOf h' (s.heap.objs.size + ls.length + 2) (s.heap.objs.size + ls.length) (s.heap.objs.size + ls.length + 1) (refsFrom s.heap.objs.size ls.length) (ls.map fun _ => Value.none) →
      Q (Value.ref (s.heap.objs.size + ls.length + 2)) { heap := h', gens := s.gens, drawn := s.drawn, toks := s.toks, os := s.os }) :
    wpAny (model prog w) A (call (Value.type "zip") (ls.map Value.ref)) Q E s := by
  refine callType_new F.called_zip (of_decide_eq_true (id (Eq.refl true))) (by kernel_rfl) ck (fun obj => by kernel_rfl) F.entry_zip_new (zn_new ls hs) ⟨hl, fun h' h1 h2 h3 h4 => ⟨⟨_, h4.1, rfl⟩, k h' h1 h2 h3 h4⟩⟩
/-- a zip that draws: the first k are drawn -/
structure ZDraw (h : Heap) (it0 : Nat) (ls : List Addr) (vs : List Value) (i k : Nat) (tos : List Value) : Prop where
  to_ : h.get? (it0 + ls.length + 1) = some { cls := Value.type "tuple", data := Data.seq tos.toArray }
  tl : tos.length = ls.length
  got : ∀ j, j < k → tos[j]? = vs[j]?
  it1 : ∀ j l, j < k → ls[j]? = some l → h.IsListIter (it0 + j) l (i + 1)
  it2 : ∀ j l, k ≤ j → ls[j]? = some l → h.IsListIter (it0 + j) l i
theorem wp_draws {prog : Program} {w : World} {A : Around} {E : Value → Shared → Prop} {ls : List Addr} {vs : List Value} {it0 i : Nat} (body : Value × Nat → Option PySem.Fin × Unit → Sem (ForInStep (Option PySem.Fin × Unit)))
    (hb : ∀ (k : Nat) (l : Addr) (v : Value) (items : Array Value) (s : Shared) (tos : List Value) (Q : ForInStep (Option PySem.Fin × Unit) → Shared → Prop), k < ls.length → s.heap.IsListIter (it0 + k) l i → s.heap.IsList l items → l < it0 → items[i]? = some v → s.heap.get? (it0 + ls.length + 1) = some { cls := Value.type "tuple", data := Data.seq tos.toArray } → tos.length = ls.length →
      (∀ h' : Heap, h'.objs.size = s.heap.objs.size → h'.IsListIter (it0 + k) l (i + 1) → h'.get? (it0 + ls.length + 1) = some { cls := Value.type "tuple", data := Data.seq (tos.set k v).toArray } → (∀ b, b ≠ it0 + k → b ≠ it0 + ls.length + 1 → h'.get? b = s.heap.get? b) → Q (.yield (none, ())) { heap := h', gens := s.gens, drawn := s.drawn, toks := s.toks, os := s.os }) →
      wpAny (model prog w) A (body (Value.ref (it0 + k), k) (none, ())) Q E s) :
    ∀ (m k : Nat) (s : Shared) (tos : List Value) (Q : Option PySem.Fin × Unit → Shared → Prop), k + m = ls.length → vs.length = ls.length → ZDraw s.heap it0 ls vs i k tos → (∀ (j : Nat) (l : Addr), ls[j]? = some l → ∃ (items : Array Value) (v : Value), s.heap.IsList l items ∧ items[i]? = some v ∧ vs[j]? = some v ∧ l < it0) →
      (∀ h' : Heap, h'.objs.size = s.heap.objs.size → ZDraw h' it0 ls vs i ls.length vs → (∀ b, (b < it0 ∨ it0 + ls.length ≤ b) → b ≠ it0 + ls.length + 1 → h'.get? b = s.heap.get? b) → Q (none, ()) { heap := h', gens := s.gens, drawn := s.drawn, toks := s.toks, os := s.os }) →
      wpAny (model prog w) A (forIn ((refsFrom (it0 + k) m).zipIdx k) (none, ()) body) Q E s
  | 0, k, s, tos, Q, e, ev, d, hl, q => by
    simp only [refsFrom, List.zipIdx_nil, List.forIn_nil]
    refine wpAny_pure ?_
    have ek : k = ls.length := by omega
    subst ek
    have et : tos = vs := List.ext_getElem? fun j => by
      rcases Nat.lt_or_ge j ls.length with z | z
      · exact d.got j z
      · rw [List.getElem?_eq_none (by rw [d.tl]; exact z), List.getElem?_eq_none (by rw [ev]; exact z)]
    subst et
    exact q s.heap rfl d fun _ _ _ => rfl
  | m + 1, k, s, tos, Q, e, ev, d, hl, q => by
    simp only [refsFrom, List.zipIdx_cons, List.forIn_cons]
    have hk : k < ls.length := by omega
    obtain ⟨items, v, h1, h2, h3, h4⟩ := hl k _ (List.getElem?_eq_getElem hk)
    refine wpAny_bind (hb k _ v items s tos _ hk (d.it2 k _ (Nat.le_refl k) (List.getElem?_eq_getElem hk)) h1 h4 h2 d.to_ d.tl fun h' sz hit hto hoth => ?_)
    simp only []
    refine wp_draws body hb m (k + 1) _ (tos.set k v) Q (by omega) ev ⟨hto, by rw [List.length_set, d.tl], fun j hj => ?_, fun j l hj hl' => ?_, fun j l hj hl' => ?_⟩ (fun j l hl' => ?_) fun h2' sz2 d2 ho2 => ?_
    · rcases Nat.lt_or_ge j k with z | z
      · rw [List.getElem?_set_ne (by omega)]; exact d.got j z
      · obtain rfl : j = k := by omega
        rw [List.getElem?_set_self (by rw [d.tl]; exact hk), h3]
    · rcases Nat.lt_or_ge j k with z | z
      · obtain ⟨o, g1, g2⟩ := d.it1 j l z hl'
        exact ⟨o, by show h'.get? _ = _; rw [hoth _ (by omega) (by have := (List.getElem?_eq_some_iff.1 hl').1; omega)]; exact g1, g2⟩
      · obtain rfl : j = k := by omega
        rw [List.getElem?_eq_getElem hk] at hl'
        cases hl'
        exact hit
    · obtain ⟨o, g1, g2⟩ := d.it2 j l (by omega) hl'
      exact ⟨o, by show h'.get? _ = _; rw [hoth _ (by omega) (by have := (List.getElem?_eq_some_iff.1 hl').1; omega)]; exact g1, g2⟩
    · obtain ⟨it', v', ⟨o, g1, g2⟩, r2, r3, r4⟩ := hl j l hl'
      have n1 : l ≠ it0 + k := fun z => by have := Nat.lt_of_lt_of_le r4 (Nat.le_add_right it0 k); rw [← z] at this; exact Nat.lt_irrefl _ this
      have n2 : l ≠ it0 + ls.length + 1 := fun z => by have := Nat.lt_of_lt_of_le r4 (Nat.le_add_right it0 (ls.length + 1)); rw [← Nat.add_assoc, ← z] at this; exact Nat.lt_irrefl _ this
      exact ⟨it', v', ⟨o, by show h'.get? _ = _; rw [hoth _ n1 n2]; exact g1, g2⟩, r2, r3, r4⟩
    · exact q h2' (sz2.trans sz) d2 fun b hb1 hb2 => (ho2 b hb1 hb2).trans (hoth b (by omega) hb2)
theorem zn_next_item {prog : Program} {w : World} {A : Around} {E : Value → Shared → Prop} {s : Shared} {ls : List Addr} {vs tos : List Value} {it0 i : Nat} {Q : Value → Shared → Prop}
    (hz : ZipOf s.heap (it0 + ls.length + 2) (it0 + ls.length) (it0 + ls.length + 1) (refsFrom it0 ls.length) tos) (tl : tos.length = ls.length) (hit : ∀ j l, ls[j]? = some l → s.heap.IsListIter (it0 + j) l i)
    (hl : ∀ (j : Nat) (l : Addr), ls[j]? = some l → ∃ (items : Array Value) (v : Value), s.heap.IsList l items ∧ items[i]? = some v ∧ vs[j]? = some v ∧ l < it0) (h0 : 0 < ls.length) (h1 : ls.length < 1000) (ev : vs.length = ls.length)
    (hQ : ∀ h' : Heap, IsZip h' (it0 + ls.length + 2) (it0 + ls.length) (it0 + ls.length + 1) (rawInt ↑s.heap.objs.size) → h'.get? (it0 + ls.length) = some { cls := Value.type "tuple", data := Data.seq (refsFrom it0 ls.length).toArray } → h'.get? (it0 + ls.length + 1) = some { cls := Value.type "tuple", data := Data.seq vs.toArray } →
      (∀ j l, ls[j]? = some l → h'.IsListIter (it0 + j) l (i + 1)) → h'.get? s.heap.objs.size = some { cls := Value.type "tuple", data := Data.seq vs.toArray } → h'.objs.size = s.heap.objs.size + 1 → (∀ c o, (c < it0 ∨ it0 + ls.length + 3 ≤ c) → s.heap.get? c = some o → h'.get? c = some o) →
      Q (Value.ref s.heap.objs.size) { heap := h', gens := s.gens, drawn := s.drawn, toks := s.toks, os := s.os }) :
    wpAny (model prog w) A (Builtin.«zip.__next__» { pos := [Value.ref (it0 + ls.length + 2)] }) (fun fin s' => ∃ v, fin = Fin.done (Flow.ret v) ∧ Q v s') E s := by
  obtain ⟨hz, hTI, hTO⟩ := hz
  unfold Builtin.«zip.__next__»
  refine wpAny_bind ?_
  unfold slotArgs
  simp only [List.length_nil]
  refine wpAny_pure ?_
  refine wpAny_bind (wpAny_field hz rfl rfl ?_)
  refine wpAny_bind (wpAny_field hz rfl rfl ?_)
  refine wpAny_bind (wpAny_seqItems hTI rfl ?_)
  have ne : (refsFrom it0 ls.length).toArray.isEmpty = false := by
    cases hn : ls.length with
    | zero => omega
    | succ n => simp [refsFrom]
  simp only [ne, Bool.false_eq_true, if_false]
  refine wpAny_bind ?_
  refine id (wpAny_bind (wpAny_field hz rfl rfl (wpAny_pure ?_)))
  simp only [if_true]
  refine wpAny_bind (wpAny_rule ?_)
  refine wpAny_bind (wpAny_field hz rfl rfl ?_)
  refine wpAny_bind (wpAny_setField_rec hz (by simp) fun h2 hz2 sb2 => ?_)
  refine wpAny_bind ?_
  have keep2 : ∀ b, b ≠ it0 + ls.length + 2 → h2.get? b = s.heap.get? b := fun b hb => sb2.2 b hb
  rw [show (refsFrom it0 ls.length).zipIdx = (refsFrom (it0 + 0) ls.length).zipIdx 0 from rfl]
  refine wp_draws (ls := ls) (vs := vs) (it0 := it0) (i := i) _ (fun k l v items s' tos' Q' hk hi hli hlt hv hto htl kk => ?_) ls.length 0 { heap := h2, gens := s.gens, drawn := s.drawn, toks := s.toks, os := s.os } tos _ (by omega) ev ⟨?_, tl, fun j hj => by omega, fun j l hj => by omega, fun j l _ hl' => ?_⟩ (fun j l hl' => ?_) fun h3 sz3 d3 ho3 => ?_
  · refine wpAny_bind (wpAny_onRaise ?_)
    show wpAny (model prog w) A (Builtin.SmallTypes.nextOf (Value.ref (it0 + k)) >>= fun r => pure (some r)) _ _ _
    refine wpAny_bind (wpAny_nextOf_list_item hi hli hv fun g1 gi gs => ?_)
    refine wpAny_pure ?_
    simp only []
    have hto1 : g1.get? (it0 + ls.length + 1) = some { cls := Value.type "tuple", data := Data.seq tos'.toArray } := by
      rw [gs.2 (it0 + ls.length + 1) (show (it0 + ls.length + 1 : Nat) ≠ it0 + k from by omega)]; exact hto
    refine wpAny_bind (wpAny_seqItems hto1 rfl ?_)
    simp only []
    refine wpAny_bind (wpAny_updateSeq hto1 rfl ?_ ?_ ?_)
    · refine wpAny_bind (wpAny_letGo ?_)
      refine wpAny_pure ?_
      refine kk _ (by rw [Heap.size_update]; exact gs.1) ?_ ?_ fun b hb1 hb2 => ?_
      · obtain ⟨o, a1, a2⟩ := gi
        exact ⟨o, Heap.get?_update_of_ne _ (show (it0 + ls.length + 1 : Nat) ≠ it0 + k from by omega) a1, a2⟩
      · refine (Heap.get?_update_self _ hto1 (by rfl)).trans ?_
        simp [Obj.mapSeq]
      · rw [Heap.get?_update_ne _ _ _ _ hb2]; exact gs.2 b hb1
    · rw [List.size_toArray, htl, sizeLine_eq]; omega
    · rw [Array.size_setIfInBounds, List.size_toArray, htl, sizeLine_eq]; omega
  · show h2.get? _ = _
    rw [keep2 _ (by omega)]; exact hTO
  · obtain ⟨o, g1, g2⟩ := hit j l hl'
    exact ⟨o, by show h2.get? _ = _; rw [keep2 _ (by have := (List.getElem?_eq_some_iff.1 hl').1; omega)]; exact g1, g2⟩
  · obtain ⟨it', v', ⟨o, g1, g2⟩, r2, r3, r4⟩ := hl j l hl'
    have n1 : l ≠ it0 + ls.length + 2 := fun z => by have := Nat.lt_of_lt_of_le r4 (Nat.le_add_right it0 (ls.length + 2)); rw [← Nat.add_assoc, ← z] at this; exact Nat.lt_irrefl _ this
    exact ⟨it', v', ⟨o, by show h2.get? _ = _; rw [keep2 _ n1]; exact g1, g2⟩, r2, r3, r4⟩
  · simp only []
    refine wpAny_bind (wpAny_seqItems d3.to_ rfl ?_)
    simp only []
    refine wpAny_bind (wpAny_newTuple ?_ (by rw [ev, sizeLine_eq]; omega))
    have e3 : h3.objs.size = s.heap.objs.size := sz3.trans sb2.1
    simp only [e3]
    refine wpAny_bind ?_
    unfold Builtin.SmallTypes.ownedTupleHandOut
    simp only []
    have nz : (it0 + ls.length + 2 : Nat) ≠ it0 + ls.length + 1 := by omega
    have hz3 : h3.get? (it0 + ls.length + 2) = _ := (ho3 _ (.inr (by omega)) nz).trans hz2
    refine wpAny_bind (wpAny_setField_rec (Heap.get?_push_of_some _ hz3) (by simp) fun h4 hz4 sb4 => ?_)
    refine wpAny_setField_rec hz4 (by simp) fun h5 hz5 sb5 => ?_
    refine wpAny_pure ⟨_, rfl, ?_⟩
    have k5 : ∀ (b : Addr) (o : Obj), b ≠ it0 + ls.length + 2 → h3.get? b = some o → h5.get? b = some o := fun b o hb g => by
      rw [sb5.2 b hb, sb4.2 b hb]; exact Heap.get?_push_of_some _ g
    have hszs : s.heap.objs.size ≠ it0 + ls.length + 2 := fun z => by
      have := Heap.lt_size hz
      rw [z] at this
      exact Nat.lt_irrefl _ this
    refine hQ h5 (hz5.trans (by simp)) ?_ (k5 _ _ (Ne.symm nz) d3.to_) (fun j l hl' => ?_) ?_ ?_ fun c o hc g => ?_
    · refine k5 _ _ (show (it0 + ls.length : Nat) ≠ it0 + ls.length + 2 from by omega) ?_
      rw [ho3 (it0 + ls.length) (.inr (Nat.le_refl _)) (by omega)]
      show h2.get? _ = _
      rw [keep2 _ (by omega)]; exact hTI
    · have hj := (List.getElem?_eq_some_iff.1 hl').1
      obtain ⟨o, a1, a2⟩ := d3.it1 j l hj hl'
      exact ⟨o, k5 _ _ (show (it0 + j : Nat) ≠ it0 + ls.length + 2 from by omega) a1, a2⟩
    · rw [sb5.2 _ hszs, sb4.2 _ hszs, ← e3]
      exact Heap.get?_push_size h3 rfl
    · rw [sb5.1, sb4.1, Heap.size_push, e3]
    · have hcz : c ≠ it0 + ls.length + 2 := by omega
      refine k5 c o hcz ?_
      rw [ho3 c (by omega) (by omega)]
      show h2.get? _ = _
      rw [keep2 c hcz]; exact g
theorem zn_next_end {prog : Program} {w : World} {A : Around} {E : Value → Shared → Prop} {s : Shared} {ls : List Addr} {tos : List Value} {it0 i : Nat} {Q : PySem.Fin → Shared → Prop} {l : Addr} {items : Array Value} (hh : A.handled = none)
    (hz : ZipOf s.heap (it0 + ls.length + 2) (it0 + ls.length) (it0 + ls.length + 1) (refsFrom it0 ls.length) tos) (h0 : 0 < ls.length) (hit : s.heap.IsListIter it0 l i) (hl : s.heap.IsList l items) (he : items[i]? = none)
    (hE : ∀ (h' : Heap) (e : Addr), (∀ c o, (c < it0 ∨ it0 + ls.length + 3 ≤ c) → s.heap.get? c = some o → h'.get? c = some o) → (∃ o, h'.get? e = some o ∧ o.cls = Value.type "StopIteration") → E (Value.ref e) { heap := h', gens := s.gens, drawn := s.drawn, toks := s.toks, os := s.os }) :
    wpAny (model prog w) A (Builtin.«zip.__next__» { pos := [Value.ref (it0 + ls.length + 2)] }) Q E s := by
  obtain ⟨hz, hTI, hTO⟩ := hz
  unfold Builtin.«zip.__next__»
  refine wpAny_bind ?_
  unfold slotArgs
  simp only [List.length_nil]
  refine wpAny_pure ?_
  refine wpAny_bind (wpAny_field hz rfl rfl ?_)
  refine wpAny_bind (wpAny_field hz rfl rfl ?_)
  refine wpAny_bind (wpAny_seqItems hTI rfl ?_)
  have ne : (refsFrom it0 ls.length).toArray.isEmpty = false := by
    cases hn : ls.length with
    | zero => omega
    | succ n => simp [refsFrom]
  simp only [ne, Bool.false_eq_true, if_false]
  refine wpAny_bind ?_
  refine id (wpAny_bind (wpAny_field hz rfl rfl (wpAny_pure ?_)))
  simp only [if_true]
  refine wpAny_bind (wpAny_rule ?_)
  refine wpAny_bind (wpAny_field hz rfl rfl ?_)
  refine wpAny_bind (wpAny_setField_rec hz (by simp) fun h2 hz2 sb2 => ?_)
  refine wpAny_bind ?_
  have keep2 : ∀ b, b ≠ it0 + ls.length + 2 → h2.get? b = s.heap.get? b := fun b hb => sb2.2 b hb
  obtain ⟨n, hn⟩ : ∃ n, ls.length = n + 1 := ⟨ls.length - 1, by omega⟩
  rw [show (refsFrom it0 ls.length).zipIdx = (Value.ref it0, 0) :: (refsFrom (it0 + 1) n).zipIdx 1 from by rw [hn]; rfl]
  simp only [List.forIn_cons]
  refine wpAny_bind ?_
  refine wpAny_bind (wpAny_onRaise ?_)
  show wpAny (model prog w) A (Builtin.SmallTypes.nextOf (Value.ref it0) >>= fun r => pure (some r)) _ _ _
  have it2 : h2.IsListIter it0 l i := by
    obtain ⟨o, g1, g2⟩ := hit
    exact ⟨o, by rw [keep2 _ (by omega)]; exact g1, g2⟩
  have ln : l ≠ it0 + ls.length + 2 := fun z => by
    obtain ⟨o, g1, g2, _⟩ := hl
    rw [z, hz] at g1
    cases g1
    exact absurd (Value.type.inj g2) (by decide)
  have l2 : h2.IsList l items := by
    obtain ⟨o, g1, g2⟩ := hl
    exact ⟨o, by rw [keep2 _ ln]; exact g1, g2⟩
  refine wpAny_bind (wpAny_nextOf_list_end hh it2 l2 he fun h3 e eb hs => ?_)
  have hz3 := eb _ _ (show (it0 + ls.length + 2 : Nat) ≠ it0 from by omega) hz2
  refine wpAny_setField_rec hz3 (by simp) fun h4 hz4 sb4 => ?_
  refine hE h4 e (fun c o hc g => ?_) ?_
  · have hcz : c ≠ it0 + ls.length + 2 := by omega
    rw [sb4.2 c hcz]
    exact eb c o (show (c : Nat) ≠ it0 from by omega) (by show h2.get? c = _; rw [keep2 c hcz]; exact g)
  · obtain ⟨o, g1, g2⟩ := hs
    refine ⟨o, ?_, g2⟩
    rw [sb4.2 e fun z => ?_]
    · exact g1
    · rw [z, hz3] at g1
      cases g1
      exact absurd (Value.type.inj g2) (by decide)
theorem pyNext_zipN_item {prog : Program} {w : World} {A : Around} {E : Value → Shared → Prop} {s : Shared} {ls : List Addr} {vs tos : List Value} {it0 i : Nat} {Q : Option Value → Shared → Prop}
    (hz : ZipOf s.heap (it0 + ls.length + 2) (it0 + ls.length) (it0 + ls.length + 1) (refsFrom it0 ls.length) tos) (tl : tos.length = ls.length) (hit : ∀ j l, ls[j]? = some l → s.heap.IsListIter (it0 + j) l i)
    (hl : ∀ (j : Nat) (l : Addr), ls[j]? = some l → ∃ (items : Array Value) (v : Value), s.heap.IsList l items ∧ items[i]? = some v ∧ vs[j]? = some v ∧ l < it0) (h0 : 0 < ls.length) (h1 : ls.length < 1000) (ev : vs.length = ls.length)
    (hQ : ∀ h' : Heap, IsZip h' (it0 + ls.length + 2) (it0 + ls.length) (it0 + ls.length + 1) (rawInt ↑s.heap.objs.size) → h'.get? (it0 + ls.length) = some { cls := Value.type "tuple", data := Data.seq (refsFrom it0 ls.length).toArray } → h'.get? (it0 + ls.length + 1) = some { cls := Value.type "tuple", data := Data.seq vs.toArray } →
      (∀ j l, ls[j]? = some l → h'.IsListIter (it0 + j) l (i + 1)) → h'.get? s.heap.objs.size = some { cls := Value.type "tuple", data := Data.seq vs.toArray } → h'.objs.size = s.heap.objs.size + 1 → (∀ c o, (c < it0 ∨ it0 + ls.length + 3 ≤ c) → s.heap.get? c = some o → h'.get? c = some o) →
      Q (some (Value.ref s.heap.objs.size)) { heap := h', gens := s.gens, drawn := s.drawn, toks := s.toks, os := s.os }) :
    wpAny (model prog w) A (pyNext (Value.ref (it0 + ls.length + 2))) Q E s := by
  have hT : s.TypeIs (Value.ref (it0 + ls.length + 2)) "zip" := ⟨_, hz.1, rfl⟩
  refine id (wpAny_bind (wpAny_attempt (wpAny_callSpecial?_slot hT F.slot_zip_next (wpAny_call_entry F.slot_zip_next hT F.entry_zip_next (zn_next_item hz tl hit hl h0 h1 ev fun h' a1 a2 a3 a4 a5 a6 a7 => ?_) (F.args_zip_next_1 _)))))
  exact wpAny_pure (hQ h' a1 a2 a3 a4 a5 a6 a7)
theorem pyNext_zipN_end {prog : Program} {w : World} {A : Around} {E : Value → Shared → Prop} {s : Shared} {ls : List Addr} {tos : List Value} {it0 i : Nat} {Q : Option Value → Shared → Prop} {l : Addr} {items : Array Value} (hh : A.handled = none)
    (hz : ZipOf s.heap (it0 + ls.length + 2) (it0 + ls.length) (it0 + ls.length + 1) (refsFrom it0 ls.length) tos) (h0 : 0 < ls.length) (hit : s.heap.IsListIter it0 l i) (hl : s.heap.IsList l items) (he : items[i]? = none)
    (hQ : ∀ (h' : Heap), (∀ c o, (c < it0 ∨ it0 + ls.length + 3 ≤ c) → s.heap.get? c = some o → h'.get? c = some o) → Q none { heap := h', gens := s.gens, drawn := s.drawn, toks := s.toks, os := s.os }) :
    wpAny (model prog w) A (pyNext (Value.ref (it0 + ls.length + 2))) Q E s := by
  have hT : s.TypeIs (Value.ref (it0 + ls.length + 2)) "zip" := ⟨_, hz.1, rfl⟩
  refine id (wpAny_bind (wpAny_attempt (wpAny_callSpecial?_slot hT F.slot_zip_next (wpAny_call_entry F.slot_zip_next hT F.entry_zip_next (zn_next_end hh hz h0 hit hl he fun h' e hk hs => ?_) (F.args_zip_next_1 _)))))
  obtain ⟨o, ho, hc⟩ := hs
  exact wpAny_bind (wpAny_isInstance ⟨o, ho, hc⟩ isSubtype_stop (wpAny_pure (hQ h' hk)))
/-- the walk over a zip of lists -/
def ItzN (K : PySem.W.Frag) (ls : List Addr) : It where
  go i H := ∀ l ∈ ls, ∃ xs x, SqL K H l xs ∧ xs[i]? = some x
  yld i H v H' := ∃ (T : Addr) (ys : List V), v = V.ref T ∧ H T = none ∧ H' = upd H T (.tup ys) ∧ ys.length = ls.length ∧ ∀ (j : Nat) (l : Addr), ls[j]? = some l → ∀ xs, SqL K H l xs → xs[i]? = ys[j]?
  stop i H := ∃ l xs, ls[0]? = some l ∧ SqL K H l xs ∧ xs.length ≤ i
theorem pickN {X : Cx} {pins : List (Addr × Obj)} {σ : L2.St} {H : Hp} {s : Shared} (I : L2.Inv X pins σ H s) {i it0 : Nat} : ∀ ls : List Addr, (∀ l ∈ ls, ∃ xs x, SqL X.K H l xs ∧ xs[i]? = some x) → (∀ l ∈ ls, l < it0) →
    ∃ (ys : List V) (vs : List Value), ys.length = ls.length ∧ vs.length = ls.length ∧ L2.Vals ys vs ∧ (∀ (j : Nat) (l : Addr), ls[j]? = some l → ∀ xs, SqL X.K H l xs → xs[i]? = ys[j]?) ∧
      ∀ (j : Nat) (l : Addr), ls[j]? = some l → ∃ (items : Array Value) (v : Value), s.heap.IsList l items ∧ items[i]? = some v ∧ vs[j]? = some v ∧ l < it0
  | [], _, _ => ⟨[], [], rfl, rfl, .nil, fun j l z => by simp at z, fun j l z => by simp at z⟩
  | l :: ls, h, hlt => by
    obtain ⟨ys, vs, e1, e2, e3, e4, e5⟩ := pickN I ls (fun l' hl' => h l' (by simp [hl'])) fun l' hl' => hlt l' (by simp [hl'])
    obtain ⟨xs, x, hq, hx⟩ := h l (by simp)
    obtain ⟨its, rv, p, _⟩ := Inv.list I hq
    obtain ⟨u, hu, ru⟩ := Vals.get rv hx
    refine ⟨x :: ys, u :: vs, by simp [e1], by simp [e2], .cons ru e3, fun j l' z xs' hq' => ?_, fun j l' z => ?_⟩
    · cases j with
      | zero =>
        simp only [List.getElem?_cons_zero, Option.some.injEq] at z
        subst z
        rw [Inv.list_inj I hq' hq, hx]; rfl
      | succ j => exact e4 j l' (by simpa using z) xs' hq'
    · cases j with
      | zero =>
        simp only [List.getElem?_cons_zero, Option.some.injEq] at z
        subst z
        exact ⟨_, u, PlainL.isList p, by rw [List.getElem?_toArray]; exact hu, rfl, hlt _ (by simp)⟩
      | succ j =>
        obtain ⟨items, v, g1, g2, g3, g4⟩ := e5 j l' (by simpa using z)
        exact ⟨items, v, g1, g2, by simpa using g3, g4⟩
def fpN (it0 n : Nat) : List Addr := (List.range (n + 3)).map fun j => it0 + j
theorem mem_fpN {it0 n b : Nat} : b ∈ fpN it0 n ↔ it0 ≤ b ∧ b < it0 + n + 3 := by
  unfold fpN
  rw [List.mem_map]
  exact ⟨fun ⟨j, h1, h2⟩ => by rw [List.mem_range] at h1; omega, fun ⟨h1, h2⟩ => ⟨b - it0, by rw [List.mem_range]; omega, by omega⟩⟩
theorem in_cases {it0 n b : Nat} (h1 : it0 ≤ b) (h2 : b < it0 + n + 3) : b = it0 + n + 2 ∨ b = it0 + n + 1 ∨ b = it0 + n ∨ ∃ j, j < n ∧ b = it0 + j := by
  rcases Nat.lt_or_ge b (it0 + n) with z | z
  · exact .inr (.inr (.inr ⟨b - it0, by omega, by omega⟩))
  · omega
theorem out_ne {it0 n c : Nat} (h : ¬ (it0 ≤ c ∧ c < it0 + n + 3)) : c ≠ it0 + n + 2 := by omega
theorem out_or {it0 n c : Nat} (h : ¬ (it0 ≤ c ∧ c < it0 + n + 3)) : c < it0 ∨ it0 + n + 3 ≤ c := by omega
theorem turn_zipN {P : Program} {w : World} {K : PySem.W.Frag} {elts : List Expr} {kk : Nat} {tpos : Pos} {ls : List Addr} {it0 : Nat} (h0 : 0 < ls.length) (h1 : ls.length < 1000) (hlt : ∀ l ∈ ls, l < it0) :
    Turn P w K (.Tuple elts kk tpos) (ItzN K ls) (fpN it0 ls.length) (it0 + ls.length + 2) fun i h => ∃ tos, tos.length = ls.length ∧ ZipOf h (it0 + ls.length + 2) (it0 + ls.length) (it0 + ls.length + 1) (refsFrom it0 ls.length) tos ∧ ∀ (j : Nat) (l : Addr), ls[j]? = some l → h.IsListIter (it0 + j) l i where
  mem := mem_fpN.2 ⟨by omega, by omega⟩
  obj i h := by
    rintro ⟨tos, tl, ⟨z1, z2, z3⟩, hit⟩ b hb
    obtain ⟨b1, b2⟩ := mem_fpN.1 hb
    rcases in_cases b1 b2 with e | e | e | ⟨j, hj, e⟩
    · have g : h.get? b = _ := (congrArg h.get? e).trans z1
      exact ⟨_, g, fun v q => nomatch q⟩
    · have g : h.get? b = _ := (congrArg h.get? e).trans z3
      exact ⟨_, g, fun v q => nomatch q⟩
    · have g : h.get? b = _ := (congrArg h.get? e).trans z2
      exact ⟨_, g, fun v q => nomatch q⟩
    · obtain ⟨o, g1, g2, g3⟩ := hit j _ (List.getElem?_eq_getElem hj)
      exact ⟨o, (congrArg h.get? e).trans g1, fun v q => by rw [g3] at q; exact nomatch q⟩
  keep i h h' := by
    rintro ⟨tos, tl, ⟨z1, z2, z3⟩, hit⟩ k
    refine ⟨tos, tl, ⟨k _ (mem_fpN.2 ⟨by omega, by omega⟩) _ z1, k _ (mem_fpN.2 ⟨by omega, by omega⟩) _ z2, k _ (mem_fpN.2 ⟨by omega, by omega⟩) _ z3⟩, fun j l hl => ?_⟩
    have hj := (List.getElem?_eq_some_iff.1 hl).1
    obtain ⟨o, g1, g2⟩ := hit j l hl
    exact ⟨o, k _ (mem_fpN.2 ⟨by omega, by omega⟩) _ g1, g2⟩
  item X hP hw hK hc i pins s σ H E I hf st hg := by
    subst hP; subst hw; subst hK
    obtain ⟨tos, tl, hz, hit⟩ := st
    obtain ⟨ys, vs, e1, e2, e3, e4, e5⟩ := pickN I ls hg hlt
    have hzl := Heap.lt_size hz.1
    refine pyNext_zipN_item hz tl hit e5 h0 h1 e2 fun h' z' TI' TO' hit' hT hsz hk => ⟨_, rfl, ?_⟩
    refine wpAny_letOwnedTupleGo_zip z' fun h2 z2 sb => ?_
    have nT : s.heap.objs.size ≠ it0 + ls.length + 2 := Nat.ne_of_gt hzl
    have hT2 := (sb.2 _ nT).trans hT
    have new : ObjOk X.prog X.w (upd H s.heap.objs.size (.tup ys)) h2 s.heap.objs.size (.tup ys) := ⟨by rw [e1, sizeLine_eq]; omega, vs, e3, _, hT2, rfl, 0, rfl⟩
    have I1 := Inv.turnedNew (ch := fpN it0 ls.length) (t' := s.toks) I (fun c o hb q => ?_) hf (Nat.le_refl _) new
    · refine ⟨V.ref s.heap.objs.size, _, I1, rfl, ⟨_, ys, rfl, HOk.fresh I.hok (Nat.le_refl _), rfl, e1, e4⟩, ⟨vs, e2, ⟨z2, ?_, ?_⟩, fun j l hl => ?_⟩, fun c hcm => ?_⟩
      · exact (sb.2 _ (show (it0 + ls.length : Nat) ≠ it0 + ls.length + 2 from by omega)).trans TI'
      · exact (sb.2 _ (show (it0 + ls.length + 1 : Nat) ≠ it0 + ls.length + 2 from by omega)).trans TO'
      · have hj := (List.getElem?_eq_some_iff.1 hl).1
        obtain ⟨o, g1, g2⟩ := hit' j l hl
        exact ⟨o, (sb.2 _ (show (it0 + j : Nat) ≠ it0 + ls.length + 2 from by omega)).trans g1, g2⟩
      · have hcm' := mem_fpN.1 hcm
        have hlt' : c < s.heap.objs.size := Nat.lt_of_le_of_lt (Nat.le_of_lt_succ hcm'.2) hzl
        rw [upd_ne (Nat.ne_of_lt hlt')]
        exact (hf c hcm).1
    · have hb' : ¬ (it0 ≤ c ∧ c < it0 + ls.length + 3) := fun z => hb (mem_fpN.2 z)
      show h2.get? c = _
      rw [sb.2 c (out_ne hb')]
      exact hk c o (out_or hb') q
  done X hP hw hK hc i pins s σ H E I hf st hg := by
    subst hP; subst hw; subst hK
    obtain ⟨tos, tl, hz, hit⟩ := st
    obtain ⟨l, xs, hl, hq, hle⟩ := hg
    obtain ⟨its, rv, p, _⟩ := Inv.list I hq
    have lv := Vals.length rv
    have hit0 := hit 0 l hl
    rw [Nat.add_zero] at hit0
    refine pyNext_zipN_end (I.ok.hd hc) hz h0 hit0 (PlainL.isList p) (by rw [List.getElem?_toArray]; exact List.getElem?_eq_none (by omega)) fun h' hk => ⟨rfl, Inv.turnedL (ch := fpN it0 ls.length) I (fun c o hb q => hk c o (out_or fun z => hb (mem_fpN.2 z)) q) hf⟩
  self A i s Q E := by
    rintro ⟨tos, _, hz, _⟩ h
    exact wpAny_pyIter_zip hz.1 h
theorem vals_refs : ∀ {ls : List Addr} {us : List Value}, L2.Vals (ls.map V.ref) us → us = ls.map Value.ref
  | [], _, .nil => rfl
  | l :: ls, _, .cons r rr => by rw [vals_refs rr]; cases r; rfl
/-- zip of n lists -/
def iZipN (K : PySem.W.Frag) (n : Nat) (ta : TA) : TI := fun σ H R => ta σ H fun vs H1 => ∃ ls : List Addr, vs = ls.map V.ref ∧ ls.length = n ∧ (∀ l ∈ ls, ∃ xs, SqL K H1 l xs) ∧ R (ItzN K ls) H1
theorem pie_zipN {X : Cx} {pins : List (Addr × Obj)} {σ : L2.St} {H1 : Hp} {s1 : Shared} {R : It → Hp → Prop} {elts : List Expr} {kk : Nat} {tpos : Pos} {ls : List Addr} (I1 : L2.Inv X pins σ H1 s1) (h0 : 0 < ls.length) (h1 : ls.length < 1000) (ck : checkBuiltinCall "zip.__new__" { pos := Value.type "zip" :: ls.map Value.ref } = pure ())
    (hl : ∀ l ∈ ls, ∃ xs, SqL X.K H1 l xs) (r : R (ItzN X.K ls) H1) : wpAny (model X.prog X.w) X.A (call (Value.type "zip") (ls.map Value.ref)) (fun v s2 => wpAny (model X.prog X.w) X.A (pyIter v) (PIE X pins σ (.Tuple elts kk tpos) R) X.xe s2) X.xe s1 := by
  have hp : ∀ l ∈ ls, (∃ items, s1.heap.IsList l items) ∧ l < s1.heap.objs.size := fun l hm => by
    obtain ⟨xs, hq⟩ := hl l hm
    obtain ⟨its, rv, p, _⟩ := Inv.list I1 hq
    exact ⟨⟨_, PlainL.isList p⟩, PlainL.lt p⟩
  refine call_zipN ls h1 ck (fun l hm => (hp l hm).1) fun h' hsz hk hit hz => wpAny_pyIter_zip hz.1 ?_
  exact ⟨_, fpN s1.heap.objs.size ls.length, _, ItzN X.K ls, H1, rfl, Inv.kept I1 hk, turn_zipN h0 h1 fun l hm => (hp l hm).2, ⟨_, by rw [List.length_map], hz, hit⟩, fun b hb => I1.fpOk (mem_fpN.1 hb).1 (HOk.fresh I1.hok (mem_fpN.1 hb).1), r⟩
theorem pi_zipN {X : Cx} {e : Expr} {es : List Expr} {ta : TA} {n : Nat} {p pos tpos : Pos} {elts : List Expr} {kk : Nat} (hg : Gl X "zip") (hm : X.mg "zip" = none) (ha : PA X (e :: es) ta) (h0 : 0 < n) (h1 : n < 1000) (ck : ∀ ls : List Addr, ls.length = n → checkBuiltinCall "zip.__new__" { pos := Value.type "zip" :: ls.map Value.ref } = pure ())
    (hs : starEach (e :: es) X.env = (false, eval e X.env) :: starEach es X.env) (hpl : (backTo pos (starEach es X.env)).any (·.1) = false) : PI X (.Tuple elts kk tpos) (.Call (.Name "zip" p) (e :: es) [] pos) (iZipN X.K n ta) := by
  refine ⟨fun pins s σ H R I h => Call_ (ld_blt I hg hm boot_zip (PyProof.Rows.callWith_type1 (thn (ha.run pos pins s σ H _ I h) fun us s1 z => ?_) hs hpl))⟩
  obtain ⟨vs, H1, I1, r1, ls, rfl, hn, hl, r⟩ := z
  have e := vals_refs r1
  subst e
  exact pie_zipN I1 (by omega) (by omega) (ck ls hn) hl r
/-- the columns of a zip -/
def ColsAt (K : PySem.W.Frag) (H : Hp) (ls : List Addr) (cols : List (List V)) : Prop := ∀ (j : Nat) (l : Addr) (col : List V), ls[j]? = some l → cols[j]? = some col → SqL K H l col
/-- the i-th row of the columns -/
def RowAt (cols : List (List V)) (i : Nat) (ys : List V) : Prop := ys.length = cols.length ∧ ∀ (j : Nat) (col : List V), cols[j]? = some col → col[i]? = ys[j]?
theorem walk_zipN {K : PySem.W.Frag} {ls : List Addr} {cols : List (List V)} {L : Nat} (e : cols.length = ls.length) (h0 : 0 < ls.length) (hL : ∀ col ∈ cols, col.length = L) :
    L2.Walk (ItzN K ls) L (fun H => ColsAt K H ls cols) fun i H v H' => ∃ (T : Addr) (ys : List V), v = V.ref T ∧ H T = none ∧ H' = upd H T (.tup ys) ∧ RowAt cols i ys where
  goes i H hi hc := fun l hl => by
    obtain ⟨j, hj⟩ := List.getElem?_of_mem hl
    have hjl := (List.getElem?_eq_some_iff.1 hj).1
    have hcj : j < cols.length := by omega
    have hlen := hL _ (List.getElem_mem hcj)
    exact ⟨_, (cols[j])[i]'(by omega), hc j l _ hj (List.getElem?_eq_getElem hcj), List.getElem?_eq_getElem (by omega)⟩
  stops H hc := ⟨_, _, List.getElem?_eq_getElem h0, hc 0 _ _ (List.getElem?_eq_getElem h0) (List.getElem?_eq_getElem (by omega)), by rw [hL _ (List.getElem_mem (by omega))]; exact Nat.le_refl _⟩
  yields i H v H' hi hc := by
    rintro ⟨T, ys, e1, e2, e3, e4, e5⟩
    refine ⟨T, ys, e1, e2, e3, e4.trans e.symm, fun j col hcol => ?_⟩
    have hj := (List.getElem?_eq_some_iff.1 hcol).1
    exact e5 j _ (List.getElem?_eq_getElem (by omega)) col (hc j _ col (List.getElem?_eq_getElem (by omega)) hcol)
section
variable {m : Md} {N : List Str} {sc scope : Scope} {i j k n kk : Nat} {X : Cx} {e elt : Expr} {es elts : List Expr} {σ : L2.St} {H : Hp} {Q : VK} {pos p1 p2 tpos po : Pos} {body : List Stmt} {nx : L2.St → Hp → Prop} {rt : VK} {bk ct : L2.St → Hp → Prop} {g : TG}
/-- for t in zip(e, ..), of n lists of one length that stand still -/
theorem s_forZn (h : At m N sc k X) (hg : PG X (.Tuple elts kk tpos) g) (hm : m.mg "zip" = none) (hgl : sc.names.lookup ("zip" : Str) = some .globalImplicit) (h0 : 0 < n) (h1 : n < 1000) (ck : ∀ ls : List Addr, ls.length = n → checkBuiltinCall "zip.__new__" { pos := Value.type "zip" :: ls.map Value.ref } = pure ())
    (q : wA X (e :: es) σ H fun vs H1 => ∃ (ls : List Addr) (cols : List (List V)) (L : Nat), vs = ls.map V.ref ∧ ls.length = n ∧ cols.length = n ∧ ColsAt m.K H1 ls cols ∧ (∀ col ∈ cols, col.length = L) ∧ ∃ Pv : Nat → L2.St → Hp → Prop, Pv 0 σ H1 ∧ (∀ i σ H, Pv i σ H → ColsAt m.K H ls cols) ∧
      (∀ (i : Nat) (ys : List V) (T : Addr) (σ : L2.St) (H : Hp), i < L → RowAt cols i ys → Pv i σ H → H T = none → g (.ref T) σ (upd H T (.tup ys)) fun σ2 H2 => wB X body ⟨Pv (i + 1), rt, nx, Pv (i + 1)⟩ σ2 H2) ∧ ∀ σ H, Pv L σ H → nx σ H)
    (hs : starEach (e :: es) X.env = (false, eval e X.env) :: starEach es X.env := by with_unfolding_all rfl) (hpl : (backTo p2 (starEach es X.env)).any (·.1) = false := by with_unfolding_all rfl)
    (hf : ∀ x, foldedSetIterable (.Call (.Name "zip" p1) (e :: es) [] p2) X.env x = pure x := by with_unfolding_all (intro _; rfl)) : wS X (.For (.Tuple elts kk tpos) (.Call (.Name "zip" p1) (e :: es) [] p2) body [] po) ⟨nx, rt, bk, ct⟩ σ H := by
  refine toS (ps_for h.pass h.calm (pi_zipN (n := n) (h.gl hgl) (by rw [h.mm]; exact hm) (cA (es := e :: es)) h0 h1 ck hs hpl) hg cB hf) ?_
  unfold wA at q ⊢
  refine fun pos pins s I => wpAny_mono (q pos pins s I) (fun v s' z => ?_) fun _ _ z => z
  obtain ⟨vs, H1, I1, r1, ls, cols, L, ev, el, ec, hc, hL, Pv, p0, hq, turn, fin⟩ := z
  refine ⟨vs, H1, I1, r1, ls, ev, el, fun l hl => ?_, for_it (walk_zipN (K := X.K) (ls := ls) (cols := cols) (L := L) (by omega) (by omega) hL) Pv p0 (fun i σ H _ z => by rw [h.kk]; exact hq i σ H z) (fun i x σ H H' hi hp y => ?_) fin⟩
  · obtain ⟨j, hj⟩ := List.getElem?_of_mem hl
    have hjl := (List.getElem?_eq_some_iff.1 hj).1
    exact ⟨_, by rw [h.kk]; exact hc j l _ hj (List.getElem?_eq_getElem (by omega))⟩
  · obtain ⟨T, ys, rfl, e2, rfl, e4⟩ := y
    exact turn i ys T σ H hi e4 hp e2
/-- [elt for t in zip(e, ..)] -/
theorem w_lcZn {own : List (Str × Nat)} (h : At m N sc k X) (hg : ∀ X', At m N (relS scope sc) k X' → PG X' (.Tuple elts kk tpos) g) (hm : m.mg "zip" = none) (hgl : sc.names.lookup ("zip" : Str) = some .globalImplicit) (ok : blkC N sc scope own = true) (h0 : 0 < n) (h1 : n < 1000) (ck : ∀ ls : List Addr, ls.length = n → checkBuiltinCall "zip.__new__" { pos := Value.type "zip" :: ls.map Value.ref } = pure ())
    (q : wA X (e :: es) σ H fun vs H1 => ∃ (ls : List Addr) (cols : List (List V)) (L : Nat), vs = ls.map V.ref ∧ ls.length = n ∧ cols.length = n ∧ ColsAt m.K H1 ls cols ∧ (∀ col ∈ cols, col.length = L) ∧ ∀ D, H1 D = none → ∃ Pv : Nat → Hp → Prop, Pv 0 (upd H1 D (.lst [])) ∧ (∀ i H, i ≤ L → Pv i H → ColsAt m.K H ls cols) ∧
      (∀ (i : Nat) (ys : List V) (T : Addr) (H : Hp), i < L → RowAt cols i ys → Pv i H → H T = none → g (.ref T) (wipe σ (own.map (·.2))) (upd H T (.tup ys)) fun σ2 H2 => wipe σ2 (own.map (·.2)) = wipe σ (own.map (·.2)) ∧ ∀ X', At m N (relS scope sc) k X' → wE X' elt σ2 H2 (App D (Pv (i + 1)))) ∧ ∀ H, Pv L H → Q (.ref D) H)
    (hs : starEach (e :: es) X.env = (false, eval e X.env) :: starEach es X.env := by with_unfolding_all rfl) (hpl : (backTo p2 (starEach es X.env)).any (·.1) = false := by with_unfolding_all rfl)
    (hf : ∀ x, foldedSetIterable (.Call (.Name "zip" p1) (e :: es) [] p2) X.env x = pure x := by with_unfolding_all (intro _; rfl)) : wE X (.ListComp elt [⟨.Tuple elts kk tpos, .Call (.Name "zip" p1) (e :: es) [] p2, [], 0⟩] scope pos) σ H Q := by
  refine toE (pe_lc (own := own) (g := g) (tt := tYes) (te := inBlk m N (relS scope sc) k elt) h.calm (by rw [h.nn]; exact h.nd) (pi_zipN (n := n) (h.gl hgl) (by rw [h.mm]; exact hm) (cA (es := e :: es)) h0 h1 ck hs hpl) (by rw [h.nn, h.ss]; exact blkOk_by ok) (fun s H C cl fp => hg _ (blk_at h s H C cl fp)) (fun _ _ _ _ _ => pts_nil) (fun s H C cl fp => blk_pe h s H C cl fp) hf) ?_
  unfold wA at q ⊢
  refine fun pos pins s I => wpAny_mono (q pos pins s I) (fun v s' z => ?_) fun _ _ z => z
  obtain ⟨vs, H1, I1, r1, ls, cols, L, ev, el, ec, hc, hL, go⟩ := z
  refine ⟨vs, H1, I1, r1, ls, ev, el, fun l hl => ?_, fun D hD => ?_⟩
  · obtain ⟨j, hj⟩ := List.getElem?_of_mem hl
    have hjl := (List.getElem?_eq_some_iff.1 hj).1
    exact ⟨_, by rw [h.kk]; exact hc j l _ hj (List.getElem?_eq_getElem (by omega))⟩
  · obtain ⟨Pv, p0, hq, turn, fin⟩ := go D hD
    refine lc_it (walk_zipN (K := X.K) (ls := ls) (cols := cols) (L := L) (by omega) (by omega) hL) (g := g) (tt := tYes) (te := inBlk m N (relS scope sc) k elt) (vs := own.map (·.2)) (σ := σ) Pv p0 (fun i H hi z => by rw [h.kk]; exact hq i H hi z) (fun i x H H' hi hp y => ?_) fin
    obtain ⟨T, ys, rfl, e2, rfl, e4⟩ := y
    exact turn i ys T H hi e4 hp e2
end
theorem ck2 : ∀ ls : List Addr, ls.length = 2 → checkBuiltinCall "zip.__new__" { pos := Value.type "zip" :: ls.map Value.ref } = pure ()
  | [a, b], _ => F.newCall_zip_2 (.ref a) (.ref b)
theorem ck3 : ∀ ls : List Addr, ls.length = 3 → checkBuiltinCall "zip.__new__" { pos := Value.type "zip" :: ls.map Value.ref } = pure ()
  | [a, b, c], _ => (by kernel_rfl : checkBuiltinCall "zip.__new__" { pos := [Value.type "zip", .ref a, .ref b, .ref c] } = pure ())
theorem RowAt.three {c1 c2 c3 ys : List V} {i : Nat} {x y z : V} (r : RowAt [c1, c2, c3] i ys) (h1 : c1[i]? = some x) (h2 : c2[i]? = some y) (h3 : c3[i]? = some z) : ys = [x, y, z] := by
  obtain ⟨l, r⟩ := r
  refine List.ext_getElem? fun j => ?_
  match j with
  | 0 => exact ((r 0 c1 rfl).symm.trans h1)
  | 1 => exact ((r 1 c2 rfl).symm.trans h2)
  | 2 => exact ((r 2 c3 rfl).symm.trans h3)
  | j + 3 => rw [List.getElem?_eq_none (by rw [l]; simp)]; rfl
theorem ColsAt.three {K : PySem.W.Frag} {H : Hp} {a b c : Addr} {xs ys zs : List V} (h1 : SqL K H a xs) (h2 : SqL K H b ys) (h3 : SqL K H c zs) : ColsAt K H [a, b, c] [xs, ys, zs]
  | 0, _, _, e1, e2 => by cases e1; cases e2; exact h1
  | 1, _, _, e1, e2 => by cases e1; cases e2; exact h2
  | 2, _, _, e1, e2 => by cases e1; cases e2; exact h3
  | j + 3, _, _, e1, _ => by simp at e1
end Vf
set_option maxRecDepth 100000
set_option maxHeartbeats 4000000
/-! Sin: set(list) of whole numbers, sorted(set). Own work. -/
namespace Vs
open PySem PySem.Spec PyProof.Rows L2
theorem ints_at : ∀ {vs : List Value} {ns : List Int} {i : Nat} {v : Value}, IntsAre vs ns → vs[i]? = some v → ∃ k t, ns[i]? = some k ∧ v = Value.int k t := by
  intro vs ns i v h
  induction h generalizing i with
  | nil => intro e; simp at e
  | cons n t _ ih =>
    intro e
    cases i with
    | zero => exact ⟨n, t, rfl, by simpa using e.symm⟩
    | succ i => exact ih e
theorem set_ints {P : Program} {w : World} {A : Around} {E : Value → Shared → Prop} {s : Shared} {p : Addr} {items : Array Value} {ns : List Int} {Q : Value → Shared → Prop} (hh : A.handled = none) (hl : s.heap.IsList p items) (hx : IntsAre items.toList ns) (hlen : items.size = ns.length) (hb : ns.length + 1 < scanBound)
    (q : ∀ (h' : Heap) (tk c : Nat), SetR w h' s.heap.objs.size (fun j => decide (j ∈ ns)) c → c ≤ ns.length → (∀ b o, s.heap.get? b = some o → h'.get? b = some o) → Q (.ref s.heap.objs.size) { s with heap := h', toks := tk }) : wpAny (model P w) A (call (.type "set") [.ref p]) Q E s := by
  refine set_of_list (fun i h => ∃ c, c ≤ i ∧ SetR w h s.heap.objs.size (fun j => decide (j ∈ ns.take i)) c) hh hl (fun i h h' ⟨c, hc, r⟩ k => ⟨c, hc, r.at k⟩) (fun h z => ⟨0, Nat.le_refl 0, setR_new_at z⟩) (fun i v hv => ?_) fun h' tk ⟨c, hc, r⟩ k => ?_
  · intro A' E' s' Q' ⟨c, hc, r⟩ kk
    obtain ⟨n, t, hn, rfl⟩ := ints_at hx (by simpa using hv)
    have hi := (List.getElem?_eq_some_iff.1 hn).1
    unfold setAdd
    refine wpAny_bind ((PySem.intKind P w).pyHash (intKind_is P w n t) (setR_add_hashed r (by omega) fun h' sb r' => ?_))
    refine kk _ h' _ sb (Nat.le_succ _) ⟨_, ?_, r'.congr fun j => ?_⟩
    · split <;> omega
    · rw [List.take_add_one, hn]
      by_cases a : j ∈ ns.take i <;> by_cases b : j = n <;> simp [a, b]
  · exact q h' tk c (by rw [hlen, List.take_length] at r; exact r) (by omega) k
end Vs
namespace Vf
open PySem PySem.Spec PyProof.Rows L2 LamX Vs
section
variable {m : Md} {N : List Str} {sc : Scope} {k : Nat} {X : Cx} {H : Hp} {Q : VK}
/-- set(xs) of a list of whole numbers -/
theorem cr_setZ (hc : X.calm = true) : CallR X (.type "set") (fun vs H Q => ∃ (p : Addr) (ns : List Int), vs = [V.ref p] ∧ SqL X.K H p (ns.map V.int) ∧ ns.length < 4000 ∧
    ∀ a c, H a = none → c ≤ ns.length → Q (.ref a) (upd H a (SetO X.w a (fun j => decide (j ∈ ns)) c))) := by
  intro pins s σ H vs us Q I r h
  obtain ⟨p, ns, rfl, hs, hb, q⟩ := h
  obtain ⟨its, rv, hl, _⟩ := I.list hs
  rw [Vals.ref1 r]
  have lv := Vals.length rv
  rw [List.length_map] at lv
  refine set_ints (P := X.prog) (I.ok.hd hc) hl.isList (by simpa using rv.ints) (by simp; omega) (by unfold scanBound; omega) fun h' tk c x hle kp => ?_
  exact ⟨.ref _, upd H s.heap.objs.size (SetO X.w s.heap.objs.size _ c), I.laid (t' := tk) kp (Nat.le_refl _) (setO_new x), rfl, q _ c (I.hok.fresh (Nat.le_refl _)) hle⟩
theorem g_setZ (h : At m N sc k X) {p : Addr} {ns : List Int} (hs : SqL m.K H p (ns.map V.int)) (hb : ns.length < 4000)
    (q : ∀ a c, H a = none → c ≤ ns.length → Q (.ref a) (upd H a (SetO m.w a (fun j => decide (j ∈ ns)) c))) : gCall X (.type "set") [.ref p] H Q :=
  ⟨_, cr_setZ h.calm, p, ns, rfl, by rw [h.kk]; exact hs, hb, by rw [h.ww]; exact q⟩
/-- sorted(found), fewer than 64 -/
theorem g_sortedZ (h : At m N sc k X) {a : Addr} {S : Int → Bool} {n : Nat} (ha : H a = some (SetO m.w a S n)) (hb : n < 64)
    (q : ∀ (ns : List Int) (p : Addr), ns.Pairwise (· < ·) → (∀ k : Int, k ∈ ns ↔ S k = true) → ns.length = n → H p = none → Q (.ref p) (upd H p (.lst (ns.map V.int)))) : gCall X (.builtin "sorted") [.ref a] H Q :=
  ⟨_, cr_sortedSet h.calm, a, S, n, rfl, by rw [h.ww]; exact ha, hb, q⟩
end
end Vf
set_option maxRecDepth 100000
set_option maxHeartbeats 4000000
/-! Lc2: [e for x in xs for y in ys]. Own work. -/
namespace Vf
open PySem PySem.Spec PyProof.Rows L2 LamX
theorem it_core {J : It} {n : Nat} {G : Hp → Prop} {Y : Nat → Hp → V → Hp → Prop} (w : L2.Walk J n G Y) {Body : V → Hp → (Hp → Prop) → Prop} {H0 : Hp} {Qd : Hp → Prop} (Pv : Nat → Hp → Prop) (p0 : Pv 0 H0) (st : ∀ i H, i ≤ n → Pv i H → G H)
    (turn : ∀ i x H H', i < n → Pv i H → Y i H x H' → Body x H' (Pv (i + 1))) (fin : ∀ H, Pv n H → Qd H) :
    ∃ W : Nat → Nat → Hp → Prop, (∃ m, W 0 m H0) ∧ ∀ (i m : Nat) (H : Hp), W i m H → J.stop i H ∧ Qd H ∨ J.go i H ∧ ∃ Nx : Hp → Prop, (∀ H', Nx H' → ∃ m', m' < m ∧ W (i + 1) m' H') ∧ ∀ (x : V) (H' : Hp), J.yld i H x H' → Body x H' Nx := by
  refine ⟨fun i m H => i ≤ n ∧ m = n - i ∧ Pv i H, ⟨n, Nat.zero_le _, rfl, p0⟩, ?_⟩
  rintro i m H ⟨hi, rfl, hp⟩
  have g := st i H hi hp
  rcases Nat.lt_or_ge i n with lt | ge
  · exact .inr ⟨w.goes i H lt g, Pv (i + 1), fun H' p' => ⟨n - (i + 1), by omega, by omega, rfl, p'⟩, fun x H' y => turn i x H H' lt hp (w.yields i H x H' lt g y)⟩
  · obtain rfl : i = n := by omega
    exact .inl ⟨w.stops H g, fin H hp⟩
section
variable {m : Md} {N : List Str} {sc scope : Scope} {i j k : Nat} {X : Cx} {it it2 elt : Expr} {σ : L2.St} {H : Hp} {Q : VK} {pos p1 p2 : Pos} {x y : Str}
/-- [elt for x in it for y in it2], two lists -/
theorem w_lc2L (h : At m N sc k X) (ok : blkC N sc scope [(x, i), (y, j)] = true) (hij : i ≠ j) (n1 : NL N (relS scope sc) i x) (n2 : NL N (relS scope sc) j y)
    (q : wE X it σ H fun v H1 => ∃ (a : Addr) (xs : List V), v = .ref a ∧ SqL m.K H1 a xs ∧ ∀ D, H1 D = none → ∃ Pv : Nat → Hp → Prop, Pv 0 (upd H1 D (.lst [])) ∧ (∀ t H, t ≤ xs.length → Pv t H → SqL m.K H a xs) ∧
      (∀ t z H, xs[t]? = some z → Pv t H → ∀ X', At m N (relS scope sc) k X' → wE X' it2 ((σ.set j none).set i (some z)) H fun v2 H2 => ∃ (b : Addr) (ys : List V), v2 = .ref b ∧ SqL m.K H2 b ys ∧ ∃ Pw : Nat → Hp → Prop, Pw 0 H2 ∧ (∀ u H, u ≤ ys.length → Pw u H → SqL m.K H b ys) ∧
        (∀ u w H, ys[u]? = some w → Pw u H → ∀ X', At m N (relS scope sc) k X' → wE X' elt ((σ.set i (some z)).set j (some w)) H (App D (Pw (u + 1)))) ∧ ∀ H, Pw ys.length H → Pv (t + 1) H) ∧ ∀ H, Pv xs.length H → Q (.ref D) H)
    (hs : ∀ x, foldedSetIterable it X.env x = pure x := by with_unfolding_all (intro _; rfl)) (hs2 : ∀ env x, foldedSetIterable it2 env x = pure x := by with_unfolding_all (intro _ _; rfl)) :
    wE X (.ListComp elt [⟨.Name x p1, it, [], 0⟩, ⟨.Name y p2, it2, [], 0⟩] scope pos) σ H Q := by
  refine toE (pe_lc2 (own := [(x, i), (y, j)]) (vs1 := [j]) (wi1 := iList X.K (inBlk m N (relS scope sc) k it2)) (g := gName i) (g1 := gName j) (tt := tYes) (tt1 := tYes) (te := inBlk m N (relS scope sc) k elt) h.calm (by rw [h.nn]; exact h.nd) (pi_list cE) (by rw [h.nn, h.ss]; exact blkOk_by ok) (fun t ht => by simp at ht; simp [ht]) (fun s H C cl fp => pg_nl (blk_at h s H C cl fp) n1) (fun _ _ _ _ _ => pts_nil) (fun s H C cl fp => pi_list (blk_pe h s H C cl fp)) (fun s H C cl fp => pg_nl (blk_at h s H C cl fp) n2) (fun _ _ _ _ _ => pts_nil) (fun s H C cl fp => blk_pe h s H C cl fp) hs hs2) ?_
  refine wE.mono q fun v H1 ⟨a, xs, ea, hl, go⟩ => ⟨a, ea, ⟨xs, by rw [h.kk]; exact hl⟩, fun D hD => ?_⟩
  obtain ⟨Pv, p0, st, turn, fin⟩ := go D hD
  refine it_core (walk_list (K := X.K) (a := a) (xs := xs)) Pv p0 (fun t H ht hp => by rw [h.kk]; exact st t H ht hp) (fun t z H H' ht hp yv => ?_) fin
  obtain ⟨rfl, hz⟩ := yv
  have e1 : (wipe σ [i, j]).set i (some z) = (σ.set j none).set i (some z) := by simp [wipe, List.set_set, List.set_comm _ _ hij]
  show _ = _ ∧ _
  rw [show List.set (wipe σ (List.map (fun x => x.snd) [(x, i), (y, j)])) i (some z) = (σ.set j none).set i (some z) from e1]
  refine ⟨by simp [wipe, List.set_set, List.set_comm _ _ hij], ?_⟩
  unfold tYes
  refine iteT fun X' hX' => ?_
  refine wE.mono (turn t z _ hz hp X' hX') fun v2 H2 ⟨b, ys, eb, hb, Pw, w0, wst, wturn, wfin⟩ => ⟨b, eb, ⟨ys, by rw [h.kk]; exact hb⟩, ?_⟩
  refine it_core (walk_list (K := X.K) (a := b) (xs := ys)) Pw w0 (fun u H hu hp => by rw [h.kk]; exact wst u H hu hp) (fun u w H H' hu hp yv => ?_) wfin
  obtain ⟨rfl, hw⟩ := yv
  have e2 : (wipe ((σ.set j none).set i (some z)) [j]).set j (some w) = (σ.set i (some z)).set j (some w) := by simp [wipe, List.set_set, List.set_comm _ _ hij]
  show _ = _ ∧ _
  rw [e2]
  refine ⟨by simp [wipe, List.set_set, List.set_comm _ _ hij], ?_⟩
  exact iteT fun X2 hX2 => wturn u w _ hw hp X2 hX2
end
end Vf
set_option maxRecDepth 100000
set_option maxHeartbeats 4000000
/-! Zm: zip of lists where what is handed out is kept by a name. Own work. -/
namespace Vf
open PySem PySem.Spec PyProof.Rows L2 LamX
/-- a zip: what it knows of the tuple that it handed out last -/
abbrev IsZipX (h : Heap) (z TI TO : Addr) (f0 : Value) (f1 : Bool) : Prop :=
  h.get? z = some { cls := Value.type "zip", dict := Option.none, data := Data.fields #[f0, Value.bool f1, Value.bool false, Value.ref TI, Value.ref TO], slots := #[] }
def Known (f0 : Value) : Prop := f0 = Value.none ∨ ∃ T : Addr, f0 = rawInt ((T : Nat) : Int)
theorem wp_alive {M : Model} {A : Around} {E : Value → Shared → Prop} {s : Shared} {a : Addr} {Q : Option Obj → Shared → Prop} (h : Q (s.heap.get? a) s) : wpAny M A (loadIfAlive a) Q E s := fun _ _ _ => h
theorem zm_free {prog : Program} {w : World} {A : Around} {E : Value → Shared → Prop} {s : Shared} {z TI TO : Addr} {f0 : Value} {f1 : Bool} {Q : Bool → Shared → Prop} (hz : IsZipX s.heap z TI TO f0 f1) (hf : Known f0) (k1 : Q true s)
    (k2 : ∀ h' : Heap, IsZipX h' z TI TO f0 true → Heap.SameBut z s.heap h' → Q false { heap := h', gens := s.gens, drawn := s.drawn, toks := s.toks, os := s.os }) : wpAny (model prog w) A (Builtin.SmallTypes.ownedTupleIsFree (.ref z)) Q E s := by
  unfold Builtin.SmallTypes.ownedTupleIsFree
  rcases hf with rfl | ⟨T, rfl⟩
  · exact wpAny_bind (wpAny_field hz rfl rfl (wpAny_pure k1))
  · refine wpAny_bind (wpAny_field hz rfl (x := rawInt ((T : Nat) : Int)) rfl ?_)
    show wpAny _ _ (loadIfAlive (((T : Nat) : Int).toNat) >>= _) _ _ _
    rw [Int.toNat_natCast]
    refine wpAny_bind (wp_alive ?_)
    cases hT : s.heap.get? T with
    | none => exact wpAny_pure k1
    | some oT =>
      simp only [Option.isNone_some, Bool.false_eq_true, if_false]
      refine wpAny_bind (wpAny_field hz rfl (x := .bool f1) rfl ?_)
      cases f1 with
      | true => exact wpAny_ite (by rw [if_neg (by decide)]; exact wpAny_pure (k2 s.heap hz (Heap.SameBut.refl _ _)))
      | false => exact wpAny_ite (by rw [if_pos (by decide)]; exact wpAny_bind (wpAny_setField_rec hz (by simp) fun h₁ hz₁ hs₁ => wpAny_pure (k2 h₁ hz₁ hs₁)))
theorem wp_draws2 {prog : Program} {w : World} {A : Around} {E : Value → Shared → Prop} {ls : List Addr} {vs : List Value} {it0 i : Nat} (body : Value → Option PySem.Fin × Array Value → Sem (ForInStep (Option PySem.Fin × Array Value)))
    (hb : ∀ (k : Nat) (l : Addr) (v : Value) (items acc : Array Value) (s : Shared) (Q : ForInStep (Option PySem.Fin × Array Value) → Shared → Prop), k < ls.length → s.heap.IsListIter (it0 + k) l i → s.heap.IsList l items → items[i]? = some v →
      (∀ h' : Heap, h'.objs.size = s.heap.objs.size → h'.IsListIter (it0 + k) l (i + 1) → (∀ b, b ≠ it0 + k → h'.get? b = s.heap.get? b) → Q (.yield (none, acc.push v)) { heap := h', gens := s.gens, drawn := s.drawn, toks := s.toks, os := s.os }) →
      wpAny (model prog w) A (body (Value.ref (it0 + k)) (none, acc)) Q E s) :
    ∀ (m k : Nat) (s : Shared) (Q : Option PySem.Fin × Array Value → Shared → Prop), k + m = ls.length → vs.length = ls.length → (∀ j l, j < k → ls[j]? = some l → s.heap.IsListIter (it0 + j) l (i + 1)) → (∀ j l, k ≤ j → ls[j]? = some l → s.heap.IsListIter (it0 + j) l i) →
      (∀ (j : Nat) (l : Addr), ls[j]? = some l → ∃ (items : Array Value) (v : Value), s.heap.IsList l items ∧ items[i]? = some v ∧ vs[j]? = some v ∧ l < it0) →
      (∀ h' : Heap, h'.objs.size = s.heap.objs.size → (∀ j l, ls[j]? = some l → h'.IsListIter (it0 + j) l (i + 1)) → (∀ b, (b < it0 ∨ it0 + ls.length ≤ b) → h'.get? b = s.heap.get? b) → Q (none, vs.toArray) { heap := h', gens := s.gens, drawn := s.drawn, toks := s.toks, os := s.os }) →
      wpAny (model prog w) A (forIn (refsFrom (it0 + k) m) (none, (vs.take k).toArray) body) Q E s
  | 0, k, s, Q, e, ev, d1, d2, hl, q => by
    simp only [refsFrom, List.forIn_nil]
    refine wpAny_pure ?_
    have ek : k = ls.length := by omega
    subst ek
    rw [← ev, List.take_length]
    exact q s.heap rfl (fun j l hj => d1 j l (List.getElem?_eq_some_iff.1 hj).1 hj) fun _ _ => rfl
  | m + 1, k, s, Q, e, ev, d1, d2, hl, q => by
    simp only [refsFrom, List.forIn_cons]
    have hk : k < ls.length := by omega
    obtain ⟨items, v, h1, h2, h3, h4⟩ := hl k _ (List.getElem?_eq_getElem hk)
    refine wpAny_bind (hb k _ v items _ s _ hk (d2 k _ (Nat.le_refl k) (List.getElem?_eq_getElem hk)) h1 h2 fun h' sz hit hoth => ?_)
    simp only []
    have ep : (vs.take k).toArray.push v = (vs.take (k + 1)).toArray := by rw [List.take_add_one, h3]; simp
    rw [ep]
    refine wp_draws2 body hb m (k + 1) _ Q (by omega) ev (fun j l hj hl' => ?_) (fun j l hj hl' => ?_) (fun j l hl' => ?_) fun h2' sz2 dd ho2 => ?_
    · rcases Nat.lt_or_ge j k with z | z
      · obtain ⟨o, g1, g2⟩ := d1 j l z hl'
        exact ⟨o, by show h'.get? _ = _; rw [hoth _ (show (it0 + j : Nat) ≠ it0 + k from by omega)]; exact g1, g2⟩
      · obtain rfl : j = k := by omega
        rw [List.getElem?_eq_getElem hk] at hl'
        cases hl'
        exact hit
    · obtain ⟨o, g1, g2⟩ := d2 j l (by omega) hl'
      exact ⟨o, by show h'.get? _ = _; rw [hoth _ (show (it0 + j : Nat) ≠ it0 + k from by omega)]; exact g1, g2⟩
    · obtain ⟨it', v', ⟨o, g1, g2⟩, r2, r3, r4⟩ := hl j l hl'
      have n1 : l ≠ it0 + k := fun z => by have := Nat.lt_of_lt_of_le r4 (Nat.le_add_right it0 k); rw [← z] at this; exact Nat.lt_irrefl _ this
      exact ⟨it', v', ⟨o, by show h'.get? _ = _; rw [hoth _ n1]; exact g1, g2⟩, r2, r3, r4⟩
    · exact q h2' (sz2.trans sz) dd fun b hb1 => (ho2 b hb1).trans (hoth b (by omega))
/-- a zip of n iterators, what it knows of its last tuple being what it may -/
def ZipAny (h : Heap) (z TI TO : Addr) (its : List Value) (n : Nat) : Prop := ∃ (f0 : Value) (f1 : Bool) (tos : List Value), Known f0 ∧ tos.length = n ∧ IsZipX h z TI TO f0 f1 ∧ h.get? TI = some { cls := Value.type "tuple", data := Data.seq its.toArray } ∧ h.get? TO = some { cls := Value.type "tuple", data := Data.seq tos.toArray }
theorem zm_next_item {prog : Program} {w : World} {A : Around} {E : Value → Shared → Prop} {s : Shared} {ls : List Addr} {vs : List Value} {it0 i : Nat} {Q : Value → Shared → Prop}
    (hz : ZipAny s.heap (it0 + ls.length + 2) (it0 + ls.length) (it0 + ls.length + 1) (refsFrom it0 ls.length) ls.length) (hit : ∀ j l, ls[j]? = some l → s.heap.IsListIter (it0 + j) l i)
    (hl : ∀ (j : Nat) (l : Addr), ls[j]? = some l → ∃ (items : Array Value) (v : Value), s.heap.IsList l items ∧ items[i]? = some v ∧ vs[j]? = some v ∧ l < it0) (h0 : 0 < ls.length) (h1 : ls.length < 1000) (ev : vs.length = ls.length)
    (hQ : ∀ h' : Heap, ZipAny h' (it0 + ls.length + 2) (it0 + ls.length) (it0 + ls.length + 1) (refsFrom it0 ls.length) ls.length →
      (∀ j l, ls[j]? = some l → h'.IsListIter (it0 + j) l (i + 1)) → h'.get? s.heap.objs.size = some { cls := Value.type "tuple", data := Data.seq vs.toArray } → h'.objs.size = s.heap.objs.size + 1 → (∀ c o, (c < it0 ∨ it0 + ls.length + 3 ≤ c) → s.heap.get? c = some o → h'.get? c = some o) →
      Q (Value.ref s.heap.objs.size) { heap := h', gens := s.gens, drawn := s.drawn, toks := s.toks, os := s.os }) :
    wpAny (model prog w) A (Builtin.«zip.__next__» { pos := [Value.ref (it0 + ls.length + 2)] }) (fun fin s' => ∃ v, fin = Fin.done (Flow.ret v) ∧ Q v s') E s := by
  obtain ⟨f0, f1, tos, hf, tl, hz, hTI, hTO⟩ := hz
  unfold Builtin.«zip.__next__»
  refine wpAny_bind ?_
  unfold slotArgs
  simp only [List.length_nil]
  refine wpAny_pure ?_
  refine wpAny_bind (wpAny_field hz rfl rfl ?_)
  refine wpAny_bind (wpAny_field hz rfl rfl ?_)
  refine wpAny_bind (wpAny_seqItems hTI rfl ?_)
  have ne : (refsFrom it0 ls.length).toArray.isEmpty = false := by
    cases hn : ls.length with
    | zero => omega
    | succ n => simp [refsFrom]
  simp only [ne, Bool.false_eq_true, if_false]
  have nz : (it0 + ls.length + 2 : Nat) ≠ it0 + ls.length + 1 := by omega
  have hszs : s.heap.objs.size ≠ it0 + ls.length + 2 := fun z => by
    have := Heap.lt_size hz
    rw [z] at this
    exact Nat.lt_irrefl _ this
  refine wpAny_bind (zm_free hz hf ?_ fun g0 hz0 sb0 => ?_)
  · simp only [if_true]
    refine wpAny_bind (wpAny_rule ?_)
    refine wpAny_bind (wpAny_field hz rfl rfl ?_)
    refine wpAny_bind (wpAny_setField_rec hz (by simp) fun h2 hz2 sb2 => ?_)
    refine wpAny_bind ?_
    have keep2 : ∀ b, b ≠ it0 + ls.length + 2 → h2.get? b = s.heap.get? b := fun b hb => sb2.2 b hb
    rw [show (refsFrom it0 ls.length).zipIdx = (refsFrom (it0 + 0) ls.length).zipIdx 0 from rfl]
    refine wp_draws (ls := ls) (vs := vs) (it0 := it0) (i := i) _ (fun k l v items s' tos' Q' hk hi hli hlt hv hto htl kk => ?_) ls.length 0 { heap := h2, gens := s.gens, drawn := s.drawn, toks := s.toks, os := s.os } tos _ (by omega) ev ⟨?_, tl, fun j hj => by omega, fun j l hj => by omega, fun j l _ hl' => ?_⟩ (fun j l hl' => ?_) fun h3 sz3 d3 ho3 => ?_
    · refine wpAny_bind (wpAny_onRaise ?_)
      show wpAny (model prog w) A (Builtin.SmallTypes.nextOf (Value.ref (it0 + k)) >>= fun r => pure (some r)) _ _ _
      refine wpAny_bind (wpAny_nextOf_list_item hi hli hv fun g1 gi gs => ?_)
      refine wpAny_pure ?_
      simp only []
      have hto1 : g1.get? (it0 + ls.length + 1) = some { cls := Value.type "tuple", data := Data.seq tos'.toArray } := by
        rw [gs.2 (it0 + ls.length + 1) (show (it0 + ls.length + 1 : Nat) ≠ it0 + k from by omega)]; exact hto
      refine wpAny_bind (wpAny_seqItems hto1 rfl ?_)
      simp only []
      refine wpAny_bind (wpAny_updateSeq hto1 rfl ?_ ?_ ?_)
      · refine wpAny_bind (wpAny_letGo ?_)
        refine wpAny_pure ?_
        refine kk _ (by rw [Heap.size_update]; exact gs.1) ?_ ?_ fun b hb1 hb2 => ?_
        · obtain ⟨o, a1, a2⟩ := gi
          exact ⟨o, Heap.get?_update_of_ne _ (show (it0 + ls.length + 1 : Nat) ≠ it0 + k from by omega) a1, a2⟩
        · refine (Heap.get?_update_self _ hto1 (by rfl)).trans ?_
          simp [Obj.mapSeq]
        · rw [Heap.get?_update_ne _ _ _ _ hb2]; exact gs.2 b hb1
      · rw [List.size_toArray, htl, sizeLine_eq]; omega
      · rw [Array.size_setIfInBounds, List.size_toArray, htl, sizeLine_eq]; omega
    · show h2.get? _ = _
      rw [keep2 _ (by omega)]; exact hTO
    · obtain ⟨o, g1, g2⟩ := hit j l hl'
      exact ⟨o, by show h2.get? _ = _; rw [keep2 _ (by have := (List.getElem?_eq_some_iff.1 hl').1; omega)]; exact g1, g2⟩
    · obtain ⟨it', v', ⟨o, g1, g2⟩, r2, r3, r4⟩ := hl j l hl'
      have n1 : l ≠ it0 + ls.length + 2 := fun z => by have := Nat.lt_of_lt_of_le r4 (Nat.le_add_right it0 (ls.length + 2)); rw [← Nat.add_assoc, ← z] at this; exact Nat.lt_irrefl _ this
      exact ⟨it', v', ⟨o, by show h2.get? _ = _; rw [keep2 _ n1]; exact g1, g2⟩, r2, r3, r4⟩
    · simp only []
      refine wpAny_bind (wpAny_seqItems d3.to_ rfl ?_)
      simp only []
      refine wpAny_bind (wpAny_newTuple ?_ (by rw [ev, sizeLine_eq]; omega))
      have e3 : h3.objs.size = s.heap.objs.size := sz3.trans sb2.1
      simp only [e3]
      refine wpAny_bind ?_
      unfold Builtin.SmallTypes.ownedTupleHandOut
      simp only []
      have hz3 : h3.get? (it0 + ls.length + 2) = _ := (ho3 _ (.inr (by omega)) nz).trans hz2
      refine wpAny_bind (wpAny_setField_rec (Heap.get?_push_of_some _ hz3) (by simp) fun h4 hz4 sb4 => ?_)
      refine wpAny_setField_rec hz4 (by simp) fun h5 hz5 sb5 => ?_
      refine wpAny_pure ⟨_, rfl, ?_⟩
      have k5 : ∀ (b : Addr) (o : Obj), b ≠ it0 + ls.length + 2 → h3.get? b = some o → h5.get? b = some o := fun b o hb g => by
        rw [sb5.2 b hb, sb4.2 b hb]; exact Heap.get?_push_of_some _ g
      refine hQ h5 ⟨rawInt ((s.heap.objs.size : Nat) : Int), false, vs, .inr ⟨s.heap.objs.size, rfl⟩, ev, hz5.trans (by simp), ?_, k5 _ _ (Ne.symm nz) d3.to_⟩ (fun j l hl' => ?_) ?_ ?_ fun c o hc g => ?_
      · refine k5 _ _ (show (it0 + ls.length : Nat) ≠ it0 + ls.length + 2 from by omega) ?_
        rw [ho3 (it0 + ls.length) (.inr (Nat.le_refl _)) (by omega)]
        show h2.get? _ = _
        rw [keep2 _ (by omega)]; exact hTI
      · have hj := (List.getElem?_eq_some_iff.1 hl').1
        obtain ⟨o, a1, a2⟩ := d3.it1 j l hj hl'
        exact ⟨o, k5 _ _ (show (it0 + j : Nat) ≠ it0 + ls.length + 2 from by omega) a1, a2⟩
      · rw [sb5.2 _ hszs, sb4.2 _ hszs, ← e3]
        exact Heap.get?_push_size h3 rfl
      · rw [sb5.1, sb4.1, Heap.size_push, e3]
      · have hcz : c ≠ it0 + ls.length + 2 := by omega
        refine k5 c o hcz ?_
        rw [ho3 c (by omega) (by omega)]
        show h2.get? _ = _
        rw [keep2 c hcz]; exact g
  · simp only [Bool.false_eq_true, if_false]
    have keep0 : ∀ b, b ≠ it0 + ls.length + 2 → g0.get? b = s.heap.get? b := fun b hb => sb0.2 b hb
    refine wpAny_bind ?_
    rw [← Array.forIn_toList]
    rw [show (refsFrom it0 ls.length).toArray.toList = refsFrom (it0 + 0) ls.length from rfl]
    refine wp_draws2 (ls := ls) (vs := vs) (it0 := it0) (i := i) _ (fun k l v items acc s' Q' hk hi hli hv kk => ?_) ls.length 0 { heap := g0, gens := s.gens, drawn := s.drawn, toks := s.toks, os := s.os } _ (by omega) ev (fun j l hj => by omega) (fun j l _ hl' => ?_) (fun j l hl' => ?_) fun h3 sz3 d3 ho3 => ?_
    · refine wpAny_bind (wpAny_holding ?_)
      show wpAny (model prog w) A (Builtin.SmallTypes.nextOf (Value.ref (it0 + k)) >>= fun r => pure (some r)) _ _ _
      refine wpAny_bind (wpAny_nextOf_list_item hi hli hv fun g1 gi gs => ?_)
      refine wpAny_pure (wpAny_pure ?_)
      exact kk g1 gs.1 gi gs.2
    · obtain ⟨o, g1, g2⟩ := hit j l hl'
      exact ⟨o, by show g0.get? _ = _; rw [keep0 _ (by have := (List.getElem?_eq_some_iff.1 hl').1; omega)]; exact g1, g2⟩
    · obtain ⟨it', v', ⟨o, g1, g2⟩, r2, r3, r4⟩ := hl j l hl'
      have n1 : l ≠ it0 + ls.length + 2 := fun z => by have := Nat.lt_of_lt_of_le r4 (Nat.le_add_right it0 (ls.length + 2)); rw [← Nat.add_assoc, ← z] at this; exact Nat.lt_irrefl _ this
      exact ⟨it', v', ⟨o, by show g0.get? _ = _; rw [keep0 _ n1]; exact g1, g2⟩, r2, r3, r4⟩
    · simp only []
      refine wpAny_bind (wpAny_newTuple ?_ (by show vs.length ≤ sizeLine; rw [ev, sizeLine_eq]; omega))
      have e3 : h3.objs.size = s.heap.objs.size := sz3.trans sb0.1
      simp only [e3]
      refine wpAny_pure ⟨_, rfl, ?_⟩
      have up : ∀ (b : Addr) (o : Obj), h3.get? b = some o → (h3.push { cls := Value.type "tuple", data := Data.seq vs.toArray }).get? b = some o := fun b o g => Heap.get?_push_of_some _ g
      have old : ∀ b, (b < it0 ∨ it0 + ls.length ≤ b) → b ≠ it0 + ls.length + 2 → h3.get? b = s.heap.get? b := fun b hb1 hb2 => (ho3 b hb1).trans (keep0 b hb2)
      refine hQ _ ⟨f0, true, tos, hf, tl, up _ _ ((ho3 _ (.inr (by omega))).trans hz0), up _ _ ((old _ (.inr (Nat.le_refl _)) (by omega)).trans hTI), up _ _ ((old _ (.inr (by omega)) (Ne.symm nz)).trans hTO)⟩ (fun j l hl' => ?_) ?_ ?_ fun c o hc g => ?_
      · obtain ⟨o, a1, a2⟩ := d3 j l hl'
        exact ⟨o, up _ _ a1, a2⟩
      · rw [← e3]
        exact Heap.get?_push_size h3 rfl
      · rw [Heap.size_push, e3]
      · exact up c o ((old c (by omega) (by omega)).trans g)
theorem zm_next_end {prog : Program} {w : World} {A : Around} {E : Value → Shared → Prop} {s : Shared} {ls : List Addr} {it0 i : Nat} {Q : PySem.Fin → Shared → Prop} {l : Addr} {items : Array Value} (hh : A.handled = none)
    (hz : ZipAny s.heap (it0 + ls.length + 2) (it0 + ls.length) (it0 + ls.length + 1) (refsFrom it0 ls.length) ls.length) (h0 : 0 < ls.length) (hit : s.heap.IsListIter it0 l i) (hl : s.heap.IsList l items) (he : items[i]? = none)
    (hE : ∀ (h' : Heap) (e : Addr), (∀ c o, (c < it0 ∨ it0 + ls.length + 3 ≤ c) → s.heap.get? c = some o → h'.get? c = some o) → (∃ o, h'.get? e = some o ∧ o.cls = Value.type "StopIteration") → E (Value.ref e) { heap := h', gens := s.gens, drawn := s.drawn, toks := s.toks, os := s.os }) :
    wpAny (model prog w) A (Builtin.«zip.__next__» { pos := [Value.ref (it0 + ls.length + 2)] }) Q E s := by
  obtain ⟨f0, f1, tos, hf, tl, hz, hTI, hTO⟩ := hz
  unfold Builtin.«zip.__next__»
  refine wpAny_bind ?_
  unfold slotArgs
  simp only [List.length_nil]
  refine wpAny_pure ?_
  refine wpAny_bind (wpAny_field hz rfl rfl ?_)
  refine wpAny_bind (wpAny_field hz rfl rfl ?_)
  refine wpAny_bind (wpAny_seqItems hTI rfl ?_)
  have ne : (refsFrom it0 ls.length).toArray.isEmpty = false := by
    cases hn : ls.length with
    | zero => omega
    | succ n => simp [refsFrom]
  simp only [ne, Bool.false_eq_true, if_false]
  obtain ⟨n, hn⟩ : ∃ n, ls.length = n + 1 := ⟨ls.length - 1, by omega⟩
  have ln : l ≠ it0 + ls.length + 2 := fun z => by
    obtain ⟨o, g1, g2, _⟩ := hl
    rw [z, hz] at g1
    cases g1
    exact absurd (Value.type.inj g2) (by decide)
  have move : ∀ g : Heap, (∀ b, b ≠ it0 + ls.length + 2 → g.get? b = s.heap.get? b) → g.IsListIter it0 l i ∧ g.IsList l items := fun g kp => by
    obtain ⟨o, g1, g2⟩ := hit
    obtain ⟨o', g1', g2'⟩ := hl
    exact ⟨⟨o, by rw [kp _ (show (it0 : Nat) ≠ it0 + ls.length + 2 from by omega)]; exact g1, g2⟩, o', by rw [kp _ ln]; exact g1', g2'⟩
  refine wpAny_bind (zm_free hz hf ?_ fun g0 hz0 sb0 => ?_)
  · simp only [if_true]
    refine wpAny_bind (wpAny_rule ?_)
    refine wpAny_bind (wpAny_field hz rfl rfl ?_)
    refine wpAny_bind (wpAny_setField_rec hz (by simp) fun h2 hz2 sb2 => ?_)
    refine wpAny_bind ?_
    rw [show (refsFrom it0 ls.length).zipIdx = (Value.ref it0, 0) :: (refsFrom (it0 + 1) n).zipIdx 1 from by rw [hn]; rfl]
    simp only [List.forIn_cons]
    refine wpAny_bind ?_
    refine wpAny_bind (wpAny_onRaise ?_)
    show wpAny (model prog w) A (Builtin.SmallTypes.nextOf (Value.ref it0) >>= fun r => pure (some r)) _ _ _
    obtain ⟨it2, l2⟩ := move h2 fun b hb => sb2.2 b hb
    refine wpAny_bind (wpAny_nextOf_list_end hh it2 l2 he fun h3 e eb hs => ?_)
    have hz3 := eb _ _ (show (it0 + ls.length + 2 : Nat) ≠ it0 from by omega) hz2
    refine wpAny_setField_rec hz3 (by simp) fun h4 hz4 sb4 => ?_
    refine hE h4 e (fun c o hc g => ?_) ?_
    · have hcz : c ≠ it0 + ls.length + 2 := by omega
      rw [sb4.2 c hcz]
      exact eb c o (show (c : Nat) ≠ it0 from by omega) (by show h2.get? c = _; rw [sb2.2 c hcz]; exact g)
    · obtain ⟨o, g1, g2⟩ := hs
      refine ⟨o, ?_, g2⟩
      rw [sb4.2 e fun z => ?_]
      · exact g1
      · rw [z, hz3] at g1
        cases g1
        exact absurd (Value.type.inj g2) (by decide)
  · simp only [Bool.false_eq_true, if_false]
    refine wpAny_bind ?_
    rw [← Array.forIn_toList]
    rw [show (refsFrom it0 ls.length).toArray.toList = Value.ref it0 :: refsFrom (it0 + 1) n from by rw [hn]; rfl]
    simp only [List.forIn_cons]
    refine wpAny_bind ?_
    refine wpAny_bind (wpAny_holding ?_)
    show wpAny (model prog w) A (Builtin.SmallTypes.nextOf (Value.ref it0) >>= fun r => pure (some r)) _ _ _
    obtain ⟨it2, l2⟩ := move g0 fun b hb => sb0.2 b hb
    refine wpAny_bind (wpAny_nextOf_list_end hh it2 l2 he fun h3 e eb hs => ?_)
    exact hE h3 e (fun c o hc g => eb c o (show (c : Nat) ≠ it0 from by omega) (by show g0.get? c = _; rw [sb0.2 c (show (c : Nat) ≠ it0 + ls.length + 2 from by omega)]; exact g)) hs
theorem pyNext_zipM_item {prog : Program} {w : World} {A : Around} {E : Value → Shared → Prop} {s : Shared} {ls : List Addr} {vs : List Value} {it0 i : Nat} {Q : Option Value → Shared → Prop}
    (hz : ZipAny s.heap (it0 + ls.length + 2) (it0 + ls.length) (it0 + ls.length + 1) (refsFrom it0 ls.length) ls.length) (hit : ∀ j l, ls[j]? = some l → s.heap.IsListIter (it0 + j) l i)
    (hl : ∀ (j : Nat) (l : Addr), ls[j]? = some l → ∃ (items : Array Value) (v : Value), s.heap.IsList l items ∧ items[i]? = some v ∧ vs[j]? = some v ∧ l < it0) (h0 : 0 < ls.length) (h1 : ls.length < 1000) (ev : vs.length = ls.length)
    (hQ : ∀ h' : Heap, ZipAny h' (it0 + ls.length + 2) (it0 + ls.length) (it0 + ls.length + 1) (refsFrom it0 ls.length) ls.length →
      (∀ j l, ls[j]? = some l → h'.IsListIter (it0 + j) l (i + 1)) → h'.get? s.heap.objs.size = some { cls := Value.type "tuple", data := Data.seq vs.toArray } → h'.objs.size = s.heap.objs.size + 1 → (∀ c o, (c < it0 ∨ it0 + ls.length + 3 ≤ c) → s.heap.get? c = some o → h'.get? c = some o) →
      Q (some (Value.ref s.heap.objs.size)) { heap := h', gens := s.gens, drawn := s.drawn, toks := s.toks, os := s.os }) :
    wpAny (model prog w) A (pyNext (Value.ref (it0 + ls.length + 2))) Q E s := by
  have hT : s.TypeIs (Value.ref (it0 + ls.length + 2)) "zip" := by
    obtain ⟨_, _, _, _, _, e, _⟩ := hz
    exact ⟨_, e, rfl⟩
  refine id (wpAny_bind (wpAny_attempt (wpAny_callSpecial?_slot hT F.slot_zip_next (wpAny_call_entry F.slot_zip_next hT F.entry_zip_next (zm_next_item hz hit hl h0 h1 ev fun h' a1 a4 a5 a6 a7 => ?_) (F.args_zip_next_1 _)))))
  exact wpAny_pure (hQ h' a1 a4 a5 a6 a7)
theorem pyNext_zipM_end {prog : Program} {w : World} {A : Around} {E : Value → Shared → Prop} {s : Shared} {ls : List Addr} {it0 i : Nat} {Q : Option Value → Shared → Prop} {l : Addr} {items : Array Value} (hh : A.handled = none)
    (hz : ZipAny s.heap (it0 + ls.length + 2) (it0 + ls.length) (it0 + ls.length + 1) (refsFrom it0 ls.length) ls.length) (h0 : 0 < ls.length) (hit : s.heap.IsListIter it0 l i) (hl : s.heap.IsList l items) (he : items[i]? = none)
    (hQ : ∀ (h' : Heap), (∀ c o, (c < it0 ∨ it0 + ls.length + 3 ≤ c) → s.heap.get? c = some o → h'.get? c = some o) → Q none { heap := h', gens := s.gens, drawn := s.drawn, toks := s.toks, os := s.os }) :
    wpAny (model prog w) A (pyNext (Value.ref (it0 + ls.length + 2))) Q E s := by
  have hT : s.TypeIs (Value.ref (it0 + ls.length + 2)) "zip" := by
    obtain ⟨_, _, _, _, _, e, _⟩ := hz
    exact ⟨_, e, rfl⟩
  refine id (wpAny_bind (wpAny_attempt (wpAny_callSpecial?_slot hT F.slot_zip_next (wpAny_call_entry F.slot_zip_next hT F.entry_zip_next (zm_next_end hh hz h0 hit hl he fun h' e hk hs => ?_) (F.args_zip_next_1 _)))))
  obtain ⟨o, ho, hc⟩ := hs
  exact wpAny_bind (wpAny_isInstance ⟨o, ho, hc⟩ isSubtype_stop (wpAny_pure (hQ h' hk)))
/-- the turns of a zip whose tuple a name takes -/
theorem turn_zipM {P : Program} {w : World} {K : PySem.W.Frag} {x : Str} {tpos : Pos} {ls : List Addr} {it0 : Nat} (h0 : 0 < ls.length) (h1 : ls.length < 1000) (hlt : ∀ l ∈ ls, l < it0) :
    Turn P w K (.Name x tpos) (ItzN K ls) (fpN it0 ls.length) (it0 + ls.length + 2) fun i h => ZipAny h (it0 + ls.length + 2) (it0 + ls.length) (it0 + ls.length + 1) (refsFrom it0 ls.length) ls.length ∧ ∀ (j : Nat) (l : Addr), ls[j]? = some l → h.IsListIter (it0 + j) l i where
  mem := mem_fpN.2 ⟨by omega, by omega⟩
  obj i h := by
    rintro ⟨⟨f0, f1, tos, hf, tl, z1, z2, z3⟩, hit⟩ b hb
    obtain ⟨b1, b2⟩ := mem_fpN.1 hb
    rcases in_cases b1 b2 with e | e | e | ⟨j, hj, e⟩
    · have g : h.get? b = _ := (congrArg h.get? e).trans z1
      exact ⟨_, g, fun v q => nomatch q⟩
    · have g : h.get? b = _ := (congrArg h.get? e).trans z3
      exact ⟨_, g, fun v q => nomatch q⟩
    · have g : h.get? b = _ := (congrArg h.get? e).trans z2
      exact ⟨_, g, fun v q => nomatch q⟩
    · obtain ⟨o, g1, g2, g3⟩ := hit j _ (List.getElem?_eq_getElem hj)
      exact ⟨o, (congrArg h.get? e).trans g1, fun v q => by rw [g3] at q; exact nomatch q⟩
  keep i h h' := by
    rintro ⟨⟨f0, f1, tos, hf, tl, z1, z2, z3⟩, hit⟩ k
    refine ⟨⟨f0, f1, tos, hf, tl, k _ (mem_fpN.2 ⟨by omega, by omega⟩) _ z1, k _ (mem_fpN.2 ⟨by omega, by omega⟩) _ z2, k _ (mem_fpN.2 ⟨by omega, by omega⟩) _ z3⟩, fun j l hl => ?_⟩
    have hj := (List.getElem?_eq_some_iff.1 hl).1
    obtain ⟨o, g1, g2⟩ := hit j l hl
    exact ⟨o, k _ (mem_fpN.2 ⟨by omega, by omega⟩) _ g1, g2⟩
  item X hP hw hK hc i pins s σ H E I hf st hg := by
    subst hP; subst hw; subst hK
    obtain ⟨hz, hit⟩ := st
    obtain ⟨ys, vs, e1, e2, e3, e4, e5⟩ := pickN I ls hg hlt
    have hzl : it0 + ls.length + 2 < s.heap.objs.size := by
      obtain ⟨_, _, _, _, _, e, _⟩ := hz
      exact Heap.lt_size e
    refine pyNext_zipM_item hz hit e5 h0 h1 e2 fun h' z' hit' hT hsz hk => ⟨_, rfl, ?_⟩
    refine wpAny_pure ?_
    have new : ObjOk X.prog X.w (upd H s.heap.objs.size (.tup ys)) h' s.heap.objs.size (.tup ys) := ⟨by rw [e1, sizeLine_eq]; omega, vs, e3, _, hT, rfl, 0, rfl⟩
    have I1 := Inv.turnedNew (ch := fpN it0 ls.length) (t' := s.toks) I (fun c o hb q => hk c o (out_or fun z => hb (mem_fpN.2 z)) q) hf (Nat.le_refl _) new
    refine ⟨V.ref s.heap.objs.size, _, I1, rfl, ⟨_, ys, rfl, HOk.fresh I.hok (Nat.le_refl _), rfl, e1, e4⟩, ⟨z', hit'⟩, fun c hcm => ?_⟩
    have hcm' := mem_fpN.1 hcm
    have hlt' : c < s.heap.objs.size := Nat.lt_of_le_of_lt (Nat.le_of_lt_succ hcm'.2) hzl
    rw [upd_ne (Nat.ne_of_lt hlt')]
    exact (hf c hcm).1
  done X hP hw hK hc i pins s σ H E I hf st hg := by
    subst hP; subst hw; subst hK
    obtain ⟨hz, hit⟩ := st
    obtain ⟨l, xs, hl, hq, hle⟩ := hg
    obtain ⟨its, rv, p, _⟩ := Inv.list I hq
    have lv := Vals.length rv
    have hit0 := hit 0 l hl
    rw [Nat.add_zero] at hit0
    refine pyNext_zipM_end (I.ok.hd hc) hz h0 hit0 (PlainL.isList p) (by rw [List.getElem?_toArray]; exact List.getElem?_eq_none (by omega)) fun h' hk => ⟨rfl, Inv.turnedL (ch := fpN it0 ls.length) I (fun c o hb q => hk c o (out_or fun z => hb (mem_fpN.2 z)) q) hf⟩
  self A i s Q E := by
    rintro ⟨⟨f0, f1, tos, hf, tl, hz, _⟩, _⟩ h
    have hT : s.TypeIs (Value.ref (it0 + ls.length + 2)) "zip" := ⟨_, hz, rfl⟩
    exact wpAny_pyIter_slot hT F.slot_zip_iter (wpAny_call_entry F.slot_zip_iter hT F.entry_zip_iter (wpAny_pure ⟨_, rfl, "zip", _, hT, F.slot_zip_next.lookup, h⟩) (F.args_zip_iter_1 _))
theorem callS_type {M : Model} {A : Around} {E : Value → Shared → Prop} {s : Shared} {env : Env} {pos p : Pos} {T : String} {e : Expr} {Q : Value → Shared → Prop} (h : wpAny M A (eval e env) (fun v s₁ => PySem.W.StarOf M A E v (fun vs s₂ => wpAny M A (call (.type T) vs) Q E s₂) s₁) E s)
    (he : starEach [.Starred e p] env = [(true, eval e env)]) : wpAny M A (callWith pos (.type T) [] (backTo pos (starEach [.Starred e p] env)) []) Q E s := by
  rw [he]
  refine PySem.W.ks_call (P := fun _ => True) rfl (fun h _ => ⟨.machine, .inr (.inl rfl), PySem.W.Looks.of_pure rfl⟩) (PySem.W.ks_lone (wpAny_mono h (fun v s₁ h1 => ?_) fun _ _ z => z))
  unfold PySem.W.StarOf at h1 ⊢
  exact wpAny_mono h1 (fun b s₂ h2 => ⟨h2.1, wpAny_mono h2.2 (fun vs s₃ h3 => ⟨trivial, h3⟩) fun _ _ z => z⟩) fun _ _ z => z
/-- zip of the lists of a list -/
def iZipS (K : PySem.W.Frag) (n : Nat) (te : TE) : TI := fun σ H R => te σ H fun v H1 => ∃ (a : Addr) (ls : List Addr), v = .ref a ∧ SqL K H1 a (ls.map V.ref) ∧ ls.length = n ∧ (∀ l ∈ ls, ∃ xs, SqL K H1 l xs) ∧ R (ItzN K ls) H1
theorem pi_zipS {X : Cx} {e : Expr} {te : TE} {n : Nat} {p pos tpos spos : Pos} {x : Str} (hg : Gl X "zip") (hm : X.mg "zip" = none) (he : PE X e te) (h0 : 0 < n) (h1 : n < 1000) (ck : ∀ ls : List Addr, ls.length = n → checkBuiltinCall "zip.__new__" { pos := Value.type "zip" :: ls.map Value.ref } = pure ())
    (hs : starEach [.Starred e spos] X.env = [(true, eval e X.env)]) : PI X (.Name x tpos) (.Call (.Name "zip" p) [.Starred e spos] [] pos) (iZipS X.K n te) := by
  refine ⟨fun pins s σ H R I h => Call_ (ld_blt I hg hm boot_zip (callS_type (thn (he.run pins s σ H _ I h) fun v s1 z => ?_) hs))⟩
  obtain ⟨y, H1, I1, ry, a, ls, rfl, hl, hn, hq, r⟩ := z
  obtain rfl : v = Value.ref a := ry
  refine StX.star_lst I1 hl fun us s2 I2 rv => ?_
  have e := vals_refs rv
  subst e
  have hp : ∀ l ∈ ls, (∃ items, s2.heap.IsList l items) ∧ l < s2.heap.objs.size := fun l hm => by
    obtain ⟨xs, hq⟩ := hq l hm
    obtain ⟨its, rv, p, _⟩ := Inv.list I2 hq
    exact ⟨⟨_, PlainL.isList p⟩, PlainL.lt p⟩
  refine call_zipN ls (by omega) (ck ls hn) (fun l hm => (hp l hm).1) fun h' hsz hk hit hz => wpAny_pyIter_zip hz.1 ?_
  exact ⟨_, fpN s2.heap.objs.size ls.length, _, ItzN X.K ls, H1, rfl, Inv.kept I2 hk, turn_zipM (by omega) (by omega) fun l hm => (hp l hm).2, ⟨⟨.none, false, _, .inl rfl, by rw [List.length_map], hz⟩, hit⟩, fun b hb => I2.fpOk (mem_fpN.1 hb).1 (HOk.fresh I2.hok (mem_fpN.1 hb).1), r⟩
section
variable {m : Md} {N : List Str} {sc scope : Scope} {i k n : Nat} {X : Cx} {e elt : Expr} {σ : L2.St} {H : Hp} {Q : VK} {pos p1 p2 tpos spos : Pos} {x : Str}
/-- [elt for x in zip(*e)] -/
theorem w_lcZS (h : At m N sc k X) (hm : m.mg "zip" = none) (hgl : sc.names.lookup ("zip" : Str) = some .globalImplicit) (ok : blkC N sc scope [(x, i)] = true) (nx : NL N (relS scope sc) i x) (h0 : 0 < n) (h1 : n < 1000) (ck : ∀ ls : List Addr, ls.length = n → checkBuiltinCall "zip.__new__" { pos := Value.type "zip" :: ls.map Value.ref } = pure ())
    (q : wE X e σ H fun v H1 => ∃ (a : Addr) (ls : List Addr) (cols : List (List V)) (L : Nat), v = .ref a ∧ SqL m.K H1 a (ls.map V.ref) ∧ ls.length = n ∧ cols.length = n ∧ ColsAt m.K H1 ls cols ∧ (∀ col ∈ cols, col.length = L) ∧ ∀ D, H1 D = none → ∃ Pv : Nat → Hp → Prop, Pv 0 (upd H1 D (.lst [])) ∧ (∀ t H, t ≤ L → Pv t H → ColsAt m.K H ls cols) ∧
      (∀ (t : Nat) (ys : List V) (T : Addr) (H : Hp), t < L → RowAt cols t ys → Pv t H → H T = none → ∀ X', At m N (relS scope sc) k X' → wE X' elt (σ.set i (some (.ref T))) (upd H T (.tup ys)) (App D (Pv (t + 1)))) ∧ ∀ H, Pv L H → Q (.ref D) H)
    (hs : starEach [.Starred e spos] X.env = [(true, eval e X.env)] := by with_unfolding_all rfl)
    (hf : ∀ x, foldedSetIterable (.Call (.Name "zip" p1) [.Starred e spos] [] p2) X.env x = pure x := by with_unfolding_all (intro _; rfl)) : wE X (.ListComp elt [⟨.Name x tpos, .Call (.Name "zip" p1) [.Starred e spos] [] p2, [], 0⟩] scope pos) σ H Q := by
  refine toE (pe_lc (own := [(x, i)]) (g := gName i) (tt := tYes) (te := inBlk m N (relS scope sc) k elt) h.calm (by rw [h.nn]; exact h.nd) (pi_zipS (n := n) (h.gl hgl) (by rw [h.mm]; exact hm) cE h0 h1 ck hs) (by rw [h.nn, h.ss]; exact blkOk_by ok) (fun s H C cl fp => pg_nl (blk_at h s H C cl fp) nx) (fun _ _ _ _ _ => pts_nil) (fun s H C cl fp => blk_pe h s H C cl fp) hf) ?_
  refine wE.mono q fun v H1 ⟨a, ls, cols, L, ev, ha, el, ec, hc, hL, go⟩ => ⟨a, ls, ev, by rw [h.kk]; exact ha, el, fun l hl => ?_, fun D hD => ?_⟩
  · obtain ⟨j, hj⟩ := List.getElem?_of_mem hl
    have hjl := (List.getElem?_eq_some_iff.1 hj).1
    exact ⟨_, by rw [h.kk]; exact hc j l _ hj (List.getElem?_eq_getElem (by omega))⟩
  · obtain ⟨Pv, p0, hq, turn, fin⟩ := go D hD
    refine lc_it (walk_zipN (K := X.K) (ls := ls) (cols := cols) (L := L) (by omega) (by omega) hL) (g := gName i) (tt := tYes) (te := inBlk m N (relS scope sc) k elt) (vs := [i]) (σ := σ) Pv p0 (fun t H ht z => by rw [h.kk]; exact hq t H ht z) (fun t z H H' ht hp y => ?_) fin
    obtain ⟨T, ys, rfl, e2, rfl, e4⟩ := y
    refine ⟨by rw [wipe1]; simp [wipe, List.set_set], ?_⟩
    unfold tYes
    refine iteT fun X' hX' => ?_
    rw [set_wipe]
    exact turn t ys T H ht e4 hp e2 X' hX'
end
end Vf
set_option maxRecDepth 100000
set_option maxHeartbeats 4000000
/-! Stt: sorted of a tuple of pairs of whole numbers. Own work. -/
namespace Vt
open PySem PySem.Spec PyProof.Rows L2 SrtO
/-- what is sorted is listed first -/
theorem list_tup {prog : Program} {w : World} {A : Around} {E : Value → Shared → Prop} {s : Shared} {l : Addr} {o : Obj} {items : Array Value} {n : Nat} {Q : List Value → Shared → Prop} (ho : s.heap.get? l = some o) (hc : o.cls = .type "tuple") (hd : o.data = .seq items n) (hz : items.size ≤ sizeLine)
    (q : ∀ h' : Heap, h'.objs.size = s.heap.objs.size + 1 → (∀ b u, s.heap.get? b = some u → h'.get? b = some u) → Q items.toList { s with heap := h' }) : wpAny (model prog w) A (collect (.ref l)) Q E s := by
  obtain ⟨p, hp⟩ : ∃ p, p = s.heap.push { cls := .type "list", data := .seq ([] : List Value).toArray } := ⟨_, rfl⟩
  have hS : p.get? s.heap.objs.size = some { cls := .type "list", data := .seq #[] 0 } := by rw [hp]; exact Heap.get?_push_size _ rfl
  have kp : ∀ b u, s.heap.get? b = some u → p.get? b = some u := fun b u e => by rw [hp]; exact Heap.get?_push_of_some _ e
  have sp : p.objs.size = s.heap.objs.size + 1 := by rw [hp]; exact Heap.size_push ..
  obtain ⟨r, hr⟩ : ∃ r, r = p.update s.heap.objs.size (Obj.mapSeq (· ++ items)) := ⟨_, rfl⟩
  have hR := Heap.get?_update_self (Obj.mapSeq (· ++ items)) hS rfl
  rw [← hr] at hR
  unfold collect
  refine wpAny_bind (wpAny_runValue (codeAny_builtin F.entry_proto_collect ?_))
  rw [Around.under_plainId F.plain_proto_collect _]
  refine wpAny_bind (wpAny_newObj_type (wpAny_pure ⟨plainId_quiet F.plain_list_iadd _, codeAny_builtin F.entry_list_iadd ?_⟩))
  rw [Around.under_plainId F.plain_list_iadd _, ← hp]
  refine wpAny_mono (wpAny_extend_seq (R := fun v s' => v = .ok (.ret (.ref s.heap.objs.size)) ∧ s' = { s with heap := r }) (A := A) (s := { s with heap := p }) s.heap.objs.size l (.ref s.heap.objs.size) 0 (.inr rfl) hS (kp _ _ ho) hc hd ⟨rfl, by rw [hr]⟩ hz) (fun fin s' z => ?_) fun e s' z => absurd z.1 (by simp)
  have last : wpAny (model prog w) A (load s.heap.objs.size >>= fun o => match o.data with
      | Data.seq xs _ => pure xs.toList
      | _ => unsupported "internal:collect") Q E { s with heap := r } := by
    refine wpAny_bind (wpAny_load hR (wpAny_pure ?_))
    rw [show ((#[] : Array Value) ++ items).toList = items.toList from by simp]
    refine q r (by rw [hr, Heap.size_update, sp]) fun b u e => ?_
    rw [hr]
    exact (Heap.get?_update_other _ _ (Nat.ne_of_gt (Heap.lt_size e))).trans (kp b u e)
  cases fin with
  | done f =>
    obtain ⟨e, rfl⟩ := z
    cases e
    exact last
  | again c =>
    refine ⟨z.1, codeAny_mono z.2 fun v s'' hv => ?_⟩
    obtain ⟨rfl, rfl⟩ := hv
    exact last
theorem sorted_tup {prog : Program} {w : World} {A : Around} {E : Value → Shared → Prop} {s : Shared} {l : Addr} {vs : List Value} {k : Value → Int × Int} {Q : Value → Shared → Prop} (hl : IsTup s.heap l vs.toArray) (hz : vs.length ≤ sizeLine) (hp : ∀ v ∈ vs, Srt.IsPair s.heap v (k v).1 (k v).2)
    (q : ∀ (h' : Heap) (d : Addr) (out : List Value), Srtd (fun v u => lexB (k v) (k u)) out → Stb (fun v u => lexB (k v) (k u)) out vs → (∀ b o, s.heap.get? b = some o → h'.get? b = some o) → s.heap.objs.size ≤ d → (∃ n, h'.get? d = some (seqObj "list" out.toArray n)) → Q (.ref d) { s with heap := h' }) :
    wpAny (model prog w) A (call (.builtin "sorted") [.ref l]) Q E s := by
  obtain ⟨o, ho, hc, n, hd⟩ := hl
  refine Calls.call_function_entry kind_sorted plain_sorted entry_sorted (args_sorted1 (.ref l)) ?_
  unfold Builtin.«sorted»
  refine wpAny_bind (m := checkCount "sorted" 1 1 _) (wpAny_pure ?_)
  refine wpAny_bind (list_tup ho hc hd (by rw [List.size_toArray]; exact hz) fun h1 sz kp => ?_)
  rw [show vs.toArray.toList = vs from rfl]
  refine wpAny_bind (wpAny_newList ?_ hz)
  have hoL : (h1.push (seqObj "list" vs.toArray 0)).get? h1.objs.size = some (seqObj "list" vs.toArray 0) := Heap.get?_push_size _ rfl
  have kk : ∀ b o, s.heap.get? b = some o → b ≠ h1.objs.size ∧ (h1.push (seqObj "list" vs.toArray 0)).get? b = some o := fun b o e => ⟨Nat.ne_of_lt (Heap.lt_size (kp b o e)), Heap.get?_push_of_some _ (kp b o e)⟩
  refine wpAny_bind (wpAny_holding (wpAny_call_entry slot_list_sort ⟨_, hoL, rfl⟩ entry_list_sort (list_sort_ord (swo_lex k) hoL hz (fun h2 => ?_) fun out hs hb => ⟨_, rfl, ?_⟩) (args_list_sort _)))
  · refine pairs_sortableO (s := { s with heap := h1.push (seqObj "list" vs.toArray 0) }) (by omega) (fun v hm => (hp v hm).keeps fun b o e _ => (kk b o e).2) fun o e => ?_
    have e' : some o = some (seqObj "list" vs.toArray 0) := e.symm.trans hoL
    cases e'
    exact fun c => absurd (Value.type.inj c) (by decide)
  · refine wpAny_pure ⟨_, rfl, q _ _ out hs hb (fun b u e => ?_) (by show s.heap.objs.size ≤ h1.objs.size; omega) (sortedHeap_at hoL)⟩
    rw [sortedHeap_old (kk b u e).1 (by rw [size_push']; exact Nat.lt_succ_of_lt (Heap.lt_size (kp b u e)))]
    exact (kk b u e).2
end Vt
namespace Vf
open PySem PySem.Spec PyProof.Rows L2 LamX
section
variable {m : Md} {N : List Str} {sc : Scope} {k : Nat} {X : Cx} {H : Hp} {Q : VK}
/-- a key for each of some values, by the pairs that stand beside them -/
def keyOf2 (xs : List V) (ps : List (Int × Int)) (v : V) : Int × Int := match (xs.zip ps).find? fun z => decide (z.1 = v) with
  | some z => z.2
  | none => (0, 0)
/-- sorted(t), t a tuple of pairs of whole numbers -/
theorem cr_sortedTP : CallR X (.builtin "sorted") (fun vs H Q => ∃ (a : Addr) (xs : List V) (ps : List (Int × Int)), vs = [V.ref a] ∧ SqT X.K H a xs ∧ xs.length = ps.length ∧ (∀ (j : Nat) (x : V) (p : Int × Int), xs[j]? = some x → ps[j]? = some p → ∃ t, x = V.ref t ∧ SqT X.K H t [.int p.1, .int p.2]) ∧
    ∀ (key : V → Int × Int), (∀ (j : Nat) (x : V) (p : Int × Int), xs[j]? = some x → ps[j]? = some p → key x = p) → ∀ ys p, SrtO.Srtd (ltP key) ys → SrtO.Stb (ltP key) ys xs → H p = none → Q (.ref p) (upd H p (.lst ys))) := by
  intro pins s σ H vs us Q I r h
  obtain ⟨a, xs, ps, rfl, hs, hlen, hx, q⟩ := h
  have hkey : ∀ (j : Nat) (x : V) (p : Int × Int), xs[j]? = some x → ps[j]? = some p → keyOf2 xs ps x = p := fun j x p h1 h2 => by
    unfold keyOf2
    have hm : (x, p) ∈ xs.zip ps := List.mem_of_getElem? (List.getElem?_zip_eq_some.2 ⟨h1, h2⟩)
    cases hf : (xs.zip ps).find? fun z => decide (z.1 = x) with
    | none =>
      have := List.find?_eq_none.1 hf _ hm
      simp at this
    | some z =>
      have e1 := List.find?_some hf
      have e1 : z.1 = x := by simpa using e1
      obtain ⟨j', hj'⟩ := List.getElem?_of_mem (List.mem_of_find?_eq_some hf)
      obtain ⟨z1, z2⟩ := z
      obtain ⟨g1, g2⟩ := List.getElem?_zip_eq_some.1 hj'
      obtain ⟨t, rfl, ht⟩ := hx j x p h1 h2
      obtain ⟨t', et, ht'⟩ := hx j' z1 z2 g1 g2
      have e1 : z1 = V.ref t := e1
      rw [e1] at et
      cases et
      have e2 := I.tuple_inj ht ht'
      injection e2 with e3 e4
      injection e3 with e3
      injection e4 with e4 _
      injection e4 with e4
      show z2 = p
      exact (Prod.ext e3 e4).symm
  have hx' : ∀ x ∈ xs, ∃ t, x = V.ref t ∧ SqT X.K H t [.int (keyOf2 xs ps x).1, .int (keyOf2 xs ps x).2] := fun x hm => by
    obtain ⟨j, hj⟩ := List.getElem?_of_mem hm
    have hjl := (List.getElem?_eq_some_iff.1 hj).1
    have hp := List.getElem?_eq_getElem (show j < ps.length by omega)
    obtain ⟨t, e, ht⟩ := hx j x _ hj hp
    exact ⟨t, e, by rw [hkey j x _ hj hp]; exact ht⟩
  have q := q _ hkey
  generalize keyOf2 xs ps = key at hx' q
  obtain ⟨its, rv, hl, hz⟩ := I.tuple hs
  rw [Vals.ref1 r]
  obtain ⟨e1, e2⟩ := refs_back rv fun x hm => by
    obtain ⟨t, e, _⟩ := hx' x hm
    exact ⟨t, e⟩
  refine Vt.sorted_tup (k := fun u => key (backV u)) hl (by rw [← rv.length]; exact hz) (fun v hv => ?_) fun h' d out h1 h2 kp hd ⟨n, hn⟩ => ?_
  · obtain ⟨t, rfl⟩ := e2 v hv
    obtain ⟨t', e, ht⟩ := hx' (V.ref t) (by rw [e1]; exact List.mem_map.mpr ⟨_, hv, rfl⟩)
    cases e
    obtain ⟨its2, r2, ⟨o, ho, hc, n, hd⟩, _⟩ := I.tuple ht
    obtain ⟨u1, u2, rfl, ⟨t1, rfl⟩, t2, rfl⟩ := vals2 r2
    exact ⟨t, o, t1, t2, n, rfl, ho, hc, hd⟩
  · have hb : SrtO.Stb (ltP key) (out.map backV) xs := by
      rw [e1]
      exact SrtO.Stb.map (ltP_swo key) backV h2
    refine ⟨.ref d, upd H d (.lst (out.map backV)), I.laid (t' := s.toks) kp hd ⟨by rw [hb.len]; exact hz, out, n, vals_back fun u hu => e2 u (h2.perm.mem_iff.mp hu), hn⟩, rfl, q _ d (SrtO.srtd_map h1) hb (I.hok.fresh hd)⟩
theorem g_sortedTP (h : At m N sc k X) {a : Addr} {xs : List V} (ps : List (Int × Int)) (hs : SqT m.K H a xs) (hlen : xs.length = ps.length) (hx : ∀ (j : Nat) (x : V) (p : Int × Int), xs[j]? = some x → ps[j]? = some p → ∃ t, x = V.ref t ∧ SqT m.K H t [.int p.1, .int p.2])
    (q : ∀ (key : V → Int × Int), (∀ (j : Nat) (x : V) (p : Int × Int), xs[j]? = some x → ps[j]? = some p → key x = p) → ∀ ys p, SrtO.Srtd (ltP key) ys → SrtO.Stb (ltP key) ys xs → H p = none → Q (.ref p) (upd H p (.lst ys))) : gCall X (.builtin "sorted") [.ref a] H Q :=
  ⟨_, cr_sortedTP, a, xs, ps, rfl, by rw [h.kk]; exact hs, hlen, by rw [h.kk]; exact hx, q⟩
end
end Vf
set_option maxRecDepth 100000
set_option maxHeartbeats 4000000
/-! Sib: sorted(set of whole numbers), of any size; sorted(list) likewise. Own work. -/
namespace Vb
open PySem PySem.Spec PyProof.Rows L2 SrtO
theorem sorted_setB {P : Program} {w : World} {A : Around} {E : Value → Shared → Prop} {s : Shared} {a : Addr} {S : Int → Bool} {n : Nat} {Q : Value → Shared → Prop} (R : SetR w s.heap a S n) (hh : A.handled = none) (hN : n < 100000)
    (hQ : ∀ s' p (out : List Value) (c : Nat), (∀ b o, s.heap.get? b = some o → s'.heap.get? b = some o) → s'.gens = s.gens → s'.os = s.os → s.heap.objs.size ≤ p →
      s'.heap.get? p = some (seqObj "list" out.toArray c) → IntsAre out (out.map iv) → (out.map iv).Pairwise (· < ·) → (∀ k, k ∈ out.map iv ↔ S k = true) → (out.map iv).length = n → Q (.ref p) s') :
    wpAny (model P w) A (call (.builtin "sorted") [.ref a]) Q E s := by
  obtain ⟨o, es, ep, t, ho, hex, hd, g, nd, hm, hb, hf, hn, hr, hl⟩ := R
  refine Calls.call_function_entry kind_sorted plain_sorted entry_sorted (args_sorted1 (.ref a)) ?_
  unfold Builtin.«sorted»
  refine wpAny_bind (m := checkCount "sorted" 1 1 _) (wpAny_pure ?_)
  refine wpAny_bind (collect_set (A := A.in1) hh ⟨o, ho, hex.1, hd⟩ hf hb hr hl fun s1 vs k1 hz g1 o1 pm => ?_)
  have hvl : vs.length = n := by rw [pm.length_eq, List.length_map, Array.length_toList]; exact hn
  have hI : IntsAre vs (vs.map iv) := ints_iv fun v hv => by
    obtain ⟨e, he, q⟩ := List.mem_map.mp (pm.mem_iff.mp hv)
    obtain ⟨k, tk, h1, _⟩ := g e he
    exact ⟨k, tk, by rw [← q]; exact h1⟩
  refine wpAny_bind (wpAny_newList ?_ (by rw [hvl, sizeLine_eq]; omega))
  have hoL : (s1.heap.push (seqObj "list" vs.toArray 0)).get? s1.heap.objs.size = some (seqObj "list" vs.toArray 0) := Heap.get?_push_size _ rfl
  refine wpAny_bind (wpAny_holding (wpAny_call_entry slot_list_sort ⟨_, hoL, rfl⟩ entry_list_sort (list_sort_ord swo_int hoL (by rw [hvl, sizeLine_eq]; omega) (fun h2 => ints_sortable hI h2) fun out hs hb => ⟨_, rfl, ?_⟩) (args_list_sort _)))
  obtain ⟨a1, a2, a3⟩ := ints_out hI hs hb
  have pk : (vs.map iv).Perm (es.toList.map keyOf) := by
    have q := pm.map iv
    rw [List.map_map] at q
    exact q
  have pn := a2.trans pk
  obtain ⟨c, hc⟩ := sortedHeap_at (vs := vs) (out := out.toArray) hoL
  refine wpAny_pure ⟨_, rfl, hQ _ s1.heap.objs.size out c (fun b u e => ?_) g1 o1 hz hc a1 (lt_of_le_nodup _ a3 (pn.nodup_iff.mpr nd)) (fun k => by rw [pn.mem_iff, ← hm k]) (by rw [pn.length_eq, List.length_map, Array.length_toList]; exact hn)⟩
  have q := k1 b u e
  have hlt := Heap.lt_size q
  show (sortedHeap (s1.heap.push (seqObj "list" vs.toArray 0)) s1.heap.objs.size vs out.toArray).get? b = some u
  rw [sortedHeap_old (Nat.ne_of_lt hlt) (by rw [size_push']; exact Nat.lt_succ_of_lt hlt)]
  exact Heap.get?_push_of_some _ q
end Vb
namespace Vf
open PySem PySem.Spec PyProof.Rows L2 LamX Vs
section
variable {m : Md} {N : List Str} {sc : Scope} {k : Nat} {X : Cx} {H : Hp} {Q : VK}
theorem cr_sortedB (hc : X.calm = true) : CallR X (.builtin "sorted") (fun vs H Q => ∃ (a : Addr) (S : Int → Bool) (n : Nat), vs = [V.ref a] ∧ H a = some (SetO X.w a S n) ∧ n < 100000 ∧
    ∀ (ns : List Int) (p : Addr), ns.Pairwise (· < ·) → (∀ k : Int, k ∈ ns ↔ S k = true) → ns.length = n → H p = none → Q (.ref p) (upd H p (.lst (ns.map V.int)))) := by
  intro pins s σ H vs us Q I r ⟨a, S, n, ev, ha, hN, q⟩
  subst ev
  rw [Vals.ref1 r]
  refine Vb.sorted_setB (setO_get I ha) (I.ok.hd hc) hN fun s' p out c kp g o hp hg hi hs hm hl => ?_
  have hlen : ((out.map SrtO.iv).map V.int).length ≤ sizeLine := by rw [List.length_map, hl, sizeLine_eq]; omega
  have fr : H p = none := I.hok.fresh hp
  have J : Inv X pins σ (upd H p (.lst ((out.map SrtO.iv).map V.int))) { heap := s'.heap, gens := s'.gens, drawn := s'.drawn, toks := s'.toks, os := s.os } :=
    I.call (ch := []) (Un.laid kp hp fr) (I.hok.laid kp hp ⟨hlen, out, c, vals_of_ints hi, hg⟩) (by rw [g]; exact I.bare) (fun _ z => nomatch z)
  obtain ⟨h', g', d', t', o'⟩ := s'
  simp only [] at o J
  subst o
  exact ⟨.ref p, _, J, rfl, q _ p hs hm hl fr⟩
/-- sorted(found), of any size -/
theorem g_sortedB (h : At m N sc k X) {a : Addr} {S : Int → Bool} {n : Nat} (ha : H a = some (SetO m.w a S n)) (hb : n < 100000)
    (q : ∀ (ns : List Int) (p : Addr), ns.Pairwise (· < ·) → (∀ k : Int, k ∈ ns ↔ S k = true) → ns.length = n → H p = none → Q (.ref p) (upd H p (.lst (ns.map V.int)))) : gCall X (.builtin "sorted") [.ref a] H Q :=
  ⟨_, cr_sortedB h.calm, a, S, n, rfl, by rw [h.ww]; exact ha, hb, q⟩
/-- sorted(xs), whole numbers -/
theorem g_sortedIB (h : At m N sc k X) {a : Addr} {ns : List Int} (ha : SqL m.K H a (ns.map V.int))
    (q : ∀ (ns' : List Int) (p : Addr), ns'.Perm ns → ns'.Pairwise (· ≤ ·) → H p = none → Q (.ref p) (upd H p (.lst (ns'.map V.int)))) : gCall X (.builtin "sorted") [.ref a] H Q :=
  ⟨_, cr_sortedI, a, ns, rfl, by rw [h.kk]; exact ha, q⟩
end
end Vf
namespace Vf
open PySem PySem.Spec PyProof.Rows L2 LamX
local macro_rules | `(tactic| walk_at "v") => `(tactic| first
  | ((with_reducible show wE _ _ _ _ _); first
      | with_reducible refine w_int ?_
      | with_reducible refine w_str ?_
      | with_reducible refine w_bl ?_
      | with_reducible refine w_non ?_
      | ((with_reducible refine' w_nl ?h ?n ?s ?q); (case h => with_reducible assumption); (case n => with_reducible assumption); (case s => rfl))
      | ((with_reducible refine' w_nc ?h ?n ?s ?q); (case h => with_reducible assumption); (case n => with_reducible assumption); (case s => rfl))
      | ((with_reducible refine' w_nf ?h ?n ?s ?q); (case h => with_reducible assumption); (case n => with_reducible assumption); (case s => rfl))
      | with_reducible refine g_bin ?_
      | with_reducible refine g_ix ?_
      | with_reducible refine w_lst ?_
      | with_reducible refine w_tup ?_
      | with_reducible refine g_cmp ?_
      | with_reducible refine w_if ?_
      | with_reducible refine w_not ?_
      | with_reducible refine w_and ?_
      | with_reducible refine w_or ?_
      | with_reducible refine w_one ?_
      | with_reducible refine w_neg ?_)
  | ((with_reducible show wA _ _ _ _ _); first
      | with_reducible refine w_nil ?_
      | with_reducible refine w_cons ?_)
  | ((with_reducible show gOp _ _ _ _ _ _); first
      | with_reducible refine g_addI ?_
      | with_reducible refine g_subI ?_
      | with_reducible refine g_gtI ?_
      | with_reducible refine g_ltI ?_
      | with_reducible refine g_leI ?_
      | with_reducible refine g_geI ?_
      | with_reducible refine g_eqI ?_
      | with_reducible refine g_neI ?_
      | with_reducible refine g_isN ?_
      | with_reducible refine g_notN ?_
      | with_reducible refine g_eqS ?_
      | with_reducible refine g_neS ?_)
  | ((with_reducible show wS _ _ _ _ _); first
      | with_reducible refine s_ret ?_
      | with_reducible refine s_if ?_
      | with_reducible refine s_expr ?_
      | ((with_reducible refine' s_nl ?h ?n ?q); (case h => with_reducible assumption); (case n => with_reducible assumption))
      | with_reducible refine s_subL ?_
      | with_reducible refine s_retN ?_)
  | ((with_reducible show wB _ _ _ _ _); first
      | with_reducible refine b_nil ?_
      | with_reducible refine b_one ?_
      | with_reducible refine b_cons ?_)
  | ((with_reducible show wT _ _ _ _ _); first
      | with_reducible refine gt_cmp ?_
      | with_reducible refine t_not ?_
      | with_reducible refine t_and ?_
      | with_reducible refine t_or ?_
      | with_reducible refine gt_tru ?_)
  | ((with_reducible show gTru _ _ _ _); first
      | with_reducible refine g_truB ?_)
  | ((with_reducible show wW _ _ _ _ _); first
      | with_reducible refine k_and ?_
      | with_reducible refine k_or ?_
      | with_reducible refine k_and1 ?_
      | with_reducible refine k_or1 ?_)
  | with_reducible refine ⟨_, rfl, ?_⟩)
local macro_rules | `(tactic| walk_at "e") => `(tactic| first
  | ((with_reducible show wE _ _ _ _ _); first
      | with_reducible refine w_int ?_
      | with_reducible refine w_str ?_
      | with_reducible refine w_bl ?_
      | with_reducible refine w_non ?_
      | ((with_reducible refine' w_nl ?h ?n ?s ?q); (case h => with_reducible assumption); (case n => with_reducible assumption); (case s => rfl))
      | ((with_reducible refine' w_nc ?h ?n ?s ?q); (case h => with_reducible assumption); (case n => with_reducible assumption); (case s => rfl))
      | ((with_reducible refine' w_nf ?h ?n ?s ?q); (case h => with_reducible assumption); (case n => with_reducible assumption); (case s => rfl))
      | with_reducible refine g_bin ?_
      | with_reducible refine g_ix ?_
      | with_reducible refine w_lst ?_
      | with_reducible refine w_tup ?_
      | with_reducible refine g_cmp ?_
      | with_reducible refine w_if ?_
      | with_reducible refine w_not ?_
      | with_reducible refine w_and ?_
      | with_reducible refine w_or ?_
      | with_reducible refine w_one ?_
      | with_reducible refine w_neg ?_)
  | ((with_reducible show wA _ _ _ _ _); first
      | with_reducible refine w_nil ?_
      | with_reducible refine w_cons ?_)
  | ((with_reducible show gOp _ _ _ _ _ _); first
      | with_reducible refine g_addI ?_
      | with_reducible refine g_subI ?_
      | with_reducible refine g_gtI ?_
      | with_reducible refine g_ltI ?_
      | with_reducible refine g_leI ?_
      | with_reducible refine g_geI ?_
      | with_reducible refine g_eqI ?_
      | with_reducible refine g_neI ?_
      | with_reducible refine g_isN ?_
      | with_reducible refine g_notN ?_
      | with_reducible refine g_eqS ?_
      | with_reducible refine g_neS ?_)
  | ((with_reducible show wT _ _ _ _ _); first
      | with_reducible refine gt_cmp ?_
      | with_reducible refine t_not ?_
      | with_reducible refine t_and ?_
      | with_reducible refine t_or ?_
      | with_reducible refine gt_tru ?_)
  | ((with_reducible show gTru _ _ _ _); first
      | with_reducible refine g_truB ?_)
  | ((with_reducible show wW _ _ _ _ _); first
      | with_reducible refine k_and ?_
      | with_reducible refine k_or ?_
      | with_reducible refine k_and1 ?_
      | with_reducible refine k_or1 ?_)
  | with_reducible refine ⟨_, rfl, ?_⟩)
local macro_rules | `(tactic| walk_at "E") => `(tactic| repeat (walk_at "e"))
local macro_rules | `(tactic| walk_at "V") => `(tactic| repeat (walk_at "v"))
local macro_rules | `(tactic| walk_at "B") => `(tactic| first | refine b_cons ?_ | refine b_one ?_)
local macro_rules | `(tactic| walk_at "S") => `(tactic| (simp only [List.length_cons, List.length_nil, List.length_append, List.length_map, sizeLine_eq] <;> omega))
def top (i : Nat) : Stmt := PySem.Challenge.pw_leafwaits_k44_whole_stairs_put_together.main.body.getD i (.Pass ⟨0, 0, 0, 0⟩)
abbrev st_x_wall : Stmt := top 0
abbrev nl_x_wall : List Str := ["k"]
abbrev ps_x_wall : List Str := ["k"]
theorem sc_x_wall : FnScope nl_x_wall ps_x_wall (C8.fnScope st_x_wall) := ⟨rfl, rfl, rfl, by decide +kernel, rfl, by decide +kernel, by decide +kernel⟩
-- 0:k
theorem nv_x_wall : NL nl_x_wall (C8.fnScope st_x_wall) 0 "k" := ⟨rfl, rfl⟩
abbrev st_InvalidWhole_init : Stmt := inClass (top 3) 0
abbrev nl_InvalidWhole_init : List Str := ["self", "value"]
abbrev ps_InvalidWhole_init : List Str := ["self", "value"]
theorem sc_InvalidWhole_init : FnScope nl_InvalidWhole_init ps_InvalidWhole_init (C8.fnScope st_InvalidWhole_init) := ⟨rfl, rfl, rfl, by decide +kernel, rfl, by decide +kernel, by decide +kernel⟩
-- 0:self 1:value
theorem nv_InvalidWhole_init : NL nl_InvalidWhole_init (C8.fnScope st_InvalidWhole_init) 0 "self" ∧ NL nl_InvalidWhole_init (C8.fnScope st_InvalidWhole_init) 1 "value" := ⟨⟨rfl, rfl⟩, ⟨rfl, rfl⟩⟩
abbrev st_InvalidCount_init : Stmt := inClass (top 4) 0
abbrev nl_InvalidCount_init : List Str := ["self", "value"]
abbrev ps_InvalidCount_init : List Str := ["self", "value"]
theorem sc_InvalidCount_init : FnScope nl_InvalidCount_init ps_InvalidCount_init (C8.fnScope st_InvalidCount_init) := ⟨rfl, rfl, rfl, by decide +kernel, rfl, by decide +kernel, by decide +kernel⟩
-- 0:self 1:value
theorem nv_InvalidCount_init : NL nl_InvalidCount_init (C8.fnScope st_InvalidCount_init) 0 "self" ∧ NL nl_InvalidCount_init (C8.fnScope st_InvalidCount_init) 1 "value" := ⟨⟨rfl, rfl⟩, ⟨rfl, rfl⟩⟩
abbrev st_InvalidCorners_init : Stmt := inClass (top 5) 0
abbrev nl_InvalidCorners_init : List Str := ["self", "value"]
abbrev ps_InvalidCorners_init : List Str := ["self", "value"]
theorem sc_InvalidCorners_init : FnScope nl_InvalidCorners_init ps_InvalidCorners_init (C8.fnScope st_InvalidCorners_init) := ⟨rfl, rfl, rfl, by decide +kernel, rfl, by decide +kernel, by decide +kernel⟩
-- 0:self 1:value
theorem nv_InvalidCorners_init : NL nl_InvalidCorners_init (C8.fnScope st_InvalidCorners_init) 0 "self" ∧ NL nl_InvalidCorners_init (C8.fnScope st_InvalidCorners_init) 1 "value" := ⟨⟨rfl, rfl⟩, ⟨rfl, rfl⟩⟩
abbrev st_InvalidStair_init : Stmt := inClass (top 6) 0
abbrev nl_InvalidStair_init : List Str := ["self", "value"]
abbrev ps_InvalidStair_init : List Str := ["self", "value"]
theorem sc_InvalidStair_init : FnScope nl_InvalidStair_init ps_InvalidStair_init (C8.fnScope st_InvalidStair_init) := ⟨rfl, rfl, rfl, by decide +kernel, rfl, by decide +kernel, by decide +kernel⟩
-- 0:self 1:value
theorem nv_InvalidStair_init : NL nl_InvalidStair_init (C8.fnScope st_InvalidStair_init) 0 "self" ∧ NL nl_InvalidStair_init (C8.fnScope st_InvalidStair_init) 1 "value" := ⟨⟨rfl, rfl⟩, ⟨rfl, rfl⟩⟩
abbrev st_is_whole : Stmt := top 8
abbrev nl_is_whole : List Str := ["value"]
abbrev ps_is_whole : List Str := ["value"]
theorem sc_is_whole : FnScope nl_is_whole ps_is_whole (C8.fnScope st_is_whole) := ⟨rfl, rfl, rfl, by decide +kernel, rfl, by decide +kernel, by decide +kernel⟩
-- 0:value
theorem nv_is_whole : NL nl_is_whole (C8.fnScope st_is_whole) 0 "value" := ⟨rfl, rfl⟩
abbrev st_is_count : Stmt := top 9
abbrev nl_is_count : List Str := ["value"]
abbrev ps_is_count : List Str := ["value"]
theorem sc_is_count : FnScope nl_is_count ps_is_count (C8.fnScope st_is_count) := ⟨rfl, rfl, rfl, by decide +kernel, rfl, by decide +kernel, by decide +kernel⟩
-- 0:value
theorem nv_is_count : NL nl_is_count (C8.fnScope st_is_count) 0 "value" := ⟨rfl, rfl⟩
abbrev st_need_whole : Stmt := top 10
abbrev nl_need_whole : List Str := ["value"]
abbrev ps_need_whole : List Str := ["value"]
theorem sc_need_whole : FnScope nl_need_whole ps_need_whole (C8.fnScope st_need_whole) := ⟨rfl, rfl, rfl, by decide +kernel, rfl, by decide +kernel, by decide +kernel⟩
-- 0:value
theorem nv_need_whole : NL nl_need_whole (C8.fnScope st_need_whole) 0 "value" := ⟨rfl, rfl⟩
abbrev st_need_count_from : Stmt := top 11
abbrev nl_need_count_from : List Str := ["least", "value"]
abbrev ps_need_count_from : List Str := ["least", "value"]
theorem sc_need_count_from : FnScope nl_need_count_from ps_need_count_from (C8.fnScope st_need_count_from) := ⟨rfl, rfl, rfl, by decide +kernel, rfl, by decide +kernel, by decide +kernel⟩
-- 0:least 1:value
theorem nv_need_count_from : NL nl_need_count_from (C8.fnScope st_need_count_from) 0 "least" ∧ NL nl_need_count_from (C8.fnScope st_need_count_from) 1 "value" := ⟨⟨rfl, rfl⟩, ⟨rfl, rfl⟩⟩
abbrev st_Stair_init : Stmt := inClass (top 14) 0
abbrev nl_Stair_init : List Str := ["self", "begin", "corners"]
abbrev ps_Stair_init : List Str := ["self", "begin", "corners"]
theorem sc_Stair_init : FnScope nl_Stair_init ps_Stair_init (C8.fnScope st_Stair_init) := ⟨rfl, rfl, rfl, by decide +kernel, rfl, by decide +kernel, by decide +kernel⟩
-- 0:self 1:begin 2:corners
theorem nv_Stair_init : NL nl_Stair_init (C8.fnScope st_Stair_init) 0 "self" ∧ NL nl_Stair_init (C8.fnScope st_Stair_init) 1 "begin" ∧ NL nl_Stair_init (C8.fnScope st_Stair_init) 2 "corners" := ⟨⟨rfl, rfl⟩, ⟨rfl, rfl⟩, ⟨rfl, rfl⟩⟩
abbrev st_Stair_begin : Stmt := inClass (top 14) 1
abbrev nl_Stair_begin : List Str := ["self"]
abbrev ps_Stair_begin : List Str := ["self"]
theorem sc_Stair_begin : FnScope nl_Stair_begin ps_Stair_begin (C8.fnScope st_Stair_begin) := ⟨rfl, rfl, rfl, by decide +kernel, rfl, by decide +kernel, by decide +kernel⟩
-- 0:self
theorem nv_Stair_begin : NL nl_Stair_begin (C8.fnScope st_Stair_begin) 0 "self" := ⟨rfl, rfl⟩
abbrev st_Stair_corners : Stmt := inClass (top 14) 2
abbrev nl_Stair_corners : List Str := ["self"]
abbrev ps_Stair_corners : List Str := ["self"]
theorem sc_Stair_corners : FnScope nl_Stair_corners ps_Stair_corners (C8.fnScope st_Stair_corners) := ⟨rfl, rfl, rfl, by decide +kernel, rfl, by decide +kernel, by decide +kernel⟩
-- 0:self
theorem nv_Stair_corners : NL nl_Stair_corners (C8.fnScope st_Stair_corners) 0 "self" := ⟨rfl, rfl⟩
abbrev st_Stair_value : Stmt := inClass (top 14) 3
abbrev nl_Stair_value : List Str := ["self", "count"]
abbrev ps_Stair_value : List Str := ["self", "count"]
theorem sc_Stair_value : FnScope nl_Stair_value ps_Stair_value (C8.fnScope st_Stair_value) := ⟨rfl, rfl, rfl, by decide +kernel, rfl, by decide +kernel, by decide +kernel⟩
-- 0:self 1:count
theorem nv_Stair_value : NL nl_Stair_value (C8.fnScope st_Stair_value) 0 "self" ∧ NL nl_Stair_value (C8.fnScope st_Stair_value) 1 "count" := ⟨⟨rfl, rfl⟩, ⟨rfl, rfl⟩⟩
abbrev st_Stair_end : Stmt := inClass (top 14) 4
abbrev nl_Stair_end : List Str := ["self"]
abbrev ps_Stair_end : List Str := ["self"]
theorem sc_Stair_end : FnScope nl_Stair_end ps_Stair_end (C8.fnScope st_Stair_end) := ⟨rfl, rfl, rfl, by decide +kernel, rfl, by decide +kernel, by decide +kernel⟩
-- 0:self
theorem nv_Stair_end : NL nl_Stair_end (C8.fnScope st_Stair_end) 0 "self" := ⟨rfl, rfl⟩
abbrev st_Stair_undone : Stmt := inClass (top 14) 5
abbrev nl_Stair_undone : List Str := ["self", "number", "corner", "told", "rise"]
abbrev ps_Stair_undone : List Str := ["self", "number"]
theorem sc_Stair_undone : FnScope nl_Stair_undone ps_Stair_undone (C8.fnScope st_Stair_undone) := ⟨rfl, rfl, rfl, by decide +kernel, rfl, by decide +kernel, by decide +kernel⟩
-- 0:self 1:number 2:corner 3:told 4:rise
theorem nv_Stair_undone : NL nl_Stair_undone (C8.fnScope st_Stair_undone) 0 "self" ∧ NL nl_Stair_undone (C8.fnScope st_Stair_undone) 1 "number" ∧ NL nl_Stair_undone (C8.fnScope st_Stair_undone) 2 "corner" ∧ NL nl_Stair_undone (C8.fnScope st_Stair_undone) 3 "told" ∧ NL nl_Stair_undone (C8.fnScope st_Stair_undone) 4 "rise" := ⟨⟨rfl, rfl⟩, ⟨rfl, rfl⟩, ⟨rfl, rfl⟩, ⟨rfl, rfl⟩, ⟨rfl, rfl⟩⟩
abbrev st_Stair_shifted : Stmt := inClass (top 14) 6
abbrev nl_Stair_shifted : List Str := ["self", "by"]
abbrev ps_Stair_shifted : List Str := ["self", "by"]
theorem sc_Stair_shifted : FnScope nl_Stair_shifted ps_Stair_shifted (C8.fnScope st_Stair_shifted) := ⟨rfl, rfl, rfl, by decide +kernel, rfl, by decide +kernel, by decide +kernel⟩
-- 0:self 1:by
theorem nv_Stair_shifted : NL nl_Stair_shifted (C8.fnScope st_Stair_shifted) 0 "self" ∧ NL nl_Stair_shifted (C8.fnScope st_Stair_shifted) 1 "by" := ⟨⟨rfl, rfl⟩, ⟨rfl, rfl⟩⟩
abbrev st_Stair_eq : Stmt := inClass (top 14) 7
abbrev nl_Stair_eq : List Str := ["self", "other"]
abbrev ps_Stair_eq : List Str := ["self", "other"]
theorem sc_Stair_eq : FnScope nl_Stair_eq ps_Stair_eq (C8.fnScope st_Stair_eq) := ⟨rfl, rfl, rfl, by decide +kernel, rfl, by decide +kernel, by decide +kernel⟩
-- 0:self 1:other
theorem nv_Stair_eq : NL nl_Stair_eq (C8.fnScope st_Stair_eq) 0 "self" ∧ NL nl_Stair_eq (C8.fnScope st_Stair_eq) 1 "other" := ⟨⟨rfl, rfl⟩, ⟨rfl, rfl⟩⟩
abbrev st_x_are_corners : Stmt := top 15
abbrev nl_x_are_corners : List Str := ["value", "corner", "at"]
abbrev ps_x_are_corners : List Str := ["value"]
theorem sc_x_are_corners : FnScope nl_x_are_corners ps_x_are_corners (C8.fnScope st_x_are_corners) := ⟨rfl, rfl, rfl, by decide +kernel, rfl, by decide +kernel, by decide +kernel⟩
-- 0:value*
theorem nv_x_are_corners : NC nl_x_are_corners (C8.fnScope st_x_are_corners) 0 "value" := ⟨rfl, rfl⟩
abbrev st_x_course : Stmt := top 16
abbrev nl_x_course : List Str := ["stair", "counts", "corners", "course", "passed", "base", "count"]
abbrev ps_x_course : List Str := ["stair", "counts"]
theorem sc_x_course : FnScope nl_x_course ps_x_course (C8.fnScope st_x_course) := ⟨rfl, rfl, rfl, by decide +kernel, rfl, by decide +kernel, by decide +kernel⟩
-- 0:stair 1:counts 2:corners 3:course 4:passed 5:base 6:count
theorem nv_x_course : NL nl_x_course (C8.fnScope st_x_course) 0 "stair" ∧ NL nl_x_course (C8.fnScope st_x_course) 1 "counts" ∧ NL nl_x_course (C8.fnScope st_x_course) 2 "corners" ∧ NL nl_x_course (C8.fnScope st_x_course) 3 "course" ∧ NL nl_x_course (C8.fnScope st_x_course) 4 "passed" ∧ NL nl_x_course (C8.fnScope st_x_course) 5 "base" ∧ NL nl_x_course (C8.fnScope st_x_course) 6 "count" := ⟨⟨rfl, rfl⟩, ⟨rfl, rfl⟩, ⟨rfl, rfl⟩, ⟨rfl, rfl⟩, ⟨rfl, rfl⟩, ⟨rfl, rfl⟩, ⟨rfl, rfl⟩⟩
abbrev st_x_along : Stmt := top 17
abbrev nl_x_along : List Str := ["counts", "course", "corners", "count", "_", "rise"]
abbrev ps_x_along : List Str := ["counts", "course"]
theorem sc_x_along : FnScope nl_x_along ps_x_along (C8.fnScope st_x_along) := ⟨rfl, rfl, rfl, by decide +kernel, rfl, by decide +kernel, by decide +kernel⟩
-- 0:counts 1:course 2:corners 3:count 4:_ 5:rise
theorem nv_x_along : NL nl_x_along (C8.fnScope st_x_along) 0 "counts" ∧ NL nl_x_along (C8.fnScope st_x_along) 1 "course" ∧ NL nl_x_along (C8.fnScope st_x_along) 2 "corners" ∧ NL nl_x_along (C8.fnScope st_x_along) 3 "count" ∧ NL nl_x_along (C8.fnScope st_x_along) 4 "_" ∧ NL nl_x_along (C8.fnScope st_x_along) 5 "rise" := ⟨⟨rfl, rfl⟩, ⟨rfl, rfl⟩, ⟨rfl, rfl⟩, ⟨rfl, rfl⟩, ⟨rfl, rfl⟩, ⟨rfl, rfl⟩⟩
abbrev st_need_stair : Stmt := top 18
abbrev nl_need_stair : List Str := ["value"]
abbrev ps_need_stair : List Str := ["value"]
theorem sc_need_stair : FnScope nl_need_stair ps_need_stair (C8.fnScope st_need_stair) := ⟨rfl, rfl, rfl, by decide +kernel, rfl, by decide +kernel, by decide +kernel⟩
-- 0:value
theorem nv_need_stair : NL nl_need_stair (C8.fnScope st_need_stair) 0 "value" := ⟨rfl, rfl⟩
abbrev st_x_need_stairs : Stmt := top 19
abbrev nl_x_need_stairs : List Str := ["value", "stair"]
abbrev ps_x_need_stairs : List Str := ["value"]
theorem sc_x_need_stairs : FnScope nl_x_need_stairs ps_x_need_stairs (C8.fnScope st_x_need_stairs) := ⟨rfl, rfl, rfl, by decide +kernel, rfl, by decide +kernel, by decide +kernel⟩
-- 0:value
theorem nv_x_need_stairs : NL nl_x_need_stairs (C8.fnScope st_x_need_stairs) 0 "value" := ⟨rfl, rfl⟩
abbrev st_first_of : Stmt := top 20
abbrev nl_first_of : List Str := ["stairs"]
abbrev ps_first_of : List Str := ["stairs"]
theorem sc_first_of : FnScope nl_first_of ps_first_of (C8.fnScope st_first_of) := ⟨rfl, rfl, rfl, by decide +kernel, rfl, by decide +kernel, by decide +kernel⟩
-- 0:stairs
theorem nv_first_of : NL nl_first_of (C8.fnScope st_first_of) 0 "stairs" := ⟨rfl, rfl⟩
abbrev st_last_of : Stmt := top 21
abbrev nl_last_of : List Str := ["stairs"]
abbrev ps_last_of : List Str := ["stairs"]
theorem sc_last_of : FnScope nl_last_of ps_last_of (C8.fnScope st_last_of) := ⟨rfl, rfl, rfl, by decide +kernel, rfl, by decide +kernel, by decide +kernel⟩
-- 0:stairs
theorem nv_last_of : NL nl_last_of (C8.fnScope st_last_of) 0 "stairs" := ⟨rfl, rfl⟩
abbrev st_rank_of : Stmt := top 22
abbrev nl_rank_of : List Str := ["number", "stairs"]
abbrev ps_rank_of : List Str := ["number", "stairs"]
theorem sc_rank_of : FnScope nl_rank_of ps_rank_of (C8.fnScope st_rank_of) := ⟨rfl, rfl, rfl, by decide +kernel, rfl, by decide +kernel, by decide +kernel⟩
-- 0:number 1:stairs
theorem nv_rank_of : NL nl_rank_of (C8.fnScope st_rank_of) 0 "number" ∧ NL nl_rank_of (C8.fnScope st_rank_of) 1 "stairs" := ⟨⟨rfl, rfl⟩, ⟨rfl, rfl⟩⟩
abbrev st_stair_of_rank : Stmt := top 23
abbrev nl_stair_of_rank : List Str := ["number", "stairs", "found", "stair"]
abbrev ps_stair_of_rank : List Str := ["number", "stairs"]
theorem sc_stair_of_rank : FnScope nl_stair_of_rank ps_stair_of_rank (C8.fnScope st_stair_of_rank) := ⟨rfl, rfl, rfl, by decide +kernel, rfl, by decide +kernel, by decide +kernel⟩
-- 0:number 1:stairs 2:found 3:stair
theorem nv_stair_of_rank : NL nl_stair_of_rank (C8.fnScope st_stair_of_rank) 0 "number" ∧ NL nl_stair_of_rank (C8.fnScope st_stair_of_rank) 1 "stairs" ∧ NL nl_stair_of_rank (C8.fnScope st_stair_of_rank) 2 "found" ∧ NL nl_stair_of_rank (C8.fnScope st_stair_of_rank) 3 "stair" := ⟨⟨rfl, rfl⟩, ⟨rfl, rfl⟩, ⟨rfl, rfl⟩, ⟨rfl, rfl⟩⟩
abbrev st_x_stair_of_rank_at_once : Stmt := top 24
abbrev nl_x_stair_of_rank_at_once : List Str := ["number", "stairs", "at", "stair", "other", "courses", "counts", "told"]
abbrev ps_x_stair_of_rank_at_once : List Str := ["number", "stairs"]
theorem sc_x_stair_of_rank_at_once : FnScope nl_x_stair_of_rank_at_once ps_x_stair_of_rank_at_once (C8.fnScope st_x_stair_of_rank_at_once) := ⟨rfl, rfl, rfl, by decide +kernel, rfl, by decide +kernel, by decide +kernel⟩
-- 1:stairs 2:at 3:stair 4:other 5:courses 0:number* 6:counts*
theorem nv_x_stair_of_rank_at_once : NL nl_x_stair_of_rank_at_once (C8.fnScope st_x_stair_of_rank_at_once) 1 "stairs" ∧ NL nl_x_stair_of_rank_at_once (C8.fnScope st_x_stair_of_rank_at_once) 2 "at" ∧ NL nl_x_stair_of_rank_at_once (C8.fnScope st_x_stair_of_rank_at_once) 3 "stair" ∧ NL nl_x_stair_of_rank_at_once (C8.fnScope st_x_stair_of_rank_at_once) 4 "other" ∧ NL nl_x_stair_of_rank_at_once (C8.fnScope st_x_stair_of_rank_at_once) 5 "courses" ∧ NC nl_x_stair_of_rank_at_once (C8.fnScope st_x_stair_of_rank_at_once) 0 "number" ∧ NC nl_x_stair_of_rank_at_once (C8.fnScope st_x_stair_of_rank_at_once) 6 "counts" := ⟨⟨rfl, rfl⟩, ⟨rfl, rfl⟩, ⟨rfl, rfl⟩, ⟨rfl, rfl⟩, ⟨rfl, rfl⟩, ⟨rfl, rfl⟩, ⟨rfl, rfl⟩⟩
abbrev st_x_corners_of : Stmt := top 25
abbrev nl_x_corners_of : List Str := ["stairs", "stair", "corner"]
abbrev ps_x_corners_of : List Str := ["stairs"]
theorem sc_x_corners_of : FnScope nl_x_corners_of ps_x_corners_of (C8.fnScope st_x_corners_of) := ⟨rfl, rfl, rfl, by decide +kernel, rfl, by decide +kernel, by decide +kernel⟩
-- 0:stairs
theorem nv_x_corners_of : NL nl_x_corners_of (C8.fnScope st_x_corners_of) 0 "stairs" := ⟨rfl, rfl⟩
abbrev st_x_crossings : Stmt := top 26
abbrev nl_x_crossings : List Str := ["one", "other", "counts", "course", "others", "count", "told", "_", "less"]
abbrev ps_x_crossings : List Str := ["one", "other"]
theorem sc_x_crossings : FnScope nl_x_crossings ps_x_crossings (C8.fnScope st_x_crossings) := ⟨rfl, rfl, rfl, by decide +kernel, rfl, by decide +kernel, by decide +kernel⟩
-- 0:one 1:other 2:counts 3:course 4:others
theorem nv_x_crossings : NL nl_x_crossings (C8.fnScope st_x_crossings) 0 "one" ∧ NL nl_x_crossings (C8.fnScope st_x_crossings) 1 "other" ∧ NL nl_x_crossings (C8.fnScope st_x_crossings) 2 "counts" ∧ NL nl_x_crossings (C8.fnScope st_x_crossings) 3 "course" ∧ NL nl_x_crossings (C8.fnScope st_x_crossings) 4 "others" := ⟨⟨rfl, rfl⟩, ⟨rfl, rfl⟩, ⟨rfl, rfl⟩, ⟨rfl, rfl⟩, ⟨rfl, rfl⟩⟩
abbrev st_put_behind : Stmt := top 27
abbrev nl_put_behind : List Str := ["one", "other", "counts", "course", "others", "corner", "count", "told", "_", "mine", "rise"]
abbrev ps_put_behind : List Str := ["one", "other"]
theorem sc_put_behind : FnScope nl_put_behind ps_put_behind (C8.fnScope st_put_behind) := ⟨rfl, rfl, rfl, by decide +kernel, rfl, by decide +kernel, by decide +kernel⟩
-- 1:other 2:counts 3:course 4:others 0:one*
theorem nv_put_behind : NL nl_put_behind (C8.fnScope st_put_behind) 1 "other" ∧ NL nl_put_behind (C8.fnScope st_put_behind) 2 "counts" ∧ NL nl_put_behind (C8.fnScope st_put_behind) 3 "course" ∧ NL nl_put_behind (C8.fnScope st_put_behind) 4 "others" ∧ NC nl_put_behind (C8.fnScope st_put_behind) 0 "one" := ⟨⟨rfl, rfl⟩, ⟨rfl, rfl⟩, ⟨rfl, rfl⟩, ⟨rfl, rfl⟩, ⟨rfl, rfl⟩⟩
abbrev st_x_first_count : Stmt := top 28
abbrev nl_x_first_count : List Str := ["stair", "number", "below"]
abbrev ps_x_first_count : List Str := ["stair", "number"]
theorem sc_x_first_count : FnScope nl_x_first_count ps_x_first_count (C8.fnScope st_x_first_count) := ⟨rfl, rfl, rfl, by decide +kernel, rfl, by decide +kernel, by decide +kernel⟩
-- 0:stair 1:number 2:below
theorem nv_x_first_count : NL nl_x_first_count (C8.fnScope st_x_first_count) 0 "stair" ∧ NL nl_x_first_count (C8.fnScope st_x_first_count) 1 "number" ∧ NL nl_x_first_count (C8.fnScope st_x_first_count) 2 "below" := ⟨⟨rfl, rfl⟩, ⟨rfl, rfl⟩, ⟨rfl, rfl⟩⟩
abbrev st_purse : Stmt := top 30
abbrev nl_purse : List Str := ["_law_script", "_law_at", "_law_seed"]
abbrev ps_purse : List Str := ["_law_script", "_law_at"]
theorem sc_purse : FnScope nl_purse ps_purse (C8.fnScope st_purse) := ⟨rfl, rfl, rfl, by decide +kernel, rfl, by decide +kernel, by decide +kernel⟩
-- 0:_law_script 1:_law_at 2:_law_seed
theorem nv_purse : NL nl_purse (C8.fnScope st_purse) 0 "_law_script" ∧ NL nl_purse (C8.fnScope st_purse) 1 "_law_at" ∧ NL nl_purse (C8.fnScope st_purse) 2 "_law_seed" := ⟨⟨rfl, rfl⟩, ⟨rfl, rfl⟩, ⟨rfl, rfl⟩⟩
abbrev st_mixed : Stmt := top 31
abbrev nl_mixed : List Str := ["_law_seed", "_law_turn", "_law_at", "_law_mixed_here"]
abbrev ps_mixed : List Str := ["_law_seed", "_law_turn", "_law_at"]
theorem sc_mixed : FnScope nl_mixed ps_mixed (C8.fnScope st_mixed) := ⟨rfl, rfl, rfl, by decide +kernel, rfl, by decide +kernel, by decide +kernel⟩
-- 0:_law_seed 1:_law_turn 2:_law_at 3:_law_mixed_here
theorem nv_mixed : NL nl_mixed (C8.fnScope st_mixed) 0 "_law_seed" ∧ NL nl_mixed (C8.fnScope st_mixed) 1 "_law_turn" ∧ NL nl_mixed (C8.fnScope st_mixed) 2 "_law_at" ∧ NL nl_mixed (C8.fnScope st_mixed) 3 "_law_mixed_here" := ⟨⟨rfl, rfl⟩, ⟨rfl, rfl⟩, ⟨rfl, rfl⟩, ⟨rfl, rfl⟩⟩
abbrev st_draw : Stmt := top 32
abbrev nl_draw : List Str := ["_law_purse_here", "_law_many", "_law_drawn", "_law_found", "_law_piece"]
abbrev ps_draw : List Str := ["_law_purse_here", "_law_many"]
theorem sc_draw : FnScope nl_draw ps_draw (C8.fnScope st_draw) := ⟨rfl, rfl, rfl, by decide +kernel, rfl, by decide +kernel, by decide +kernel⟩
-- 0:_law_purse_here 1:_law_many 2:_law_drawn 3:_law_found 4:_law_piece
theorem nv_draw : NL nl_draw (C8.fnScope st_draw) 0 "_law_purse_here" ∧ NL nl_draw (C8.fnScope st_draw) 1 "_law_many" ∧ NL nl_draw (C8.fnScope st_draw) 2 "_law_drawn" ∧ NL nl_draw (C8.fnScope st_draw) 3 "_law_found" ∧ NL nl_draw (C8.fnScope st_draw) 4 "_law_piece" := ⟨⟨rfl, rfl⟩, ⟨rfl, rfl⟩, ⟨rfl, rfl⟩, ⟨rfl, rfl⟩, ⟨rfl, rfl⟩⟩
abbrev st_purses : Stmt := top 33
abbrev nl_purses : List Str := ["_law_script", "_law_few", "_law_at"]
abbrev ps_purses : List Str := ["_law_script", "_law_few"]
theorem sc_purses : FnScope nl_purses ps_purses (C8.fnScope st_purses) := ⟨rfl, rfl, rfl, by decide +kernel, rfl, by decide +kernel, by decide +kernel⟩
-- 1:_law_few 0:_law_script*
theorem nv_purses : NL nl_purses (C8.fnScope st_purses) 1 "_law_few" ∧ NC nl_purses (C8.fnScope st_purses) 0 "_law_script" := ⟨⟨rfl, rfl⟩, ⟨rfl, rfl⟩⟩
abbrev st_one_of : Stmt := top 34
abbrev nl_one_of : List Str := ["_law_purse_here", "_law_some"]
abbrev ps_one_of : List Str := ["_law_purse_here", "_law_some"]
theorem sc_one_of : FnScope nl_one_of ps_one_of (C8.fnScope st_one_of) := ⟨rfl, rfl, rfl, by decide +kernel, rfl, by decide +kernel, by decide +kernel⟩
-- 0:_law_purse_here 1:_law_some
theorem nv_one_of : NL nl_one_of (C8.fnScope st_one_of) 0 "_law_purse_here" ∧ NL nl_one_of (C8.fnScope st_one_of) 1 "_law_some" := ⟨⟨rfl, rfl⟩, ⟨rfl, rfl⟩⟩
abbrev st_height : Stmt := top 35
abbrev nl_height : List Str := ["_law_begin", "_law_corners_here", "_law_count", "_law_found", "_law_at", "_law_stop", "_law_corner"]
abbrev ps_height : List Str := ["_law_begin", "_law_corners_here", "_law_count"]
theorem sc_height : FnScope nl_height ps_height (C8.fnScope st_height) := ⟨rfl, rfl, rfl, by decide +kernel, rfl, by decide +kernel, by decide +kernel⟩
-- 0:_law_begin 1:_law_corners_here 2:_law_count 3:_law_found 4:_law_at 5:_law_stop 6:_law_corner
theorem nv_height : NL nl_height (C8.fnScope st_height) 0 "_law_begin" ∧ NL nl_height (C8.fnScope st_height) 1 "_law_corners_here" ∧ NL nl_height (C8.fnScope st_height) 2 "_law_count" ∧ NL nl_height (C8.fnScope st_height) 3 "_law_found" ∧ NL nl_height (C8.fnScope st_height) 4 "_law_at" ∧ NL nl_height (C8.fnScope st_height) 5 "_law_stop" ∧ NL nl_height (C8.fnScope st_height) 6 "_law_corner" := ⟨⟨rfl, rfl⟩, ⟨rfl, rfl⟩, ⟨rfl, rfl⟩, ⟨rfl, rfl⟩, ⟨rfl, rfl⟩, ⟨rfl, rfl⟩, ⟨rfl, rfl⟩⟩
abbrev st_corners : Stmt := top 36
abbrev nl_corners : List Str := ["_law_purse_here", "_law_most", "_law_found", "_law_now", "_law_turn"]
abbrev ps_corners : List Str := ["_law_purse_here", "_law_most"]
theorem sc_corners : FnScope nl_corners ps_corners (C8.fnScope st_corners) := ⟨rfl, rfl, rfl, by decide +kernel, rfl, by decide +kernel, by decide +kernel⟩
-- 0:_law_purse_here 1:_law_most 2:_law_found 3:_law_now 4:_law_turn
theorem nv_corners : NL nl_corners (C8.fnScope st_corners) 0 "_law_purse_here" ∧ NL nl_corners (C8.fnScope st_corners) 1 "_law_most" ∧ NL nl_corners (C8.fnScope st_corners) 2 "_law_found" ∧ NL nl_corners (C8.fnScope st_corners) 3 "_law_now" ∧ NL nl_corners (C8.fnScope st_corners) 4 "_law_turn" := ⟨⟨rfl, rfl⟩, ⟨rfl, rfl⟩, ⟨rfl, rfl⟩, ⟨rfl, rfl⟩, ⟨rfl, rfl⟩⟩
abbrev st_stair : Stmt := top 37
abbrev nl_stair : List Str := ["_law_purse_here", "_law_most"]
abbrev ps_stair : List Str := ["_law_purse_here", "_law_most"]
theorem sc_stair : FnScope nl_stair ps_stair (C8.fnScope st_stair) := ⟨rfl, rfl, rfl, by decide +kernel, rfl, by decide +kernel, by decide +kernel⟩
-- 0:_law_purse_here 1:_law_most
theorem nv_stair : NL nl_stair (C8.fnScope st_stair) 0 "_law_purse_here" ∧ NL nl_stair (C8.fnScope st_stair) 1 "_law_most" := ⟨⟨rfl, rfl⟩, ⟨rfl, rfl⟩⟩
abbrev st_alike : Stmt := top 38
abbrev nl_alike : List Str := ["_law_stair_here", "_law_numbers", "_law_due", "_law_steps", "_law_at"]
abbrev ps_alike : List Str := ["_law_stair_here", "_law_numbers"]
theorem sc_alike : FnScope nl_alike ps_alike (C8.fnScope st_alike) := ⟨rfl, rfl, rfl, by decide +kernel, rfl, by decide +kernel, by decide +kernel⟩
-- 0:_law_stair_here 2:_law_due 1:_law_numbers* 3:_law_steps*
theorem nv_alike : NL nl_alike (C8.fnScope st_alike) 0 "_law_stair_here" ∧ NL nl_alike (C8.fnScope st_alike) 2 "_law_due" ∧ NC nl_alike (C8.fnScope st_alike) 1 "_law_numbers" ∧ NC nl_alike (C8.fnScope st_alike) 3 "_law_steps" := ⟨⟨rfl, rfl⟩, ⟨rfl, rfl⟩, ⟨rfl, rfl⟩, ⟨rfl, rfl⟩⟩
abbrev st_together_right : Stmt := top 39
abbrev nl_together_right : List Str := ["_law_purse_here", "_law_some", "_law_stairs", "_law_columns", "_law_kept", "_law_high", "_law_told_now", "_law_number", "_law_count", "_law_far", "_law_begin", "_law_corners_here", "_law_column"]
abbrev ps_together_right : List Str := ["_law_purse_here", "_law_some"]
theorem sc_together_right : FnScope nl_together_right ps_together_right (C8.fnScope st_together_right) := ⟨rfl, rfl, rfl, by decide +kernel, rfl, by decide +kernel, by decide +kernel⟩
-- 0:_law_purse_here 1:_law_some 2:_law_stairs 3:_law_columns 4:_law_kept 5:_law_high 6:_law_told_now 7:_law_number* 8:_law_count* 9:_law_far*
theorem nv_together_right : NL nl_together_right (C8.fnScope st_together_right) 0 "_law_purse_here" ∧ NL nl_together_right (C8.fnScope st_together_right) 1 "_law_some" ∧ NL nl_together_right (C8.fnScope st_together_right) 2 "_law_stairs" ∧ NL nl_together_right (C8.fnScope st_together_right) 3 "_law_columns" ∧ NL nl_together_right (C8.fnScope st_together_right) 4 "_law_kept" ∧ NL nl_together_right (C8.fnScope st_together_right) 5 "_law_high" ∧ NL nl_together_right (C8.fnScope st_together_right) 6 "_law_told_now" ∧ NC nl_together_right (C8.fnScope st_together_right) 7 "_law_number" ∧ NC nl_together_right (C8.fnScope st_together_right) 8 "_law_count" ∧ NC nl_together_right (C8.fnScope st_together_right) 9 "_law_far" := ⟨⟨rfl, rfl⟩, ⟨rfl, rfl⟩, ⟨rfl, rfl⟩, ⟨rfl, rfl⟩, ⟨rfl, rfl⟩, ⟨rfl, rfl⟩, ⟨rfl, rfl⟩, ⟨rfl, rfl⟩, ⟨rfl, rfl⟩, ⟨rfl, rfl⟩⟩
abbrev st_behind_right : Stmt := top 40
abbrev nl_behind_right : List Str := ["_law_one", "_law_other", "_law_third", "_law_first", "_law_second", "_law_last", "_law_inner", "_law_both", "_law_far", "_law_count"]
abbrev ps_behind_right : List Str := ["_law_one", "_law_other", "_law_third"]
theorem sc_behind_right : FnScope nl_behind_right ps_behind_right (C8.fnScope st_behind_right) := ⟨rfl, rfl, rfl, by decide +kernel, rfl, by decide +kernel, by decide +kernel⟩
-- 2:_law_third 3:_law_first 4:_law_second 5:_law_last 6:_law_inner 7:_law_both 8:_law_far 0:_law_one* 1:_law_other*
theorem nv_behind_right : NL nl_behind_right (C8.fnScope st_behind_right) 2 "_law_third" ∧ NL nl_behind_right (C8.fnScope st_behind_right) 3 "_law_first" ∧ NL nl_behind_right (C8.fnScope st_behind_right) 4 "_law_second" ∧ NL nl_behind_right (C8.fnScope st_behind_right) 5 "_law_last" ∧ NL nl_behind_right (C8.fnScope st_behind_right) 6 "_law_inner" ∧ NL nl_behind_right (C8.fnScope st_behind_right) 7 "_law_both" ∧ NL nl_behind_right (C8.fnScope st_behind_right) 8 "_law_far" ∧ NC nl_behind_right (C8.fnScope st_behind_right) 0 "_law_one" ∧ NC nl_behind_right (C8.fnScope st_behind_right) 1 "_law_other" := ⟨⟨rfl, rfl⟩, ⟨rfl, rfl⟩, ⟨rfl, rfl⟩, ⟨rfl, rfl⟩, ⟨rfl, rfl⟩, ⟨rfl, rfl⟩, ⟨rfl, rfl⟩, ⟨rfl, rfl⟩, ⟨rfl, rfl⟩⟩
abbrev st_great_right : Stmt := top 41
abbrev nl_great_right : List Str := ["_law_purse_here", "_law_one", "_law_by", "_law_low", "_law_high"]
abbrev ps_great_right : List Str := ["_law_purse_here"]
theorem sc_great_right : FnScope nl_great_right ps_great_right (C8.fnScope st_great_right) := ⟨rfl, rfl, rfl, by decide +kernel, rfl, by decide +kernel, by decide +kernel⟩
-- 0:_law_purse_here 1:_law_one 2:_law_by 3:_law_low 4:_law_high
theorem nv_great_right : NL nl_great_right (C8.fnScope st_great_right) 0 "_law_purse_here" ∧ NL nl_great_right (C8.fnScope st_great_right) 1 "_law_one" ∧ NL nl_great_right (C8.fnScope st_great_right) 2 "_law_by" ∧ NL nl_great_right (C8.fnScope st_great_right) 3 "_law_low" ∧ NL nl_great_right (C8.fnScope st_great_right) 4 "_law_high" := ⟨⟨rfl, rfl⟩, ⟨rfl, rfl⟩, ⟨rfl, rfl⟩, ⟨rfl, rfl⟩, ⟨rfl, rfl⟩⟩
abbrev st_law : Stmt := top 42
abbrev nl_law : List Str := ["_law_script", "_law_some", "_law_three", "_law_purse_here", "_law_turn"]
abbrev ps_law : List Str := ["_law_script"]
theorem sc_law : FnScope nl_law ps_law (C8.fnScope st_law) := ⟨rfl, rfl, rfl, by decide +kernel, rfl, by decide +kernel, by decide +kernel⟩
-- 0:_law_script 1:_law_some 2:_law_three 3:_law_purse_here*
theorem nv_law : NL nl_law (C8.fnScope st_law) 0 "_law_script" ∧ NL nl_law (C8.fnScope st_law) 1 "_law_some" ∧ NL nl_law (C8.fnScope st_law) 2 "_law_three" ∧ NC nl_law (C8.fnScope st_law) 3 "_law_purse_here" := ⟨⟨rfl, rfl⟩, ⟨rfl, rfl⟩, ⟨rfl, rfl⟩, ⟨rfl, rfl⟩⟩
/-! ### the law's purse -/
/-- a purse at p that has been drawn from at most n times -/
def Purse (H : Hp) (p : Addr) (n : Nat) : Prop := ∃ a b c d : Int, H p = some (.lst [.int a, .int b, .int c, .int d]) ∧ 0 ≤ a ∧ a.natAbs < 2 ^ 1600 ∧ (0 ≤ b ∧ b < 2147483629) ∧ (0 ≤ c ∧ c ≤ n) ∧ (0 ≤ d ∧ d < 1000)
def sp_mixed : Sp := fun vs H Q _ => ∃ s t a : Int, vs = [.int s, .int t, .int a] ∧ (0 ≤ s ∧ s < 2147483629) ∧ (0 ≤ t ∧ t < 2 ^ 40) ∧ (0 ≤ a ∧ a < 1000) ∧ ∀ r : Int, 0 ≤ r → r < 2147483587 → Q (.int r) H
theorem c_mixed {m : Md} {f : Addr} {fd : FuncData} (F : C8.Def m.K m.mg "_law_mixed" st_mixed f fd) (b : L2.Binds m.K fd ps_mixed []) : Cal m 1 "_law_mixed" sp_mixed := by
  refine cal_of F b sc_mixed (fun vs H Q E h => by obtain ⟨_, _, _, rfl, _⟩ := h; rfl) fun X vs H Q E hA h => ?_
  obtain ⟨s, t, a, rfl, hs, ht, ha, k⟩ := h
  obtain ⟨n0, n1, n2, n3⟩ := nv_mixed
  walk_at "B"
  walk_at "V"
  refine g_mulI (.inl (by omega)) ?_
  walk_at "V"
  refine g_mulI (.inl (by omega)) ?_
  walk_at "V"
  refine g_mulI (.inl (by omega)) ?_
  walk_at "V"
  refine g_mulI (.inl (by omega)) ?_
  walk_at "V"
  refine g_modB (by omega) fun r1 h1 h1' => ?_
  walk_at "V"
  refine g_mulI (.inl (by omega)) ?_
  walk_at "V"
  refine g_modB (by omega) fun r2 h2 h2' => ?_
  walk_at "V"
  refine g_mulI (.inl (by omega)) ?_
  walk_at "V"
  refine g_modB (by omega) fun r3 h3 h3' => ?_
  exact k r3 h3 h3'
/-- the purse at p alone has changed: it was drawn from at most j times -/
structure Drew (m : Md) (p : Addr) (n j : Nat) (H H' : Hp) : Prop where
  grow : GrowX m.T (· = p) H H'
  purse : Purse H' p (n + j)
theorem Purse.mono {H : Hp} {p : Addr} {n j : Nat} (h : Purse H p n) (l : n ≤ j) : Purse H p j := by
  obtain ⟨a, b, c, d, h1, h2, h3, h4, h5, h6⟩ := h
  exact ⟨a, b, c, d, h1, h2, h3, h4, ⟨h5.1, by omega⟩, h6⟩
theorem Drew.trans {m : Md} {p : Addr} {n i j : Nat} {H H1 H2 : Hp} (a : Drew m p n i H H1) (b : Drew m p (n + i) j H1 H2) : Drew m p n (i + j) H H2 := ⟨a.grow.trans b.grow, by rw [← Nat.add_assoc]; exact b.purse⟩
theorem Drew.mono {m : Md} {p : Addr} {n i j : Nat} {H H1 : Hp} (a : Drew m p n i H H1) (l : i ≤ j) : Drew m p n j H H1 := ⟨a.grow, a.purse.mono (by omega)⟩
theorem Purse.new {m : Md} {H H' : Hp} {p : Addr} {n : Nat} (h : Purse H p n) (g : Grow m.T H H') : Purse H' p n := by
  obtain ⟨a, b, c, d, h1, r⟩ := h
  exact ⟨a, b, c, d, g.ext _ _ (fun z => z) h1 (fun _ z => by cases z), r⟩
theorem Purse.drew {m : Md} {H H' : Hp} {p : Addr} {n : Nat} (h : Purse H p n) (g : Grow m.T H H') : Drew m p n 0 H H' := ⟨g.to, h.new g⟩
def sp_draw (m : Md) : Sp := fun vs H Q _ => ∃ (p : Addr) (n : Nat) (z : Int), vs = [.ref p, .int z] ∧ Purse H p n ∧ n ≤ 2 ^ 39 ∧ 0 < z ∧ z < 2 ^ 200 ∧
  ∀ (r : Int) (H' : Hp), 0 ≤ r → r < z → Drew m p n 8 H H' → Q (.int r) H'
theorem Purse.at_ {H : Hp} {p : Addr} {n : Nat} (h : Purse H p n) : ∃ xs, H p = some (.lst xs) := ⟨_, h.choose_spec.choose_spec.choose_spec.choose_spec.1⟩
theorem Purse.x {m : Md} {S : Addr → Prop} {H H' : Hp} {p : Addr} {n : Nat} (h : Purse H p n) (g : GrowX m.T S H H') (hs : ¬ S p) : Purse H' p n := by
  obtain ⟨a, b, c, d, h1, r⟩ := h
  exact ⟨a, b, c, d, g.ext _ _ hs h1 (fun _ z => by cases z), r⟩
theorem Drew.pre {m : Md} {H H1 H2 : Hp} {p : Addr} {n j : Nat} (g : Grow m.T H H1) (d : Drew m p n j H1 H2) : Drew m p n j H H2 := ⟨g.to.trans d.grow, d.purse⟩
theorem Drew.post {m : Md} {H H1 H2 : Hp} {p : Addr} {n j : Nat} (d : Drew m p n j H H1) (g : Grow m.T H1 H2) : Drew m p n j H H2 := ⟨d.grow.trans g.to, d.purse.new g⟩
theorem c_draw {m : Md} {f : Addr} {fd : FuncData} (F : C8.Def m.K m.mg "_law_draw" st_draw f fd) (b : L2.Binds m.K fd ps_draw []) (hr : m.mg "range" = none) (M : Cal m 1 "_law_mixed" sp_mixed) : Cal m 2 "_law_draw" (sp_draw m) := by
  refine cal_of F b sc_draw (fun vs H Q E h => by obtain ⟨_, _, _, rfl, _⟩ := h; rfl) fun X vs H Q E hA h => ?_
  obtain ⟨p, n, mm, rfl, ⟨a, bb, c, d, hp, ha, ha2, hb, hc, hd⟩, hn, hm, hm2, k⟩ := h
  obtain ⟨n0, n1, n2, n3, n4⟩ := nv_draw
  walk_at "B"
  walk_at "V"
  refine g_ixL hA (SqL.of hp) (atI_at (j := 0) rfl) ?_
  walk_at "V"
  refine ite2 (fun h0 => ?_) fun h0 => ?_
  · simp only [decide_eq_true_eq] at h0
    walk_at "V"
    refine g_ixL hA (SqL.of hp) (atI_at (j := 0) rfl) ?_
    walk_at "V"
    refine g_modB hm fun r h1 h2 => ?_
    walk_at "V"
    refine g_ixL hA (SqL.of hp) (atI_at (j := 0) rfl) ?_
    walk_at "V"
    refine g_divW (wide_div (b := 200) hm (by omega) (by omega) (by omega)) ?_
    walk_at "V"
    refine ⟨p, _, _, 0, rfl, rfl, hp, rfl, ?_⟩
    walk_at "V"
    refine k r _ h1 h2 ⟨GrowX.set rfl hp (fun _ z => by cases z) (fun _ z => by unfold CodeO at z; cases z) (fun _ z => by cases z) (fun _ _ z => by cases z), a / mm, bb, c, d, by rw [upd_same]; rfl, Int.ediv_nonneg ha (by omega), ?_, hb, by omega, hd⟩
    have q1 : 0 ≤ a / mm := Int.ediv_nonneg ha (by omega)
    have q2 : a / mm ≤ a := Int.ediv_le_self _ ha
    omega
  · walk_at "V"
    have hbits : Builtin.Int.intBits mm ≤ 200 := PyProof.Rows.intBits_le (by omega)
    refine s_forR hA (pg_nl hA n4) hr rfl ?_
    walk_at "V"
    refine g_bits ?_
    walk_at "V"
    refine g_divI (by omega) ?_
    walk_at "V"
    have e : (0 : Int) ≤ (Builtin.Int.intBits mm : Int) / 28 ∧ (Builtin.Int.intBits mm : Int) / 28 ≤ 7 := by omega
    refine ⟨by omega, by omega, fun i σ H' => ∃ c' g : Int, σ = [some (.ref p), some (.int mm), none, some (.int g), σ.getD 4 none] ∧ H' = upd H p (.lst [.int a, .int bb, .int c', .int d]) ∧ 0 ≤ g ∧ 0 ≤ c' ∧ c' ≤ n + i, ?_, ?_, ?_⟩
    · refine ⟨c, 0, rfl, ?_, by omega, by omega, by omega⟩
      funext q
      by_cases z : q = p
      · rw [z, upd_same, hp]
      · rw [upd_ne z]
    · rintro i σ H' hi ⟨c', g, es, rfl, g0, c0, c1⟩
      rw [es]
      walk_at "B"
      walk_at "V"
      refine g_ixL hA (SqL.of upd_same) (atI_at (j := 2) rfl) ?_
      walk_at "V"
      refine ⟨p, _, _, 2, rfl, rfl, upd_same, rfl, ?_⟩
      rw [upd_upd]
      walk_at "V"
      refine g_mulI (.inr (by omega)) ?_
      walk_at "V"
      refine w_call hA M (by omega) rfl ?_
      walk_at "V"
      refine g_ixL hA (SqL.of upd_same) (atI_at (j := 1) rfl) ?_
      walk_at "V"
      refine g_ixL hA (SqL.of upd_same) (atI_at (j := 2) rfl) ?_
      walk_at "V"
      refine g_ixL hA (SqL.of upd_same) (atI_at (j := 3) rfl) ?_
      walk_at "V"
      refine ⟨bb, c' + 1, d, rfl, hb, by omega, by omega, fun r r0 r1 => ?_⟩
      walk_at "V"
      exact ⟨c' + 1, g * 2147483587 + r, rfl, rfl, by omega, by omega, by omega⟩
    · rintro σ H' ⟨c', g, es, rfl, g0, c0, c1⟩
      rw [es]
      walk_at "B"
      walk_at "V"
      refine g_modB hm fun r r0 r1 => ?_
      refine k r _ r0 r1 ⟨GrowX.set rfl hp (fun _ z => by cases z) (fun _ z => by unfold CodeO at z; cases z) (fun _ z => by cases z) (fun _ _ z => by cases z), a, bb, c', d, upd_same, ha, ha2, hb, by omega, hd⟩
def sp_purse (m : Md) : Sp := fun vs H Q _ => ∃ (a : Addr) (ns : List Int) (i : Int), vs = [.ref a, .int i] ∧ SqL m.K H a (ns.map V.int) ∧ 0 ≤ i ∧ i < 1000 ∧ ∀ p H', Grow m.T H H' → New H p → Purse H' p 0 → Q (.ref p) H'
theorem big_mod (z : Int) : 0 ≤ z % ((10 : Int) ^ (60 : Int).toNat) ^ (8 : Int).toNat ∧ (z % ((10 : Int) ^ (60 : Int).toNat) ^ (8 : Int).toNat).natAbs < 2 ^ 1600 := by
  have hp : (0 : Int) < ((10 : Int) ^ (60 : Int).toNat) ^ (8 : Int).toNat := by decide +kernel
  have h1 := Int.emod_nonneg z (show ((10 : Int) ^ (60 : Int).toNat) ^ (8 : Int).toNat ≠ 0 by omega)
  have h2 := Int.emod_lt_of_pos z hp
  have h3 : ((10 : Int) ^ (60 : Int).toNat) ^ (8 : Int).toNat < 2 ^ 1600 := by decide +kernel
  refine ⟨h1, ?_⟩
  have h4 : z % ((10 : Int) ^ (60 : Int).toNat) ^ (8 : Int).toNat < 2 ^ 1600 := Int.lt_trans h2 h3
  omega
theorem c_purse {m : Md} {f : Addr} {fd : FuncData} (F : C8.Def m.K m.mg "_law_purse" st_purse f fd) (b : L2.Binds m.K fd ps_purse []) (hsum : m.mg "sum" = none) (hmax : m.mg "max" = none) : Cal m 1 "_law_purse" (sp_purse m) := by
  refine cal_of F b sc_purse (fun vs H Q E h => by obtain ⟨_, _, _, rfl, _⟩ := h; rfl) fun X vs H Q E hA h => ?_
  obtain ⟨a, ns, i, rfl, hs, hi, hi2, k⟩ := h
  obtain ⟨n0, n1, n2⟩ := nv_purse
  walk_at "B"
  walk_at "V"
  refine g_blt hA hsum rfl bt_sum ?_
  walk_at "V"
  refine w_slice hA ?_
  walk_at "V"
  refine ⟨a, _, rfl, hs, fun p hp => ?_⟩
  walk_at "V"
  obtain ⟨ys, ey, _⟩ := cutV_map V.int ns (some i) (some (i + 1))
  refine g_sum (ns := ys) hA (SqL.of (by rw [← ey]; exact upd_same)) ?_
  generalize ys.sum = z
  walk_at "V"
  refine g_blt hA hmax rfl bt_max ?_
  walk_at "V"
  refine g_powI ⟨by omega, by omega, by omega⟩ ?_
  walk_at "V"
  refine g_max2 hA ?_
  walk_at "V"
  refine g_powI ⟨by omega, by omega, by omega⟩ ?_
  walk_at "V"
  refine g_powW (by omega) (by have := PyProof.Rows.intBits_le (show ((10 : Int) ^ (60 : Int).toNat).natAbs < 2 ^ 200 by decide +kernel); omega) ?_
  walk_at "V"
  refine g_modI (by decide +kernel) ?_
  walk_at "V"
  refine g_modB (by omega) fun r h1 h2 => ?_
  walk_at "V"
  refine ⟨by show 4 ≤ sizeLine; decide, fun d hd => ?_⟩
  obtain ⟨g1, g2⟩ := big_mod (if 0 > z - 10 ^ (18 : Int).toNat then 0 else z - 10 ^ (18 : Int).toNat)
  refine k d _ ((Grow.new hp).trans (Grow.new hd)) (NdefX.upd_none hd) ⟨_, r, 0, i, upd_same, g1, g2, ⟨h1, h2⟩, by omega, ⟨hi, hi2⟩⟩
def sp_one_of (m : Md) : Sp := fun vs H Q _ => ∃ (p : Addr) (n : Nat) (a : Addr) (xs : List V), vs = [.ref p, .ref a] ∧ Purse H p n ∧ n ≤ 2 ^ 39 ∧ SqL m.K H a xs ∧ a ≠ p ∧ 0 < xs.length ∧ xs.length < 1000000 ∧
  ∀ (j : Nat) (v : V) (H' : Hp), xs[j]? = some v → Drew m p n 8 H H' → Q v H'
theorem c_one_of {m : Md} {f : Addr} {fd : FuncData} (F : C8.Def m.K m.mg "_law_one_of" st_one_of f fd) (b : L2.Binds m.K fd ps_one_of []) (hlen : m.mg "len" = none) (D : Cal m 2 "_law_draw" (sp_draw m)) : Cal m 3 "_law_one_of" (sp_one_of m) := by
  refine cal_of F b sc_one_of (fun vs H Q E h => by obtain ⟨_, _, _, _, rfl, _⟩ := h; rfl) fun X vs H Q E hA h => ?_
  obtain ⟨p, n, a, xs, rfl, hp, hn, hs, hne, hl, hl2, k⟩ := h
  obtain ⟨n0, n1⟩ := nv_one_of
  walk_at "B"
  walk_at "V"
  refine w_call hA D (by omega) rfl ?_
  walk_at "V"
  refine g_blt hA hlen rfl bt_len ?_
  walk_at "V"
  refine g_lenL hA hs ?_
  walk_at "V"
  refine ⟨p, n, _, rfl, hp, hn, by omega, by omega, fun r H' r0 r1 dr => ?_⟩
  walk_at "V"
  have hr : (r.toNat : Int) = r := by omega
  rw [← hr]
  refine g_ixL hA (dr.grow.seqL hs hne) (atI_at (List.getElem?_eq_getElem (show r.toNat < xs.length by omega))) ?_
  exact k r.toNat _ H' (List.getElem?_eq_getElem (by omega)) dr
/-- the purses of a list: apart, all new, each fresh -/
structure Purses (m : Md) (H H' : Hp) (r : Addr) (ps : List Addr) : Prop where
  grow : Grow m.T H H'
  isn : New H r
  seq : SqL m.K H' r (ps.map V.ref)
  nd : (r :: ps).Nodup
  new : ∀ p ∈ ps, New H p
  purse : ∀ p ∈ ps, Purse H' p 0
def sp_purses (m : Md) : Sp := fun vs H Q _ => ∃ (a : Addr) (ns : List Int) (few : Int), vs = [.ref a, .int few] ∧ SqL m.K H a (ns.map V.int) ∧ ns.length < 1000 ∧ 0 ≤ few ∧ few < 1000 ∧
  ∀ r ps H', Purses m H H' r ps → (ps.length : Int) = max 1 (min few ns.length) → Q (.ref r) H'
theorem c_purses {m : Md} {f : Addr} {fd : FuncData} (F : C8.Def m.K m.mg "_law_purses" st_purses f fd) (b : L2.Binds m.K fd ps_purses []) (hr : m.mg "range" = none) (hmax : m.mg "max" = none) (hmin : m.mg "min" = none) (hlen : m.mg "len" = none) (D1 : Cal m 1 "_law_purse" (sp_purse m)) : Cal m 2 "_law_purses" (sp_purses m) := by
  refine cal_of F b sc_purses (fun vs H Q E h => by obtain ⟨_, _, _, rfl, _⟩ := h; rfl) fun X vs H Q E hA h => ?_
  obtain ⟨a, ns, few, rfl, hs, hn, hf, hf2, k⟩ := h
  obtain ⟨n1, n0⟩ := nv_purses
  walk_at "B"
  walk_at "V"
  refine w_lcR hA hr rfl (by decide +kernel) (i := 2) ⟨rfl, rfl⟩ ?_
  refine g_blt hA hmax rfl bt_max ?_
  walk_at "V"
  refine g_blt hA hmin rfl bt_min ?_
  walk_at "V"
  refine g_blt hA hlen rfl bt_len ?_
  walk_at "V"
  refine g_lenL hA hs ?_
  walk_at "V"
  refine g_min2 hA ?_
  walk_at "V"
  refine g_max2 hA ?_
  rw [List.length_map]
  have e : (if (if (ns.length : Int) < few then (ns.length : Int) else few) > 1 then (if (ns.length : Int) < few then (ns.length : Int) else few) else 1) = max 1 (min few ns.length) := by omega
  rw [e]
  walk_at "V"
  refine ⟨by omega, by omega, fun D hD => ⟨fun i H' => ∃ ps : List Addr, ps.length = i ∧ Purses m H H' D ps ∧ H' D = some (.lst (ps.map V.ref)), ?_, ?_, ?_⟩⟩
  · exact ⟨[], rfl, ⟨Grow.new hD, hD, SqL.of upd_same, by simp, by simp, by simp⟩, upd_same⟩
  · rintro j H' hj ⟨ps, el, P, hl⟩ X' hX'
    have c0 := nc_of hX' 0 "_law_script"
    have c2 := nl_of hX' 2 "_law_at"
    refine w_call hX' D1 (by omega) rfl ?_
    walk_at "V"
    refine ⟨a, ns, j, rfl, P.grow.seqL hs (fun z => z), by omega, by omega, fun p H2 g np pp => ?_⟩
    have hD2 := g.extN D _ hl (fun _ z => by cases z)
    have hne : D ≠ p := (New.ne np hl).symm
    refine ⟨_, hD2, by rw [List.length_map, sizeLine_eq]; omega, ps ++ [p], by simp [el], ?_, by rw [upd_same]; simp⟩
    have gX := GrowX.lst (T := m.T) (ys := ps.map V.ref ++ [V.ref p]) hD2
    have gr := P.grow.intoNew (g.to.trans gX) (fun c z => by rw [z]; exact P.isn)
    refine ⟨gr, P.isn, by rw [List.map_append]; exact SqL.of upd_same, ?_, ?_, ?_⟩
    · have := P.nd
      have hp : p ∉ ps := fun z => by
        obtain ⟨_, e⟩ := (P.purse p z).at_
        rw [np] at e; cases e
      rw [List.nodup_cons] at this ⊢
      refine ⟨fun z => ?_, List.nodup_append.2 ⟨this.2, by simp, fun x hx y hy => ?_⟩⟩
      · rcases List.mem_append.1 z with z | z
        · exact this.1 z
        · exact hne (List.mem_singleton.1 z)
      · rw [List.mem_singleton.1 hy]; exact fun z => hp (z ▸ hx)
    · intro x hx
      rcases List.mem_append.1 hx with z | z
      · exact P.new x z
      · rw [List.mem_singleton.1 z]; exact P.grow.keep _ np
    · intro x hx
      rcases List.mem_append.1 hx with z | z
      · have nx : x ≠ D := fun w => (List.nodup_cons.1 P.nd).1 (w ▸ z)
        exact ((P.purse x z).new g).x gX nx
      · rw [List.mem_singleton.1 z]; exact pp.x gX hne.symm
  · rintro H' ⟨ps, el, P, hl⟩
    exact k D ps H' P (by omega)
/-! ### stairs, in numbers -/
/-- corners -/
structure Cor (cs : List Int) : Prop where
  asc : cs.Pairwise (· < ·)
  nn : ∀ c ∈ cs, 0 ≤ c
/-- the number of leading corners that are passed at n -/
def pas : List Int → Int → Nat
  | [], _ => 0
  | c :: cs, n => if c ≤ n then pas cs n + 1 else 0
/-- the base behind k corners -/
def bk (b : Int) (cs : List Int) : Nat → Int
  | 0 => b
  | k + 1 => if k % 2 = 0 then bk b cs k - cs.getD k 0 else bk b cs k + cs.getD k 0
def valK (b : Int) (cs : List Int) (k : Nat) (n : Int) : Int := if k % 2 = 1 then bk b cs k + n else bk b cs k
/-- what a stair tells -/
def val (b : Int) (cs : List Int) (n : Int) : Int := valK b cs (pas cs n) n
theorem pas_le : ∀ (cs : List Int) (n : Int), pas cs n ≤ cs.length
  | [], _ => Nat.le_refl 0
  | c :: cs, n => by
    unfold pas
    have := pas_le cs n
    split <;> simp <;> omega
theorem pas_lt : ∀ (cs : List Int) (n : Int) (i : Nat), i < pas cs n → cs.getD i 0 ≤ n
  | [], _, i, h => by simp [pas] at h
  | c :: cs, n, i, h => by
    unfold pas at h
    split at h
    · cases i with
      | zero => simpa using ‹c ≤ n›
      | succ i => simpa using pas_lt cs n i (by omega)
    · omega
theorem pas_ge : ∀ (cs : List Int) (n : Int), pas cs n < cs.length → n < cs.getD (pas cs n) 0
  | [], _, h => by simp [pas] at h
  | c :: cs, n, h => by
    unfold pas at h ⊢
    split
    · rw [if_pos ‹_›] at h
      simpa using pas_ge cs n (by simpa using h)
    · have : ¬ c ≤ n := ‹_›
      simp; omega
theorem pas_uniq : ∀ (cs : List Int) (n : Int) (k : Nat), k ≤ cs.length → (∀ i, i < k → cs.getD i 0 ≤ n) → (k < cs.length → n < cs.getD k 0) → pas cs n = k
  | [], _, k, h, _, _ => by simp at h; simp [pas, h]
  | c :: cs, n, 0, _, _, h => by
    have := h (by simp)
    unfold pas
    rw [if_neg (by simpa using this)]
  | c :: cs, n, k + 1, h1, h2, h3 => by
    unfold pas
    have c0 := h2 0 (by omega)
    rw [if_pos (by simpa using c0), pas_uniq cs n k (by simpa using h1) (fun i hi => by simpa using h2 (i + 1) (by omega)) (fun hk => by simpa using h3 (by simpa using hk))]
section
variable {cs : List Int} (h : Cor cs)
include h
theorem Cor.lt {i j : Nat} (hij : i < j) (hj : j < cs.length) : cs.getD i 0 < cs.getD j 0 := by
  have := List.pairwise_iff_getElem.1 h.asc i j (by omega) hj hij
  simpa [List.getD_eq_getElem?_getD, List.getElem?_eq_getElem hj, List.getElem?_eq_getElem (show i < cs.length by omega)] using this
theorem Cor.nn_at {i : Nat} (hi : i < cs.length) : 0 ≤ cs.getD i 0 := by
  have := h.nn cs[i] (List.getElem_mem hi)
  simpa [List.getD_eq_getElem?_getD, List.getElem?_eq_getElem hi] using this
/-- passed at a corner, and right behind it -/
theorem Cor.pas_at {i : Nat} (hi : i < cs.length) : pas cs (cs.getD i 0) = i + 1 :=
  pas_uniq cs _ (i + 1) (by omega) (fun j hj => by
    rcases Nat.lt_or_ge j i with z | z
    · exact Int.le_of_lt (h.lt z hi)
    · have : j = i := by omega
      rw [this]; exact Int.le_refl _) fun hk => h.lt (by omega) hk
theorem Cor.pas_mono {n m : Int} (hnm : n ≤ m) : pas cs n ≤ pas cs m := by
  rcases Nat.lt_or_ge (pas cs m) (pas cs n) with z | z
  · have h1 := pas_lt cs n (pas cs m) z
    have h2 := pas_ge cs m (by have := pas_le cs n; omega)
    omega
  · exact z
theorem Cor.pas_neg {n : Int} (hn : n < 0) : pas cs n = 0 :=
  pas_uniq cs n 0 (by omega) (fun i hi => by omega) fun hk => by have := h.nn_at hk; omega
theorem Cor.pas_step (n : Int) : pas cs (n + 1) = pas cs n ∨ (pas cs (n + 1) = pas cs n + 1 ∧ pas cs n < cs.length ∧ cs.getD (pas cs n) 0 = n + 1) := by
  have hl := pas_le cs n
  by_cases z : pas cs n < cs.length ∧ cs.getD (pas cs n) 0 = n + 1
  · right
    refine ⟨?_, z.1, z.2⟩
    refine pas_uniq cs _ _ (by omega) (fun i hi => ?_) fun hk => ?_
    · rcases Nat.lt_or_ge i (pas cs n) with w | w
      · have := pas_lt cs n i w; omega
      · have : i = pas cs n := by omega
        rw [this]; omega
    · have := h.lt (show pas cs n < pas cs n + 1 by omega) hk
      omega
  · left
    refine pas_uniq cs _ _ hl (fun i hi => by have := pas_lt cs n i hi; omega) fun hk => ?_
    have h1 := pas_ge cs n hk
    have h2 : cs.getD (pas cs n) 0 ≠ n + 1 := fun w => z ⟨hk, w⟩
    omega
theorem Cor.val_step (b n : Int) : val b cs (n + 1) = val b cs n + (pas cs n % 2 : Nat) := by
  unfold val
  rcases h.pas_step n with e | ⟨e, hl, hc⟩
  · rw [e]
    unfold valK
    split <;> omega
  · rw [e]
    generalize pas cs n = k at hc
    unfold valK
    have e1 : bk b cs (k + 1) = if k % 2 = 0 then bk b cs k - cs.getD k 0 else bk b cs k + cs.getD k 0 := rfl
    rcases Nat.mod_two_eq_zero_or_one k with z | z
    · rw [if_pos (by omega), if_neg (by omega), e1, if_pos z, hc]; omega
    · rw [if_neg (by omega), if_pos (by omega), e1, if_neg (by omega), hc]; omega
theorem Cor.val_zero (b : Int) : val b cs 0 = b := by
  have := h.val_step b (-1)
  rw [h.pas_neg (show (-1 : Int) < 0 by omega)] at this
  rw [show (-1 : Int) + 1 = 0 from rfl] at this
  rw [this]
  unfold val
  rw [h.pas_neg (show (-1 : Int) < 0 by omega)]
  show valK b cs 0 (-1) + 0 = b
  unfold valK bk
  rw [if_neg (by omega)]; omega
/-- along a stretch without corners -/
theorem Cor.val_flat {b n : Int} (m : Nat) (hp : pas cs (n + m) = pas cs n) : val b cs (n + m) = val b cs n + (pas cs n % 2 : Nat) * m := by
  unfold val
  rw [hp]
  unfold valK
  rcases Nat.mod_two_eq_zero_or_one (pas cs n) with z | z <;> simp [z] <;> omega
theorem Cor.val_mono {b n m : Int} (hnm : n ≤ m) : val b cs n ≤ val b cs m := by
  obtain ⟨k, rfl⟩ : ∃ k : Nat, m = n + k := ⟨(m - n).toNat, by omega⟩
  clear hnm
  induction k with
  | zero => simp
  | succ k ih =>
    have := h.val_step b (n + k)
    rw [show n + ((k + 1 : Nat) : Int) = n + k + 1 from by omega, this]
    omega
theorem Cor.filter_pas (n : Int) : (cs.filter fun c => decide (c ≤ n)).length = pas cs n := by
  have h' := h
  clear h
  induction cs with
  | nil => rfl
  | cons c cs ih =>
    have ih := ih ⟨(List.pairwise_cons.1 h'.asc).2, fun x hx => h'.nn x (by simp [hx])⟩
    unfold pas
    by_cases z : c ≤ n
    · rw [List.filter_cons_of_pos (by simpa using z), if_pos z, List.length_cons, ih]
    · rw [if_neg z, List.filter_cons_of_neg (by simpa using z)]
      have : cs.filter (fun c => decide (c ≤ n)) = [] := by
        rw [List.filter_eq_nil_iff]
        intro x hx
        have := (List.pairwise_cons.1 h'.asc).1 x hx
        simp; omega
      rw [this]; rfl
end
/-- the greatest of the first k corners at which at most num is told -/
def undK (b : Int) (cs : List Int) (num : Int) : Nat → Option Nat
  | 0 => none
  | k + 1 => if val b cs (cs.getD k 0) ≤ num then some k else undK b cs num k
def und (b : Int) (cs : List Int) (num : Int) : Option Int :=
  if num < b then some (-1) else match undK b cs num cs.length with
    | none => none
    | some i => if i % 2 = 0 then some (cs.getD i 0 + num - val b cs (cs.getD i 0)) else none
theorem undK_none {b : Int} {cs : List Int} {num : Int} : ∀ {k : Nat}, undK b cs num k = none → ∀ i, i < k → num < val b cs (cs.getD i 0)
  | 0, _, i, hi => by omega
  | k + 1, h, i, hi => by
    unfold undK at h
    split at h
    · cases h
    · rename_i z
      rcases Nat.lt_or_ge i k with w | w
      · exact undK_none h i w
      · have : i = k := by omega
        rw [this]; omega
theorem undK_some {b : Int} {cs : List Int} {num : Int} : ∀ {k i : Nat}, undK b cs num k = some i → i < k ∧ val b cs (cs.getD i 0) ≤ num ∧ ∀ j, i < j → j < k → num < val b cs (cs.getD j 0)
  | 0, i, h => by cases h
  | k + 1, i, h => by
    unfold undK at h
    split at h
    · rename_i z
      cases h
      exact ⟨by omega, z, fun j h1 h2 => by omega⟩
    · rename_i z
      obtain ⟨h1, h2, h3⟩ := undK_some h
      refine ⟨by omega, h2, fun j j1 j2 => ?_⟩
      rcases Nat.lt_or_ge j k with w | w
      · exact h3 j j1 w
      · have : j = k := by omega
        rw [this]; omega
section
variable {cs : List Int} (h : Cor cs)
include h
/-- from a corner up to the next one -/
theorem Cor.val_seg {b : Int} {i : Nat} (hi : i < cs.length) (m : Nat) (hm : i + 1 < cs.length → cs.getD i 0 + m ≤ cs.getD (i + 1) 0) : val b cs (cs.getD i 0 + m) = val b cs (cs.getD i 0) + ((i + 1) % 2 : Nat) * m := by
  induction m with
  | zero => simp
  | succ m ih =>
    have ih := ih (fun w => by have := hm w; omega)
    have hp : pas cs (cs.getD i 0 + m) = i + 1 := by
      refine pas_uniq cs _ _ (by omega) (fun j hj => ?_) fun hk => by have := hm hk; omega
      rcases Nat.lt_or_ge j i with z | z
      · have := h.lt z hi; omega
      · have : j = i := by omega
        rw [this]; omega
    have st := h.val_step b (cs.getD i 0 + m)
    rw [hp] at st
    rw [show cs.getD i 0 + ((m + 1 : Nat) : Int) = cs.getD i 0 + m + 1 from by omega, st, ih]
    rcases Nat.mod_two_eq_zero_or_one (i + 1) with z | z <;> simp [z] <;> omega
theorem Cor.val_first {b : Int} (hl : 0 < cs.length) : val b cs (cs.getD 0 0) = b := by
  unfold val
  rw [h.pas_at hl]
  unfold valK
  rw [if_pos (by omega)]
  show (if 0 % 2 = 0 then b - cs.getD 0 0 else b + cs.getD 0 0) + cs.getD 0 0 = b
  rw [if_pos (by omega)]; omega
/-- far out -/
theorem Cor.pas_all {n : Int} (hn : ∀ c ∈ cs, c ≤ n) : pas cs n = cs.length :=
  pas_uniq cs n _ (Nat.le_refl _) (fun i hi => by
    have := hn cs[i] (List.getElem_mem hi)
    simpa [List.getD_eq_getElem?_getD, List.getElem?_eq_getElem hi] using this) fun w => by omega
theorem Cor.val_far {b n : Int} (hn : ∀ c ∈ cs, c ≤ n) (m : Nat) : val b cs (n + m) = val b cs n + (cs.length % 2 : Nat) * m := by
  have e := h.pas_all hn
  have := h.val_flat (b := b) (n := n) m (by rw [e]; exact h.pas_all fun c hc => by have := hn c hc; omega)
  rw [e] at this
  exact this
/-- what undone tells, by what is told from 0 to 40 -/
theorem Cor.und_eq {b num : Int} (h40 : ∀ c ∈ cs, c ≤ 40) {q : Nat} (hq : q ≤ 41) (hv : ∀ n : Nat, n < 41 → (val b cs n ≤ num ↔ n < q)) :
    und b cs num = if q = 0 then some (-1) else if q < 41 then some ((q : Int) - 1) else if cs.length % 2 = 1 then some (40 + num - val b cs 40) else none := by
  have v0 := hv 0 (by omega)
  have e0 := h.val_zero b
  rw [show ((0 : Nat) : Int) = 0 from rfl, e0] at v0
  unfold und
  by_cases hb : num < b
  · have hq0 : q = 0 := by
      rcases Nat.eq_zero_or_pos q with z | z
      · exact z
      · have := v0.2 z; omega
    rw [if_pos hb, if_pos hq0]
  · have hq1 : 0 < q := v0.1 (by omega)
    rw [if_neg hb, if_neg (by omega)]
    have all : ∀ (v : Int), val b cs 40 = v → v ≤ num → q = 41 := fun v e l => by
      have := (hv 40 (by omega)).1 (by rw [show ((40 : Nat) : Int) = 40 from rfl, e]; exact l)
      omega
    cases hu : undK b cs num cs.length with
    | none =>
      have hl : cs.length = 0 := by
        rcases Nat.eq_zero_or_pos cs.length with z | z
        · exact z
        · have h1 := undK_none hu 0 z
          rw [h.val_first z] at h1; omega
      have hn : cs = [] := List.length_eq_zero_iff.1 hl
      have hq41 : q = 41 := all b (by rw [hn]; rfl) (by omega)
      rw [if_neg (by omega), if_neg (by omega)]
    | some i =>
      obtain ⟨hi, vi, later⟩ := undK_some hu
      have hc0 := h.nn_at hi
      have hci : cs.getD i 0 ≤ 40 := by
        have := h40 cs[i] (List.getElem_mem hi)
        simpa [List.getD_eq_getElem?_getD, List.getElem?_eq_getElem hi] using this
      have seg0 := fun m hm => h.val_seg (b := b) hi m hm
      obtain ⟨c, hc⟩ : ∃ c, cs.getD i 0 = c := ⟨_, rfl⟩
      obtain ⟨v, hvv⟩ : ∃ v, val b cs c = v := ⟨_, rfl⟩
      have seg : ∀ m : Nat, (i + 1 < cs.length → c + m ≤ cs.getD (i + 1) 0) → val b cs (c + m) = v + ((i + 1) % 2 : Nat) * m := by
        intro m hm
        have := seg0 m (by rw [hc]; exact hm)
        rw [hc, hvv] at this
        exact this
      clear seg0
      rw [hc] at hc0 hci vi
      rw [hvv] at vi
      dsimp only
      rw [hc, hvv]
      by_cases ev : i % 2 = 0
      · rw [if_pos ev]
        have od : (i + 1) % 2 = 1 := by omega
        rw [od] at seg
        -- the count t
        obtain ⟨k, hk⟩ : ∃ k : Nat, num - v = k := ⟨(num - v).toNat, by omega⟩
        by_cases hl : i + 1 < cs.length
        · have hc' : cs.getD (i + 1) 0 ≤ 40 := by
            have := h40 cs[i + 1] (List.getElem_mem hl)
            simpa [List.getD_eq_getElem?_getD, List.getElem?_eq_getElem hl] using this
          have up := later (i + 1) (by omega) hl
          have lt' : c < cs.getD (i + 1) 0 := by rw [← hc]; exact h.lt (by omega) hl
          generalize cs.getD (i + 1) 0 = c' at *
          have e' := seg (c' - c).toNat (fun _ => by omega)
          rw [show c + ((c' - c).toNat : Int) = c' from by omega] at e'
          have kl : (k : Int) < c' - c := by omega
          have e1 := seg k (fun _ => by omega)
          have e2 := seg (k + 1) (fun _ => by omega)
          obtain ⟨t, ht⟩ : ∃ t : Nat, c + k = t := ⟨(c + k).toNat, by omega⟩
          have a1 := (hv t (by omega)).1 (by rw [← ht, e1]; omega)
          have a2 : ¬ t + 1 < q := fun w => by
            have := (hv (t + 1) (by omega)).2 w
            rw [show ((t + 1 : Nat) : Int) = c + ((k + 1 : Nat) : Int) from by omega, e2] at this
            omega
          rw [if_pos (by omega)]
          congr 1; omega
        · have lo : cs.length % 2 = 1 := by omega
          obtain ⟨t, ht⟩ : ∃ t : Nat, c + k = t := ⟨(c + k).toNat, by omega⟩
          have e1 := seg k (fun w => absurd w hl)
          have e2 := seg (k + 1) (fun w => absurd w hl)
          by_cases ht40 : t < 40
          · have a1 := (hv t (by omega)).1 (by rw [← ht, e1]; omega)
            have a2 : ¬ t + 1 < q := fun w => by
              have := (hv (t + 1) (by omega)).2 w
              rw [show ((t + 1 : Nat) : Int) = c + ((k + 1 : Nat) : Int) from by omega, e2] at this
              omega
            rw [if_pos (by omega)]
            congr 1; omega
          · have e40 := seg (40 - c).toNat (fun w => absurd w hl)
            rw [show c + ((40 - c).toNat : Int) = 40 from by omega] at e40
            have hq41 := all _ e40 (by omega)
            rw [if_neg (by omega), if_pos lo, e40]
            congr 1; omega
      · rw [if_neg ev]
        have od : (i + 1) % 2 = 0 := by omega
        rw [od] at seg
        have hl : ¬ i + 1 < cs.length := fun hl => by
          have up := later (i + 1) (by omega) hl
          have lt' : c < cs.getD (i + 1) 0 := by rw [← hc]; exact h.lt (by omega) hl
          have e' := seg (cs.getD (i + 1) 0 - c).toNat (fun _ => by omega)
          rw [show c + ((cs.getD (i + 1) 0 - c).toNat : Int) = cs.getD (i + 1) 0 from by omega] at e'
          omega
        have e40 := seg (40 - c).toNat (fun w => absurd w hl)
        rw [show c + ((40 - c).toNat : Int) = 40 from by omega] at e40
        have hq41 := all _ e40 (by simp; exact vi)
        rw [if_neg (by omega), if_neg (by omega)]
end
def sp_is_whole (m : Md) : Sp := fun vs H Q _ => ∃ (v : V) (d : PyData) (A : Addr → Prop), vs = [v] ∧ Ob m.K A H v d ∧ Q (.bl (isWh d)) H
theorem c_is_whole {m : Md} {f : Addr} {fd : FuncData} (F : C8.Def m.K m.mg "is_whole" st_is_whole f fd) (b : L2.Binds m.K fd ps_is_whole []) (hi : m.mg "isinstance" = none) (h1 : m.mg "int" = none) (h2 : m.mg "bool" = none) : Cal m 1 "is_whole" (sp_is_whole m) := by
  refine cal_of F b sc_is_whole (fun vs H Q E h => by obtain ⟨_, _, _, rfl, _⟩ := h; rfl) fun X vs H Q E hA h => ?_
  obtain ⟨v, d, A, rfl, o, k⟩ := h
  have n0 := nv_is_whole
  walk_at "B"
  walk_at "V"
  refine g_blt hA hi rfl bt_isinstance ?_
  walk_at "V"
  refine w_tyn hA h1 rfl bt_int ?_
  walk_at "V"
  refine g_isi hA (.ty "int") o.ty (kit_ty (kit_all "int" (by decide) d)) ?_
  walk_at "V"
  rw [isWh_eq] at k
  refine ite2 (fun h0 => ?_) fun h0 => ?_
  · walk_at "V"
    refine g_blt hA hi rfl bt_isinstance ?_
    walk_at "V"
    refine w_tyn hA h2 rfl bt_bool ?_
    walk_at "V"
    refine g_isi hA (.ty "bool") o.ty (kit_ty (kit_all "bool" (by decide) d)) ?_
    walk_at "V"
    rw [h0] at k
    simpa using k
  · have e : isIn "int" d = false := by simpa using h0
    rw [e] at k
    exact k
def sp_is_count : Sp := fun vs H Q _ => ∃ i : Int, vs = [.int i] ∧ Q (.bl (decide (0 ≤ i))) H
theorem c_is_count {m : Md} {f : Addr} {fd : FuncData} (F : C8.Def m.K m.mg "is_count" st_is_count f fd) (b : L2.Binds m.K fd ps_is_count []) (W : Cal m 1 "is_whole" (sp_is_whole m)) : Cal m 2 "is_count" sp_is_count := by
  refine cal_of F b sc_is_count (fun vs H Q E h => by obtain ⟨_, rfl, _⟩ := h; rfl) fun X vs H Q E hA h => ?_
  obtain ⟨i, rfl, k⟩ := h
  have n0 := nv_is_count
  walk_at "B"
  walk_at "V"
  refine w_call hA W (by omega) rfl ?_
  walk_at "V"
  refine ⟨.int i, .int i, Any, rfl, .int i, ?_⟩
  walk_at "V"
  refine iteT ?_
  walk_at "V"
  exact k
def sp_need_whole : Sp := fun vs H Q _ => ∃ i : Int, vs = [.int i] ∧ Q .non H
theorem c_need_whole {m : Md} {f : Addr} {fd : FuncData} (F : C8.Def m.K m.mg "need_whole" st_need_whole f fd) (b : L2.Binds m.K fd ps_need_whole []) (W : Cal m 1 "is_whole" (sp_is_whole m)) : Cal m 2 "need_whole" sp_need_whole := by
  refine cal_of F b sc_need_whole (fun vs H Q E h => by obtain ⟨_, rfl, _⟩ := h; rfl) fun X vs H Q E hA h => ?_
  obtain ⟨i, rfl, k⟩ := h
  have n0 := nv_need_whole
  walk_at "B"
  walk_at "V"
  refine w_call hA W (by omega) rfl ?_
  walk_at "V"
  refine ⟨.int i, .int i, Any, rfl, .int i, ?_⟩
  walk_at "V"
  exact iteF (b_nil (b_nil k))
def sp_need_count : Sp := fun vs H Q _ => ∃ l i : Int, vs = [.int l, .int i] ∧ 0 ≤ i ∧ l ≤ i ∧ Q .non H
theorem c_need_count {m : Md} {f : Addr} {fd : FuncData} (F : C8.Def m.K m.mg "need_count_from" st_need_count_from f fd) (b : L2.Binds m.K fd ps_need_count_from []) (W : Cal m 2 "is_count" sp_is_count) : Cal m 3 "need_count_from" sp_need_count := by
  refine cal_of F b sc_need_count_from (fun vs H Q E h => by obtain ⟨_, _, rfl, _⟩ := h; rfl) fun X vs H Q E hA h => ?_
  obtain ⟨l, i, rfl, h0, hl, k⟩ := h
  obtain ⟨n0, n1⟩ := nv_need_count_from
  walk_at "B"
  walk_at "V"
  refine w_call hA W (by omega) rfl ?_
  walk_at "V"
  refine ⟨i, rfl, ?_⟩
  rw [decide_eq_true h0]
  walk_at "V"
  refine iteF ?_
  walk_at "V"
  rw [decide_eq_false (by omega)]
  exact iteF (b_nil (b_nil k))
/-- a stair at i: its begin, its corners in a list of its own, at an address of A -/
def StairAt (C : Addr) (A : Addr → Prop) (H : Hp) (i : Addr) (b : Int) (cs : List Int) : Prop := ∃ dx lc, H i = some (.ins C dx [("_begin", .int b), ("_corners", .ref lc)]) ∧ H lc = some (.lst (cs.map V.int)) ∧ A lc
/-- what is known of the class of stairs -/
structure StC (m : Md) (C : Addr) : Prop where
  cl : Cls m.K C
  nb : NoAttr m.K C "_begin"
  nc : NoAttr m.K C "_corners"
  gS : m.mg "Stair" = some (.ref C)
theorem StairAt.sub {C : Addr} {A A' : Addr → Prop} {H : Hp} {i : Addr} {b : Int} {cs : List Int} (s : StairAt C A H i b cs) (h : ∀ a, A a → A' a) : StairAt C A' H i b cs := by
  obtain ⟨dx, lc, h1, h2, h3⟩ := s
  exact ⟨dx, lc, h1, h2, h _ h3⟩
theorem StairAt.grow {T : List (Addr × Str)} {S : Addr → Prop} {C : Addr} {A : Addr → Prop} {H H' : Hp} {i : Addr} {b : Int} {cs : List Int} (s : StairAt C A H i b cs) (g : GrowX T S H H') (n : ∀ a, A a → ¬ S a) (ni : ¬ S i) : StairAt C A H' i b cs := by
  obtain ⟨dx, lc, h1, h2, h3⟩ := s
  exact ⟨dx, lc, g.ext _ _ ni h1 (fun _ z => by cases z), g.ext _ _ (n _ h3) h2 (fun _ z => by cases z), h3⟩
def sp_begin (C : Addr) : Sp := fun vs H Q _ => ∃ (i : Addr) (b : Int) (cs : List Int), vs = [.ref i] ∧ StairAt C Any H i b cs ∧ Q (.int b) H
def sp_corn (m : Md) (C : Addr) : Sp := fun vs H Q _ => ∃ (i : Addr) (b : Int) (cs : List Int), vs = [.ref i] ∧ StairAt C Any H i b cs ∧ ∀ (r : Addr) (H' : Hp), Grow m.T H H' → New H r → H' r = some (.lst (cs.map V.int)) → Q (.ref r) H'
theorem m_begin {m : Md} {C f : Addr} {fd : FuncData} (R : StC m C) (F : C8.Fun m.K "begin" "Stair.begin" st_Stair_begin f fd) : FnG m C8.CX0 1 f fd ps_Stair_begin (sp_begin C) := by
  refine fnG_of F sc_Stair_begin (fun vs H Q E h => by obtain ⟨_, _, _, rfl, _⟩ := h; rfl) fun X vs H Q E hA hM h => ?_
  obtain ⟨i, b, cs, rfl, ⟨dx, lc, h1, h2, _⟩, k⟩ := h
  have n0 := nv_Stair_begin
  walk_at "B"
  walk_at "V"
  refine w_fld hA R.cl R.nb ?_
  walk_at "V"
  exact ⟨i, dx, _, _, rfl, h1, rfl, k⟩
theorem m_corn {m : Md} {C f : Addr} {fd : FuncData} (R : StC m C) (hl : m.mg "list" = none) (F : C8.Fun m.K "corners" "Stair.corners" st_Stair_corners f fd) : FnG m C8.CX0 1 f fd ps_Stair_corners (sp_corn m C) := by
  refine fnG_of F sc_Stair_corners (fun vs H Q E h => by obtain ⟨_, _, _, rfl, _⟩ := h; rfl) fun X vs H Q E hA hM h => ?_
  obtain ⟨i, b, cs, rfl, ⟨dx, lc, h1, h2, _⟩, k⟩ := h
  have n0 := nv_Stair_corners
  walk_at "B"
  walk_at "V"
  refine g_typ hA hl rfl bt_list ?_
  walk_at "V"
  refine w_fld hA R.cl R.nc ?_
  walk_at "V"
  refine ⟨i, dx, _, _, rfl, h1, rfl, ?_⟩
  walk_at "V"
  refine g_listOf hA (.inl (SqL.of h2)) fun p hp => ?_
  exact k p _ (Grow.new hp) hp upd_same
/-- the corners are told to be right -/
def sp_are (m : Md) : Sp := fun vs H Q _ => ∃ (a : Addr) (cs : List Int), vs = [.ref a] ∧ SqL m.K H a (cs.map V.int) ∧ Cor cs ∧ cs.length < 4000 ∧ ∀ H', Grow m.T H H' → Q (.bl true) H'
theorem getD_get {cs : List Int} {j : Nat} (hj : j < cs.length) : cs[j]? = some (cs.getD j 0) := by
  simp [List.getD_eq_getElem?_getD, List.getElem?_eq_getElem hj]
theorem c_are {m : Md} {f : Addr} {fd : FuncData} (F : C8.Def m.K m.mg "_are_corners" st_x_are_corners f fd) (b : L2.Binds m.K fd ps_x_are_corners []) (hi : m.mg "isinstance" = none) (hl : m.mg "list" = none) (ha : m.mg "all" = none) (hr : m.mg "range" = none) (hn : m.mg "len" = none) (W : Cal m 2 "is_count" sp_is_count) : Cal m 3 "_are_corners" (sp_are m) := by
  refine cal_ofM F b sc_x_are_corners (fun vs H Q E h => by obtain ⟨_, _, rfl, _⟩ := h; rfl) fun X vs H Q E hA hM h => ?_
  obtain ⟨a, cs, rfl, hs, hc, hlen, k⟩ := h
  have n0 := nv_x_are_corners
  walk_at "B"
  walk_at "V"
  refine g_blt hA hi rfl bt_isinstance ?_
  walk_at "V"
  refine w_tyn hA hl rfl bt_list ?_
  walk_at "V"
  refine g_isi hA (.ty "list") (tyx_lst hs) (kit_ty (kit_all "list" (by decide) (.list []))) ?_
  walk_at "V"
  refine iteF ?_
  walk_at "V"
  refine g_blt hA ha rfl bt_all ?_
  refine w_cons (w_lcL hA (by decide +kernel) (i := 1) ⟨rfl, rfl⟩ ?_)
  walk_at "V"
  refine ⟨a, _, rfl, hs, fun D hD => ?_⟩
  refine ⟨fun j H' => Grow m.T H H' ∧ H' D = some (.lst ((List.replicate j true).map V.bl)), ⟨Grow.new hD, upd_same⟩, ?_, ?_, ?_⟩
  · rintro j H' _ ⟨g, _⟩
    exact GrowX.seqL g hs fun z => z
  · rintro j x H' hx ⟨g, hd⟩ X' hX'
    have c1 := nl_of hX' 1 "corner"
    rw [List.getElem?_map] at hx
    obtain ⟨c, hcj, rfl⟩ := Option.map_eq_some_iff.1 hx
    have hj : j < cs.length := (List.getElem?_eq_some_iff.1 hcj).1
    refine w_call hX' W (by omega) rfl ?_
    walk_at "V"
    refine ⟨c, rfl, ?_⟩
    rw [decide_eq_true (hc.nn c (List.mem_of_getElem? hcj))]
    refine ⟨_, hd, by rw [List.length_map, List.length_replicate, sizeLine_eq]; omega, Grow.intoNew g (GrowX.lst hd) fun c w => by rw [w]; exact hD, ?_⟩
    rw [upd_same, List.replicate_succ', List.map_append]; rfl
  · rintro H1 ⟨g1, hd⟩
    walk_at "V"
    refine g_all hA (SqL.of hd) ?_
    have e : ∀ n, (List.replicate n true).all id = true := fun n => by simp
    rw [e]
    walk_at "V"
    refine iteF (b_nil ?_)
    walk_at "B"
    walk_at "V"
    refine g_blt hA ha rfl bt_all ?_
    refine w_cons (w_lcR2 hA hr rfl (by decide +kernel) (i := 2) ⟨rfl, rfl⟩ ?_)
    walk_at "V"
    refine g_blt hA hn rfl bt_len ?_
    walk_at "V"
    have hs1 := GrowX.seqL g1 hs fun z => z
    refine g_lenL hA hs1 ?_
    rw [List.length_map]
    walk_at "V"
    refine ⟨1, cs.length, rfl, by omega, fun D2 hD2 => ?_⟩
    refine ⟨fun j H' => Grow m.T H1 H' ∧ H' D2 = some (.lst ((List.replicate j true).map V.bl)), ⟨Grow.new hD2, upd_same⟩, ?_, ?_⟩
    · rintro j H' hj ⟨g, hd⟩ X' hX'
      have c0 := nc_of hX' 0 "value"
      have c2 := nl_of hX' 2 "at"
      have hj1 : j + 1 < cs.length := by omega
      have hsj := GrowX.seqL g hs1 fun z => z
      walk_at "V"
      rw [show (1 + (j : Int) - 1) = (j : Nat) from by omega]
      refine g_ixL hX' hsj (atI_at (by rw [List.getElem?_map, getD_get (show j < cs.length by omega)]; rfl)) ?_
      walk_at "V"
      rw [show (1 + (j : Int)) = ((j + 1 : Nat) : Int) from by omega]
      refine g_ixL hX' hsj (atI_at (by rw [List.getElem?_map, getD_get hj1]; rfl)) ?_
      walk_at "V"
      rw [decide_eq_true (hc.lt (show j < j + 1 by omega) hj1)]
      refine ⟨_, hd, by rw [List.length_map, List.length_replicate, sizeLine_eq]; omega, Grow.intoNew g (GrowX.lst hd) fun c w => by rw [w]; exact hD2, ?_⟩
      rw [upd_same, List.replicate_succ', List.map_append]; rfl
    · rintro H2 ⟨g2, hd2⟩
      walk_at "V"
      refine g_all hA (SqL.of hd2) ?_
      rw [e]
      exact k H2 (g1.trans g2)
def told2 (b : Int) (cs : List Int) (n : Int) : PyData := .tuple [.int (val b cs n), .int ((pas cs n % 2 : Nat) : Int)]
def sp_course (m : Md) (C : Addr) : Sp := fun vs H Q _ => ∃ (i l : Addr) (b : Int) (cs ns : List Int), vs = [.ref i, .ref l] ∧ StairAt C Any H i b cs ∧ Cor cs ∧ cs.length < 4000 ∧ SqL m.K H l (ns.map V.int) ∧ ns.Pairwise (· ≤ ·) ∧ ns.length < 4000 ∧
  ∀ (r : Addr) (xs : List V) (H' : Hp), Grow m.T H H' → New H r → H' r = some (.lst xs) → DaAll m.K Any H' xs (ns.map (told2 b cs)) → Q (.ref r) H'
theorem c_course {m : Md} {C f g1 g2 p1 p2 : Addr} {fd fd1 fd2 : FuncData} (F : C8.Def m.K m.mg "_course" st_x_course f fd) (b : L2.Binds m.K fd ps_x_course []) (R : StC m C) (hn : m.mg "len" = none) (P1 : PropOf m.K C "begin" p1 g1) (F1 : FnG m C8.CX0 1 g1 fd1 ps_Stair_begin (sp_begin C)) (b1 : L2.Binds m.K fd1 ps_Stair_begin [])
    (P2 : PropOf m.K C "corners" p2 g2) (F2 : FnG m C8.CX0 1 g2 fd2 ps_Stair_corners (sp_corn m C)) (b2 : L2.Binds m.K fd2 ps_Stair_corners []) : Cal m 3 "_course" (sp_course m C) := by
  refine cal_of F b sc_x_course (fun vs H Q E h => by obtain ⟨_, _, _, _, _, rfl, _⟩ := h; rfl) fun X vs H Q E hA h => ?_
  obtain ⟨i, l, bb, cs, ns, rfl, st, hc, hcl, hs, hns, hnl, k⟩ := h
  obtain ⟨n0, n1, n2, n3, n4, n5, n6⟩ := nv_x_course
  walk_at "B"
  walk_at "V"
  refine w_prop hA R.cl P2 F2 b2 (by omega) ?_
  walk_at "V"
  have st' := st
  obtain ⟨dx, lc, h1, h2, _⟩ := st'
  refine ⟨i, dx, _, rfl, h1, i, bb, cs, rfl, st, fun c2 H1 gr1 nc2 hc2 => ?_⟩
  walk_at "B"
  walk_at "V"
  refine ⟨by walk_at "S", fun r hr => ?_⟩
  have gr := Grow.new (T := m.T) (o := .lst []) hr
  walk_at "V"
  refine w_prop hA R.cl P1 F1 b1 (by omega) ?_
  walk_at "V"
  have g2' := gr1.trans gr
  have st2 := st.grow (T := m.T) g2' (fun _ _ z => z) (fun z => z)
  have st2' := st2
  obtain ⟨dx2, lc2, h12, h22, _⟩ := st2'
  refine ⟨i, dx2, _, rfl, h12, i, bb, cs, rfl, st2, ?_⟩
  have hrl : New H r := gr1.keep _ hr
  have hc2r : c2 ≠ r := fun w => by rw [← w, hc2] at hr; cases hr
  walk_at "B"
  refine s_forL hA (pg_nl hA n6) ?_
  walk_at "V"
  refine ⟨l, _, rfl, GrowX.seqL g2' hs fun z => z, fun j σ H' => ∃ (kk : Nat) (xs : List V), σ = [some (.ref i), some (.ref l), some (.ref c2), some (.ref r), some (.int kk), some (.int (bk bb cs kk)), σ.getD 6 none] ∧ kk ≤ cs.length ∧ (∀ q, q < kk → ∀ n ∈ ns.drop j, cs.getD q 0 ≤ n) ∧
    H' r = some (.lst xs) ∧ DaAll m.K (fun _ => False) H' xs ((ns.take j).map (told2 bb cs)) ∧ xs.length = j ∧ Grow m.T H H' ∧ H' c2 = some (.lst (cs.map V.int)), ?_, ?_, ?_, ?_⟩
  · exact ⟨0, [], rfl, by omega, fun q hq => by omega, upd_same, .nil, rfl, g2', by rw [upd_ne hc2r]; exact hc2⟩
  · rintro j σ H' _ ⟨_, _, _, _, _, _, _, _, g, _⟩
    exact GrowX.seqL g hs fun z => z
  · rintro j x σ H' hx ⟨kk, xs, es, hk, hpast, hxs, dxs, hxl, g, hcc⟩
    rw [List.getElem?_map] at hx
    obtain ⟨n, hnj, rfl⟩ := Option.map_eq_some_iff.1 hx
    have hj : j < ns.length := (List.getElem?_eq_some_iff.1 hnj).1
    have edrop : ns.drop j = n :: ns.drop (j + 1) := by
      rw [List.drop_eq_getElem_cons hj, (List.getElem?_eq_some_iff.1 hnj).2]
    have hkp : kk ≤ pas cs n := by
      rcases Nat.lt_or_ge (pas cs n) kk with z | z
      · have := pas_ge cs n (by omega)
        have := hpast (pas cs n) z n (by rw [edrop]; simp)
        omega
      · exact z
    rw [es]
    walk_at "B"
    refine s_while hA ⟨fun σ' H'' => ∃ k' : Nat, k' ≤ pas cs n ∧ σ' = [some (.ref i), some (.ref l), some (.ref c2), some (.ref r), some (.int k'), some (.int (bk bb cs k')), some (.int n)] ∧ H'' = H', fun σ' _ => cs.length - (match σ'.getD 4 none with | some (.int p) => p.toNat | _ => 0), ⟨kk, hkp, rfl, rfl⟩, ?_⟩
    rintro σ' H'' ⟨k', hk', rfl, rfl⟩
    have hpl := pas_le cs n
    walk_at "V"
    refine g_blt hA hn rfl bt_len ?_
    walk_at "V"
    refine g_lenL hA (SqL.of hcc) ?_
    rw [List.length_map]
    walk_at "V"
    refine ite2 (fun h0 => ?_) fun h0 => ?_
    · walk_at "V"
      have hlt : k' < cs.length := by simp only [decide_eq_true_eq] at h0; omega
      refine g_ixL hA (SqL.of hcc) (atI_at (by rw [List.getElem?_map, getD_get hlt]; rfl)) ?_
      walk_at "V"
      refine ite2 (fun h1 => ?_) fun h1 => ?_
      · have hle : cs.getD k' 0 ≤ n := by simpa using h1
        have hk2 : k' < pas cs n := by
          rcases Nat.lt_or_ge k' (pas cs n) with z | z
          · exact z
          · have e : k' = pas cs n := by omega
            have := pas_ge cs n (by omega)
            rw [← e] at this; omega
        walk_at "V"
        refine g_modI (by omega) ?_
        walk_at "V"
        have stp : ∀ v, v = bk bb cs (k' + 1) → (∃ k2 : Nat, k2 ≤ pas cs n ∧ [some (V.ref i), some (.ref l), some (.ref c2), some (.ref r), some (.int ((k' : Int) + 1)), some (.int v), some (.int n)] = [some (.ref i), some (.ref l), some (.ref c2), some (.ref r), some (.int k2), some (.int (bk bb cs k2)), some (.int n)] ∧ H'' = H'') ∧ cs.length - ((k' : Int) + 1).toNat < cs.length - (k' : Int).toNat := by
          intro v ev
          refine ⟨⟨k' + 1, by omega, by rw [ev]; rfl, rfl⟩, by omega⟩
        refine ite2 (fun h2 => ?_) fun h2 => ?_
        · walk_at "V"
          refine g_ixL hA (SqL.of hcc) (atI_at (by rw [List.getElem?_map, getD_get hlt]; rfl)) ?_
          walk_at "V"
          refine stp _ ?_
          simp only [decide_eq_true_eq] at h2
          show _ = if k' % 2 = 0 then _ else _
          rw [if_pos (by omega)]
        · walk_at "V"
          refine g_ixL hA (SqL.of hcc) (atI_at (by rw [List.getElem?_map, getD_get hlt]; rfl)) ?_
          walk_at "V"
          refine stp _ ?_
          have h2 : ¬ ((k' : Int) % 2 = 0) := by simpa using h2
          show _ = if k' % 2 = 0 then _ else _
          rw [if_neg (by omega)]
      · have hkp' : k' = pas cs n := by
          have : ¬ cs.getD k' 0 ≤ n := by simpa using h1
          rcases Nat.lt_or_ge k' (pas cs n) with z | z
          · have := pas_lt cs n k' z; omega
          · omega
        subst hkp'
        walk_at "B"
        walk_at "V"
        refine g_append ?_
        walk_at "V"
        refine ⟨tyL hxs, ?_⟩
        walk_at "V"
        refine g_modI (by omega) ?_
        walk_at "V"
        have e2 : ((pas cs n : Int) % 2) = ((pas cs n % 2 : Nat) : Int) := by omega
        rw [e2]
        have hval : ∀ (v w : Int) (q : Addr), H'' q = none → val bb cs n = v → ((pas cs n % 2 : Nat) : Int) = w → ∃ (l' : Addr) (xs' : List V) (y : V), V.ref r = .ref l' ∧ [V.ref q] = [y] ∧ upd H'' q (.tup [.int v, .int w]) l' = some (.lst xs') ∧ xs'.length < sizeLine ∧ (∃ (kk : Nat) (xs : List V), [some (V.ref i), some (.ref l), some (.ref c2), some (.ref r), some (.int (pas cs n : Nat)), some (.int (bk bb cs (pas cs n))), some (.int n)] = [some (.ref i), some (.ref l), some (.ref c2), some (.ref r), some (.int kk), some (.int (bk bb cs kk)), List.getD [some (V.ref i), some (.ref l), some (.ref c2), some (.ref r), some (.int (pas cs n : Nat)), some (.int (bk bb cs (pas cs n))), some (.int n)] 6 none] ∧ kk ≤ cs.length ∧ (∀ q, q < kk → ∀ n ∈ ns.drop (j + 1), cs.getD q 0 ≤ n) ∧
            upd (upd H'' q (.tup [.int v, .int w])) l' (.lst (xs' ++ [y])) r = some (.lst xs) ∧ DaAll m.K (fun _ => False) (upd (upd H'' q (.tup [.int v, .int w])) l' (.lst (xs' ++ [y]))) xs ((ns.take (j + 1)).map (told2 bb cs)) ∧ xs.length = j + 1 ∧ Grow m.T H (upd (upd H'' q (.tup [.int v, .int w])) l' (.lst (xs' ++ [y]))) ∧ upd (upd H'' q (.tup [.int v, .int w])) l' (.lst (xs' ++ [y])) c2 = some (.lst (cs.map V.int))) := by
          intro v w q hq ev ew
          have gq := Grow.new (T := m.T) (o := .tup [.int v, .int w]) hq
          have hx1 := Grow.extN gq _ _ hxs (fun _ z => by cases z)
          have hc1 := Grow.extN gq _ _ hcc (fun _ z => by cases z)
          have gX := GrowX.lst (T := m.T) (ys := xs ++ [V.ref q]) hx1
          refine ⟨r, xs, .ref q, rfl, rfl, hx1, by rw [hxl, sizeLine_eq]; omega, pas cs n, xs ++ [.ref q], rfl, hpl, fun q' hq' n' hn' => ?_, upd_same, ?_, by simp [hxl], Grow.intoNew (g.trans gq) gX fun c z => by rw [z]; exact hrl, by rw [upd_ne hc2r]; exact hc1⟩
          · have h1 := pas_lt cs n q' hq'
            have h2 := (List.pairwise_cons.1 (by rw [← edrop]; exact hns.sublist (List.drop_sublist _ _) : (n :: ns.drop (j + 1)).Pairwise (· ≤ ·))).1 n' hn'
            omega
          · have et : (ns.take (j + 1)).map (told2 bb cs) = (ns.take j).map (told2 bb cs) ++ [told2 bb cs n] := by
              rw [List.take_add_one, hnj]; simp
            rw [et]
            have one : Da m.K (fun _ => False) (upd H'' q (.tup [.int v, .int w])) (.ref q) (told2 bb cs n) := by
              unfold told2
              rw [ev, ew]
              exact .tup (SqT.of upd_same) (.cons (.int _) (.cons (.int _) .nil))
            exact (gX.daAll (Grow.daAll gq dxs) fun _ z => z.elim).append (.cons (gX.da one fun _ z => z.elim) .nil)
        refine ite2 (fun h2 => ?_) fun h2 => ?_
        · have h2 : ((pas cs n % 2 : Nat) : Int) = 1 := by simpa using h2
          walk_at "V"
          refine ⟨by walk_at "S", fun q hq => ?_⟩
          obtain ⟨l', xs', y, e1, e2, e3, e4, rest⟩ := hval (bk bb cs (pas cs n) + n) 1 q hq (by unfold val valK; rw [if_pos (by omega)]) h2
          refine w_nil ⟨l', xs', y, e1, e2, e3, e4, ?_⟩
          exact b_nil rest
        · have h2 : ¬ ((pas cs n % 2 : Nat) : Int) = 1 := by simpa using h2
          walk_at "V"
          refine ⟨by walk_at "S", fun q hq => ?_⟩
          obtain ⟨l', xs', y, e1, e2, e3, e4, rest⟩ := hval (bk bb cs (pas cs n)) 0 q hq (by unfold val valK; rw [if_neg (by omega)]) (by omega)
          refine w_nil ⟨l', xs', y, e1, e2, e3, e4, ?_⟩
          exact b_nil rest
    · have hkp' : k' = pas cs n := by
        have h0 : ¬ ((k' : Int) < cs.length) := by simpa using h0
        omega
      subst hkp'
      walk_at "B"
      walk_at "V"
      refine g_append ?_
      walk_at "V"
      refine ⟨tyL hxs, ?_⟩
      walk_at "V"
      refine g_modI (by omega) ?_
      walk_at "V"
      have e2 : ((pas cs n : Int) % 2) = ((pas cs n % 2 : Nat) : Int) := by omega
      rw [e2]
      have hval : ∀ (v w : Int) (q : Addr), H'' q = none → val bb cs n = v → ((pas cs n % 2 : Nat) : Int) = w → ∃ (l' : Addr) (xs' : List V) (y : V), V.ref r = .ref l' ∧ [V.ref q] = [y] ∧ upd H'' q (.tup [.int v, .int w]) l' = some (.lst xs') ∧ xs'.length < sizeLine ∧ (∃ (kk : Nat) (xs : List V), [some (V.ref i), some (.ref l), some (.ref c2), some (.ref r), some (.int (pas cs n : Nat)), some (.int (bk bb cs (pas cs n))), some (.int n)] = [some (.ref i), some (.ref l), some (.ref c2), some (.ref r), some (.int kk), some (.int (bk bb cs kk)), List.getD [some (V.ref i), some (.ref l), some (.ref c2), some (.ref r), some (.int (pas cs n : Nat)), some (.int (bk bb cs (pas cs n))), some (.int n)] 6 none] ∧ kk ≤ cs.length ∧ (∀ q, q < kk → ∀ n ∈ ns.drop (j + 1), cs.getD q 0 ≤ n) ∧
          upd (upd H'' q (.tup [.int v, .int w])) l' (.lst (xs' ++ [y])) r = some (.lst xs) ∧ DaAll m.K (fun _ => False) (upd (upd H'' q (.tup [.int v, .int w])) l' (.lst (xs' ++ [y]))) xs ((ns.take (j + 1)).map (told2 bb cs)) ∧ xs.length = j + 1 ∧ Grow m.T H (upd (upd H'' q (.tup [.int v, .int w])) l' (.lst (xs' ++ [y]))) ∧ upd (upd H'' q (.tup [.int v, .int w])) l' (.lst (xs' ++ [y])) c2 = some (.lst (cs.map V.int))) := by
        intro v w q hq ev ew
        have gq := Grow.new (T := m.T) (o := .tup [.int v, .int w]) hq
        have hx1 := Grow.extN gq _ _ hxs (fun _ z => by cases z)
        have hc1 := Grow.extN gq _ _ hcc (fun _ z => by cases z)
        have gX := GrowX.lst (T := m.T) (ys := xs ++ [V.ref q]) hx1
        refine ⟨r, xs, .ref q, rfl, rfl, hx1, by rw [hxl, sizeLine_eq]; omega, pas cs n, xs ++ [.ref q], rfl, hpl, fun q' hq' n' hn' => ?_, upd_same, ?_, by simp [hxl], Grow.intoNew (g.trans gq) gX fun c z => by rw [z]; exact hrl, by rw [upd_ne hc2r]; exact hc1⟩
        · have h1 := pas_lt cs n q' hq'
          have h2 := (List.pairwise_cons.1 (by rw [← edrop]; exact hns.sublist (List.drop_sublist _ _) : (n :: ns.drop (j + 1)).Pairwise (· ≤ ·))).1 n' hn'
          omega
        · have et : (ns.take (j + 1)).map (told2 bb cs) = (ns.take j).map (told2 bb cs) ++ [told2 bb cs n] := by
            rw [List.take_add_one, hnj]; simp
          rw [et]
          have one : Da m.K (fun _ => False) (upd H'' q (.tup [.int v, .int w])) (.ref q) (told2 bb cs n) := by
            unfold told2
            rw [ev, ew]
            exact .tup (SqT.of upd_same) (.cons (.int _) (.cons (.int _) .nil))
          exact (gX.daAll (Grow.daAll gq dxs) fun _ z => z.elim).append (.cons (gX.da one fun _ z => z.elim) .nil)
      refine ite2 (fun h2 => ?_) fun h2 => ?_
      · have h2 : ((pas cs n % 2 : Nat) : Int) = 1 := by simpa using h2
        walk_at "V"
        refine ⟨by walk_at "S", fun q hq => ?_⟩
        obtain ⟨l', xs', y, e1, e2, e3, e4, rest⟩ := hval (bk bb cs (pas cs n) + n) 1 q hq (by unfold val valK; rw [if_pos (by omega)]) h2
        refine w_nil ⟨l', xs', y, e1, e2, e3, e4, ?_⟩
        exact b_nil rest
      · have h2 : ¬ ((pas cs n % 2 : Nat) : Int) = 1 := by simpa using h2
        walk_at "V"
        refine ⟨by walk_at "S", fun q hq => ?_⟩
        obtain ⟨l', xs', y, e1, e2, e3, e4, rest⟩ := hval (bk bb cs (pas cs n)) 0 q hq (by unfold val valK; rw [if_neg (by omega)]) (by omega)
        refine w_nil ⟨l', xs', y, e1, e2, e3, e4, ?_⟩
        exact b_nil rest
  · rintro σ H' ⟨kk, xs, es, hk, _, hxs, dxs, hxl, g, hcc⟩
    rw [List.length_map, List.take_length] at *
    rw [es]
    walk_at "B"
    walk_at "V"
    exact k r xs H' g hrl hxs (dxs.sub fun _ z => z.elim)
theorem da_tup {K : PySem.W.Frag} {A : Addr → Prop} {H : Hp} {v : V} {ds : List PyData} (h : Da K A H v (.tuple ds)) : ∃ a xs, v = .ref a ∧ SqT K H a xs ∧ DaAll K A H xs ds := by
  cases h with | tup s r => exact ⟨_, _, rfl, s, r⟩
theorem g_truI {X : Cx} {i : Int} {H : Hp} {QB : Bool → Hp → Prop} (q : QB (i != 0) H) : gTru X (.int i) H QB := ⟨_, rfl, q⟩
/-- the facts of the two properties -/
structure Prp (m : Md) (C : Addr) : Prop where
  pb : ∃ p g fd, PropOf m.K C "begin" p g ∧ FnG m C8.CX0 1 g fd ps_Stair_begin (sp_begin C) ∧ L2.Binds m.K fd ps_Stair_begin []
  pc : ∃ p g fd, PropOf m.K C "corners" p g ∧ FnG m C8.CX0 1 g fd ps_Stair_corners (sp_corn m C) ∧ L2.Binds m.K fd ps_Stair_corners []
def sp_sinit (m : Md) (C : Addr) : Sp := fun vs H Q _ => ∃ (i dx a : Addr) (b : Int) (cs : List Int), vs = [.ref i, .int b, .ref a] ∧ H i = some (.ins C dx []) ∧ SqL m.K H a (cs.map V.int) ∧ a ≠ i ∧ Cor cs ∧ cs.length < 4000 ∧
  ∀ (lc : Addr) (H' : Hp), GrowX m.T (· = i) H H' → New H lc → H' i = some (.ins C dx [("_begin", .int b), ("_corners", .ref lc)]) → H' lc = some (.lst (cs.map V.int)) → Q .non H'
theorem f_sinit {m : Md} {C f : Addr} {fd : FuncData} (R : StC m C) (hl : m.mg "list" = none) (F : C8.Fun m.K "__init__" "Stair.__init__" st_Stair_init f fd) (W : Cal m 2 "need_whole" sp_need_whole) (A : Cal m 3 "_are_corners" (sp_are m)) : FnG m C8.CX0 4 f fd ps_Stair_init (sp_sinit m C) := by
  refine fnG_of F sc_Stair_init (fun vs H Q E h => by obtain ⟨_, _, _, _, _, rfl, _⟩ := h; rfl) fun X vs H Q E hA hM h => ?_
  obtain ⟨i, dx, a, b, cs, rfl, hi, hs, hai, hc, hcl, k⟩ := h
  obtain ⟨n0, n1, n2⟩ := nv_Stair_init
  walk_at "B"
  walk_at "V"
  refine w_call hA W (by omega) rfl ?_
  walk_at "V"
  refine ⟨b, rfl, ?_⟩
  walk_at "B"
  walk_at "V"
  refine w_call hA A (by omega) rfl ?_
  walk_at "V"
  refine ⟨a, cs, rfl, hs, hc, hcl, fun H1 g1 => ?_⟩
  walk_at "V"
  refine iteF (b_nil ?_)
  walk_at "B"
  have hi1 := g1.extN _ _ hi (fun _ z => by cases z)
  refine s_fld hA R.cl R.nb ?_
  walk_at "V"
  refine ⟨i, dx, [], rfl, hi1, by decide, ?_⟩
  have gX : GrowX m.T (· = i) H1 (upd H1 i (.ins C dx (putF "_begin" (.int b) []))) := GrowX.set rfl hi1 (fun _ z => by cases z) (fun _ z => by unfold CodeO at z; cases z) (fun _ z => by cases z) (fun _ _ z => by cases z)
  have hi2 : (upd H1 i (.ins C dx (putF "_begin" (.int b) []))) i = some (.ins C dx [("_begin", .int b)]) := upd_same
  generalize upd H1 i (.ins C dx (putF "_begin" (.int b) [])) = H2 at gX hi2 ⊢
  walk_at "B"
  refine s_fld hA R.cl R.nc ?_
  refine g_typ hA hl rfl bt_list ?_
  walk_at "V"
  have g02 : GrowX m.T (· = i) H H2 := (Grow.to g1).trans gX
  refine g_listOf hA (.inl (g02.seqL hs hai)) fun lc hlc => ?_
  have gl := Grow.new (T := m.T) (o := .lst (cs.map V.int)) hlc
  have hlci : lc ≠ i := fun w => by rw [w, hi2] at hlc; cases hlc
  walk_at "V"
  have hi3 := gl.extN _ _ hi2 (fun _ z => by cases z)
  refine ⟨i, dx, _, rfl, hi3, by show 1 < 1000; decide, ?_⟩
  have gY : GrowX m.T (· = i) _ (upd (upd H2 lc (.lst (cs.map V.int))) i (.ins C dx (putF "_corners" (.ref lc) [("_begin", .int b)]))) := GrowX.set rfl hi3 (fun _ z => by cases z) (fun _ z => by unfold CodeO at z; cases z) (fun _ z => by cases z) (fun _ _ z => by cases z)
  refine b_nil ?_
  exact k lc _ ((g02.trans (Grow.to gl)).trans gY) (g02.keep _ hlc) upd_same (by rw [upd_ne hlci]; exact upd_same)
/-- Stair(e1, e2) -/
theorem w_stair {m : Md} {N : List Str} {sc : Scope} {j k : Nat} {X : Cx} {e1 e2 : Expr} {σ : L2.St} {H : Hp} {Q : VK} {C : Addr} {pos p : Pos} (h : At m N sc k X) (Mk : MakX m C8.CX0 j "Stair" C (sp_sinit m C) []) (hk : j + 1 ≤ k) (hg : sc.names.lookup ("Stair" : Str) = some .globalImplicit)
    (q : wA X [e1, e2] σ H fun vs H1 => ∃ (b : Int) (a : Addr) (cs : List Int), vs = [.int b, .ref a] ∧ SqL m.K H1 a (cs.map V.int) ∧ H1 a ≠ none ∧ Cor cs ∧ cs.length < 4000 ∧ ∀ (i : Addr) (H2 : Hp), Grow m.T H1 H2 → New H1 i → StairAt C (New H1) H2 i b cs → Q (.ref i) H2)
    (he : starEach (e1 :: [e2]) X.env = (false, eval e1 X.env) :: starEach [e2] X.env := by with_unfolding_all rfl) (hpl : (backTo pos (starEach [e2] X.env)).any (·.1) = false := by with_unfolding_all rfl) : wE X (.Call (.Name "Stair" p) [e1, e2] [] pos) σ H Q := by
  refine w_makX (E := C8.E0) h Mk hk hg (fun pins H s e s' I c => C8.pass0 pins σ H s e s' I c) ?_ (by with_unfolding_all decide) he hpl
  unfold wA at q ⊢
  refine fun pos pins s I => wpAny_mono (q pos pins s I) (fun v s' z => ?_) fun _ _ z => z
  obtain ⟨vs, H1, I1, r1, b, a, cs, ev, hs, ha, hc, hl, k⟩ := z
  refine ⟨vs, H1, I1, r1, fun i dx hi hdx hne => ?_⟩
  subst ev
  have g0 : Grow m.T H1 (upd (upd H1 dx (.own i)) i (.ins C dx [])) := (Grow.new hdx).trans (Grow.new (by rw [upd_ne (Ne.symm hne)]; exact hi))
  refine ⟨i, dx, a, b, cs, rfl, upd_same, GrowX.seqL g0 hs fun z => z, fun w => ha (by rw [w]; exact hi), hc, hl, fun lc H' g nl hi' hlc => ⟨rfl, ?_⟩⟩
  exact k i H' (Grow.intoNew g0 g fun c z => by rw [z]; exact hi) hi ⟨dx, lc, hi', hlc, g0.keep _ nl⟩
def sp_value (m : Md) (C : Addr) : Sp := fun vs H Q _ => ∃ (i : Addr) (b n : Int) (cs : List Int), vs = [.ref i, .int n] ∧ StairAt C Any H i b cs ∧ Cor cs ∧ cs.length < 4000 ∧ 0 ≤ n ∧ ∀ H', Grow m.T H H' → Q (.int (val b cs n)) H'
theorem m_value {m : Md} {C f : Addr} {fd : FuncData} (R : StC m C) (F : C8.Fun m.K "value" "Stair.value" st_Stair_value f fd) (b : L2.Binds m.K fd ps_Stair_value []) (me : Meth m.K C "value" f) (W : Cal m 3 "need_count_from" sp_need_count) (Co : Cal m 3 "_course" (sp_course m C)) : MetX m C8.CX0 4 C "value" (sp_value m C) [] := by
  refine ⟨f, fd, ps_Stair_value, [], fnG_of F sc_Stair_value (fun vs H Q E h => by obtain ⟨_, _, _, _, rfl, _⟩ := h; rfl) fun X vs H Q E hA hM h => ?_, R.cl, me, b, .nil⟩
  obtain ⟨i, b, n, cs, rfl, st, hc, hcl, hn, k⟩ := h
  obtain ⟨n0, n1⟩ := nv_Stair_value
  walk_at "B"
  walk_at "V"
  refine w_call hA W (by omega) rfl ?_
  walk_at "V"
  refine ⟨0, n, rfl, hn, hn, ?_⟩
  walk_at "B"
  walk_at "V"
  refine w_call hA Co (by omega) rfl ?_
  walk_at "V"
  refine ⟨by walk_at "S", fun l hl => ?_⟩
  have gl := Grow.new (T := m.T) (o := .lst [.int n]) hl
  refine w_nil ⟨i, l, b, cs, [n], rfl, st.grow (T := m.T) gl (fun _ _ z => z) (fun z => z), hc, hcl, SqL.of upd_same, by simp, by show 1 < 4000; decide, fun r xs H2 g2 nr hr da => ?_⟩
  rw [List.map_cons, List.map_nil] at da
  cases da with | cons d0 rest =>
  cases rest
  obtain ⟨T, ys, rfl, hT, dy⟩ := da_tup d0
  cases dy with | cons p1 dy => cases dy with | cons p2 dy =>
  cases dy
  cases p1
  walk_at "V"
  refine g_ixL hA (SqL.of hr) (atI_at (j := 0) rfl) ?_
  walk_at "V"
  refine g_ixT hA hT (atI_at (j := 0) rfl) ?_
  exact k H2 (gl.trans g2)
def sp_seq (m : Md) (C : Addr) : Sp := fun vs H Q _ => ∃ (i : Addr) (b : Int) (cs : List Int) (y : V), vs = [.ref i, y] ∧ StairAt C Any H i b cs ∧ cs.length < 4000 ∧
  ((∃ (j : Addr) (b' : Int) (cs' : List Int), y = .ref j ∧ StairAt C Any H j b' cs' ∧ cs'.length < 4000 ∧ Q (.bl (decide (b = b' ∧ cs = cs'))) H) ∨ ∃ T, T ∈ ["NoneType", "bool", "int", "str", "list", "tuple", "dict"] ∧ TyX m.K H y (.type T) ∧ Q (.bl false) H)
theorem ints_da {K : PySem.W.Frag} {A : Addr → Prop} {H : Hp} : ∀ ns : List Int, DaAll K A H (ns.map V.int) (ns.map PyData.int)
  | [] => .nil
  | n :: ns => .cons (.int n) (ints_da ns)
theorem ints_shaped (ns : List Int) : SeqAt.shaped (.list (ns.map PyData.int)) = true := by
  have h1 : PyData.canLayAll0 (ns.map PyData.int) = true := by
    induction ns with
    | nil => rfl
    | cons z ns ih => simp [PyData.canLayAll0, PyData.canLay0, ih]
  have h2 : PyData.depthAll (ns.map PyData.int) = 0 := by
    clear h1
    induction ns with
    | nil => rfl
    | cons z ns ih => simp [PyData.depthAll, PyData.depth, ih]
  simp [SeqAt.shaped, PyData.canLay0, h1, PyData.depth, h2]
theorem ints_eqv : ∀ a b : List Int, PyData.eqvAll (a.map PyData.int) (b.map PyData.int) = decide (a = b)
  | [], [] => rfl
  | [], _ :: _ => by simp [PyData.eqvAll]
  | _ :: _, [] => by simp [PyData.eqvAll]
  | x :: a, y :: b => by
    show (PyData.eqv (.int x) (.int y) && PyData.eqvAll (a.map PyData.int) (b.map PyData.int)) = _
    rw [ints_eqv a b, show PyData.eqv (.int x) (.int y) = (x == y) from rfl]
    by_cases h1 : x = y
    · by_cases h2 : a = b <;> simp [h1, h2]
    · simp [h1]
theorem list_eqv (a b : List Int) : PyData.eqv (.list (a.map PyData.int)) (.list (b.map PyData.int)) = decide (a = b) := ints_eqv a b
theorem m_seq {m : Md} {C f : Addr} {fd : FuncData} (R : StC m C) (hi : m.mg "isinstance" = none) (F : C8.Fun m.K "__eq__" "Stair.__eq__" st_Stair_eq f fd) (b : L2.Binds m.K fd ps_Stair_eq []) (me : Meth m.K C "__eq__" f)
    (ty : ∀ (H : Hp) (i dx : Addr) (fs : List (Str × V)), H i = some (.ins C dx fs) → TyX m.K H (.ref i) (.ref C)) (own : PySem.W.kitOne m.K (.ref C) (.ref C) = some true) (oth : ∀ T ∈ ["NoneType", "bool", "int", "str", "list", "tuple", "dict"], PySem.W.kitOne m.K (.type T) (.ref C) = some false) : MetX m C8.CX0 1 C "__eq__" (sp_seq m C) [] := by
  refine ⟨f, fd, ps_Stair_eq, [], fnG_of F sc_Stair_eq (fun vs H Q E h => by obtain ⟨_, _, _, _, rfl, _⟩ := h; rfl) fun X vs H Q E hA hM h => ?_, R.cl, me, b, .nil⟩
  obtain ⟨i, b, cs, y, rfl, ⟨dx, lc, h1, h2, _⟩, hl, k⟩ := h
  obtain ⟨n0, n1⟩ := nv_Stair_eq
  walk_at "B"
  walk_at "V"
  refine g_blt hA hi rfl bt_isinstance ?_
  walk_at "V"
  refine w_glb (v := .ref C) hA R.gS rfl rfl ?_
  walk_at "V"
  rcases k with ⟨j, b', cs', rfl, ⟨dx', lc', h1', h2', _⟩, hl', k⟩ | ⟨T, hT, ty', k⟩
  · refine g_isi hA (.own C) (ty H j dx' _ h1') own ?_
    walk_at "V"
    refine iteT ?_
    walk_at "V"
    refine w_fld hA R.cl R.nb ?_
    walk_at "V"
    refine ⟨i, dx, _, _, rfl, h1, rfl, ?_⟩
    refine w_fld hA R.cl R.nb ?_
    walk_at "V"
    refine ⟨j, dx', _, _, rfl, h1', rfl, ?_⟩
    walk_at "V"
    by_cases hb : b = b'
    · rw [decide_eq_true hb]
      refine iteT ?_
      walk_at "V"
      refine w_fld hA R.cl R.nc ?_
      walk_at "V"
      refine ⟨i, dx, _, _, rfl, h1, rfl, ?_⟩
      refine w_fld hA R.cl R.nc ?_
      walk_at "V"
      refine ⟨j, dx', _, _, rfl, h1', rfl, ?_⟩
      refine g_eqD hA (Dp.lst (SqL.of h2) (DaAll.dp _ _ (ints_da (A := Any) cs))) (Dp.lst (SqL.of h2') (DaAll.dp _ _ (ints_da (A := Any) cs'))) (ints_shaped _) (ints_shaped _) ?_
      rw [list_eqv]
      have e : decide (b = b' ∧ cs = cs') = decide (cs = cs') := by simp [hb]
      rw [e] at k
      exact k
    · rw [decide_eq_false hb]
      refine iteF ?_
      have e : decide (b = b' ∧ cs = cs') = false := by simp [hb]
      rw [e] at k
      exact k
  · refine g_isi hA (.own C) ty' (oth T hT) ?_
    walk_at "V"
    exact iteF k
/-- corners as they are drawn -/
structure Drn (most : Nat) (cs : List Int) : Prop where
  cor : Cor cs
  len : cs.length ≤ most
  top : ∀ c ∈ cs, c ≤ 5 * cs.length - 2
  gap : ∀ i, i + 1 < cs.length → cs.getD (i + 1) 0 ≤ cs.getD i 0 + 5
/-- no two neighbours lie more than 5 apart -/
def Gap (l : List Int) : Prop := ∀ i, i + 1 < l.length → l.getD (i + 1) 0 ≤ l.getD i 0 + 5
theorem Gap.snoc {cs : List Int} {v w : Int} (h : Gap (cs ++ [v])) (hw : w ≤ v + 5) : Gap ((cs ++ [v]) ++ [w]) := by
  intro i hi
  rw [List.length_append, List.length_singleton] at hi
  rcases Nat.lt_or_ge (i + 1) (cs ++ [v]).length with z | z
  · have := h i z
    rw [List.getD_eq_getElem?_getD, List.getD_eq_getElem?_getD] at this ⊢
    rw [show ((cs ++ [v]) ++ [w])[i + 1]? = (cs ++ [v])[i + 1]? from List.getElem?_append_left z, show ((cs ++ [v]) ++ [w])[i]? = (cs ++ [v])[i]? from List.getElem?_append_left (by omega)]
    exact this
  · have e : i = cs.length := by rw [List.length_append, List.length_singleton] at z hi; omega
    subst e
    rw [List.getD_eq_getElem?_getD, List.getD_eq_getElem?_getD]
    rw [List.getElem?_append_right (by simp), List.getElem?_append_left (by simp), List.getElem?_append_right (Nat.le_refl _)]
    simp
    exact hw
theorem Gap.init {cs : List Int} {v : Int} (h : Gap (cs ++ [v])) : Gap cs := by
  intro i hi
  have := h i (by rw [List.length_append, List.length_singleton]; omega)
  rw [List.getD_eq_getElem?_getD, List.getD_eq_getElem?_getD] at this ⊢
  rwa [List.getElem?_append_left hi, List.getElem?_append_left (by omega)] at this
def sp_corners (m : Md) : Sp := fun vs H Q _ => ∃ (p : Addr) (n most : Nat), vs = [.ref p, .int most] ∧ Purse H p n ∧ n ≤ 2 ^ 37 ∧ most ≤ 50 ∧ ∀ (r : Addr) (cs : List Int) (H' : Hp), Drew m p n (24 + 8 * most) H H' → New H r → H' r = some (.lst (cs.map V.int)) → Drn most cs → Q (.ref r) H'
theorem Purse.ne {H : Hp} {p l : Addr} {n : Nat} (h : Purse H p n) (hl : H l = none) : l ≠ p := fun w => by obtain ⟨_, e⟩ := h.at_; rw [← w, hl] at e; cases e
theorem c_corners {m : Md} {f : Addr} {fd : FuncData} (F : C8.Def m.K m.mg "_law_corners" st_corners f fd) (b : L2.Binds m.K fd ps_corners []) (hr : m.mg "range" = none) (D : Cal m 2 "_law_draw" (sp_draw m)) (O : Cal m 3 "_law_one_of" (sp_one_of m)) : Cal m 4 "_law_corners" (sp_corners m) := by
  refine cal_of F b sc_corners (fun vs H Q E h => by obtain ⟨_, _, _, rfl, _⟩ := h; rfl) fun X vs H Q E hA h => ?_
  obtain ⟨p, n, most, rfl, hp, hn, hm, k⟩ := h
  obtain ⟨n0, n1, n2, n3, n4⟩ := nv_corners
  walk_at "B"
  refine s_par hA n2 n3 ?_
  walk_at "V"
  refine ⟨by walk_at "S", fun r hr1 => ?_⟩
  have gr := Grow.new (T := m.T) (o := .lst []) hr1
  have hrp := hp.ne hr1
  walk_at "V"
  refine w_call hA O (by omega) rfl ?_
  walk_at "V"
  refine ⟨by walk_at "S", fun l hl => ?_⟩
  have gl := Grow.new (T := m.T) (o := .lst [.int 0, .int 0, .int 1, .int 3]) hl
  have grl := gr.trans gl
  have hp1 := hp.new grl
  have hlp := (hp.new gr).ne hl
  walk_at "V"
  refine ⟨p, n, l, _, rfl, hp1, by omega, SqL.of upd_same, hlp, by decide, by decide, fun j v H1 hv d1 => ?_⟩
  have d1' := Drew.pre grl d1
  obtain ⟨w, rfl, w0, w1⟩ : ∃ w : Int, v = .int w ∧ 0 ≤ w ∧ w ≤ 3 := by
    have := List.mem_of_getElem? hv
    simp only [List.mem_cons, List.not_mem_nil, or_false] at this
    rcases this with h | h | h | h <;> exact ⟨_, h, by omega, by omega⟩
  refine w_nil ⟨_, _, rfl, ?_⟩
  have hrl : r ≠ l := fun w => by rw [← w, upd_same] at hl; cases hl
  have hr2 : H1 r = some (.lst []) := d1.grow.ext _ _ hrp (by rw [upd_ne hrl]; exact upd_same) (fun _ z => by cases z)
  walk_at "B"
  refine s_forR hA (pg_nl hA n4) hr rfl ?_
  walk_at "V"
  refine w_call hA D (by omega) rfl ?_
  walk_at "V"
  refine ⟨p, _, _, rfl, d1'.purse, by omega, by omega, by omega, fun z H2 z0 z1 d2 => ?_⟩
  have hr3 := d2.grow.ext _ _ hrp hr2 (fun _ z => by cases z)
  have d12 := d1'.trans d2
  walk_at "V"
  refine ⟨by omega, by omega, fun i σ H' => ∃ (cs : List Int) (v : Int), σ = [some (.ref p), some (.int most), some (.ref r), some (.int v), σ.getD 4 none] ∧ H' r = some (.lst (cs.map V.int)) ∧ Cor cs ∧ cs.length = i ∧ (∀ c ∈ cs, c < v ∧ c + 5 ≤ 3 + 5 * i) ∧ Gap (cs ++ [v]) ∧ 0 ≤ v ∧ v ≤ 3 + 5 * i ∧ Drew m p n (16 + 8 * i) H H', ?_, ?_, ?_⟩
  · exact ⟨[], w, rfl, hr3, ⟨List.Pairwise.nil, by simp⟩, rfl, by simp, fun i hi => by simp at hi, w0, by omega, d12⟩
  · rintro i σ H' hi ⟨cs, v, es, hcs, hc, hl2, hb, hgp, v0, v1, dd⟩
    rw [es]
    walk_at "B"
    walk_at "V"
    refine g_append ?_
    walk_at "V"
    refine ⟨tyL hcs, ?_⟩
    walk_at "V"
    refine ⟨r, _, .int v, rfl, rfl, hcs, by rw [List.length_map, sizeLine_eq]; omega, ?_⟩
    have gX := GrowX.lst (T := m.T) (ys := cs.map V.int ++ [.int v]) hcs
    have dX : Drew m p n (16 + 8 * i) H (upd H' r (.lst (cs.map V.int ++ [.int v]))) := ⟨dd.grow.into gX fun c w => .inl (by rw [w]; exact hr1), dd.purse.x gX fun w => hrp w.symm⟩
    walk_at "B"
    walk_at "V"
    refine w_call hA D (by omega) rfl ?_
    walk_at "V"
    refine ⟨p, _, _, rfl, dX.purse, by omega, by omega, by omega, fun y H3 y0 y1 d3 => ?_⟩
    walk_at "V"
    refine ⟨cs ++ [v], _, rfl, ?_, ⟨?_, ?_⟩, by simp [hl2], ?_, hgp.snoc (by omega), by omega, by omega, (dX.trans d3).mono (by omega)⟩
    · rw [List.map_append]
      exact d3.grow.ext _ _ hrp upd_same (fun _ z => by cases z)
    · exact List.pairwise_append.2 ⟨hc.asc, by simp, fun a ha c hc' => by rw [List.mem_singleton.1 hc']; exact (hb a ha).1⟩
    · intro c hc'
      rcases List.mem_append.1 hc' with e | e
      · exact hc.nn c e
      · rw [List.mem_singleton.1 e]; exact v0
    · intro c hc'
      rcases List.mem_append.1 hc' with e | e
      · have := hb c e; omega
      · rw [List.mem_singleton.1 e]; omega
  · rintro σ H' ⟨cs, v, es, hcs, hc, hl2, hb, hgp, v0, v1, dd⟩
    rw [es]
    walk_at "B"
    walk_at "V"
    refine k r cs H' (dd.mono (by omega)) hr1 hcs ⟨hc, by omega, fun c hc' => by have := hb c hc'; omega, hgp.init⟩
def sp_stair (m : Md) : Sp := fun vs H Q _ => ∃ (p : Addr) (n most : Nat), vs = [.ref p, .int most] ∧ Purse H p n ∧ n ≤ 2 ^ 36 ∧ most ≤ 50 ∧ ∀ (T r : Addr) (b : Int) (cs : List Int) (H' : Hp), Drew m p n (40 + 8 * most) H H' → New H r → H' r = some (.lst (cs.map V.int)) → Drn most cs → SqT m.K H' T [.int b, .ref r] → -4 ≤ b → b ≤ 8 → Q (.ref T) H'
theorem c_stair {m : Md} {f : Addr} {fd : FuncData} (F : C8.Def m.K m.mg "_law_stair" st_stair f fd) (b : L2.Binds m.K fd ps_stair []) (D : Cal m 2 "_law_draw" (sp_draw m)) (Cn : Cal m 4 "_law_corners" (sp_corners m)) : Cal m 5 "_law_stair" (sp_stair m) := by
  refine cal_of F b sc_stair (fun vs H Q E h => by obtain ⟨_, _, _, rfl, _⟩ := h; rfl) fun X vs H Q E hA h => ?_
  obtain ⟨p, n, most, rfl, hp, hn, hm, k⟩ := h
  obtain ⟨n0, n1⟩ := nv_stair
  walk_at "B"
  walk_at "V"
  refine w_call hA D (by omega) rfl ?_
  walk_at "V"
  refine ⟨p, n, _, rfl, hp, by omega, by omega, by omega, fun r1 H1 q1 q2 d1 => ?_⟩
  refine w_call hA D (by omega) rfl ?_
  walk_at "V"
  refine ⟨p, _, _, rfl, d1.purse, by omega, by omega, by omega, fun r2 H2 q3 q4 d2 => ?_⟩
  walk_at "V"
  refine w_call hA Cn (by omega) rfl ?_
  walk_at "V"
  have d12 := d1.trans d2
  refine ⟨p, _, most, rfl, d12.purse, by omega, hm, fun r cs H3 d3 nr hr dn => ?_⟩
  walk_at "V"
  refine ⟨by walk_at "S", fun T hT => ?_⟩
  have gT := Grow.new (T := m.T) (o := .tup [.int (r1 - r2), .ref r]) hT
  exact k T r (r1 - r2) cs _ (((d12.trans d3).post gT).mono (by omega)) (d12.grow.keep _ nr) (gT.extN _ _ hr (fun _ z => by cases z)) dn (SqT.of upd_same) (by omega) (by omega)
/-- the stairs of a list -/
def StsIn (C : Addr) (H : Hp) (sts : List (Addr × Int × List Int)) : Prop := ∀ s ∈ sts, StairAt C Any H s.1 s.2.1 s.2.2 ∧ Cor s.2.2 ∧ s.2.2.length < 4000
theorem StsIn.grow {T : List (Addr × Str)} {C : Addr} {H H' : Hp} {sts : List (Addr × Int × List Int)} (s : StsIn C H sts) (g : Grow T H H') : StsIn C H' sts := fun x hx => ⟨(s x hx).1.grow g (fun _ _ z => z) (fun z => z), (s x hx).2⟩
def sp_co (m : Md) (C : Addr) : Sp := fun vs H Q _ => ∃ (l : Addr) (sts : List (Addr × Int × List Int)), vs = [.ref l] ∧ SqL m.K H l (sts.map fun s => V.ref s.1) ∧ StsIn C H sts ∧ (sts.flatMap (·.2.2)).length < 3900 ∧
  ∀ (r : Addr) (ns : List Int) (H' : Hp), Grow m.T H H' → New H r → H' r = some (.lst (ns.map V.int)) → ns.Pairwise (· < ·) → (∀ k : Int, k ∈ ns ↔ k = 0 ∨ ∃ s ∈ sts, k ∈ s.2.2) → ns.length ≤ 1 + (sts.flatMap (·.2.2)).length → Q (.ref r) H'
theorem fm_take {α β : Type} (f : α → List β) (xs : List α) (t : Nat) : ((xs.take t).flatMap f).length ≤ (xs.flatMap f).length := by
  conv => rhs; rw [← List.take_append_drop t xs, List.flatMap_append, List.length_append]
  omega
theorem c_co {m : Md} {C f : Addr} {fd : FuncData} (F : C8.Def m.K m.mg "_corners_of" st_x_corners_of f fd) (b : L2.Binds m.K fd ps_x_corners_of []) (R : StC m C) (P : Prp m C) (hs : m.mg "sorted" = none) (hset : m.mg "set" = none) : Cal m 3 "_corners_of" (sp_co m C) := by
  refine cal_of F b sc_x_corners_of (fun vs H Q E h => by obtain ⟨_, _, rfl, _⟩ := h; rfl) fun X vs H Q E hA h => ?_
  obtain ⟨l, sts, rfl, hl, hst, hn, k⟩ := h
  have n0 := nv_x_corners_of
  walk_at "B"
  walk_at "V"
  refine g_blt hA hs rfl bt_sorted ?_
  walk_at "V"
  refine g_typ hA hset rfl bt_set ?_
  walk_at "V"
  refine ⟨by walk_at "S", fun p hp => ?_⟩
  have g1 := Grow.new (T := m.T) (o := .lst [V.int 0]) hp
  generalize eH1 : upd H p (.lst [V.int 0]) = H1 at g1
  have hp1 : H1 p = some (.lst [V.int 0]) := by rw [← eH1]; exact upd_same
  have st1 := hst.grow g1
  refine w_lc2L hA (i := 1) (j := 2) (by decide +kernel) (by decide) ⟨rfl, rfl⟩ ⟨rfl, rfl⟩ ?_
  walk_at "V"
  refine ⟨l, _, rfl, GrowX.seqL g1 hl fun z => z, fun D hD => ?_⟩
  have hDp : D ≠ p := fun z => by rw [z, hp1] at hD; cases hD
  refine ⟨fun t H' => Grow m.T H1 H' ∧ H' D = some (.lst (((sts.take t).flatMap (·.2.2)).map V.int)), ⟨Grow.new hD, by rw [upd_same]; rfl⟩, ?_, ?_, ?_⟩
  · rintro t H' _ ⟨g, _⟩
    exact GrowX.seqL (g1.trans g) hl fun z => z
  · rintro t z H' hz ⟨g, hd⟩ X' hX'
    have c1 := nl_of hX' 1 "stair"
    rw [List.getElem?_map] at hz
    obtain ⟨st, hst', rfl⟩ := Option.map_eq_some_iff.1 hz
    obtain ⟨s1, s2, s3⟩ := (st1.grow g) st (List.mem_of_getElem? hst')
    obtain ⟨pp, gg, fd2, hpp, F2, b2⟩ := P.pc
    refine w_prop hX' R.cl hpp F2 b2 (by omega) ?_
    walk_at "V"
    have s1' := s1
    obtain ⟨dx, lc, i1, i2, _⟩ := s1'
    refine ⟨st.1, dx, _, rfl, i1, st.1, st.2.1, st.2.2, rfl, s1, fun r H2 g2 hr hr2 => ?_⟩
    have hrD : r ≠ D := fun z => by rw [z] at hr; have := hr; rw [New] at this; rw [hd] at this; cases this
    refine ⟨r, _, rfl, SqL.of hr2, fun u H3 => Grow m.T H1 H3 ∧ H3 D = some (.lst (((sts.take t).flatMap (·.2.2) ++ st.2.2.take u).map V.int)) ∧ H3 r = some (.lst (st.2.2.map V.int)), ⟨g.trans g2, ?_, hr2⟩, ?_, ?_, ?_⟩
    · rw [List.take_zero, List.append_nil]
      exact Grow.extN g2 _ _ hd (fun _ z => by cases z)
    · rintro u H3 _ ⟨_, _, h3⟩
      exact SqL.of h3
    · rintro u w H3 hw ⟨g3, hd3, hr3⟩ X2 hX2
      have c2 := nl_of hX2 2 "corner"
      rw [List.getElem?_map] at hw
      obtain ⟨c, hc, rfl⟩ := Option.map_eq_some_iff.1 hw
      walk_at "V"
      refine ⟨_, hd3, ?_, Grow.intoNew g3 (GrowX.lst hd3) fun c w => by rw [w]; exact hD, ?_, ?_⟩
      · have e1 := fm_take (fun s : Addr × Int × List Int => s.2.2) sts (t + 1)
        rw [List.take_add_one, hst', List.flatMap_append, List.length_append] at e1
        have e2 : (List.flatMap (fun s : Addr × Int × List Int => s.2.2) (some st).toList).length = st.2.2.length := by simp
        rw [e2] at e1
        have e3 : (st.2.2.take u).length ≤ st.2.2.length := by rw [List.length_take]; omega
        rw [List.length_map, List.length_append, sizeLine_eq]; omega
      · rw [upd_same, List.take_add_one, hc]; simp
      · rw [upd_ne hrD]; exact hr3
    · rintro H3 ⟨g3, hd3, _⟩
      refine ⟨g3, ?_⟩
      rw [hd3, List.length_map, List.take_length, List.take_add_one, hst']; simp
  · rintro H2 ⟨g2, hd⟩
    rw [List.length_map, List.take_length] at hd
    have hn1 : (0 :: sts.flatMap (·.2.2) : List Int).length < 3901 := by rw [List.length_cons]; omega
    refine g_cat (g2.ext _ _ (fun z => z) hp1 (fun _ z => by cases z)) hd (by rw [List.length_map, sizeLine_eq]; show 1 + _ ≤ _; omega) fun q hq => ?_
    walk_at "V"
    refine g_setZ hA (ns := 0 :: sts.flatMap (·.2.2)) (SqL.of upd_same) (by omega) fun a c ha hc => ?_
    walk_at "V"
    refine g_sortedB hA upd_same (by omega) fun ns r o1 o2 o3 hr => ?_
    have gq := Grow.new (T := m.T) (o := .lst (V.int 0 :: (sts.flatMap (·.2.2)).map V.int)) hq
    have ga := Grow.new (T := m.T) (o := SetO m.w a (fun j => decide (j ∈ 0 :: sts.flatMap (·.2.2))) c) ha
    have gr := Grow.new (T := m.T) (o := .lst (ns.map V.int)) hr
    have hn2 : (0 :: sts.flatMap (·.2.2) : List Int).length = (sts.flatMap (·.2.2)).length + 1 := List.length_cons
    have gAll := ((g1.trans g2).trans gq).trans ga
    refine k r ns _ (gAll.trans gr) (gAll.keep _ hr) upd_same o1 (fun z => ?_) (by omega)
    rw [o2 z, decide_eq_true_eq, List.mem_cons, List.mem_flatMap]
theorem pas_same {cs : List Int} {n m : Int} (hnm : n ≤ m) (h : ∀ c ∈ cs, c ≤ m → c ≤ n) : pas cs m = pas cs n := by
  refine pas_uniq cs m (pas cs n) (pas_le cs n) (fun i hi => Int.le_trans (pas_lt cs n i hi) hnm) fun hk => ?_
  have h1 := pas_ge cs n hk
  have hm : cs.getD (pas cs n) 0 ∈ cs := List.mem_of_getElem? (getD_get hk)
  rcases Int.lt_or_le m (cs.getD (pas cs n) 0) with z | z
  · exact z
  · have := h _ hm z
    omega
/-- the greatest of some counts that is not beyond m -/
theorem last_count {ns : List Int} {m : Int} : (∃ n ∈ ns, n ≤ m) → ∃ n ∈ ns, n ≤ m ∧ ∀ n' ∈ ns, n' ≤ m → n' ≤ n := by
  induction ns with
  | nil => rintro ⟨n, h, _⟩; cases h
  | cons a ns ih =>
    rintro ⟨n, hn, hnm⟩
    by_cases h : ∃ n ∈ ns, n ≤ m
    · obtain ⟨q, q1, q2, q3⟩ := ih h
      by_cases ha : a ≤ m ∧ q ≤ a
      · refine ⟨a, by simp, ha.1, fun n' hn' h' => ?_⟩
        rcases List.mem_cons.1 hn' with rfl | h2
        · omega
        · have := q3 n' h2 h'; omega
      · refine ⟨q, by simp [q1], q2, fun n' hn' h' => ?_⟩
        rcases List.mem_cons.1 hn' with rfl | h2
        · omega
        · exact q3 n' h2 h'
    · rcases List.mem_cons.1 hn with rfl | h2
      · refine ⟨n, by simp, hnm, fun n' hn' h' => ?_⟩
        rcases List.mem_cons.1 hn' with rfl | h3
        · omega
        · exact absurd ⟨n', h3, h'⟩ h
      · exact absurd ⟨n, h2, hnm⟩ h
/-- at m a stair tells what it tells at the last count, and rises from there as it rose there -/
theorem Cor.val_from {cs : List Int} (hc : Cor cs) {b n m : Int} (hnm : n ≤ m) (h : ∀ c ∈ cs, c ≤ m → c ≤ n) : val b cs m = val b cs n + (pas cs n % 2 : Nat) * (m - n) := by
  obtain ⟨d, rfl⟩ : ∃ d : Nat, m = n + d := ⟨(m - n).toNat, by omega⟩
  rw [hc.val_flat d (pas_same hnm h)]
  congr 2
  omega
/-- counts that hold 0 and all corners of a stair -/
def Holds (ns : List Int) (cs : List Int) : Prop := (0 : Int) ∈ ns ∧ ∀ c ∈ cs, c ∈ ns
theorem both_at {ns cs ds : List Int} (h1 : Holds ns cs) (h2 : Holds ns ds) (hc : Cor cs) (hd : Cor ds) {m : Int} (hm : 0 ≤ m) :
    ∃ n ∈ ns, n ≤ m ∧ (∀ n' ∈ ns, n' ≤ m → n' ≤ n) ∧ ∀ b e : Int, val b cs m = val b cs n + (pas cs n % 2 : Nat) * (m - n) ∧ val e ds m = val e ds n + (pas ds n % 2 : Nat) * (m - n) := by
  obtain ⟨n, q1, q2, q3⟩ := last_count ⟨0, h1.1, hm⟩
  exact ⟨n, q1, q2, q3, fun b e => ⟨hc.val_from q2 fun c hcc hcm => q3 c (h1.2 c hcc) hcm, hd.val_from q2 fun c hcc hcm => q3 c (h2.2 c hcc) hcm⟩⟩
/-- alike at all counts before the t-th, so everywhere before it -/
theorem same_before {ns cs ds : List Int} (h1 : Holds ns cs) (h2 : Holds ns ds) (hc : Cor cs) (hd : Cor ds) (ha : ns.Pairwise (· < ·)) {b e : Int} {t : Nat}
    (he : ∀ j n, j < t → ns[j]? = some n → told2 b cs n = told2 e ds n) {m : Int} (hm : 0 ≤ m) (hlt : ∀ n, ns[t]? = some n → m < n) : val b cs m = val e ds m := by
  obtain ⟨n, q1, q2, q3, q4⟩ := both_at h1 h2 hc hd hm
  obtain ⟨j, hj⟩ := List.getElem?_of_mem q1
  have hjl := (List.getElem?_eq_some_iff.1 hj).1
  have hjt : j < t := by
    rcases Nat.lt_or_ge j t with z | z
    · exact z
    · have ht : t < ns.length := by omega
      have hx := hlt _ (List.getElem?_eq_getElem ht)
      have hn : n = ns[j] := by rw [List.getElem?_eq_getElem hjl] at hj; exact (Option.some.inj hj).symm
      rcases Nat.eq_or_lt_of_le z with y | y
      · subst y; omega
      · have := List.pairwise_iff_getElem.1 ha t j ht hjl y
        omega
  have e1 := he j n hjt hj
  unfold told2 at e1
  injection e1 with e1
  injection e1 with e2 e3
  injection e2 with e2
  injection e3 with e3
  injection e3 with e3
  obtain ⟨a1, a2⟩ := q4 b e
  rw [a1, a2, e2, e3]
theorem pair_at {K : PySem.W.Frag} {H : Hp} {v : V} {i j : Int} (h : Da K Any H v (.tuple [.int i, .int j])) : ∃ t, v = .ref t ∧ SqT K H t [.int i, .int j] := by
  obtain ⟨t, us, rfl, ht, dus⟩ := da_tup h
  cases dus with | cons u1 dus => cases dus with | cons u2 dus =>
  cases dus
  cases u1
  cases u2
  exact ⟨t, rfl, ht⟩
def sp_need_stair (C : Addr) : Sp := fun vs H Q _ => ∃ (i : Addr) (b : Int) (cs : List Int), vs = [.ref i] ∧ StairAt C Any H i b cs ∧ Q .non H
theorem c_need_stair {m : Md} {C f : Addr} {fd : FuncData} (R : StC m C) (hi : m.mg "isinstance" = none) (F : C8.Def m.K m.mg "need_stair" st_need_stair f fd) (b : L2.Binds m.K fd ps_need_stair [])
    (ty : ∀ (H : Hp) (i dx : Addr) (fs : List (Str × V)), H i = some (.ins C dx fs) → TyX m.K H (.ref i) (.ref C)) (own : PySem.W.kitOne m.K (.ref C) (.ref C) = some true) : Cal m 1 "need_stair" (sp_need_stair C) := by
  refine cal_of F b sc_need_stair (fun vs H Q E h => by obtain ⟨_, _, _, rfl, _⟩ := h; rfl) fun X vs H Q E hA h => ?_
  obtain ⟨i, bb, cs, rfl, ⟨dx, lc, h1, h2, _⟩, k⟩ := h
  have n0 := nv_need_stair
  walk_at "B"
  walk_at "V"
  refine g_blt hA hi rfl bt_isinstance ?_
  walk_at "V"
  refine w_glb (v := .ref C) hA R.gS rfl rfl ?_
  walk_at "V"
  refine g_isi hA (.own C) (ty H i dx _ h1) own ?_
  walk_at "V"
  refine iteF (b_nil ?_)
  exact b_nil k
/-- the least of some counts beyond m -/
theorem next_count {ns : List Int} {m : Int} : (∃ n ∈ ns, m < n) → ∃ n ∈ ns, m < n ∧ ∀ n' ∈ ns, m < n' → n ≤ n' := by
  induction ns with
  | nil => rintro ⟨n, h, _⟩; cases h
  | cons a ns ih =>
    rintro ⟨n, hn, hnm⟩
    by_cases h : ∃ n ∈ ns, m < n
    · obtain ⟨q, q1, q2, q3⟩ := ih h
      by_cases ha : m < a ∧ a ≤ q
      · refine ⟨a, by simp, ha.1, fun n' hn' h' => ?_⟩
        rcases List.mem_cons.1 hn' with rfl | h2
        · omega
        · have := q3 n' h2 h'; omega
      · refine ⟨q, by simp [q1], q2, fun n' hn' h' => ?_⟩
        rcases List.mem_cons.1 hn' with rfl | h2
        · omega
        · exact q3 n' h2 h'
    · rcases List.mem_cons.1 hn with rfl | h2
      · refine ⟨n, by simp, hnm, fun n' hn' h' => ?_⟩
        rcases List.mem_cons.1 hn' with rfl | h3
        · omega
        · exact absurd ⟨n', h3, h'⟩ h
      · exact absurd ⟨n, h2, hnm⟩ h
/-- up to the next count a stair rises as it rose at the last one -/
theorem Cor.val_next {cs : List Int} (hc : Cor cs) {b n q : Int} (hnq : n < q) (h : ∀ c ∈ cs, c < q → c ≤ n) : val b cs q = val b cs n + (pas cs n % 2 : Nat) * (q - n) := by
  have e := hc.val_step b (q - 1)
  have hp : pas cs (q - 1) = pas cs n := pas_same (by omega) fun c hcc hcm => h c hcc (by omega)
  have hv := hc.val_from (b := b) (n := n) (m := q - 1) (by omega) fun c hcc hcm => h c hcc (by omega)
  rw [show q - 1 + 1 = q from by omega, hp, hv] at e
  rw [e]
  rcases Nat.mod_two_eq_zero_or_one (pas cs n) with z | z <;> rw [z] <;> simp <;> omega
theorem at_lastL (hd : List V) (x : V) : atI (hd ++ [x]) (-1) = some x := by
  unfold atI ixN
  rw [if_neg (by decide), List.length_append, List.length_singleton, if_pos (by omega)]
  show (hd ++ [x])[((-1 : Int) + ((hd.length + 1 : Nat) : Int)).toNat]? = some x
  rw [show ((-1 : Int) + ((hd.length + 1 : Nat) : Int)).toNat = hd.length from by omega]
  simp
/-- the last corner, 0 where there is none -/
theorem RowAt.two {c1 c2 ys : List V} {i : Nat} {x y : V} (r : RowAt [c1, c2] i ys) (h1 : c1[i]? = some x) (h2 : c2[i]? = some y) : ys = [x, y] := by
  obtain ⟨l, r⟩ := r
  refine List.ext_getElem? fun j => ?_
  match j with
  | 0 => exact ((r 0 c1 rfl).symm.trans h1)
  | 1 => exact ((r 1 c2 rfl).symm.trans h2)
  | j + 2 => rw [List.getElem?_eq_none (by rw [l]; simp)]; rfl
theorem ColsAt.two {K : PySem.W.Frag} {H : Hp} {a b : Addr} {xs ys : List V} (h1 : SqL K H a xs) (h2 : SqL K H b ys) : ColsAt K H [a, b] [xs, ys]
  | 0, _, _, e1, e2 => by cases e1; cases e2; exact h1
  | 1, _, _, e1, e2 => by cases e1; cases e2; exact h2
  | j + 2, _, _, e1, _ => by simp at e1
theorem at_end {xs : List V} {x : V} (h0 : 0 < xs.length) (h : xs[xs.length - 1]? = some x) : atI xs (-1) = some x := by
  have e : xs ≠ [] := fun z => by rw [z] at h0; exact Nat.lt_irrefl _ h0
  have hd := (List.dropLast_concat_getLast e).symm
  have hx : xs.getLast e = x := by rw [List.getLast_eq_getElem]; rw [List.getElem?_eq_getElem (by omega)] at h; exact Option.some.inj h
  rw [hx] at hd
  rw [hd]
  exact at_lastL _ _
theorem wipe_get (σ : L2.St) : ∀ (vs : List Nat) (i : Nat), (wipe σ vs)[i]? = if i ∈ vs then (σ[i]?).map (fun _ => none) else σ[i]?
  | [], i => by simp [wipe]
  | v :: vs, i => by
    show ((wipe σ vs).set v none)[i]? = _
    rw [List.getElem?_set, wipe_length]
    by_cases h : v = i
    · subst h
      rw [if_pos rfl, if_pos (List.mem_cons_self ..)]
      by_cases hl : v < σ.length
      · rw [if_pos hl, List.getElem?_eq_getElem hl]; rfl
      · rw [if_neg hl, List.getElem?_eq_none (by omega)]; rfl
    · rw [if_neg h, wipe_get σ vs i]
      by_cases hi : i ∈ vs
      · rw [if_pos hi, if_pos (List.mem_cons_of_mem _ hi)]
      · rw [if_neg hi, if_neg fun z => (List.mem_cons.1 z).elim (fun z => h z.symm) hi]
theorem wipe_set {σ : L2.St} {vs : List Nat} {v : Nat} {a : Option V} (h : v ∈ vs) : wipe (σ.set v a) vs = wipe σ vs := by
  refine List.ext_getElem? fun i => ?_
  rw [wipe_get, wipe_get]
  by_cases hi : i ∈ vs
  · rw [if_pos hi, if_pos hi, List.getElem?_set]
    by_cases e : v = i
    · subst e
      rw [if_pos rfl]
      by_cases hl : v < σ.length
      · rw [if_pos hl, List.getElem?_eq_getElem hl]; rfl
      · rw [if_neg hl, List.getElem?_eq_none (by omega)]
    · rw [if_neg e]
  · have e : v ≠ i := fun z => hi (by rw [← z]; exact h)
    rw [if_neg hi, if_neg hi, List.getElem?_set_ne e]
theorem wipe_wipe (σ : L2.St) (vs : List Nat) : wipe (wipe σ vs) vs = wipe σ vs := by
  refine List.ext_getElem? fun i => ?_
  rw [wipe_get, wipe_get]
  by_cases hi : i ∈ vs
  · rw [if_pos hi, if_pos hi]; cases σ[i]? <;> rfl
  · rw [if_neg hi, if_neg hi]
/-- the counts of a crossing: for each corner it and how far the two are from one another there -/
def sp_cross (m : Md) (C : Addr) : Sp := fun vs H Q _ => ∃ (i j : Addr) (b e : Int) (cs ds : List Int), vs = [.ref i, .ref j] ∧ StairAt C Any H i b cs ∧ StairAt C Any H j e ds ∧ Cor cs ∧ Cor ds ∧ cs.length + ds.length < 3899 ∧
  ∀ (r : Addr) (ns : List Int) (H' : Hp), Grow m.T H H' → New H r → H' r = some (.lst ((ns.map fun n => n + ((val b cs n - val e ds n).natAbs : Int)).map V.int)) → ns.Pairwise (· < ·) → (∀ k : Int, k ∈ ns ↔ k = 0 ∨ k ∈ cs ∨ k ∈ ds) → ns.length ≤ 1 + cs.length + ds.length → Q (.ref r) H'
theorem c_cross {m : Md} {C f : Addr} {fd : FuncData} (F : C8.Def m.K m.mg "_crossings" st_x_crossings f fd) (b : L2.Binds m.K fd ps_x_crossings []) (hz : m.mg "zip" = none) (habs : m.mg "abs" = none) (Co : Cal m 3 "_corners_of" (sp_co m C)) (Cr : Cal m 3 "_course" (sp_course m C)) : Cal m 4 "_crossings" (sp_cross m C) := by
  refine cal_of F b sc_x_crossings (fun vs H Q E h => by obtain ⟨_, _, _, _, _, _, rfl, _⟩ := h; rfl) fun X vs H Q E hA h => ?_
  obtain ⟨i, j, b1, b2, cs, ds, rfl, s1, s2, hc, hd, l1, k⟩ := h
  obtain ⟨n0, n1, n2, n3, n4⟩ := nv_x_crossings
  walk_at "B"
  walk_at "V"
  refine w_call hA Co (by omega) rfl ?_
  walk_at "V"
  refine ⟨by walk_at "S", fun p hp => ?_⟩
  have g0 := Grow.new (T := m.T) (o := .lst [V.ref i, .ref j]) hp
  walk_at "V"
  refine ⟨p, [(i, b1, cs), (j, b2, ds)], rfl, SqL.of upd_same, ?_, ?_, fun r ns H1 g1 nr hr asc mem nl2 => ?_⟩
  · intro s hs
    rcases List.mem_cons.1 hs with rfl | hs
    · exact ⟨s1.grow g0 (fun _ _ z => z) (fun z => z), hc, by show cs.length < 4000; omega⟩
    · obtain rfl := List.mem_singleton.1 hs
      exact ⟨s2.grow g0 (fun _ _ z => z) (fun z => z), hd, by show ds.length < 4000; omega⟩
  · simp; omega
  have nl : ns.length ≤ 1 + (cs.length + ds.length) := by simpa using nl2
  have gA := g0.trans g1
  have hh1 : Holds ns cs := ⟨(mem 0).2 (.inl rfl), fun c hcc => (mem c).2 (.inr ⟨(i, b1, cs), by simp, hcc⟩)⟩
  have hh2 : Holds ns ds := ⟨(mem 0).2 (.inl rfl), fun c hcc => (mem c).2 (.inr ⟨(j, b2, ds), by simp, hcc⟩)⟩
  have nle : ns.Pairwise (· ≤ ·) := asc.imp fun z => Int.le_of_lt z
  walk_at "B"
  walk_at "V"
  refine w_call hA Cr (by omega) rfl ?_
  walk_at "V"
  refine ⟨i, r, b1, cs, ns, rfl, s1.grow gA (fun _ _ z => z) (fun z => z), hc, by omega, SqL.of hr, nle, by omega, fun r1 xs H2 g2 nr1 hr1 da1 => ?_⟩
  walk_at "B"
  walk_at "V"
  refine w_call hA Cr (by omega) rfl ?_
  walk_at "V"
  refine ⟨j, r, b2, ds, ns, rfl, s2.grow (gA.trans g2) (fun _ _ z => z) (fun z => z), hd, by omega, GrowX.seqL g2 (SqL.of hr) fun z => z, nle, by omega, fun r2 ys H3 g3 nr2 hr2 da2 => ?_⟩
  walk_at "B"
  walk_at "V"
  have x1 : xs.length = ns.length := by rw [da1.length, List.length_map]
  have y1 : ys.length = ns.length := by rw [da2.length, List.length_map]
  have qr := GrowX.seqL (g2.trans g3) (SqL.of (K := m.K) hr) fun z => z
  have qr1 := GrowX.seqL g3 (SqL.of (K := m.K) hr1) fun z => z
  have qr2 := SqL.of (K := m.K) hr2
  refine w_lcZn hA (n := 3) (own := [("count", 5), ("told", 6), ("_", 7), ("less", 8)]) (g := gTup m.K 3 (gCons (gName 5) (gCons (gTup m.K 2 (gCons (gName 6) (gCons (gName 7) gNil))) (gCons (gTup m.K 2 (gCons (gName 8) (gCons (gName 7) gNil))) gNil)))) (fun X' h' => ?_) hz rfl (by decide +kernel) (by omega) (by omega) ck3 ?_
  · rw [← h'.kk]
    exact pg_tup h'.calm (pgs_cons (pg_nl h' ⟨rfl, rfl⟩) (pgs_cons (pg_tup h'.calm (pgs_cons (pg_nl h' ⟨rfl, rfl⟩) (pgs_cons (pg_nl h' ⟨rfl, rfl⟩) pgs_nil (by with_unfolding_all rfl)) (by with_unfolding_all rfl)) (by with_unfolding_all rfl) (by with_unfolding_all rfl)) (pgs_cons (pg_tup h'.calm (pgs_cons (pg_nl h' ⟨rfl, rfl⟩) (pgs_cons (pg_nl h' ⟨rfl, rfl⟩) pgs_nil (by with_unfolding_all rfl)) (by with_unfolding_all rfl)) (by with_unfolding_all rfl) (by with_unfolding_all rfl)) pgs_nil (by with_unfolding_all rfl)) (by with_unfolding_all rfl)) (by with_unfolding_all rfl)) (by with_unfolding_all rfl) (by with_unfolding_all rfl)
  walk_at "V"
  have hL : ∀ col ∈ [ns.map V.int, xs, ys], col.length = ns.length := by
    intro col hcol
    simp only [List.mem_cons, List.not_mem_nil, or_false] at hcol
    rcases hcol with rfl | rfl | rfl
    · exact List.length_map ..
    · exact x1
    · exact y1
  refine ⟨[r, r1, r2], [ns.map V.int, xs, ys], ns.length, rfl, rfl, rfl, ColsAt.three qr qr1 qr2, hL, fun D hD => ⟨fun t H' => Grow m.T H3 H' ∧ H' D = some (.lst (((ns.take t).map fun n => n + ((val b1 cs n - val b2 ds n).natAbs : Int)).map V.int)), ⟨Grow.new hD, upd_same⟩, ?_, ?_, ?_⟩⟩
  · rintro t H' _ ⟨g, _⟩
    exact ColsAt.three (GrowX.seqL g qr fun z => z) (GrowX.seqL g qr1 fun z => z) (GrowX.seqL g qr2 fun z => z)
  · rintro t zs T H' ht hrow ⟨g, hd'⟩ hT
    have hn := List.getElem?_eq_getElem ht
    generalize ns[t] = n at hn
    obtain ⟨x, hx⟩ : ∃ x, xs[t]? = some x := ⟨_, List.getElem?_eq_getElem (by omega)⟩
    obtain ⟨y, hy⟩ : ∃ y, ys[t]? = some y := ⟨_, List.getElem?_eq_getElem (by omega)⟩
    obtain rfl := hrow.three (x := .int n) (by rw [List.getElem?_map, hn]; rfl) hx hy
    obtain ⟨pd1, hpd1, dx⟩ := da1.getV (v := x) (i := t) hx
    obtain ⟨pd2, hpd2, dy⟩ := da2.getV (v := y) (i := t) hy
    rw [List.getElem?_map, hn] at hpd1 hpd2
    obtain rfl : told2 b1 cs n = pd1 := by simpa using hpd1
    obtain rfl : told2 b2 ds n = pd2 := by simpa using hpd2
    have gT := Grow.new (T := m.T) (o := .tup [V.int n, x, y]) hT
    obtain ⟨t1, rfl, ht1⟩ := pair_at (Grow.da ((g3.trans g).trans gT) dx)
    obtain ⟨t2, rfl, ht2⟩ := pair_at (Grow.da (g.trans gT) dy)
    refine ⟨T, [V.int n, .ref t1, .ref t2], rfl, SqT.of upd_same, rfl, ?_⟩
    refine ⟨V.int n, [.ref t1, .ref t2], rfl, ?_⟩
    refine ⟨V.ref t1, [.ref t2], rfl, ?_⟩
    refine ⟨t1, _, rfl, ht1, rfl, ?_⟩
    refine ⟨_, _, rfl, ?_⟩
    refine ⟨_, [], rfl, rfl, ?_⟩
    refine ⟨V.ref t2, [], rfl, ?_⟩
    refine ⟨t2, _, rfl, ht2, rfl, ?_⟩
    refine ⟨_, _, rfl, ?_⟩
    refine ⟨_, [], rfl, rfl, rfl, ?_⟩
    refine ⟨by rw [wipe_set (by simp), wipe_set (by simp), wipe_set (by simp), wipe_set (by simp), wipe_set (by simp), wipe_wipe], fun X' hX' => ?_⟩
    have c5 := nl_of hX' 5 "count"
    have c6 := nl_of hX' 6 "told"
    have c8 := nl_of hX' 8 "less"
    walk_at "V"
    refine g_blt hX' habs rfl bt_abs ?_
    walk_at "V"
    have hdT := Grow.extN gT _ _ hd' (fun _ z => by cases z)
    have ea : (if val b1 cs n - val b2 ds n < 0 then -(val b1 cs n - val b2 ds n) else val b1 cs n - val b2 ds n) = ((val b1 cs n - val b2 ds n).natAbs : Int) := by split <;> omega
    refine ⟨_, call_abs, _, rfl, ?_⟩
    rw [ea]
    walk_at "V"
    refine ⟨_, hdT, by rw [List.length_map, List.length_map, List.length_take, sizeLine_eq]; omega, Grow.intoNew (g.trans gT) (GrowX.lst hdT) fun c w => by rw [w]; exact hD, ?_⟩
    rw [upd_same, List.take_add_one, hn]; simp
  · rintro H' ⟨g, hd'⟩
    rw [List.take_length] at hd'
    refine k D ns H' (((gA.trans g2).trans g3).trans g) (((gA.trans g2).trans g3).keep _ hD) hd' asc (fun q => ?_) (by simp at nl2; omega)
    rw [mem q]
    simp
/-- a run through some counts with what is risen there: the counts at which the rise changes -/
def alo (acc : List Int) : List (Int × Int) → List Int
  | [] => acc
  | z :: zs => alo (if z.2 = ((acc.length % 2 : Nat) : Int) then acc else acc ++ [z.1]) zs
theorem alo_app : ∀ (xs ys : List (Int × Int)) (acc : List Int), alo acc (xs ++ ys) = alo (alo acc xs) ys
  | [], _, _ => rfl
  | x :: xs, ys, acc => by show alo _ (xs ++ ys) = _; rw [alo_app xs ys]; rfl
theorem alo_more : ∀ (zs : List (Int × Int)) (acc : List Int), ∃ t, alo acc zs = acc ++ t ∧ (∀ c ∈ t, c ∈ zs.map (·.1)) ∧ t.length ≤ zs.length
  | [], acc => ⟨[], by simp [alo], fun _ h => by simp at h, Nat.le_refl _⟩
  | z :: zs, acc => by
    by_cases h : z.2 = ((acc.length % 2 : Nat) : Int)
    · obtain ⟨t, e, m, l⟩ := alo_more zs acc
      refine ⟨t, by unfold alo; rw [if_pos h]; exact e, fun c hc => by simp [show c ∈ zs.map (·.1) from m c hc], by simp; omega⟩
    · obtain ⟨t, e, m, l⟩ := alo_more zs (acc ++ [z.1])
      refine ⟨z.1 :: t, by unfold alo; rw [if_neg h, e]; simp, fun c hc => ?_, by simp; omega⟩
      rcases List.mem_cons.1 hc with rfl | hc
      · simp
      · rw [List.map_cons]; exact List.mem_cons_of_mem _ (m c hc)
theorem alo_asc : ∀ (zs : List (Int × Int)) (acc : List Int), acc.Pairwise (· < ·) → (zs.map (·.1)).Pairwise (· < ·) → (∀ a ∈ acc, ∀ c ∈ zs.map (·.1), a < c) → (alo acc zs).Pairwise (· < ·)
  | [], _, h, _, _ => h
  | z :: zs, acc, h, hz, hl => by
    rw [List.map_cons] at hz
    obtain ⟨h1, h2⟩ := List.pairwise_cons.1 hz
    unfold alo
    split
    · exact alo_asc zs acc h h2 fun a ha c hc => hl a ha c (by rw [List.map_cons]; exact List.mem_cons_of_mem _ hc)
    · refine alo_asc zs _ ?_ h2 fun a ha c hc => ?_
      · rw [List.pairwise_append]
        exact ⟨h, by simp, fun a ha b hb => by rw [List.mem_singleton] at hb; subst hb; exact hl a ha _ (by simp)⟩
      · rcases List.mem_append.1 ha with ha | ha
        · exact hl a ha c (by rw [List.map_cons]; exact List.mem_cons_of_mem _ hc)
        · rw [List.mem_singleton] at ha; subst ha; exact h1 c hc
theorem alo_snoc (acc : List Int) (zs : List (Int × Int)) (z : Int × Int) : alo acc (zs ++ [z]) = if z.2 = (((alo acc zs).length % 2 : Nat) : Int) then alo acc zs else alo acc zs ++ [z.1] := by
  rw [alo_app]; rfl
theorem alo_par (acc : List Int) (zs : List (Int × Int)) (z : Int × Int) (h : z.2 = 0 ∨ z.2 = 1) : (((alo acc (zs ++ [z])).length % 2 : Nat) : Int) = z.2 := by
  rw [alo_snoc]
  split
  · next e => exact e.symm
  · next e => rw [List.length_append, List.length_singleton]; omega
/-- how many of the corners are passed at a count of the run, and so whether it rises behind it -/
theorem alo_pas {ns : List Int} {g : Int → Int} (asc : ns.Pairwise (· < ·)) (g01 : ∀ n, g n = 0 ∨ g n = 1) {n : Int} (hn : n ∈ ns) : ((pas (alo [] (ns.map fun n => (n, g n))) n % 2 : Nat) : Int) = g n := by
  obtain ⟨as, bs, rfl⟩ := List.append_of_mem hn
  have e1 : ((as ++ n :: bs).map fun n => (n, g n)) = (as.map (fun n => (n, g n)) ++ [(n, g n)]) ++ bs.map fun n => (n, g n) := by simp
  obtain ⟨h1, h2, h3⟩ := List.pairwise_append.1 asc
  have h4 := (List.pairwise_cons.1 h2).1
  have key : pas (alo [] ((as ++ n :: bs).map fun n => (n, g n))) n = (alo [] (as.map (fun n => (n, g n)) ++ [(n, g n)])).length := by
    rw [e1, alo_app]
    obtain ⟨t, et, mt, _⟩ := alo_more (bs.map fun n => (n, g n)) (alo [] (as.map (fun n => (n, g n)) ++ [(n, g n)]))
    obtain ⟨u, eu, mu, _⟩ := alo_more (as.map (fun n => (n, g n)) ++ [(n, g n)]) []
    rw [et]
    rw [List.nil_append] at eu
    refine pas_uniq _ _ _ (by simp) (fun i hi => ?_) fun hk => ?_
    · have hm : (alo [] (as.map (fun n => (n, g n)) ++ [(n, g n)]) ++ t).getD i 0 ∈ alo [] (as.map (fun n => (n, g n)) ++ [(n, g n)]) := by
        rw [List.getD_eq_getElem?_getD, List.getElem?_append_left hi, List.getElem?_eq_getElem hi]
        exact List.getElem_mem hi
      rw [eu] at hm
      have hm := mu _ hm
      simp only [List.map_append, List.map_map, List.mem_append, List.mem_map, List.map_cons, List.map_nil, List.mem_singleton, Function.comp] at hm
      rw [eu]
      rcases hm with ⟨a, ha, e⟩ | e
      · rw [← e]; exact Int.le_of_lt (h3 a ha n (by simp))
      · rw [e]; exact Int.le_refl _
    · rw [List.length_append] at hk
      have hm : (alo [] (as.map (fun n => (n, g n)) ++ [(n, g n)]) ++ t).getD (alo [] (as.map (fun n => (n, g n)) ++ [(n, g n)])).length 0 ∈ t := by
        rw [List.getD_eq_getElem?_getD, List.getElem?_append_right (Nat.le_refl _), Nat.sub_self, List.getElem?_eq_getElem (by omega)]
        exact List.getElem_mem _
      have hm := mt _ hm
      rw [List.map_map, List.mem_map] at hm
      obtain ⟨a, ha, e⟩ := hm
      rw [← e]
      exact h4 a ha
  rw [key]
  exact alo_par [] _ (n, g n) (g01 n)
/-- a run tells what it ran along, if that rises at each count as it rose at the last count of the run -/
theorem alo_val {ns : List Int} {f g : Int → Int} (asc : ns.Pairwise (· < ·)) (nn : ∀ n ∈ ns, 0 ≤ n) (h0 : (0 : Int) ∈ ns) (g01 : ∀ n, g n = 0 ∨ g n = 1)
    (hf : ∀ n ∈ ns, ∀ m, n ≤ m → (∀ n' ∈ ns, n' ≤ m → n' ≤ n) → f (m + 1) = f m + g n) :
    Cor (alo [] (ns.map fun n => (n, g n))) ∧ (alo [] (ns.map fun n => (n, g n))).length ≤ ns.length ∧ ∀ m, 0 ≤ m → val (f 0) (alo [] (ns.map fun n => (n, g n))) m = f m := by
  obtain ⟨t, et, mt, lt⟩ := alo_more (ns.map fun n => (n, g n)) []
  have em : (ns.map fun n => (n, g n)).map (·.1) = ns := by rw [List.map_map]; exact List.map_id' _
  rw [em] at mt
  rw [List.nil_append] at et
  rw [List.length_map] at lt
  have hc : Cor (alo [] (ns.map fun n => (n, g n))) := ⟨alo_asc _ _ (by simp) (by rw [em]; exact asc) (fun a ha => by simp at ha), fun c hcc => nn c (mt c (et ▸ hcc))⟩
  refine ⟨hc, by rw [et]; exact lt, fun m hm => ?_⟩
  obtain ⟨k, rfl⟩ : ∃ k : Nat, m = k := ⟨m.toNat, by omega⟩
  clear hm
  induction k with
  | zero => exact hc.val_zero _
  | succ k ih =>
    obtain ⟨n, q1, q2, q3⟩ := last_count ⟨0, h0, (by omega : (0 : Int) ≤ (k : Int))⟩
    rw [show ((k + 1 : Nat) : Int) = (k : Int) + 1 from by omega, hc.val_step, ih, hf n q1 k q2 q3]
    rw [pas_same q2 fun c hcc hcm => q3 c (mt c (et ▸ hcc)) hcm, alo_pas asc g01 q1]
/-- which of two pairs comes first, by both of their numbers -/
def lexZ (p q : Int × Int) : Bool := if p.1 = q.1 then decide (p.2 < q.2) else decide (p.1 < q.1)
/-- the first (or, where num is not 1, the second) of two pairs -/
def pick2 (num : Int) (p q : Int × Int) : Int × Int := if num = 1 then (if lexZ q p = true then q else p) else (if lexZ q p = true then p else q)
def tp (b : Int) (cs : List Int) (n : Int) : Int × Int := (val b cs n, ((pas cs n % 2 : Nat) : Int))
/-- counts of two stairs: their corners, and the counts at which they cross -/
structure Crs (ns : List Int) (b : Int) (cs : List Int) (e : Int) (ds : List Int) : Prop where
  asc : ns.Pairwise (· < ·)
  nn : ∀ n ∈ ns, 0 ≤ n
  h1 : Holds ns cs
  h2 : Holds ns ds
  cr : ∀ n, n = 0 ∨ n ∈ cs ∨ n ∈ ds → n + ((val b cs n - val e ds n).natAbs : Int) ∈ ns
theorem tp_01 (num b e n : Int) (cs ds : List Int) : (pick2 num (tp b cs n) (tp e ds n)).2 = 0 ∨ (pick2 num (tp b cs n) (tp e ds n)).2 = 1 := by
  unfold pick2 tp
  repeat' split
  all_goals
    show ((_ % 2 : Nat) : Int) = 0 ∨ _
    omega
/-- where the one that tells less rises no slower, they do not cross before the next count -/
theorem Crs.far {ns : List Int} {b e : Int} {cs ds : List Int} (w : Crs ns b cs e ds) (hc : Cor cs) (hd : Cor ds) {n m : Int} (hn : n ∈ ns) (hnm : n ≤ m) (lst : ∀ n' ∈ ns, n' ≤ m → n' ≤ n) (s1 : pas cs n % 2 = 1) (s2 : pas ds n % 2 = 0) (lt : val b cs n < val e ds n) :
    m - n + 1 ≤ val e ds n - val b cs n := by
  refine Classical.byContradiction fun no => ?_
  obtain ⟨c, q1, q2, q3⟩ := last_count (ns := 0 :: (cs ++ ds)) (m := n) ⟨0, by simp, w.nn n hn⟩
  have a1 := hc.val_from (b := b) q2 fun x hx hxm => q3 x (by simp [hx]) hxm
  have a2 := hd.val_from (b := e) q2 fun x hx hxm => q3 x (by simp [hx]) hxm
  rw [← pas_same q2 fun x hx hxm => q3 x (by simp [hx]) hxm, s1] at a1
  rw [← pas_same q2 fun x hx hxm => q3 x (by simp [hx]) hxm, s2] at a2
  have hx := w.cr c (by simpa using q1)
  have e1 : c + ((val b cs c - val e ds c).natAbs : Int) = n + (val e ds n - val b cs n) := by
    rw [a1, a2]
    simp at a1 a2
    simp
    omega
  rw [e1] at hx
  have := lst _ hx (by omega)
  omega
theorem Crs.swap {ns : List Int} {b e : Int} {cs ds : List Int} (w : Crs ns b cs e ds) : Crs ns e ds b cs :=
  ⟨w.asc, w.nn, w.h2, w.h1, fun n h => by
    have := w.cr n (by rcases h with h | h | h <;> simp [h])
    rwa [show (val e ds n - val b cs n).natAbs = (val b cs n - val e ds n).natAbs from by omega]⟩
theorem step_min {x y s t d : Int} (hd : 0 ≤ d) (hs : s = 0 ∨ s = 1) (ht : t = 0 ∨ t = 1) (f1 : s = 1 → t = 0 → x < y → d + 1 ≤ y - x) (f2 : t = 1 → s = 0 → y < x → d + 1 ≤ x - y) :
    min (x + s * d + s) (y + t * d + t) = min (x + s * d) (y + t * d) + (pick2 1 (x, s) (y, t)).2 ∧ max (x + s * d + s) (y + t * d + t) = max (x + s * d) (y + t * d) + (pick2 2 (x, s) (y, t)).2 := by
  unfold pick2 lexZ
  rcases hs with rfl | rfl <;> rcases ht with rfl | rfl <;> by_cases h1 : y = x <;> by_cases h2 : y < x <;> simp [h1, h2] <;> simp at f1 f2 <;> omega
/-- what the two tell up to the next count -/
theorem Crs.step {ns : List Int} {b e : Int} {cs ds : List Int} (w : Crs ns b cs e ds) (hc : Cor cs) (hd : Cor ds) {n m : Int} (hn : n ∈ ns) (hnm : n ≤ m) (lst : ∀ n' ∈ ns, n' ≤ m → n' ≤ n) :
    min (val b cs (m + 1)) (val e ds (m + 1)) = min (val b cs m) (val e ds m) + (pick2 1 (tp b cs n) (tp e ds n)).2 ∧ max (val b cs (m + 1)) (val e ds (m + 1)) = max (val b cs m) (val e ds m) + (pick2 2 (tp b cs n) (tp e ds n)).2 := by
  have a1 := hc.val_from (b := b) hnm fun x hx hxm => lst x (w.h1.2 x hx) hxm
  have a2 := hd.val_from (b := e) hnm fun x hx hxm => lst x (w.h2.2 x hx) hxm
  have p1 := pas_same hnm fun x hx hxm => lst x (w.h1.2 x hx) hxm
  have p2 := pas_same hnm fun x hx hxm => lst x (w.h2.2 x hx) hxm
  have f1 := w.far hc hd hn hnm lst
  have f2 := w.swap.far hd hc hn hnm lst
  rw [hc.val_step, hd.val_step, p1, p2, a1, a2]
  exact step_min (by omega) (by omega) (by omega) (fun z1 z2 => f1 (by omega) (by omega)) fun z1 z2 => f2 (by omega) (by omega)
theorem pick_1 (p q : Int × Int) : (pick2 1 p q).1 = min p.1 q.1 := by
  unfold pick2 lexZ
  by_cases h1 : q.1 = p.1 <;> by_cases h2 : q.1 < p.1 <;> by_cases h3 : q.2 < p.2 <;> simp [h1, h2, h3] <;> omega
theorem pick_2 (p q : Int × Int) : (pick2 2 p q).1 = max p.1 q.1 := by
  unfold pick2 lexZ
  by_cases h1 : q.1 = p.1 <;> by_cases h2 : q.1 < p.1 <;> by_cases h3 : q.2 < p.2 <;> simp [h1, h2, h3] <;> omega
/-- the run along the first, or the second, of two stairs tells that everywhere -/
theorem Crs.run {ns : List Int} {b e : Int} {cs ds : List Int} (w : Crs ns b cs e ds) (hc : Cor cs) (hd : Cor ds) {num : Int} (hnum : num = 1 ∨ num = 2) :
    Cor (alo [] (ns.map fun n => (n, (pick2 num (tp b cs n) (tp e ds n)).2))) ∧ (alo [] (ns.map fun n => (n, (pick2 num (tp b cs n) (tp e ds n)).2))).length ≤ ns.length ∧
      ∀ m, 0 ≤ m → val (pick2 num (tp b cs 0) (tp e ds 0)).1 (alo [] (ns.map fun n => (n, (pick2 num (tp b cs n) (tp e ds n)).2))) m = (pick2 num (tp b cs m) (tp e ds m)).1 := by
  refine alo_val (f := fun m => (pick2 num (tp b cs m) (tp e ds m)).1) (g := fun n => (pick2 num (tp b cs n) (tp e ds n)).2) w.asc w.nn w.h1.1 (fun n => tp_01 num b e n cs ds) fun n hn m hnm lst => ?_
  obtain ⟨s1, s2⟩ := w.step hc hd hn hnm lst
  rcases hnum with rfl | rfl
  · simp only [pick_1]
    exact s1
  · simp only [pick_2]
    exact s2
def sp_along (m : Md) (C : Addr) : Sp := fun vs H Q _ => ∃ (l c : Addr) (ns : List Int) (xs : List V) (F g : Int → Int), vs = [.ref l, .ref c] ∧ SqL m.K H l (ns.map V.int) ∧ SqL m.K H c xs ∧ DaAll m.K Any H xs (ns.map fun n => PyData.tuple [.int (F n), .int (g n)]) ∧ ns[0]? = some 0 ∧ ns.length < 4000 ∧
  Cor (alo [] (ns.map fun n => (n, g n))) ∧ ∀ (i : Addr) (H' : Hp), Grow m.T H H' → New H i → StairAt C (New H) H' i (F 0) (alo [] (ns.map fun n => (n, g n))) → Q (.ref i) H'
theorem c_along {m : Md} {C f : Addr} {fd : FuncData} (F : C8.Def m.K m.mg "_along" st_x_along f fd) (b : L2.Binds m.K fd ps_x_along []) (hz : m.mg "zip" = none) (hn : m.mg "len" = none) (Mk : MakX m C8.CX0 4 "Stair" C (sp_sinit m C) []) : Cal m 6 "_along" (sp_along m C) := by
  refine cal_of F b sc_x_along (fun vs H Q E h => by obtain ⟨_, _, _, _, _, _, rfl, _⟩ := h; rfl) fun X vs H Q E hA h => ?_
  obtain ⟨l, c, ns, xs, Fv, g, rfl, hl, hx, dx, h0, hlen, hc, k⟩ := h
  obtain ⟨n0, n1, n2, n3, n4, n5⟩ := nv_x_along
  have x1 : xs.length = ns.length := by rw [dx.length, List.length_map]
  walk_at "B"
  walk_at "V"
  refine ⟨by walk_at "S", fun r hr => ?_⟩
  have gr := Grow.new (T := m.T) (o := .lst []) hr
  walk_at "B"
  refine s_forZ hA (pg_tup hA.calm (pgs_cons (pg_nl hA n3) (pgs_cons (pg_tup hA.calm (pgs_cons (pg_nl hA n4) (pgs_cons (pg_nl hA n5) pgs_nil (by with_unfolding_all rfl)) (by with_unfolding_all rfl)) (by with_unfolding_all rfl) (by with_unfolding_all rfl)) pgs_nil (by with_unfolding_all rfl)) (by with_unfolding_all rfl)) (by with_unfolding_all rfl) (by with_unfolding_all rfl)) hz rfl ?_
  walk_at "V"
  have hl1 := GrowX.seqL gr hl fun z => z
  have hx1 := GrowX.seqL gr hx fun z => z
  refine ⟨l, c, _, _, rfl, hl1, hx1, by rw [List.length_map, x1], fun t σ H' => σ = [some (.ref l), some (.ref c), some (.ref r), σ.getD 3 none, σ.getD 4 none, σ.getD 5 none] ∧ H' r = some (.lst ((alo [] ((ns.take t).map fun n => (n, g n))).map V.int)) ∧ Grow m.T H H', ⟨rfl, upd_same, gr⟩, ?_, ?_, ?_⟩
  · rintro t σ H' ⟨_, _, g1⟩
    exact ⟨GrowX.seqL g1 hl fun z => z, GrowX.seqL g1 hx fun z => z⟩
  · rintro t x y T σ H' hxt hyt ⟨es, hr1, g1⟩ hT
    rw [List.getElem?_map] at hxt
    obtain ⟨n, hn1, rfl⟩ := Option.map_eq_some_iff.1 hxt
    obtain ⟨pd, hpd, dy⟩ := dx.getV (v := y) (i := t) hyt
    rw [List.getElem?_map, hn1] at hpd
    obtain rfl : PyData.tuple [.int (Fv n), .int (g n)] = pd := by simpa using hpd
    have gT := Grow.new (T := m.T) (o := .tup [V.int n, y]) hT
    obtain ⟨ty, rfl, hty⟩ := pair_at (Grow.da (g1.trans gT) dy)
    refine ⟨T, _, rfl, SqT.of upd_same, rfl, _, _, rfl, _, _, rfl, ⟨ty, _, rfl, by rw [hA.kk]; exact hty, rfl, _, _, rfl, _, [], rfl, ⟨rfl, ⟨rfl, ?_⟩⟩⟩⟩
    rw [es]
    have hrT : r ≠ T := fun z => by rw [← z, hr1] at hT; cases hT
    have hr2 : upd H' T (.tup [V.int n, .ref ty]) r = _ := (upd_ne hrT).trans hr1
    have g2 := g1.trans gT
    walk_at "B"
    walk_at "V"
    refine g_blt hA hn rfl bt_len ?_
    walk_at "V"
    refine g_lenL hA (SqL.of hr2) ?_
    rw [List.length_map]
    walk_at "V"
    refine g_modI (by omega) ?_
    walk_at "V"
    have et : (ns.take (t + 1)).map (fun n => (n, g n)) = (ns.take t).map (fun n => (n, g n)) ++ [(n, g n)] := by rw [List.take_add_one, hn1]; simp
    generalize hA' : alo [] ((ns.take t).map fun n => (n, g n)) = acc at hr2
    have es1 := alo_snoc [] ((ns.take t).map fun n => (n, g n)) (n, g n)
    rw [← et, hA'] at es1
    refine ite2 (fun h1 => ?_) fun h1 => ?_
    · walk_at "V"
      refine g_append ?_
      walk_at "V"
      refine ⟨tyL hr2, ?_⟩
      walk_at "V"
      have hacc : acc.length ≤ t := by
        obtain ⟨t', e', _, l'⟩ := alo_more ((ns.take t).map fun n => (n, g n)) []
        rw [hA', List.nil_append] at e'
        rw [List.length_map, List.length_take] at l'
        rw [e']; omega
      have ht : t < ns.length := (List.getElem?_eq_some_iff.1 hn1).1
      refine ⟨r, _, .int n, rfl, rfl, hr2, by rw [List.length_map, sizeLine_eq]; omega, b_nil ⟨rfl, ?_, Grow.intoNew g2 (GrowX.lst hr2) fun c w => by rw [w]; exact hr⟩⟩
      rw [upd_same, es1, if_neg (by simpa using h1), List.map_append]; rfl
    · refine b_nil (b_nil ⟨rfl, ?_, g2⟩)
      rw [hr2, es1, if_pos (by simpa using h1)]
  · rintro σ H' ⟨es, hr1, g1⟩
    rw [es]
    rw [List.length_map, List.take_length] at hr1
    walk_at "B"
    walk_at "V"
    obtain ⟨y, hy⟩ : ∃ y, xs[0]? = some y := ⟨_, List.getElem?_eq_getElem (by have := (List.getElem?_eq_some_iff.1 h0).1; omega)⟩
    obtain ⟨pd, hpd, dy⟩ := dx.getV (v := y) (i := 0) hy
    rw [List.getElem?_map, h0] at hpd
    obtain rfl : PyData.tuple [.int (Fv 0), .int (g 0)] = pd := by simpa using hpd
    obtain ⟨ty, rfl, hty⟩ := pair_at (Grow.da g1 dy)
    have hlen2 : (alo [] (ns.map fun n => (n, g n))).length < 4000 := by
      obtain ⟨t', e', _, l'⟩ := alo_more (ns.map fun n => (n, g n)) []
      rw [List.nil_append] at e'
      rw [List.length_map] at l'
      rw [e']; exact Nat.lt_of_le_of_lt l' hlen
    refine w_stair hA Mk (by omega) rfl ?_
    walk_at "V"
    refine g_ixL hA (GrowX.seqL g1 hx fun z => z) (atI_at (j := 0) hy) ?_
    walk_at "V"
    refine g_ixT hA hty (atI_at (j := 0) rfl) ?_
    walk_at "V"
    refine ⟨Fv 0, r, _, rfl, SqL.of hr1, by rw [hr1]; simp, hc, hlen2, fun i H2 g2 hi st => ?_⟩
    exact k i H2 (g1.trans g2) (g1.keep _ hi) (st.sub fun a ha => g1.keep _ ha)
def tps (S : List (Int × List Int)) (n : Int) : List (Int × Int) := S.map fun s => tp s.1 s.2 n
def leP (p q : Int × Int) : Bool := !lexZ q p
theorem leP_iff {p q : Int × Int} : leP p q = true ↔ p.1 < q.1 ∨ (p.1 = q.1 ∧ p.2 ≤ q.2) := by
  unfold leP lexZ
  by_cases h : q.1 = p.1
  · rw [if_pos h]
    simp
    omega
  · rw [if_neg h]
    simp
    omega
theorem leP_trans (a b c : Int × Int) (h1 : leP a b = true) (h2 : leP b c = true) : leP a c = true := by
  rw [leP_iff] at *
  omega
theorem leP_total (a b : Int × Int) : (leP a b || leP b a) = true := by
  rw [Bool.or_eq_true, leP_iff, leP_iff]
  omega
def srt (l : List (Int × Int)) : List (Int × Int) := l.mergeSort leP
theorem srt_perm (l : List (Int × Int)) : (srt l).Perm l := List.mergeSort_perm l leP
theorem srt_pw (l : List (Int × Int)) : (srt l).Pairwise fun a b => leP a b = true := List.pairwise_mergeSort leP_trans leP_total l
theorem srt_uniq {l ys : List (Int × Int)} (h1 : ys.Perm l) (h2 : ys.Pairwise fun a b => leP a b = true) : ys = srt l :=
  List.Perm.eq_of_pairwise (le := fun a b => leP a b = true) (fun a b _ _ h h' => by
    rw [leP_iff] at h h'
    exact Prod.ext (by omega) (by omega)) h2 (srt_pw l) (h1.trans (srt_perm l).symm)
theorem ints_uniq {xs ys : List Int} (h : xs.Perm ys) (h1 : xs.Pairwise (· ≤ ·)) (h2 : ys.Pairwise (· ≤ ·)) : xs = ys :=
  List.Perm.eq_of_pairwise (fun a b _ _ h h' => Int.le_antisymm h h') h1 h2 h
/-- what stands at place k of what some stairs tell, from the least on, and whether it rises -/
def rk (k : Nat) (S : List (Int × List Int)) (n : Int) : Int × Int := (srt (tps S n)).getD k (0, 0)
theorem tps_len (S : List (Int × List Int)) (n : Int) : (srt (tps S n)).length = S.length := by rw [(srt_perm _).length_eq]; simp [tps]
theorem rk_mem {k : Nat} {S : List (Int × List Int)} (h : k < S.length) (n : Int) : ∃ s ∈ S, rk k S n = tp s.1 s.2 n := by
  have hk : k < (srt (tps S n)).length := by rw [tps_len]; exact h
  have hm : rk k S n ∈ srt (tps S n) := by
    unfold rk
    rw [List.getD_eq_getElem?_getD, List.getElem?_eq_getElem hk]
    exact List.getElem_mem hk
  have hm := (srt_perm _).mem_iff.1 hm
  obtain ⟨s, hs, e⟩ := List.mem_map.1 hm
  exact ⟨s, hs, e.symm⟩
theorem rk_01 (k : Nat) (S : List (Int × List Int)) (n : Int) : (rk k S n).2 = 0 ∨ (rk k S n).2 = 1 := by
  rcases Nat.lt_or_ge k S.length with h | h
  · obtain ⟨s, _, e⟩ := rk_mem h n
    rw [e]
    show ((_ % 2 : Nat) : Int) = 0 ∨ _
    show ((pas s.2 n % 2 : Nat) : Int) = 0 ∨ ((pas s.2 n % 2 : Nat) : Int) = 1
    omega
  · have : rk k S n = (0, 0) := by
      unfold rk
      rw [List.getD_eq_getElem?_getD, List.getElem?_eq_none (by rw [tps_len]; exact h)]; rfl
    rw [this]; exact .inl rfl
theorem getD_map' {l : List (Int × Int)} {f : Int × Int → Int × Int} {k : Nat} (h : k < l.length) : (l.map f).getD k (0, 0) = f (l.getD k (0, 0)) := by
  simp [List.getD_eq_getElem?_getD, List.getElem?_eq_getElem h]
/-- one count on -/
theorem rk_next {S : List (Int × List Int)} (hS : ∀ s ∈ S, Cor s.2) {k : Nat} (hk : k < S.length) (m : Int) : (rk k S (m + 1)).1 = (rk k S m).1 + (rk k S m).2 := by
  have e : (srt (tps S (m + 1))).map (·.1) = (srt (tps S m)).map fun p => p.1 + p.2 := by
    refine ints_uniq ?_ ?_ ?_
    · have p1 := (srt_perm (tps S (m + 1))).map (·.1)
      have p2 := (srt_perm (tps S m)).map fun p : Int × Int => p.1 + p.2
      have e : (tps S (m + 1)).map (·.1) = (tps S m).map fun p => p.1 + p.2 := by
        unfold tps
        rw [List.map_map, List.map_map]
        refine List.map_congr_left fun s hs => ?_
        exact (hS s hs).val_step s.1 m
      rw [e] at p1
      exact p1.trans p2.symm
    · rw [List.pairwise_map]
      exact (srt_pw _).imp fun h => by rw [leP_iff] at h; omega
    · rw [List.pairwise_map]
      have h01 : ∀ p ∈ srt (tps S m), p.2 = 0 ∨ p.2 = 1 := fun p hp => by
        obtain ⟨s, _, e⟩ := List.mem_map.1 ((srt_perm _).mem_iff.1 hp)
        rw [← e]
        show ((pas s.2 m % 2 : Nat) : Int) = 0 ∨ ((pas s.2 m % 2 : Nat) : Int) = 1
        omega
      refine (srt_pw (tps S m)).imp_of_mem fun ha hb h => ?_
      rw [leP_iff] at h
      have := h01 _ ha
      have := h01 _ hb
      omega
  have h1 : k < (srt (tps S (m + 1))).length := by rw [tps_len]; exact hk
  have h2 : k < (srt (tps S m)).length := by rw [tps_len]; exact hk
  have e2 := congrArg (fun l : List Int => l[k]?) e
  simp only [List.getElem?_map, List.getElem?_eq_getElem h1, List.getElem?_eq_getElem h2, Option.map_some, Option.some.injEq] at e2
  unfold rk
  rw [List.getD_eq_getElem?_getD, List.getD_eq_getElem?_getD, List.getElem?_eq_getElem h1, List.getElem?_eq_getElem h2]
  exact e2
/-- counts of some stairs -/
structure CrS (ns : List Int) (S : List (Int × List Int)) : Prop where
  asc : ns.Pairwise (· < ·)
  nn : ∀ n ∈ ns, 0 ≤ n
  h0 : (0 : Int) ∈ ns
  hs : ∀ s ∈ S, ∀ c ∈ s.2, c ∈ ns
  cr : ∀ s ∈ S, ∀ t ∈ S, ∀ n, n = 0 ∨ n ∈ s.2 ∨ n ∈ t.2 → n + ((val s.1 s.2 n - val t.1 t.2 n).natAbs : Int) ∈ ns
theorem CrS.two {ns : List Int} {S : List (Int × List Int)} (w : CrS ns S) {s t : Int × List Int} (hs : s ∈ S) (ht : t ∈ S) : Crs ns s.1 s.2 t.1 t.2 :=
  ⟨w.asc, w.nn, ⟨w.h0, w.hs s hs⟩, ⟨w.h0, w.hs t ht⟩, w.cr s hs t ht⟩
/-- up to the next count the order stands still -/
theorem CrS.still {ns : List Int} {S : List (Int × List Int)} (w : CrS ns S) (hS : ∀ s ∈ S, Cor s.2) {n m : Int} (hn : n ∈ ns) (hnm : n ≤ m) (lst : ∀ n' ∈ ns, n' ≤ m → n' ≤ n) : srt (tps S m) = (srt (tps S n)).map fun p => (p.1 + p.2 * (m - n), p.2) := by
  have e : tps S m = (tps S n).map fun p => (p.1 + p.2 * (m - n), p.2) := by
    unfold tps
    rw [List.map_map]
    refine List.map_congr_left fun s hs => ?_
    have h1 := (hS s hs).val_from (b := s.1) hnm fun c hc hcm => lst c (w.hs s hs c hc) hcm
    have h2 := pas_same hnm fun c hc hcm => lst c (w.hs s hs c hc) hcm
    show (val s.1 s.2 m, ((pas s.2 m % 2 : Nat) : Int)) = (val s.1 s.2 n + ((pas s.2 n % 2 : Nat) : Int) * (m - n), ((pas s.2 n % 2 : Nat) : Int))
    rw [h1, h2]
  refine (srt_uniq ?_ ?_).symm
  · rw [e]
    exact (srt_perm (tps S n)).map _
  · rw [List.pairwise_map]
    refine (srt_pw (tps S n)).imp_of_mem fun {p q} hp hq h => ?_
    obtain ⟨s, hs, rfl⟩ := List.mem_map.1 ((srt_perm _).mem_iff.1 hp)
    obtain ⟨t, ht, rfl⟩ := List.mem_map.1 ((srt_perm _).mem_iff.1 hq)
    have f1 := (w.two hs ht).far (hS s hs) (hS t ht) hn hnm lst
    rw [leP_iff] at h ⊢
    unfold tp at h ⊢
    simp only [] at h ⊢
    generalize val s.1 s.2 n = x at *
    generalize val t.1 t.2 n = y at *
    rcases Nat.mod_two_eq_zero_or_one (pas s.2 n) with z1 | z1 <;> rcases Nat.mod_two_eq_zero_or_one (pas t.2 n) with z2 | z2
    · rw [z1, z2] at h ⊢; simp at h ⊢; omega
    · rw [z1, z2] at h ⊢; simp at h ⊢; omega
    · have f2 := f1 z1 z2
      rw [z1, z2] at h ⊢; simp at h ⊢; omega
    · rw [z1, z2] at h ⊢; simp at h ⊢; omega
theorem CrS.run {ns : List Int} {S : List (Int × List Int)} (w : CrS ns S) (hS : ∀ s ∈ S, Cor s.2) {k : Nat} (hk : k < S.length) :
    Cor (alo [] (ns.map fun n => (n, (rk k S n).2))) ∧ (alo [] (ns.map fun n => (n, (rk k S n).2))).length ≤ ns.length ∧ ∀ m, 0 ≤ m → val (rk k S 0).1 (alo [] (ns.map fun n => (n, (rk k S n).2))) m = (rk k S m).1 := by
  refine alo_val (f := fun m => (rk k S m).1) (g := fun n => (rk k S n).2) w.asc w.nn w.h0 (fun n => rk_01 k S n) fun n hn m hnm lst => ?_
  have e : (rk k S m).2 = (rk k S n).2 := by
    have := w.still hS hn hnm lst
    unfold rk
    rw [this, getD_map' (by rw [tps_len]; exact hk)]
  show (rk k S (m + 1)).1 = (rk k S m).1 + (rk k S n).2
  rw [rk_next hS hk, e]
/-- the least, the greatest -/
theorem rk_least {S : List (Int × List Int)} {n x : Int} (h1 : ∃ s ∈ S, val s.1 s.2 n = x) (h2 : ∀ s ∈ S, x ≤ val s.1 s.2 n) : (rk 0 S n).1 = x := by
  obtain ⟨s, hs, e⟩ := h1
  have hl : 0 < S.length := List.length_pos_of_mem hs
  obtain ⟨t, ht, et⟩ := rk_mem hl n
  have a : x ≤ (rk 0 S n).1 := by rw [et]; exact h2 t ht
  have hk : 0 < (srt (tps S n)).length := by rw [tps_len]; exact hl
  have hm : tp s.1 s.2 n ∈ srt (tps S n) := (srt_perm _).mem_iff.2 (List.mem_map.2 ⟨s, hs, rfl⟩)
  have b : (rk 0 S n).1 ≤ x := by
    have pw := srt_pw (tps S n)
    unfold rk
    cases hL : srt (tps S n) with
    | nil => rw [hL] at hk; exact absurd hk (by simp)
    | cons p L =>
      rw [hL] at hm pw
      show p.1 ≤ x
      rcases List.mem_cons.1 hm with z | z
      · rw [← z]; show val s.1 s.2 n ≤ x; omega
      · have := leP_iff.1 ((List.pairwise_cons.1 pw).1 _ z)
        have e2 : (tp s.1 s.2 n).1 = x := e
        omega
  omega
theorem rk_most {S : List (Int × List Int)} {n x : Int} (h1 : ∃ s ∈ S, val s.1 s.2 n = x) (h2 : ∀ s ∈ S, val s.1 s.2 n ≤ x) : (rk (S.length - 1) S n).1 = x := by
  obtain ⟨s, hs, e⟩ := h1
  have hl : 0 < S.length := List.length_pos_of_mem hs
  obtain ⟨t, ht, et⟩ := rk_mem (show S.length - 1 < S.length by omega) n
  have a : (rk (S.length - 1) S n).1 ≤ x := by rw [et]; exact h2 t ht
  have hk := tps_len S n
  have hm : tp s.1 s.2 n ∈ srt (tps S n) := (srt_perm _).mem_iff.2 (List.mem_map.2 ⟨s, hs, rfl⟩)
  have b : x ≤ (rk (S.length - 1) S n).1 := by
    obtain ⟨j, hj⟩ := List.getElem?_of_mem hm
    have hjl := (List.getElem?_eq_some_iff.1 hj).1
    unfold rk
    rw [List.getD_eq_getElem?_getD, List.getElem?_eq_getElem (by omega)]
    show x ≤ ((srt (tps S n))[S.length - 1]'(by omega)).1
    rw [List.getElem?_eq_getElem hjl] at hj
    have hj := Option.some.inj hj
    rcases Nat.lt_or_ge j (S.length - 1) with z | z
    · have := leP_iff.1 (List.pairwise_iff_getElem.1 (srt_pw (tps S n)) j (S.length - 1) hjl (by omega) z)
      rw [hj] at this
      have e2 : (tp s.1 s.2 n).1 = x := e
      omega
    · have ej : j = S.length - 1 := by omega
      subst ej
      rw [hj]
      show x ≤ val s.1 s.2 n
      omega
  omega
def tri : Nat → Nat
  | 0 => 0
  | k + 1 => tri k + k
/-- the counts that are gathered: what stands at first, and the crossings of the pairs so far -/
structure Met (sts : List (Addr × Int × List Int)) (ns0 ms : List Int) (t u : Nat) : Prop where
  old : ∀ k ∈ ns0, k ∈ ms
  nn : ∀ k ∈ ms, 0 ≤ k
  cr : ∀ (q p : Nat) (s s' : Addr × Int × List Int), (q < t ∧ p < q ∨ q = t ∧ p < u) → sts[q]? = some s → sts[p]? = some s' → ∀ n, (n = 0 ∨ n ∈ s.2.2 ∨ n ∈ s'.2.2) → n + ((val s.2.1 s.2.2 n - val s'.2.1 s'.2.2 n).natAbs : Int) ∈ ms
theorem Met.start {sts : List (Addr × Int × List Int)} {ns0 : List Int} (h : ∀ k ∈ ns0, 0 ≤ k) : Met sts ns0 ns0 0 0 := ⟨fun _ h => h, h, fun q p s s' hq => by omega⟩
theorem Met.next {sts : List (Addr × Int × List Int)} {ns0 ms : List Int} {t : Nat} (w : Met sts ns0 ms t t) : Met sts ns0 ms (t + 1) 0 := ⟨w.old, w.nn, fun q p s s' hq => w.cr q p s s' (by omega)⟩
theorem Met.add {sts : List (Addr × Int × List Int)} {ns0 ms ns1 : List Int} {t u : Nat} (w : Met sts ns0 ms t u) {s s' : Addr × Int × List Int} (hs : sts[t]? = some s) (hs' : sts[u]? = some s') (h : ∀ q : Int, q ∈ ns1 ↔ q = 0 ∨ q ∈ s.2.2 ∨ q ∈ s'.2.2) (hc : Cor s.2.2) (hd : Cor s'.2.2) :
    Met sts ns0 (ms ++ ns1.map fun n => n + ((val s.2.1 s.2.2 n - val s'.2.1 s'.2.2 n).natAbs : Int)) t (u + 1) := by
  refine ⟨fun k hk => by simp [w.old k hk], fun k hk => ?_, fun q p x y hq hx hy n hn => ?_⟩
  · rcases List.mem_append.1 hk with z | z
    · exact w.nn k z
    · obtain ⟨n, hn, e⟩ := List.mem_map.1 z
      have : 0 ≤ n := by
        rcases (h n).1 hn with z | z | z
        · omega
        · exact hc.nn n z
        · exact hd.nn n z
      omega
  · by_cases hl : q = t ∧ p = u
    · obtain ⟨rfl, rfl⟩ := hl
      rw [hs] at hx
      rw [hs'] at hy
      cases hx; cases hy
      exact List.mem_append.2 (.inr (List.mem_map.2 ⟨n, (h n).2 hn, rfl⟩))
    · exact List.mem_append.2 (.inl (w.cr q p x y (by omega) hx hy n hn))
theorem Met.all {sts : List (Addr × Int × List Int)} {ns0 ms ns : List Int} (w : Met sts ns0 ms sts.length 0) (hst : ∀ s ∈ sts, Cor s.2.2) (h0 : ∀ k : Int, k ∈ ns0 ↔ k = 0 ∨ ∃ s ∈ sts, k ∈ s.2.2) (asc : ns.Pairwise (· < ·)) (mem : ∀ k, k ∈ ns ↔ k ∈ ms) : CrS ns (sts.map (·.2)) := by
  have hin : ∀ s ∈ sts, ∀ c ∈ s.2.2, c ∈ ns := fun s hs c hc => (mem c).2 (w.old c ((h0 c).2 (.inr ⟨s, hs, hc⟩)))
  have hz : (0 : Int) ∈ ns := (mem 0).2 (w.old 0 ((h0 0).2 (.inl rfl)))
  refine ⟨asc, fun n hn => w.nn n ((mem n).1 hn), hz, fun s hs c hc => ?_, fun s hs t ht n hn => ?_⟩
  · obtain ⟨x, hx, rfl⟩ := List.mem_map.1 hs
    exact hin x hx c hc
  · obtain ⟨x, hx, rfl⟩ := List.mem_map.1 hs
    obtain ⟨y, hy, rfl⟩ := List.mem_map.1 ht
    obtain ⟨q, hq⟩ := List.getElem?_of_mem hx
    obtain ⟨p, hp⟩ := List.getElem?_of_mem hy
    have hql := (List.getElem?_eq_some_iff.1 hq).1
    have hpl := (List.getElem?_eq_some_iff.1 hp).1
    rcases Nat.lt_trichotomy p q with z | z | z
    · exact (mem _).2 (w.cr q p x y (by omega) hq hp n hn)
    · subst z
      rw [hq] at hp
      cases hp
      rw [show (val x.2.1 x.2.2 n - val x.2.1 x.2.2 n).natAbs = 0 from by omega, show n + ((0 : Nat) : Int) = n from by omega]
      rcases hn with z | z | z
      · rw [z]; exact hz
      · exact hin x hx n z
      · exact hin x hx n z
    · have := w.cr p q y x (by omega) hp hq n (by rcases hn with z | z | z <;> simp [z])
      rw [show (val x.2.1 x.2.2 n - val y.2.1 y.2.2 n).natAbs = (val y.2.1 y.2.2 n - val x.2.1 x.2.2 n).natAbs from by omega]
      exact (mem _).2 this
theorem two_le : ∀ (sts : List (Addr × Int × List Int)) (q p : Nat) (s s' : Addr × Int × List Int), p < q → sts[q]? = some s → sts[p]? = some s' → s.2.2.length + s'.2.2.length ≤ (sts.flatMap (·.2.2)).length
  | [], q, p, s, s', _, h, _ => by simp at h
  | x :: sts, 0, p, s, s', hl, _, _ => by omega
  | x :: sts, q + 1, 0, s, s', _, h1, h2 => by
    have e : x = s' := by simpa using h2
    have hm : s ∈ sts := List.mem_of_getElem? (by simpa using h1)
    obtain ⟨as, bs, rfl⟩ := List.append_of_mem hm
    subst e
    simp only [List.flatMap_cons, List.flatMap_append, List.length_append]
    omega
  | x :: sts, q + 1, p + 1, s, s', hl, h1, h2 => by
    have := two_le sts q p s s' (by omega) (by simpa using h1) (by simpa using h2)
    simp only [List.flatMap_cons, List.length_append]
    omega
theorem one_le : ∀ (sts : List (Addr × Int × List Int)) (s : Addr × Int × List Int), s ∈ sts → s.2.2.length ≤ (sts.flatMap (·.2.2)).length := fun sts s hm => by
  obtain ⟨as, bs, rfl⟩ := List.append_of_mem hm
  simp only [List.flatMap_cons, List.flatMap_append, List.length_append]
  omega
theorem cut_to (xs : List V) (t : Nat) : cutV xs none (some (t : Int)) = xs.take t := by
  unfold cutV
  rw [show HT.sIx xs.length 0 none = 0 from rfl, HT.sIx_nat, List.drop_zero, Nat.sub_zero]
  rcases Nat.lt_or_ge t xs.length with z | z
  · rw [Nat.min_eq_left (by omega)]
  · rw [Nat.min_eq_right z, List.take_length, List.take_of_length_le z]
theorem ckN {n : Nat} (h1 : 1 ≤ n) (h6 : n ≤ 6) (ls : List Addr) (hl : ls.length = n) : checkBuiltinCall "zip.__new__" { pos := Value.type "zip" :: ls.map Value.ref } = pure () := by
  match ls, hl with
  | [], hl => simp at hl; omega
  | [a], _ => exact (by kernel_rfl : checkBuiltinCall "zip.__new__" { pos := [Value.type "zip", .ref a] } = pure ())
  | [a, b], _ => exact (by kernel_rfl : checkBuiltinCall "zip.__new__" { pos := [Value.type "zip", .ref a, .ref b] } = pure ())
  | [a, b, c], _ => exact (by kernel_rfl : checkBuiltinCall "zip.__new__" { pos := [Value.type "zip", .ref a, .ref b, .ref c] } = pure ())
  | [a, b, c, d], _ => exact (by kernel_rfl : checkBuiltinCall "zip.__new__" { pos := [Value.type "zip", .ref a, .ref b, .ref c, .ref d] } = pure ())
  | [a, b, c, d, e], _ => exact (by kernel_rfl : checkBuiltinCall "zip.__new__" { pos := [Value.type "zip", .ref a, .ref b, .ref c, .ref d, .ref e] } = pure ())
  | [a, b, c, d, e, f], _ => exact (by kernel_rfl : checkBuiltinCall "zip.__new__" { pos := [Value.type "zip", .ref a, .ref b, .ref c, .ref d, .ref e, .ref f] } = pure ())
  | _ :: _ :: _ :: _ :: _ :: _ :: _ :: _, hl => simp at hl; omega
theorem head0 {ns : List Int} (asc : ns.Pairwise (· < ·)) (nn : ∀ n ∈ ns, 0 ≤ n) (h0 : (0 : Int) ∈ ns) : ns[0]? = some 0 := by
  cases ns with
  | nil => cases h0
  | cons a ns =>
    rcases List.mem_cons.1 h0 with e | h
    · rw [e]; rfl
    · have h1 := (List.pairwise_cons.1 asc).1 0 h
      have h2 := nn a (by simp)
      omega
theorem pairs_no {K : PySem.W.Frag} {H : Hp} {f g : Int → Int} : ∀ {ns : List Int} {xs : List V}, DaAll K Any H xs (ns.map fun n => PyData.tuple [.int (f n), .int (g n)]) → DaAll K (fun _ => False) H xs (ns.map fun n => PyData.tuple [.int (f n), .int (g n)])
  | [], _, h => by cases h; exact .nil
  | n :: ns, _, h => by
    cases h with | cons h1 h2 =>
    obtain ⟨t, rfl, ht⟩ := pair_at h1
    exact .cons (.tup ht (.cons (.int _) (.cons (.int _) .nil))) (pairs_no h2)
/-- what stands at a place of the sorted pairs -/
theorem rk_sorted {key : V → Int × Int} {ys zs : List V} {S : List (Int × List Int)} {n : Int} (h1 : SrtO.Srtd (ltP key) zs) (h2 : zs.Perm ys) (he : ys.map key = tps S n) {k : Nat} (hk : k < S.length) : ∃ v, zs[k]? = some v ∧ v ∈ ys ∧ key v = rk k S n := by
  have e : zs.map key = srt (tps S n) := by
    refine srt_uniq ?_ ?_
    · rw [← he]; exact h2.map key
    · rw [List.pairwise_map]
      refine List.Pairwise.imp ?_ h1
      intro a b h
      show (!lexZ (key b) (key a)) = true
      rw [show lexZ (key b) (key a) = false from h]; rfl
  have hl : k < zs.length := by
    have := congrArg List.length e
    rw [List.length_map, tps_len] at this
    omega
  refine ⟨zs[k], List.getElem?_eq_getElem hl, h2.mem_iff.1 (List.getElem_mem hl), ?_⟩
  unfold rk
  rw [← e, List.getD_eq_getElem?_getD, List.getElem?_map, List.getElem?_eq_getElem hl]
  rfl
def sp_once (m : Md) (C : Addr) : Sp := fun vs H Q _ => ∃ (num : Nat) (l : Addr) (sts : List (Addr × Int × List Int)), vs = [.int num, .ref l] ∧ 1 ≤ num ∧ num ≤ sts.length ∧ sts.length ≤ 6 ∧ SqL m.K H l (sts.map fun s => V.ref s.1) ∧ StsIn C H sts ∧ (1 + (sts.flatMap (·.2.2)).length) * (1 + tri sts.length) < 3900 ∧
  ∀ (r : Addr) (b' : Int) (cs' : List Int) (H' : Hp), Grow m.T H H' → New H r → StairAt C (New H) H' r b' cs' → Cor cs' → cs'.length ≤ (1 + (sts.flatMap (·.2.2)).length) * (1 + tri sts.length) → (∀ n, 0 ≤ n → val b' cs' n = (rk (num - 1) (sts.map (·.2)) n).1) → Q (.ref r) H'
theorem c_once {m : Md} {C f : Addr} {fd : FuncData} (F : C8.Def m.K m.mg "_stair_of_rank_at_once" st_x_stair_of_rank_at_once f fd) (b : L2.Binds m.K fd ps_x_stair_of_rank_at_once []) (hz : m.mg "zip" = none) (he : m.mg "enumerate" = none) (hs : m.mg "sorted" = none) (hset : m.mg "set" = none)
    (Co : Cal m 3 "_corners_of" (sp_co m C)) (Cr : Cal m 3 "_course" (sp_course m C)) (Cx : Cal m 4 "_crossings" (sp_cross m C)) (Al : Cal m 6 "_along" (sp_along m C)) : Cal m 7 "_stair_of_rank_at_once" (sp_once m C) := by
  refine cal_ofM F b sc_x_stair_of_rank_at_once (fun vs H Q E h => by obtain ⟨_, _, _, rfl, _⟩ := h; rfl) fun X vs H Q E hA hM h => ?_
  obtain ⟨num, l, sts, rfl, hn1, hn2, h6, hl, hst, hlim, k⟩ := h
  obtain ⟨n1, n2, n3, n4, n5, n0, n6⟩ := nv_x_stair_of_rank_at_once
  obtain ⟨M, hM0⟩ : ∃ M, (sts.flatMap (·.2.2)).length = M := ⟨_, rfl⟩
  rw [hM0] at hlim k
  have hMl : 1 + M < 3900 := Nat.lt_of_le_of_lt (Nat.le_mul_of_pos_right _ (by omega)) hlim
  walk_at "B"
  refine s_nc hA n6 hM.fn ?_
  refine w_call hA Co (by omega) rfl ?_
  walk_at "V"
  refine ⟨l, sts, rfl, hl, hst, by rw [hM0]; omega, fun r0 ns0 H1 g1 nr0 hr0 asc0 mem0 nl0 => ?_⟩
  rw [hM0] at nl0
  have hcor : ∀ s ∈ sts, Cor s.2.2 := fun s h => (hst s h).2.1
  have nn0 : ∀ q ∈ ns0, 0 ≤ q := fun q hq => by
    rcases (mem0 q).1 hq with z | ⟨s, hs, z⟩
    · omega
    · exact (hcor s hs).nn q z
  have hl1 := GrowX.seqL g1 hl fun z => z
  walk_at "B"
  refine s_forEn hA (pg_tup hA.calm (pgs_cons (pg_nl hA n2) (pgs_cons (pg_nl hA n3) pgs_nil (by with_unfolding_all rfl)) (by with_unfolding_all rfl)) (by with_unfolding_all rfl) (by with_unfolding_all rfl)) he rfl ?_
  walk_at "V"
  refine ⟨l, _, rfl, hl1, fun t σ H' => ∃ (rc : Addr) (ms : List Int), σ = [some (.int num), some (.ref l), σ.getD 2 none, σ.getD 3 none, σ.getD 4 none, none, some (.ref rc), none] ∧ H' rc = some (.lst (ms.map V.int)) ∧ Grow m.T H H' ∧ Met sts ns0 ms t 0 ∧ ms.length ≤ (1 + M) * (1 + tri t), ⟨r0, ns0, rfl, hr0, g1, Met.start nn0, by simp [tri]; omega⟩, ?_, ?_, ?_⟩
  · rintro t σ H' _ ⟨_, _, _, _, g, _⟩
    exact GrowX.seqL g hl fun z => z
  · rintro t z T σ H' hz1 ⟨rc, ms, es, hrc, g, hm, hml⟩ hT
    rw [List.getElem?_map] at hz1
    obtain ⟨s, hs1, rfl⟩ := Option.map_eq_some_iff.1 hz1
    have ht := (List.getElem?_eq_some_iff.1 hs1).1
    have gT := Grow.new (T := m.T) (o := .tup [V.int (t : Nat), .ref s.1]) hT
    have hrcT : rc ≠ T := fun w => by rw [w, hT] at hrc; cases hrc
    have hrc1 := (upd_ne (o := .tup [V.int (t : Nat), .ref s.1]) hrcT).trans hrc
    refine ⟨T, _, rfl, SqT.of upd_same, rfl, _, _, rfl, _, [], rfl, ⟨rfl, ?_⟩⟩
    rw [es]
    walk_at "B"
    refine s_forL hA (pg_nl hA n4) ?_
    refine w_sliceTo hA ?_
    walk_at "V"
    refine ⟨l, _, rfl, GrowX.seqL (g.trans gT) hl fun z => z, fun p hp => ?_⟩
    rw [cut_to, ← List.map_take]
    have gp := Grow.new (T := m.T) (o := .lst ((sts.take t).map fun s => V.ref s.1)) hp
    have hrcp : rc ≠ p := fun w => by rw [← w, hrc1] at hp; cases hp
    have hrc2 := (upd_ne (o := .lst ((sts.take t).map fun s => V.ref s.1)) hrcp).trans hrc1
    have gA := (g.trans gT).trans gp
    have hp2 : upd (upd H' T (.tup [V.int (t : Nat), .ref s.1])) p (.lst ((sts.take t).map fun s => V.ref s.1)) p = _ := upd_same
    generalize upd (upd H' T (.tup [V.int (t : Nat), .ref s.1])) p (.lst ((sts.take t).map fun s => V.ref s.1)) = H2 at gA hrc2 hp2
    have htl : ((sts.take t).map fun s => V.ref s.1).length = t := by rw [List.length_map, List.length_take]; omega
    refine ⟨p, _, rfl, SqL.of hp2, fun u σ' H'' => ∃ (rc : Addr) (ms : List Int), σ' = [some (.int num), some (.ref l), some (.int (t : Nat)), some (.ref s.1), σ'.getD 4 none, none, some (.ref rc), none] ∧ H'' rc = some (.lst (ms.map V.int)) ∧ Grow m.T H2 H'' ∧ Met sts ns0 ms t u ∧ ms.length ≤ (1 + M) * (1 + tri t + u), ⟨rc, ms, rfl, hrc2, GrowX.refl, hm, hml⟩, ?_, ?_, ?_⟩
    · rintro u σ' H'' _ ⟨_, _, _, _, g, _⟩
      exact GrowX.seqL g (SqL.of hp2) fun z => z
    · rintro u x σ' H'' hx ⟨rc', ms', es', hrc', g', hm', hml'⟩
      rw [List.getElem?_map] at hx
      obtain ⟨s', hs', rfl⟩ := Option.map_eq_some_iff.1 hx
      have hu : u < t := by
        have := (List.getElem?_eq_some_iff.1 hs').1
        rw [List.length_take] at this; omega
      rw [List.getElem?_take_of_lt hu] at hs'
      have hsum := two_le sts t u s s' hu hs1 hs'
      rw [hM0] at hsum
      obtain ⟨st1, hc1, hl1'⟩ := hst s (List.mem_of_getElem? hs1)
      obtain ⟨st2, hc2, hl2'⟩ := hst s' (List.mem_of_getElem? hs')
      rw [es']
      walk_at "B"
      refine s_nc hA n6 hM.fn ?_
      walk_at "V"
      refine w_call hA Cx (by omega) rfl ?_
      walk_at "V"
      have gB := gA.trans g'
      have t5 : t ≤ 5 := by omega
      have hml2 : (1 + M) * (1 + tri t + u) + (1 + M) = (1 + M) * (1 + tri t + (u + 1)) := by rw [← Nat.mul_succ]; rfl
      have hbig : (1 + M) * (1 + tri t + (u + 1)) ≤ (1 + M) * (1 + tri sts.length) := Nat.mul_le_mul_left _ (by
        have e1 : tri (t + 1) = tri t + t := rfl
        have e2 : tri (t + 1) ≤ tri sts.length := by
          have mono : ∀ d k, tri k ≤ tri (k + d) := fun d => by
            induction d with
            | zero => intro k; exact Nat.le_refl _
            | succ d ih => intro k; exact Nat.le_trans (ih k) (Nat.le_add_right _ _)
          have := mono (sts.length - (t + 1)) (t + 1)
          rwa [show t + 1 + (sts.length - (t + 1)) = sts.length from by omega] at this
        omega)
      refine ⟨s.1, s'.1, s.2.1, s'.2.1, s.2.2, s'.2.2, rfl, st1.grow gB (fun _ _ z => z) (fun z => z), st2.grow gB (fun _ _ z => z) (fun z => z), hc1, hc2, by omega, fun r1 ns1 H3 g3 nr3 hr3 asc3 mem3 nl3 => ?_⟩
      refine g_cat (g3.ext _ _ (fun z => z) hrc' (fun _ z => by cases z)) hr3 (by simp only [List.length_map]; rw [sizeLine_eq]; omega) fun q hq => ?_
      have gq := Grow.new (T := m.T) (o := .lst (ms'.map V.int ++ (ns1.map fun n => n + ((val s.2.1 s.2.2 n - val s'.2.1 s'.2.2 n).natAbs : Int)).map V.int)) hq
      refine b_nil ⟨q, ms' ++ ns1.map (fun n => n + ((val s.2.1 s.2.2 n - val s'.2.1 s'.2.2 n).natAbs : Int)), rfl, ?_, (g'.trans g3).trans gq, hm'.add hs1 hs' mem3 hc1 hc2, ?_⟩
      · rw [upd_same, List.map_append]
      · rw [List.length_append, List.length_map]; omega
    · rintro σ' H'' ⟨rc', ms', es', hrc', g', hm', hml'⟩
      rw [htl] at hm' hml'
      rw [Nat.add_assoc] at hml'
      exact b_nil ⟨rc', ms', by rw [es']; rfl, hrc', gA.trans g', hm'.next, hml'⟩
  · rintro σ H' ⟨rc, ms, es, hrc, g, hm, hml⟩
    rw [List.length_map] at hm hml
    rw [es]
    walk_at "B"
    refine s_nc hA n6 hM.fn ?_
    refine g_blt hA hs rfl bt_sorted ?_
    walk_at "V"
    refine g_typ hA hset rfl bt_set ?_
    walk_at "V"
    refine g_setZ hA (SqL.of hrc) (by omega) fun a c ha hc1 => ?_
    walk_at "V"
    refine g_sortedB hA upd_same (by omega) fun ns r o1 o2 o3 hr => ?_
    have w : CrS ns (sts.map (·.2)) := hm.all hcor mem0 o1 fun q => by rw [o2 q, decide_eq_true_eq]
    have nsl : ns.length ≤ (1 + M) * (1 + tri sts.length) := by omega
    have npos : 0 < ns.length := List.length_pos_of_mem w.h0
    have hS : ∀ s ∈ sts.map (·.2), Cor s.2 := fun s hs => by
      obtain ⟨x, hx, rfl⟩ := List.mem_map.1 hs
      exact hcor x hx
    have ga := Grow.new (T := m.T) (o := SetO m.w a (fun z => decide (z ∈ ms)) c) ha
    have gr := Grow.new (T := m.T) (o := .lst (ns.map V.int)) hr
    have g4 := (g.trans ga).trans gr
    have hr4 : upd (upd H' a (SetO m.w a (fun z => decide (z ∈ ms)) c)) r (.lst (ns.map V.int)) r = some (.lst (ns.map V.int)) := upd_same
    generalize upd (upd H' a (SetO m.w a (fun z => decide (z ∈ ms)) c)) r (.lst (ns.map V.int)) = H4 at g4 hr4
    have nle : ns.Pairwise (· ≤ ·) := o1.imp fun z => Int.le_of_lt z
    walk_at "B"
    refine s_lcL hA n5 (by decide +kernel) (i := 3) ⟨rfl, rfl⟩ ?_
    walk_at "V"
    refine ⟨l, _, rfl, GrowX.seqL g4 hl fun z => z, fun D hD => ⟨fun t H' => Grow m.T H4 H' ∧ ∃ (rs : List Addr) (cols : List (List V)), H' D = some (.lst (rs.map V.ref)) ∧ rs.length = t ∧ cols.length = t ∧ ∀ (q : Nat) (rr : Addr) (col : List V) (s : Addr × Int × List Int), rs[q]? = some rr → cols[q]? = some col → sts[q]? = some s → H' rr = some (.lst col) ∧ rr ≠ D ∧ DaAll m.K (fun _ => False) H' col (ns.map (told2 s.2.1 s.2.2)), ⟨Grow.new hD, [], [], upd_same, rfl, rfl, fun q rr col s z => by simp at z⟩, ?_, ?_, ?_⟩⟩
    · rintro t H' _ ⟨g, _⟩
      exact GrowX.seqL (g4.trans g) hl fun z => z
    · rintro t z H' hz1 ⟨g, rs, cols, hD', hrl, hcl, hrs⟩ X' hX'
      have c3 := nl_of hX' 3 "stair"
      have c6 := nc_of hX' 6 "counts"
      rw [List.getElem?_map] at hz1
      obtain ⟨s, hs1, rfl⟩ := Option.map_eq_some_iff.1 hz1
      have ht := (List.getElem?_eq_some_iff.1 hs1).1
      obtain ⟨st, hce, hle⟩ := hst s (List.mem_of_getElem? hs1)
      refine w_call hX' Cr (by omega) rfl ?_
      walk_at "V"
      refine ⟨s.1, r, s.2.1, s.2.2, ns, rfl, st.grow (g4.trans g) (fun _ _ z => z) (fun z => z), hce, hle, GrowX.seqL g (SqL.of hr4) fun z => z, nle, by omega, fun r1 xs H5 g5 nr5 hr5 da5 => ?_⟩
      have hD5 := Grow.extN g5 _ _ hD' (fun _ z => by cases z)
      have gX := GrowX.lst (T := m.T) (ys := rs.map V.ref ++ [V.ref r1]) hD5
      have da5' := pairs_no da5
      refine ⟨_, hD5, by rw [List.length_map, sizeLine_eq]; omega, Grow.intoNew (g.trans g5) gX fun c w => by rw [w]; exact hD, rs ++ [r1], cols ++ [xs], by rw [upd_same, List.map_append]; rfl, by simp [hrl], by simp [hcl], fun q rr col s2 hq hcq hs2 => ?_⟩
      rcases Nat.lt_or_ge q rs.length with zq | zq
      · rw [List.getElem?_append_left zq] at hq
        rw [List.getElem?_append_left (by omega)] at hcq
        obtain ⟨e1, e2, e3⟩ := hrs q rr col s2 hq hcq hs2
        exact ⟨by rw [upd_ne e2]; exact Grow.extN g5 _ _ e1 (fun _ z => by cases z), e2, gX.daAll (Grow.daAll g5 e3) fun _ z => z.elim⟩
      · have hq2 := (List.getElem?_eq_some_iff.1 hq).1
        rw [List.length_append, List.length_singleton] at hq2
        obtain rfl : q = t := by omega
        rw [← hrl, List.getElem?_append_right (Nat.le_refl _), Nat.sub_self] at hq
        obtain rfl : r1 = rr := by simpa using hq
        rw [← hcl, List.getElem?_append_right (Nat.le_refl _), Nat.sub_self] at hcq
        obtain rfl : xs = col := by simpa using hcq
        rw [hs1] at hs2
        cases hs2
        have e2 : r1 ≠ D := fun w => by rw [w] at nr5; rw [New, hD'] at nr5; cases nr5
        exact ⟨by rw [upd_ne e2]; exact hr5, e2, gX.daAll da5' fun _ z => z.elim⟩
    · rintro H5 ⟨g5, rs, cols, hD5, hrl, hcl, hrs⟩
      rw [List.length_map] at hrl hcl
      have colAt : ∀ H6, Grow m.T H5 H6 → ColsAt m.K H6 rs cols := fun H6 g6 q rr col h1 h2 => by
        have hq := (List.getElem?_eq_some_iff.1 h1).1
        exact GrowX.seqL g6 (SqL.of (hrs q rr col _ h1 h2 (List.getElem?_eq_getElem (by omega))).1) fun z => z
      have hL : ∀ col ∈ cols, col.length = ns.length := fun col hcol => by
        obtain ⟨q, hq⟩ := List.getElem?_of_mem hcol
        have hql := (List.getElem?_eq_some_iff.1 hq).1
        have := (hrs q _ col _ (List.getElem?_eq_getElem (by omega)) hq (List.getElem?_eq_getElem (by omega))).2.2.length
        rw [this, List.length_map]
      walk_at "B"
      walk_at "V"
      refine w_call hA Al (by omega) rfl ?_
      walk_at "V"
      obtain ⟨w1, w2, w3⟩ := w.run hS (k := num - 1) (by rw [List.length_map]; omega)
      refine w_lcZS hA (i := 7) hz rfl (by decide +kernel) ⟨rfl, rfl⟩ (n := sts.length) (by omega) (by omega) (ckN (by omega) h6) ?_
      walk_at "V"
      refine ⟨D, rs, cols, ns.length, rfl, SqL.of hD5, hrl, hcl, colAt H5 GrowX.refl, hL, fun D2 hD2 => ⟨fun t H' => Grow m.T H5 H' ∧ ∃ ys, H' D2 = some (.lst ys) ∧ ys.length = t ∧ DaAll m.K (fun _ => False) H' ys ((ns.take t).map fun n => PyData.tuple [.int (rk (num - 1) (sts.map (·.2)) n).1, .int (rk (num - 1) (sts.map (·.2)) n).2]), ⟨Grow.new hD2, [], upd_same, rfl, .nil⟩, ?_, ?_, ?_⟩⟩
      · rintro t H' _ ⟨g, _⟩
        exact colAt H' g
      · rintro t zs T H' ht hrow ⟨g, ys, hy, hyl, dy⟩ hT X' hX'
        have c7 := nl_of hX' 7 "told"
        have c0 := nc_of hX' 0 "number"
        have hn := List.getElem?_eq_getElem ht
        generalize ns[t] = n at hn
        have gT := Grow.new (T := m.T) (o := .tup zs) hT
        have hyT := Grow.extN gT _ _ hy (fun _ z => by cases z)
        have dyT := Grow.daAll gT dy
        have hzl : zs.length = sts.length := by rw [hrow.1, hcl]
        have each : ∀ (q : Nat) (v : V) (p : Int × Int), zs[q]? = some v → (tps (sts.map (·.2)) n)[q]? = some p → ∃ t', v = .ref t' ∧ SqT m.K (upd H' T (.tup zs)) t' [.int p.1, .int p.2] := by
          intro q v p h1 h2
          have hq := (List.getElem?_eq_some_iff.1 h1).1
          have hc := List.getElem?_eq_getElem (show q < cols.length by omega)
          have hs2 := List.getElem?_eq_getElem (show q < sts.length by omega)
          obtain ⟨_, _, da⟩ := hrs q _ _ _ (List.getElem?_eq_getElem (show q < rs.length by omega)) hc hs2
          have hv := (hrow.2 q _ hc).trans h1
          obtain ⟨pd, hpd, dx⟩ := da.getV (v := v) (i := t) hv
          rw [List.getElem?_map, hn] at hpd
          have hpd : told2 (sts[q]).2.1 (sts[q]).2.2 n = pd := by simpa using hpd
          rw [← hpd] at dx
          obtain ⟨t', rfl, ht'⟩ := pair_at (Da.sub (Grow.da (g.trans gT) dx) fun _ z => z.elim)
          unfold tps at h2
          rw [List.getElem?_map, List.getElem?_map, hs2] at h2
          have h2 : tp (sts[q]).2.1 (sts[q]).2.2 n = p := by simpa using h2
          refine ⟨t', rfl, ?_⟩
          rw [← h2]
          exact ht'
        generalize eT : upd H' T (.tup zs) = HT at hyT dyT gT each
        have hTT : HT T = some (.tup zs) := by rw [← eT]; exact upd_same
        walk_at "V"
        refine g_blt hX' hs rfl bt_sorted ?_
        walk_at "V"
        refine g_sortedTP hX' (tps (sts.map (·.2)) n) (SqT.of hTT) (by rw [hzl]; simp [tps]) each fun key hkey ys3 p h1 h2 hp => ?_
        have he : zs.map key = tps (sts.map (·.2)) n := by
          refine List.ext_getElem? fun q => ?_
          rw [List.getElem?_map]
          rcases Nat.lt_or_ge q zs.length with zq | zq
          · have hq2 : q < (tps (sts.map (·.2)) n).length := by simp [tps]; omega
            rw [List.getElem?_eq_getElem zq, List.getElem?_eq_getElem hq2]
            exact congrArg some (hkey q _ _ (List.getElem?_eq_getElem zq) (List.getElem?_eq_getElem hq2))
          · rw [List.getElem?_eq_none zq, List.getElem?_eq_none (by simp [tps]; omega)]; rfl
        obtain ⟨v, e1, e2, e3⟩ := rk_sorted h1 h2.perm he (k := num - 1) (by rw [List.length_map]; omega)
        have gp := Grow.new (T := m.T) (o := .lst ys3) hp
        walk_at "V"
        rw [show ((num : Int) - 1) = ((num - 1 : Nat) : Int) from by omega]
        refine g_ixL hX' (SqL.of upd_same) (atI_at e1) ?_
        have hyp := Grow.extN gp _ _ hyT (fun _ z => by cases z)
        have one : Da m.K (fun _ => False) HT v (PyData.tuple [.int (rk (num - 1) (sts.map (·.2)) n).1, .int (rk (num - 1) (sts.map (·.2)) n).2]) := by
          obtain ⟨q, hq⟩ := List.getElem?_of_mem e2
          have hq1 := (List.getElem?_eq_some_iff.1 hq).1
          have hq2 : q < (tps (sts.map (·.2)) n).length := by simp [tps]; omega
          obtain ⟨t', rfl, ht'⟩ := each q v _ hq (List.getElem?_eq_getElem hq2)
          have e4 := hkey q _ _ hq (List.getElem?_eq_getElem hq2)
          rw [← e4, e3] at ht'
          exact .tup ht' (.cons (.int _) (.cons (.int _) .nil))
        have gX := GrowX.lst (T := m.T) (ys := ys ++ [v]) hyp
        refine ⟨_, hyp, by rw [hyl, sizeLine_eq]; omega, Grow.intoNew ((g.trans gT).trans gp) gX fun c w => by rw [w]; exact hD2, ys ++ [v], upd_same, by simp [hyl], ?_⟩
        rw [List.take_add_one, hn, List.map_append]
        exact (gX.daAll (Grow.daAll gp dyT) fun _ z => z.elim).append (.cons (gX.da (Grow.da gp one) fun _ z => z.elim) .nil)
      · rintro H6 ⟨g6, ys, hy6, hyl, dy⟩
        rw [List.take_length] at dy
        walk_at "V"
        have gA := (g4.trans g5).trans g6
        refine ⟨r, D2, ns, ys, fun n => (rk (num - 1) (sts.map (·.2)) n).1, fun n => (rk (num - 1) (sts.map (·.2)) n).2, rfl, GrowX.seqL (g5.trans g6) (SqL.of hr4) fun z => z, SqL.of hy6, dy.sub fun _ z => z.elim, head0 o1 w.nn w.h0, by omega, w1, fun ii H7 g7 hi st => ?_⟩
        exact k ii _ _ H7 (gA.trans g7) (gA.keep _ hi) (st.sub fun a ha => gA.keep _ ha) w1 (Nat.le_trans w2 nsl) w3
theorem rk0_le {S : List (Int × List Int)} {n : Int} {s : Int × List Int} (hs : s ∈ S) : (rk 0 S n).1 ≤ val s.1 s.2 n := by
  have hk : 0 < (srt (tps S n)).length := by rw [tps_len]; exact List.length_pos_of_mem hs
  have hm : tp s.1 s.2 n ∈ srt (tps S n) := (srt_perm _).mem_iff.2 (List.mem_map.2 ⟨s, hs, rfl⟩)
  have pw := srt_pw (tps S n)
  unfold rk
  cases hL : srt (tps S n) with
  | nil => rw [hL] at hk; exact absurd hk (by simp)
  | cons p L =>
    rw [hL] at hm pw
    show p.1 ≤ (tp s.1 s.2 n).1
    rcases List.mem_cons.1 hm with z | z
    · rw [← z]; exact Int.le_refl _
    · have := leP_iff.1 ((List.pairwise_cons.1 pw).1 _ z)
      omega
theorem rkL_ge {S : List (Int × List Int)} {n : Int} {s : Int × List Int} (hs : s ∈ S) : val s.1 s.2 n ≤ (rk (S.length - 1) S n).1 := by
  have hl := List.length_pos_of_mem hs
  have hk := tps_len S n
  have hm : tp s.1 s.2 n ∈ srt (tps S n) := (srt_perm _).mem_iff.2 (List.mem_map.2 ⟨s, hs, rfl⟩)
  obtain ⟨j, hj⟩ := List.getElem?_of_mem hm
  have hjl := (List.getElem?_eq_some_iff.1 hj).1
  unfold rk
  rw [List.getD_eq_getElem?_getD, List.getElem?_eq_getElem (by omega)]
  show (tp s.1 s.2 n).1 ≤ ((srt (tps S n))[S.length - 1]'(by omega)).1
  rw [List.getElem?_eq_getElem hjl] at hj
  have hj := Option.some.inj hj
  rcases Nat.lt_or_ge j (S.length - 1) with z | z
  · have := leP_iff.1 (List.pairwise_iff_getElem.1 (srt_pw (tps S n)) j (S.length - 1) hjl (by omega) z)
    rw [hj] at this
    omega
  · have ej : j = S.length - 1 := by omega
    subst ej
    rw [hj]
    exact Int.le_refl _
theorem lo_step {S : List (Int × List Int)} (hS : S ≠ []) (s : Int × List Int) (n : Int) : (rk 0 (S ++ [s]) n).1 = min (rk 0 S n).1 (val s.1 s.2 n) := by
  obtain ⟨t, ht, e⟩ := rk_mem (List.length_pos_iff.2 hS) n
  have e1 : (rk 0 S n).1 = val t.1 t.2 n := by rw [e]; rfl
  refine rk_least ?_ fun x hx => ?_
  · rcases Int.le_total (rk 0 S n).1 (val s.1 s.2 n) with z | z
    · exact ⟨t, by simp [ht], by omega⟩
    · exact ⟨s, by simp, by omega⟩
  · rcases List.mem_append.1 hx with z | z
    · have := rk0_le (n := n) z; omega
    · rw [List.mem_singleton] at z; subst z; omega
theorem hi_step {S : List (Int × List Int)} (hS : S ≠ []) (s : Int × List Int) (n : Int) : (rk ((S ++ [s]).length - 1) (S ++ [s]) n).1 = max (rk (S.length - 1) S n).1 (val s.1 s.2 n) := by
  have hl := List.length_pos_iff.2 hS
  obtain ⟨t, ht, e⟩ := rk_mem (show S.length - 1 < S.length by omega) n
  have e1 : (rk (S.length - 1) S n).1 = val t.1 t.2 n := by rw [e]; rfl
  refine rk_most ?_ fun x hx => ?_
  · rcases Int.le_total (val s.1 s.2 n) (rk (S.length - 1) S n).1 with z | z
    · exact ⟨t, by simp [ht], by omega⟩
    · exact ⟨s, by simp, by omega⟩
  · rcases List.mem_append.1 hx with z | z
    · have := rkL_ge (n := n) z; omega
    · rw [List.mem_singleton] at z; subst z; omega
theorem rk_one (s : Int × List Int) (n : Int) : (rk 0 [s] n).1 = val s.1 s.2 n := rk_least ⟨s, by simp, rfl⟩ fun x hx => by rw [List.mem_singleton] at hx; subst hx; exact Int.le_refl _
/-- the place asked for, of the first so many stairs -/
def tgt (one : Bool) (S : List (Int × List Int)) (n : Int) : Int := (rk (if one then 0 else S.length - 1) S n).1
theorem tgt_one (one : Bool) (s : Int × List Int) (n : Int) : tgt one [s] n = val s.1 s.2 n := by
  cases one <;> exact rk_one s n
theorem tgt_step (one : Bool) {S : List (Int × List Int)} (hS : S ≠ []) (f s : Int × List Int) (n : Int) (hf : val f.1 f.2 n = tgt one S n) : tgt one (S ++ [s]) n = (rk ((if one then 1 else 2) - 1) [f, s] n).1 := by
  cases one with
  | true =>
    show (rk 0 (S ++ [s]) n).1 = (rk 0 ([f] ++ [s]) n).1
    rw [lo_step hS, lo_step (by simp), rk_one, hf]; rfl
  | false =>
    show (rk ((S ++ [s]).length - 1) (S ++ [s]) n).1 = (rk (([f] ++ [s]).length - 1) ([f] ++ [s]) n).1
    rw [hi_step hS, hi_step (by simp)]
    show _ = max (rk 0 [f] n).1 _
    rw [rk_one, hf]; rfl
def fb : Nat → Nat
  | 0 => 10
  | j + 1 => 2 * (11 + fb j)
theorem fb_le {j : Nat} (h : j ≤ 5) : fb j ≤ 1002 := by
  rcases (by omega : j = 0 ∨ j = 1 ∨ j = 2 ∨ j = 3 ∨ j = 4 ∨ j = 5) with rfl | rfl | rfl | rfl | rfl | rfl <;> decide
theorem fb_lt {j : Nat} (h : j ≤ 4) : fb j ≤ 490 := by
  rcases (by omega : j = 0 ∨ j = 1 ∨ j = 2 ∨ j = 3 ∨ j = 4) with rfl | rfl | rfl | rfl | rfl <;> decide
theorem flat_le : ∀ sts : List (Addr × Int × List Int), (∀ s ∈ sts, s.2.2.length ≤ 10) → (sts.flatMap (·.2.2)).length ≤ 10 * sts.length
  | [], _ => by simp
  | s :: sts, h => by
    have := flat_le sts fun x hx => h x (by simp [hx])
    have := h s (by simp)
    simp only [List.flatMap_cons, List.length_append, List.length_cons]
    omega
theorem tri_le {k : Nat} (h : k ≤ 6) : tri k ≤ 15 := by
  rcases (by omega : k = 0 ∨ k = 1 ∨ k = 2 ∨ k = 3 ∨ k = 4 ∨ k = 5 ∨ k = 6) with rfl | rfl | rfl | rfl | rfl | rfl | rfl <;> decide
def sp_need_stairs (m : Md) (C : Addr) : Sp := fun vs H Q _ => ∃ (l : Addr) (sts : List (Addr × Int × List Int)), vs = [.ref l] ∧ SqL m.K H l (sts.map fun s => V.ref s.1) ∧ (∀ s ∈ sts, StairAt C Any H s.1 s.2.1 s.2.2) ∧ 1 ≤ sts.length ∧ sts.length ≤ 6 ∧ ∀ H', Grow m.T H H' → Q .non H'
theorem c_need_stairs {m : Md} {C f : Addr} {fd : FuncData} (R : StC m C) (hi : m.mg "isinstance" = none) (hl : m.mg "list" = none) (hn : m.mg "len" = none) (ha : m.mg "all" = none) {tk : Tok} (hM : m.mg "MOST_STAIRS" = some (.int 6 tk)) (F : C8.Def m.K m.mg "_need_stairs" st_x_need_stairs f fd) (b : L2.Binds m.K fd ps_x_need_stairs [])
    (ty : ∀ (H : Hp) (i dx : Addr) (fs : List (Str × V)), H i = some (.ins C dx fs) → TyX m.K H (.ref i) (.ref C)) (own : PySem.W.kitOne m.K (.ref C) (.ref C) = some true) : Cal m 1 "_need_stairs" (sp_need_stairs m C) := by
  refine cal_of F b sc_x_need_stairs (fun vs H Q E h => by obtain ⟨_, _, rfl, _⟩ := h; rfl) fun X vs H Q E hA h => ?_
  obtain ⟨l, sts, rfl, hs, hst, h1, h6, k⟩ := h
  have n0 := nv_x_need_stairs
  walk_at "B"
  walk_at "V"
  refine g_blt hA hi rfl bt_isinstance ?_
  walk_at "V"
  refine w_tyn hA hl rfl bt_list ?_
  walk_at "V"
  refine g_isi hA (.ty "list") (tyx_lst hs) (kit_ty (kit_all "list" (by decide) (.list []))) ?_
  walk_at "V"
  refine iteF ?_
  walk_at "V"
  refine t_chain ?_
  walk_at "V"
  refine g_blt hA hn rfl bt_len ?_
  walk_at "V"
  refine g_lenL hA hs ?_
  rw [List.length_map]
  walk_at "V"
  rw [decide_eq_true (show (1 : Int) ≤ sts.length by omega)]
  walk_at "V"
  refine w_glb (v := .int 6) hA hM ⟨tk, rfl⟩ rfl ?_
  walk_at "V"
  rw [decide_eq_true (show (sts.length : Int) ≤ 6 by omega)]
  refine iteF (b_nil ?_)
  walk_at "B"
  walk_at "V"
  refine g_blt hA ha rfl bt_all ?_
  refine w_cons (w_lcL hA (by decide +kernel) (i := 1) ⟨rfl, rfl⟩ ?_)
  walk_at "V"
  refine ⟨l, _, rfl, hs, fun D hD => ?_⟩
  refine ⟨fun j H' => Grow m.T H H' ∧ H' D = some (.lst ((List.replicate j true).map V.bl)), ⟨Grow.new hD, upd_same⟩, ?_, ?_, ?_⟩
  · rintro j H' _ ⟨g, _⟩
    exact GrowX.seqL g hs fun z => z
  · rintro j x H' hx ⟨g, hd⟩ X' hX'
    have c1 := nl_of hX' 1 "stair"
    rw [List.getElem?_map] at hx
    obtain ⟨s, hsj, rfl⟩ := Option.map_eq_some_iff.1 hx
    have hj : j < sts.length := (List.getElem?_eq_some_iff.1 hsj).1
    obtain ⟨dx, lc, e1, _⟩ := (hst s (List.mem_of_getElem? hsj)).grow g (fun _ _ z => z) (fun z => z)
    walk_at "V"
    refine g_blt hX' hi rfl bt_isinstance ?_
    walk_at "V"
    refine w_glb (v := .ref C) hX' R.gS rfl rfl ?_
    walk_at "V"
    refine g_isi hX' (.own C) (ty H' s.1 dx _ e1) own ?_
    refine ⟨_, hd, by rw [List.length_map, List.length_replicate, sizeLine_eq]; omega, Grow.intoNew g (GrowX.lst hd) fun c w => by rw [w]; exact hD, ?_⟩
    rw [upd_same, List.replicate_succ', List.map_append]; rfl
  · rintro H1 ⟨g1, hd⟩
    walk_at "V"
    refine g_all hA (SqL.of hd) ?_
    have e : ∀ n, (List.replicate n true).all id = true := fun n => by simp
    rw [e]
    walk_at "V"
    refine iteF (b_nil ?_)
    exact b_nil (k H1 g1)
def sp_rank (m : Md) (C : Addr) : Sp := fun vs H Q _ => ∃ (num : Nat) (l : Addr) (sts : List (Addr × Int × List Int)), vs = [.int num, .ref l] ∧ 1 ≤ num ∧ num ≤ sts.length ∧ sts.length ≤ 6 ∧ SqL m.K H l (sts.map fun s => V.ref s.1) ∧ StsIn C H sts ∧ (∀ s ∈ sts, s.2.2.length ≤ 10) ∧
  ∀ (r : Addr) (b' : Int) (cs' : List Int) (H' : Hp), Grow m.T H H' → StairAt C Any H' r b' cs' → Cor cs' → cs'.length ≤ 1002 → (∀ n, 0 ≤ n → val b' cs' n = (rk (num - 1) (sts.map (·.2)) n).1) → Q (.ref r) H'
theorem cut_from1 (x : V) (xs : List V) : cutV (x :: xs) (some 1) none = xs := by
  unfold cutV
  rw [show (1 : Int) = ((1 : Nat) : Int) from rfl, HT.sIx_nat, show HT.sIx (x :: xs).length (x :: xs).length none = (x :: xs).length from rfl, List.length_cons, Nat.min_eq_left (by omega), List.drop_succ_cons, List.drop_zero, Nat.add_sub_cancel, List.take_length]
theorem spMono_once {m : Md} {C : Addr} {vs : List V} {H : Hp} {Q Q' : VK} {E E' : XK} (h : sp_once m C vs H Q E) (k : ∀ v H', Q v H' → Q' v H') : sp_once m C vs H Q' E' := by
  obtain ⟨num, l, sts, e, h1, h2, h3, h4, h5, h6, q⟩ := h
  exact ⟨num, l, sts, e, h1, h2, h3, h4, h5, h6, fun r b' cs' H' g nr st hc hl hv => k _ _ (q r b' cs' H' g nr st hc hl hv)⟩
theorem c_rank {m : Md} {C f : Addr} {fd : FuncData} (hn : m.mg "len" = none) (F : C8.Def m.K m.mg "stair_of_rank" st_stair_of_rank f fd) (b : L2.Binds m.K fd ps_stair_of_rank []) (On : Cal m 7 "_stair_of_rank_at_once" (sp_once m C)) : Cal m 8 "stair_of_rank" (sp_rank m C) := by
  refine cal_of F b sc_stair_of_rank (fun vs H Q E h => by obtain ⟨_, _, _, rfl, _⟩ := h; rfl) fun X vs H Q E hA h => ?_
  obtain ⟨num, l, sts, rfl, hn1, hn2, h6, hl, hst, h10, k⟩ := h
  obtain ⟨n0, n1, n2, n3⟩ := nv_stair_of_rank
  have hfl := flat_le sts h10
  have htri := tri_le h6
  have hlim : (1 + (sts.flatMap (·.2.2)).length) * (1 + tri sts.length) ≤ 61 * 16 := Nat.mul_le_mul (by omega) (by omega)
  walk_at "B"
  walk_at "V"
  refine g_blt hA hn rfl bt_len ?_
  walk_at "V"
  refine g_lenL hA hl ?_
  rw [List.length_map]
  walk_at "V"
  refine ⟨by walk_at "S", fun p hp => ?_⟩
  have gp := Grow.new (T := m.T) (o := .tup [V.int 1, .int (sts.length : Nat)]) hp
  refine g_notInF hA (.inr (SqT.of upd_same)) rfl rfl ?_
  have ein : inV (.int num) [V.int 1, .int (sts.length : Nat)] = decide (num = 1 ∨ num = sts.length) := by
    have e : inV (.int num) [V.int 1, .int (sts.length : Nat)] = ((1 == (num : Int)) || ((((sts.length : Nat) : Int) == (num : Int)) || false)) := rfl
    rw [e]
    by_cases h1 : num = 1
    · subst h1; simp
    · by_cases h2 : num = sts.length
      · rw [h2]; simp
      · rw [decide_eq_false (by omega), show (1 == (num : Int)) = false from beq_eq_false_iff_ne.2 (by omega), show (((sts.length : Nat) : Int) == (num : Int)) = false from beq_eq_false_iff_ne.2 (by omega)]
        rfl
  rw [ein]
  generalize upd H p (.tup [V.int 1, .int (sts.length : Nat)]) = H1 at gp
  have hl1 := GrowX.seqL gp hl fun z => z
  walk_at "V"
  refine ite2 (fun h0 => ?_) fun h0 => ?_
  · walk_at "V"
    refine w_call hA On (by omega) rfl ?_
    walk_at "V"
    refine ⟨num, l, sts, rfl, hn1, hn2, h6, hl1, hst.grow gp, by omega, fun r b' cs' H' g nr st hc hlen hv => ?_⟩
    exact k r b' cs' H' (gp.trans g) (st.sub fun _ _ => trivial) hc (by omega) hv
  refine b_nil ?_
  have h0 : num = 1 ∨ num = sts.length := by
    have : ¬ ¬ (num = 1 ∨ num = sts.length) := by simpa using h0
    exact Classical.not_not.1 this
  obtain ⟨one, hone⟩ : ∃ one, one = decide (num = 1) := ⟨_, rfl⟩
  cases sts with
  | nil => simp at hn2; omega
  | cons s0 rest =>
  walk_at "B"
  walk_at "V"
  refine g_ixL hA hl1 (atI_at (j := 0) rfl) ?_
  walk_at "B"
  refine s_forL hA (pg_nl hA n3) ?_
  refine w_sliceFrom hA ?_
  walk_at "V"
  refine ⟨l, _, rfl, hl1, fun q hq => ?_⟩
  rw [List.map_cons, cut_from1]
  have gq := Grow.new (T := m.T) (o := .lst (rest.map fun s => V.ref s.1)) hq
  have hq2 : upd H1 q (.lst (rest.map fun s => V.ref s.1)) q = _ := upd_same
  have gA := gp.trans gq
  generalize upd H1 q (.lst (rest.map fun s => V.ref s.1)) = H2 at gA hq2
  have hS : ∀ u, (s0 :: rest.take u).map (·.2) ≠ [] := fun u => by simp
  refine ⟨q, _, rfl, SqL.of hq2, fun u σ H' => ∃ (r : Addr) (b' : Int) (cs' : List Int), σ = [some (.int num), some (.ref l), some (.ref r), σ.getD 3 none] ∧ Grow m.T H2 H' ∧ StairAt C Any H' r b' cs' ∧ Cor cs' ∧ cs'.length ≤ fb u ∧ ∀ n, 0 ≤ n → val b' cs' n = tgt one ((s0 :: rest.take u).map (·.2)) n, ?_, ?_, ?_, ?_⟩
  · obtain ⟨st0, hc0, _⟩ := hst s0 (by simp)
    exact ⟨s0.1, s0.2.1, s0.2.2, rfl, GrowX.refl, st0.grow gA (fun _ _ z => z) (fun z => z), hc0, h10 s0 (by simp), fun n _ => (tgt_one one s0.2 n).symm⟩
  · rintro u σ H' _ ⟨_, _, _, _, g, _⟩
    exact GrowX.seqL g (SqL.of hq2) fun z => z
  · rintro u x σ H' hx ⟨r, b', cs', es, g, st, hc, hlen, hv⟩
    rw [List.getElem?_map] at hx
    obtain ⟨s, hs, rfl⟩ := Option.map_eq_some_iff.1 hx
    have hu := (List.getElem?_eq_some_iff.1 hs).1
    have h6' : rest.length ≤ 5 := by simpa using h6
    have hsm : s ∈ s0 :: rest := List.mem_cons_of_mem _ (List.mem_of_getElem? hs)
    obtain ⟨st1, hc1, hl1'⟩ := hst s hsm
    have hs10 := h10 s hsm
    have hfb := fb_lt (j := u) (by omega)
    have efb : fb (u + 1) = 2 * (11 + fb u) := rfl
    rw [es]
    walk_at "B"
    walk_at "V"
    refine w_call hA On (by omega) rfl ?_
    walk_at "V"
    have go : ∀ (q2 : Addr), H' q2 = none → sp_once m C [.int ((if one then 1 else 2 : Nat) : Int), .ref q2] (upd H' q2 (.lst [V.ref r, .ref s.1])) (fun v H4 => ∃ (r2 : Addr) (b2 : Int) (cs2 : List Int), v = .ref r2 ∧ Grow m.T H2 H4 ∧ StairAt C Any H4 r2 b2 cs2 ∧ Cor cs2 ∧ cs2.length ≤ fb (u + 1) ∧ ∀ n, 0 ≤ n → val b2 cs2 n = tgt one ((s0 :: rest.take (u + 1)).map (·.2)) n) E := by
      intro q2 hq3
      have g3 := Grow.new (T := m.T) (o := .lst [V.ref r, .ref s.1]) hq3
      have eM : ((([(r, b', cs'), s] : List (Addr × Int × List Int)).flatMap (·.2.2)).length) = cs'.length + s.2.2.length := by simp
      refine ⟨if one then 1 else 2, q2, [(r, b', cs'), s], rfl, by split <;> omega, by show _ ≤ 2; split <;> omega, by show 2 ≤ 6; omega, SqL.of upd_same, ?_, ?_, fun r2 b2 cs2 H4 g4 nr st2 hc2 hl2 hv2 => ?_⟩
      · intro y hy
        rcases List.mem_cons.1 hy with rfl | hy
        · exact ⟨st.grow g3 (fun _ _ z => z) (fun z => z), hc, by show cs'.length < 4000; omega⟩
        · obtain rfl := List.mem_singleton.1 hy
          exact ⟨st1.grow ((gA.trans g).trans g3) (fun _ _ z => z) (fun z => z), hc1, by omega⟩
      · rw [eM]
        show _ * (1 + (0 + 0 + 1)) < 3900
        omega
      · rw [eM] at hl2
        have hl2 : cs2.length ≤ (1 + (cs'.length + s.2.2.length)) * 2 := hl2
        refine ⟨r2, b2, cs2, rfl, (g.trans g3).trans g4, st2.sub fun _ _ => trivial, hc2, by omega, fun n hn => ?_⟩
        rw [hv2 n hn]
        have e := tgt_step one (hS u) (b', cs') s.2 n (hv n hn)
        rw [List.take_add_one, hs]
        rw [show (s0 :: (rest.take u ++ (some s).toList)).map (·.2) = (s0 :: rest.take u).map (·.2) ++ [s.2] from by simp]
        exact e.symm
    have e1 : decide ((num : Int) = 1) = one := by
      rw [hone, decide_eq_decide]; omega
    rw [e1]
    cases one with
    | true =>
      refine iteT ?_
      walk_at "V"
      refine ⟨by walk_at "S", fun q2 hq3 => ?_⟩
      walk_at "V"
      refine spMono_once (go q2 hq3) fun v H4 z => ?_
      obtain ⟨r2, b2, cs2, rfl, z1, z2, z3, z4, z5⟩ := z
      exact b_nil ⟨r2, b2, cs2, rfl, z1, z2, z3, z4, z5⟩
    | false =>
      refine iteF ?_
      walk_at "V"
      refine ⟨by walk_at "S", fun q2 hq3 => ?_⟩
      walk_at "V"
      refine spMono_once (go q2 hq3) fun v H4 z => ?_
      obtain ⟨r2, b2, cs2, rfl, z1, z2, z3, z4, z5⟩ := z
      exact b_nil ⟨r2, b2, cs2, rfl, z1, z2, z3, z4, z5⟩
  · rintro σ H' ⟨r, b', cs', es, g, st, hc, hlen, hv⟩
    rw [List.length_map] at hlen hv
    rw [es]
    walk_at "B"
    walk_at "V"
    rw [List.take_length] at hv
    have h6' : rest.length ≤ 5 := by simpa using h6
    have := fb_le h6'
    refine k r b' cs' H' (gA.trans g) st hc (by omega) fun n hn => ?_
    rw [hv n hn]
    unfold tgt
    congr 2
    rw [hone]
    by_cases z : num = 1
    · rw [decide_eq_true z]; simp [z]
    · rw [decide_eq_false z]
      rcases h0 with z' | z'
      · exact absurd z' z
      · simp [z']
/-- the stair at a place of some stairs -/
def sp_ends (m : Md) (C : Addr) (pl : Nat → Nat) : Sp := fun vs H Q _ => ∃ (l : Addr) (sts : List (Addr × Int × List Int)), vs = [.ref l] ∧ 1 ≤ sts.length ∧ sts.length ≤ 6 ∧ SqL m.K H l (sts.map fun s => V.ref s.1) ∧ StsIn C H sts ∧ (∀ s ∈ sts, s.2.2.length ≤ 10) ∧
  ∀ (r : Addr) (b' : Int) (cs' : List Int) (H' : Hp), Grow m.T H H' → StairAt C Any H' r b' cs' → Cor cs' → cs'.length ≤ 1002 → (∀ n, 0 ≤ n → val b' cs' n = (rk (pl sts.length) (sts.map (·.2)) n).1) → Q (.ref r) H'
theorem c_first {m : Md} {C f : Addr} {fd : FuncData} (F : C8.Def m.K m.mg "first_of" st_first_of f fd) (b : L2.Binds m.K fd ps_first_of []) (W : Cal m 1 "_need_stairs" (sp_need_stairs m C)) (On : Cal m 8 "stair_of_rank" (sp_rank m C)) : Cal m 9 "first_of" (sp_ends m C fun _ => 0) := by
  refine cal_of F b sc_first_of (fun vs H Q E h => by obtain ⟨_, _, rfl, _⟩ := h; rfl) fun X vs H Q E hA h => ?_
  obtain ⟨l, sts, rfl, h1, h6, hl, hst, h10, k⟩ := h
  have n0 := nv_first_of
  walk_at "B"
  walk_at "V"
  refine w_call hA W (by omega) rfl ?_
  walk_at "V"
  refine ⟨l, sts, rfl, hl, fun s hs => (hst s hs).1, h1, h6, fun H1 g1 => ?_⟩
  walk_at "B"
  walk_at "V"
  refine w_call hA On (by omega) rfl ?_
  walk_at "V"
  exact ⟨1, l, sts, rfl, by omega, h1, h6, GrowX.seqL g1 hl fun z => z, hst.grow g1, h10, fun r b' cs' H5 g5 st hc' hl' hv => k r b' cs' H5 (g1.trans g5) st hc' hl' hv⟩
theorem c_last {m : Md} {C f : Addr} {fd : FuncData} (hn : m.mg "len" = none) (F : C8.Def m.K m.mg "last_of" st_last_of f fd) (b : L2.Binds m.K fd ps_last_of []) (W : Cal m 1 "_need_stairs" (sp_need_stairs m C)) (On : Cal m 8 "stair_of_rank" (sp_rank m C)) : Cal m 9 "last_of" (sp_ends m C fun n => n - 1) := by
  refine cal_of F b sc_last_of (fun vs H Q E h => by obtain ⟨_, _, rfl, _⟩ := h; rfl) fun X vs H Q E hA h => ?_
  obtain ⟨l, sts, rfl, h1, h6, hl, hst, h10, k⟩ := h
  have n0 := nv_last_of
  walk_at "B"
  walk_at "V"
  refine w_call hA W (by omega) rfl ?_
  walk_at "V"
  refine ⟨l, sts, rfl, hl, fun s hs => (hst s hs).1, h1, h6, fun H1 g1 => ?_⟩
  have hl1 := GrowX.seqL g1 hl fun z => z
  walk_at "B"
  walk_at "V"
  refine w_call hA On (by omega) rfl ?_
  walk_at "V"
  refine g_blt hA hn rfl bt_len ?_
  walk_at "V"
  refine g_lenL hA hl1 ?_
  rw [List.length_map]
  walk_at "V"
  exact ⟨sts.length, l, sts, rfl, h1, Nat.le_refl _, h6, hl1, hst.grow g1, h10, fun r b' cs' H5 g5 st hc' hl' hv => k r b' cs' H5 (g1.trans g5) st hc' hl' hv⟩
theorem c_rankof {m : Md} {C f : Addr} {fd : FuncData} (hn : m.mg "len" = none) (F : C8.Def m.K m.mg "rank_of" st_rank_of f fd) (b : L2.Binds m.K fd ps_rank_of []) (Nc : Cal m 3 "need_count_from" sp_need_count) (W : Cal m 1 "_need_stairs" (sp_need_stairs m C)) (On : Cal m 8 "stair_of_rank" (sp_rank m C)) : Cal m 9 "rank_of" (sp_rank m C) := by
  refine cal_of F b sc_rank_of (fun vs H Q E h => by obtain ⟨_, _, _, rfl, _⟩ := h; rfl) fun X vs H Q E hA h => ?_
  obtain ⟨num, l, sts, rfl, hn1, hn2, h6, hl, hst, h10, k⟩ := h
  obtain ⟨n0, n1⟩ := nv_rank_of
  walk_at "B"
  walk_at "V"
  refine w_call hA Nc (by omega) rfl ?_
  walk_at "V"
  refine ⟨1, num, rfl, by omega, by omega, ?_⟩
  walk_at "B"
  walk_at "V"
  refine w_call hA W (by omega) rfl ?_
  walk_at "V"
  refine ⟨l, sts, rfl, hl, fun s hs => (hst s hs).1, by omega, h6, fun H1 g1 => ?_⟩
  have hl1 := GrowX.seqL g1 hl fun z => z
  walk_at "B"
  walk_at "V"
  refine g_blt hA hn rfl bt_len ?_
  walk_at "V"
  refine g_lenL hA hl1 ?_
  rw [List.length_map]
  walk_at "V"
  rw [decide_eq_false (show ¬ (sts.length : Int) < num by omega)]
  refine iteF (b_nil ?_)
  walk_at "B"
  walk_at "V"
  refine w_call hA On (by omega) rfl ?_
  walk_at "V"
  exact ⟨num, l, sts, rfl, hn1, hn2, h6, hl1, hst.grow g1, h10, fun r b' cs' H5 g5 st hc' hl' hv => k r b' cs' H5 (g1.trans g5) st hc' hl' hv⟩
/-- the greatest count at which at most num is told -/
theorem und_spec {b num : Int} {cs : List Int} (hc : Cor cs) : (∀ z, und b cs num = some z → -1 ≤ z ∧ ∀ n : Int, 0 ≤ n → (val b cs n ≤ num ↔ n ≤ z)) ∧ (und b cs num = none → ∀ n : Int, 0 ≤ n → val b cs n ≤ num) := by
  have from0 : ∀ n : Int, 0 ≤ n → b ≤ val b cs n := fun n hn => by
    have := hc.val_mono (b := b) hn
    rw [hc.val_zero] at this
    exact this
  unfold und
  by_cases hb : num < b
  · rw [if_pos hb]
    refine ⟨fun z hz => ?_, fun h => by cases h⟩
    obtain rfl := Option.some.inj hz
    refine ⟨by omega, fun n hn => ?_⟩
    have := from0 n hn
    omega
  · rw [if_neg hb]
    cases hu : undK b cs num cs.length with
    | none =>
      refine ⟨fun z hz => (by cases hz), fun _ n hn => ?_⟩
      rcases Nat.eq_zero_or_pos cs.length with h0 | h0
      · have : cs = [] := List.length_eq_zero_iff.1 h0
        subst this
        show b ≤ num
        omega
      · have := undK_none hu 0 h0
        rw [hc.val_first h0] at this
        omega
    | some i =>
      obtain ⟨hi, hv, hlt⟩ := undK_some hu
      have c0 := hc.nn_at hi
      have low : ∀ n : Int, n ≤ cs.getD i 0 → val b cs n ≤ num := fun n hn => Int.le_trans (hc.val_mono hn) hv
      show (∀ z, (if i % 2 = 0 then some (cs.getD i 0 + num - val b cs (cs.getD i 0)) else none) = some z → _) ∧ ((if i % 2 = 0 then some (cs.getD i 0 + num - val b cs (cs.getD i 0)) else none) = none → _)
      by_cases he : i % 2 = 0
      · rw [if_pos he]
        refine ⟨fun z hz => ?_, fun h => by cases h⟩
        obtain rfl := Option.some.inj hz
        refine ⟨by omega, fun n hn => ?_⟩
        rcases Int.lt_or_le n (cs.getD i 0) with h1 | h1
        · exact ⟨fun _ => by omega, fun _ => low n (by omega)⟩
        · by_cases hl : i + 1 < cs.length
          · have seg : ∀ k : Int, cs.getD i 0 ≤ k → k ≤ cs.getD (i + 1) 0 → val b cs k = val b cs (cs.getD i 0) + (k - cs.getD i 0) := fun k k1 k2 => by
              have := hc.val_seg (b := b) hi (k - cs.getD i 0).toNat (fun _ => by omega)
              rw [show cs.getD i 0 + ((k - cs.getD i 0).toNat : Int) = k from by omega, show (i + 1) % 2 = 1 from by omega] at this
              rw [this]; omega
            have h2 := hlt (i + 1) (by omega) hl
            have h3 := hc.lt (show i < i + 1 by omega) hl
            rw [seg _ (by omega) (Int.le_refl _)] at h2
            rcases Int.le_total n (cs.getD (i + 1) 0) with h4 | h4
            · rw [seg n h1 h4]; omega
            · have := hc.val_mono (b := b) h4
              rw [seg _ (by omega) (Int.le_refl _)] at this
              omega
          · have := hc.val_seg (b := b) hi (n - cs.getD i 0).toNat (fun z => absurd z hl)
            rw [show cs.getD i 0 + ((n - cs.getD i 0).toNat : Int) = n from by omega, show (i + 1) % 2 = 1 from by omega] at this
            rw [this]; omega
      · rw [if_neg he]
        refine ⟨fun z hz => (by cases hz), fun _ n hn => ?_⟩
        rcases Int.lt_or_le n (cs.getD i 0) with h1 | h1
        · exact low n (by omega)
        · by_cases hl : i + 1 < cs.length
          · have h2 := hlt (i + 1) (by omega) hl
            have h3 := hc.lt (show i < i + 1 by omega) hl
            have := hc.val_seg (b := b) hi (cs.getD (i + 1) 0 - cs.getD i 0).toNat (fun _ => by omega)
            rw [show cs.getD i 0 + ((cs.getD (i + 1) 0 - cs.getD i 0).toNat : Int) = cs.getD (i + 1) 0 from by omega, show (i + 1) % 2 = 0 from by omega] at this
            rw [Int.natCast_zero, Int.zero_mul, Int.add_zero] at this
            omega
          · have := hc.val_seg (b := b) hi (n - cs.getD i 0).toNat (fun z => absurd z hl)
            rw [show cs.getD i 0 + ((n - cs.getD i 0).toNat : Int) = n from by omega, show (i + 1) % 2 = 0 from by omega] at this
            rw [Int.natCast_zero, Int.zero_mul, Int.add_zero] at this
            omega
/-- the least count at which at least num is told -/
def fst (b : Int) (cs : List Int) (num : Int) : Option Int := (und b cs (num - 1)).map (· + 1)
theorem fst_some {b num z : Int} {cs : List Int} (hc : Cor cs) (h : fst b cs num = some z) : 0 ≤ z ∧ ∀ n : Int, 0 ≤ n → (num ≤ val b cs n ↔ z ≤ n) := by
  unfold fst at h
  obtain ⟨q, hq, rfl⟩ := Option.map_eq_some_iff.1 h
  obtain ⟨h1, h2⟩ := (und_spec hc).1 q hq
  refine ⟨by omega, fun n hn => ?_⟩
  have := h2 n hn
  omega
theorem fst_none {b num : Int} {cs : List Int} (hc : Cor cs) (h : fst b cs num = none) : ∀ n : Int, 0 ≤ n → val b cs n < num := by
  unfold fst at h
  have h := Option.map_eq_none_iff.1 h
  intro n hn
  have := (und_spec hc).2 h n hn
  omega
/-- counts of a stair that is put behind another one -/
structure Beh (ns : List Int) (b : Int) (cs ds : List Int) : Prop where
  asc : ns.Pairwise (· < ·)
  nn : ∀ n ∈ ns, 0 ≤ n
  h0 : (0 : Int) ∈ ns
  hs : ∀ c ∈ cs, c ∈ ns
  fc : ∀ d ∈ ds, ∀ z, fst b cs d = some z → z ∈ ns
theorem Beh.run {ns : List Int} {b e : Int} {cs ds : List Int} (w : Beh ns b cs ds) (hc : Cor cs) (hd : Cor ds) :
    Cor (alo [] (ns.map fun n => (n, ((pas cs n % 2 : Nat) : Int) * ((pas ds (val b cs n) % 2 : Nat) : Int)))) ∧ (alo [] (ns.map fun n => (n, ((pas cs n % 2 : Nat) : Int) * ((pas ds (val b cs n) % 2 : Nat) : Int)))).length ≤ ns.length ∧
      ∀ m, 0 ≤ m → val (val e ds (val b cs 0)) (alo [] (ns.map fun n => (n, ((pas cs n % 2 : Nat) : Int) * ((pas ds (val b cs n) % 2 : Nat) : Int)))) m = val e ds (val b cs m) := by
  refine alo_val (f := fun m => val e ds (val b cs m)) (g := fun n => ((pas cs n % 2 : Nat) : Int) * ((pas ds (val b cs n) % 2 : Nat) : Int)) w.asc w.nn w.h0 (fun n => ?_) fun n hn m hnm lst => ?_
  · rcases Nat.mod_two_eq_zero_or_one (pas cs n) with z | z <;> rcases Nat.mod_two_eq_zero_or_one (pas ds (val b cs n)) with y | y <;> rw [z, y] <;> simp
  · show val e ds (val b cs (m + 1)) = val e ds (val b cs m) + _
    have n0 := w.nn n hn
    have p1 := pas_same hnm fun x hx hxm => lst x (w.hs x hx) hxm
    have v1 := hc.val_from (b := b) hnm fun x hx hxm => lst x (w.hs x hx) hxm
    rw [hc.val_step, p1]
    rcases Nat.mod_two_eq_zero_or_one (pas cs n) with z | z
    · rw [z]; simp
    · rw [z] at v1 ⊢
      have v1 : val b cs m = val b cs n + (m - n) := by rw [v1]; simp
      have p2 : pas ds (val b cs m) = pas ds (val b cs n) := by
        refine pas_same (by omega) fun d hd1 hdm => ?_
        refine Classical.byContradiction fun no => ?_
        cases hf : fst b cs d with
        | none =>
          have := fst_none hc hf m (by omega)
          omega
        | some q =>
          obtain ⟨q0, hq⟩ := fst_some hc hf
          have h1 := (hq m (by omega)).1 hdm
          have h2 : ¬ q ≤ n := fun z => no ((hq n n0).2 z)
          have := lst q (w.fc d hd1 q hf) h1
          omega
      have := hd.val_step e (val b cs m)
      rw [p2] at this
      rw [show val b cs m + ((1 : Nat) : Int) = val b cs m + 1 from rfl, this]
      simp
def undV (o : Option Int) : V := match o with | none => .non | some z => .int z
def sp_undone (m : Md) (C : Addr) : Sp := fun vs H Q _ => ∃ (i : Addr) (b num : Int) (cs : List Int), vs = [.ref i, .int num] ∧ StairAt C Any H i b cs ∧ Cor cs ∧ cs.length < 4000 ∧ ∀ H', Grow m.T H H' → Q (undV (und b cs num)) H'
theorem m_undone {m : Md} {C f : Addr} {fd : FuncData} (R : StC m C) (hz : m.mg "zip" = none) (F : C8.Fun m.K "undone" "Stair.undone" st_Stair_undone f fd) (b : L2.Binds m.K fd ps_Stair_undone []) (me : Meth m.K C "undone" f) (W : Cal m 2 "need_whole" sp_need_whole) (Co : Cal m 3 "_course" (sp_course m C)) : MetX m C8.CX0 4 C "undone" (sp_undone m C) [] := by
  refine ⟨f, fd, ps_Stair_undone, [], fnG_of F sc_Stair_undone (fun vs H Q E h => by obtain ⟨_, _, _, _, rfl, _⟩ := h; rfl) fun X vs H Q E hA hM h => ?_, R.cl, me, b, .nil⟩
  obtain ⟨i, b, num, cs, rfl, st, hc, hcl, k⟩ := h
  obtain ⟨n0, n1, n2, n3, n4⟩ := nv_Stair_undone
  have st' := st
  obtain ⟨dx, lc, h1, h2, _⟩ := st'
  walk_at "B"
  walk_at "V"
  refine w_call hA W (by omega) rfl ?_
  walk_at "V"
  refine ⟨num, rfl, ?_⟩
  walk_at "B"
  walk_at "V"
  refine w_fld hA R.cl R.nb ?_
  walk_at "V"
  refine ⟨i, dx, _, _, rfl, h1, rfl, ?_⟩
  walk_at "V"
  refine ite2 (fun h0 => ?_) fun h0 => ?_
  · have h0 : num < b := by simpa using h0
    walk_at "V"
    have e : und b cs num = some (-1) := by unfold und; rw [if_pos h0]
    rw [e] at k
    exact k H GrowX.refl
  · have h0 : ¬ num < b := by simpa using h0
    refine b_nil ?_
    have eu : und b cs num = (match undK b cs num cs.length with | none => none | some i => if i % 2 = 0 then some (cs.getD i 0 + num - val b cs (cs.getD i 0)) else none) := by
      unfold und; rw [if_neg h0]; all_goals rfl
    walk_at "B"
    refine s_forZ hA (pg_tup hA.calm (pgs_cons (pg_nl hA n2) (pgs_cons (pg_tup hA.calm (pgs_cons (pg_nl hA n3) (pgs_cons (pg_nl hA n4) pgs_nil (by with_unfolding_all rfl)) (by with_unfolding_all rfl)) (by with_unfolding_all rfl) (by with_unfolding_all rfl)) pgs_nil (by with_unfolding_all rfl)) (by with_unfolding_all rfl)) (by with_unfolding_all rfl) (by with_unfolding_all rfl)) hz rfl ?_
    refine w_cons (w_rev hA (w_fld hA R.cl R.nc ?_))
    walk_at "V"
    refine ⟨i, dx, _, _, rfl, h1, rfl, lc, _, rfl, SqL.of h2, fun p1 hp1 => ?_⟩
    have g1 := Grow.new (T := m.T) (o := .lst (cs.map V.int).reverse) hp1
    have st1 := st.grow (T := m.T) g1 (fun _ _ z => z) (fun z => z)
    have st1' := st1
    obtain ⟨dx1, lc1, h11, h21, _⟩ := st1'
    refine w_cons (w_rev hA ?_)
    refine w_call hA Co (by omega) rfl ?_
    walk_at "V"
    refine w_fld hA R.cl R.nc ?_
    walk_at "V"
    refine ⟨i, dx1, _, _, rfl, h11, rfl, ?_⟩
    refine w_nil ⟨i, lc1, b, cs, cs, rfl, st1, hc, hcl, SqL.of h21, hc.asc.imp fun z => Int.le_of_lt z, hcl, fun r xs H2 g2 nr hr da => ?_⟩
    refine ⟨r, xs, rfl, SqL.of hr, fun p2 hp2 => ?_⟩
    have g3 := Grow.new (T := m.T) (o := .lst xs.reverse) hp2
    have hxl : xs.length = cs.length := by rw [da.length, List.length_map]
    have hp1' := Grow.extN (g2.trans g3) _ _ upd_same (fun _ z => by cases z)
    refine w_nil ⟨p1, p2, _, xs.reverse, rfl, SqL.of hp1', SqL.of upd_same, by simp [hxl], ?_⟩
    have gall := (g1.trans g2).trans g3
    have da3 := Grow.daAll g3 da
    have hp2' := upd_same (H := H2) (a := p2) (o := .lst xs.reverse)
    generalize upd H2 p2 (.lst xs.reverse) = H3 at *
    refine ⟨fun j σ H' => σ = [some (.ref i), some (.int num), σ.getD 2 none, σ.getD 3 none, σ.getD 4 none] ∧ Grow m.T H3 H' ∧ j ≤ cs.length ∧ undK b cs num cs.length = undK b cs num (cs.length - j), ⟨rfl, GrowX.refl, by omega, rfl⟩, ?_, ?_, ?_⟩
    · rintro j σ H' ⟨_, g, _⟩
      exact ⟨GrowX.seqL g (SqL.of hp1') fun z => z, GrowX.seqL g (SqL.of hp2') fun z => z⟩
    · rintro j x y T σ H' hx hy ⟨es, g, hj, hu⟩ hT
      have hjl : j < cs.length := by
        have := (List.getElem?_eq_some_iff.1 hx).1
        simpa using this
      obtain ⟨q, hq⟩ : ∃ q, cs.length - j = q + 1 := ⟨cs.length - j - 1, by omega⟩
      have hql : q < cs.length := by omega
      have ex : x = .int (cs.getD q 0) := by
        rw [List.getElem?_reverse (by simpa using hjl)] at hx
        rw [List.length_map, show cs.length - 1 - j = q from by omega, List.getElem?_map, getD_get hql] at hx
        exact (Option.some.inj hx).symm
      obtain ⟨pd, hpd, dy⟩ := da3.getV (v := y) (i := q) (by
        rw [List.getElem?_reverse (by rw [hxl]; exact hjl), hxl, show cs.length - 1 - j = q from by omega] at hy
        exact hy)
      rw [List.getElem?_map, getD_get hql] at hpd
      obtain rfl : told2 b cs (cs.getD q 0) = pd := by simpa using hpd
      subst ex
      have gT := Grow.new (T := m.T) (o := .tup [V.int (cs.getD q 0), y]) hT
      obtain ⟨T2, ys2, rfl, hT2, dys⟩ := da_tup (Grow.da (g.trans gT) dy)
      cases dys with | cons p1' dys => cases dys with | cons p2' dys =>
      cases dys
      cases p1'
      cases p2'
      refine ⟨T, _, rfl, SqT.of upd_same, rfl, _, _, rfl, _, [], rfl, ⟨T2, _, rfl, (by rw [hA.kk]; exact hT2), rfl, _, _, rfl, _, [], rfl, ⟨rfl, ⟨rfl, ?_⟩⟩⟩⟩
      rw [es]
      walk_at "B"
      walk_at "V"
      rw [hq] at hu
      refine ite2 (fun h3 => ?_) fun h3 => ?_
      · have h3 : val b cs (cs.getD q 0) ≤ num := by simpa using h3
        have e3 : undK b cs num cs.length = some q := by rw [hu]; unfold undK; rw [if_pos h3]
        rw [e3] at eu
        rw [eu] at k
        have kk := k _ (gall.trans (g.trans gT))
        dsimp only at kk
        walk_at "V"
        refine g_truI ?_
        rw [hc.pas_at hql]
        rcases Nat.mod_two_eq_zero_or_one q with z | z
        · rw [if_pos z] at kk
          rw [show (q + 1) % 2 = 1 from by omega]
          refine iteT ?_
          walk_at "V"
          exact kk
        · rw [if_neg (by omega)] at kk
          rw [show (q + 1) % 2 = 0 from by omega]
          refine iteF ?_
          walk_at "V"
          exact kk
      · have h3 : ¬ val b cs (cs.getD q 0) ≤ num := by simpa using h3
        refine b_nil (b_nil ?_)
        refine ⟨rfl, g.trans gT, by omega, ?_⟩
        rw [hu, show cs.length - (j + 1) = q from by omega]
        show (if val b cs (cs.getD q 0) ≤ num then some q else undK b cs num q) = _
        rw [if_neg h3]
    · rintro σ H' ⟨es, g, _, hu⟩
      rw [es]
      walk_at "B"
      walk_at "V"
      rw [List.length_reverse, List.length_map, Nat.sub_self] at hu
      rw [hu] at eu
      have e : und b cs num = none := eu
      rw [e] at k
      exact k H' (gall.trans g)
def sp_fc (m : Md) (C : Addr) : Sp := fun vs H Q _ => ∃ (i : Addr) (b num : Int) (cs : List Int), vs = [.ref i, .int num] ∧ StairAt C Any H i b cs ∧ Cor cs ∧ cs.length < 1000 ∧ ∀ H', Grow m.T H H' → Q (undV (fst b cs num)) H'
theorem c_fcount {m : Md} {C f : Addr} {fd : FuncData} (F : C8.Def m.K m.mg "_first_count" st_x_first_count f fd) (b : L2.Binds m.K fd ps_x_first_count []) (Un : MetX m C8.CX0 4 C "undone" (sp_undone m C) []) : Cal m 6 "_first_count" (sp_fc m C) := by
  refine cal_of F b sc_x_first_count (fun vs H Q E h => by obtain ⟨_, _, _, _, rfl, _⟩ := h; rfl) fun X vs H Q E hA h => ?_
  obtain ⟨i, b, num, cs, rfl, st, hc, hcl, k⟩ := h
  obtain ⟨n0, n1, n2⟩ := nv_x_first_count
  obtain ⟨dx, lc, e1, e2, _⟩ := id st
  walk_at "B"
  walk_at "V"
  refine w_metX (E := C8.E0) hA Un (by omega) C8.pass0 ?_
  walk_at "V"
  refine ⟨i, dx, _, rfl, e1, rfl, ?_⟩
  walk_at "V"
  refine ⟨i, b, num - 1, cs, rfl, st, hc, by omega, fun H1 g1 => ?_⟩
  have ef : fst b cs num = (und b cs (num - 1)).map (· + 1) := rfl
  rw [ef] at k
  cases hu : und b cs (num - 1) with
  | none =>
    rw [hu] at k
    rw [show undV none = V.non from rfl]
    walk_at "B"
    walk_at "V"
    refine iteT ?_
    walk_at "V"
    exact k H1 g1
  | some z =>
    rw [hu] at k
    rw [show undV (some z) = V.int z from rfl]
    walk_at "B"
    walk_at "V"
    refine iteF ?_
    walk_at "V"
    exact k H1 g1
def sp_behind (m : Md) (C : Addr) : Sp := fun vs H Q _ => ∃ (i j : Addr) (b e : Int) (cs ds : List Int), vs = [.ref i, .ref j] ∧ StairAt C Any H i b cs ∧ StairAt C Any H j e ds ∧ Cor cs ∧ Cor ds ∧ 0 ≤ b ∧ cs.length ≤ 100 ∧ ds.length ≤ 100 ∧
  ∀ (r : Addr) (b' : Int) (cs' : List Int) (H' : Hp), Grow m.T H H' → StairAt C Any H' r b' cs' → Cor cs' → cs'.length ≤ 1 + cs.length + ds.length → (∀ n, 0 ≤ n → val b' cs' n = val e ds (val b cs n)) → Q (.ref r) H'
theorem c_behind {m : Md} {C f : Addr} {fd : FuncData} (F : C8.Def m.K m.mg "put_behind" st_put_behind f fd) (b : L2.Binds m.K fd ps_put_behind []) (R : StC m C) (P : Prp m C) (hz : m.mg "zip" = none) (hs : m.mg "sorted" = none) (hset : m.mg "set" = none) (Ns : Cal m 1 "need_stair" (sp_need_stair C)) (Co : Cal m 3 "_corners_of" (sp_co m C)) (Cr : Cal m 3 "_course" (sp_course m C)) (Fc : Cal m 6 "_first_count" (sp_fc m C)) (Al : Cal m 6 "_along" (sp_along m C)) : Cal m 7 "put_behind" (sp_behind m C) := by
  refine cal_ofM F b sc_put_behind (fun vs H Q E h => by obtain ⟨_, _, _, _, _, _, rfl, _⟩ := h; rfl) fun X vs H Q E hA hM h => ?_
  obtain ⟨i, j, b1, b2, cs, ds, rfl, s1, s2, hc, hd, hb, l1, l2, k⟩ := h
  obtain ⟨n1, n2, n3, n4, n0⟩ := nv_put_behind
  obtain ⟨pp, gg, fd2, hpp, F2, bb2⟩ := P.pc
  obtain ⟨pq, gq, fd3, hpq, F3, bb3⟩ := P.pb
  obtain ⟨dx1, lc1, e1, _⟩ := id s1
  walk_at "B"
  walk_at "V"
  refine w_call hA Ns (by omega) rfl ?_
  walk_at "V"
  refine ⟨i, b1, cs, rfl, s1, ?_⟩
  walk_at "B"
  walk_at "V"
  refine w_prop hA R.cl hpq F3 bb3 (by omega) ?_
  walk_at "V"
  refine ⟨i, dx1, _, rfl, e1, i, b1, cs, rfl, s1, ?_⟩
  walk_at "V"
  rw [decide_eq_false (show ¬ b1 < 0 by omega)]
  refine iteF (b_nil ?_)
  walk_at "B"
  walk_at "V"
  refine w_call hA Ns (by omega) rfl ?_
  walk_at "V"
  refine ⟨j, b2, ds, rfl, s2, ?_⟩
  walk_at "B"
  walk_at "V"
  refine w_call hA Co (by omega) rfl ?_
  walk_at "V"
  refine ⟨by walk_at "S", fun p hp => ?_⟩
  have g0 := Grow.new (T := m.T) (o := .lst [V.ref i]) hp
  walk_at "V"
  refine ⟨p, [(i, b1, cs)], rfl, SqL.of upd_same, ?_, by simp; omega, fun r0 ns0 H1 g1 nr0 hr0 asc0 mem0 nl0 => ?_⟩
  · intro s hs
    obtain rfl := List.mem_singleton.1 hs
    exact ⟨s1.grow g0 (fun _ _ z => z) (fun z => z), hc, by show cs.length < 4000; omega⟩
  have nl0 : ns0.length ≤ 1 + cs.length := by simpa using nl0
  have mem0 : ∀ q : Int, q ∈ ns0 ↔ q = 0 ∨ q ∈ cs := fun q => by rw [mem0 q]; simp
  have gA := g0.trans g1
  refine w_lcL hA (by decide +kernel) (i := 5) ⟨rfl, rfl⟩ ?_
  have s2A := s2.grow gA (fun _ _ z => z) (fun z => z)
  obtain ⟨dx2, lc2, e2, _⟩ := id s2A
  refine w_prop hA R.cl hpp F2 bb2 (by omega) ?_
  walk_at "V"
  refine ⟨j, dx2, _, rfl, e2, j, b2, ds, rfl, s2A, fun rc H2 g2 nrc hrc => ?_⟩
  have gB := gA.trans g2
  refine ⟨rc, _, rfl, SqL.of hrc, fun D hD => ⟨fun t H' => Grow m.T H2 H' ∧ H' D = some (.lst ((ds.take t).map fun d => undV (fst b1 cs d))), ⟨Grow.new hD, upd_same⟩, ?_, ?_, ?_⟩⟩
  · rintro t H' _ ⟨g, _⟩
    exact GrowX.seqL g (SqL.of hrc) fun z => z
  · rintro t x H' hx ⟨g, hd'⟩ X' hX'
    have c5 := nl_of hX' 5 "corner"
    have c0 := nc_of hX' 0 "one"
    rw [List.getElem?_map] at hx
    obtain ⟨d, hdt, rfl⟩ := Option.map_eq_some_iff.1 hx
    have ht := (List.getElem?_eq_some_iff.1 hdt).1
    refine w_call hX' Fc (by omega) rfl ?_
    walk_at "V"
    refine ⟨i, b1, d, cs, rfl, s1.grow (gB.trans g) (fun _ _ z => z) (fun z => z), hc, by omega, fun H3 g3 => ?_⟩
    have hd3 := Grow.extN g3 _ _ hd' (fun _ z => by cases z)
    refine ⟨_, hd3, by rw [List.length_map, List.length_take, sizeLine_eq]; omega, Grow.intoNew (g.trans g3) (GrowX.lst hd3) fun c w => by rw [w]; exact hD, ?_⟩
    rw [upd_same, List.take_add_one, hdt, List.map_append]; rfl
  rintro H3 ⟨g3, hD3⟩
  rw [List.length_map, List.take_length] at hD3
  have hr03 := Grow.extN (g2.trans g3) _ _ hr0 (fun _ z => by cases z)
  refine g_cat hr03 hD3 (by simp only [List.length_map]; rw [sizeLine_eq]; omega) fun q hq => ?_
  have gq' := Grow.new (T := m.T) (o := .lst (ns0.map V.int ++ ds.map fun d => undV (fst b1 cs d))) hq
  obtain ⟨os, hos⟩ : ∃ os : List (Option Int), os = ns0.map some ++ ds.map (fst b1 cs) := ⟨_, rfl⟩
  have eos : ns0.map V.int ++ ds.map (fun d => undV (fst b1 cs d)) = os.map undV := by rw [hos, List.map_append, List.map_map, List.map_map]; rfl
  have hosl : os.length ≤ 1 + cs.length + ds.length := by rw [hos]; simp; omega
  rw [eos] at gq' ⊢
  have hq4 : upd H3 q (.lst (os.map undV)) q = _ := upd_same
  have gC := (gB.trans g3).trans gq'
  generalize upd H3 q (.lst (os.map undV)) = H4 at hq4 gC
  walk_at "B"
  walk_at "V"
  refine g_blt hA hs rfl bt_sorted ?_
  walk_at "V"
  refine g_typ hA hset rfl bt_set ?_
  refine w_cons (w_lcLi hA (by decide +kernel) (i := 6) ⟨rfl, rfl⟩ ?_)
  walk_at "V"
  refine ⟨q, _, rfl, SqL.of hq4, fun D2 hD2 => ⟨fun t H' => Grow m.T H4 H' ∧ H' D2 = some (.lst (((os.take t).filterMap id).map V.int)), ⟨Grow.new hD2, upd_same⟩, ?_, ?_, ?_⟩⟩
  · rintro t H' _ ⟨g, _⟩
    exact GrowX.seqL g (SqL.of hq4) fun z => z
  · rintro t x H' hx ⟨g, hd'⟩ X' hX'
    have c6 := nl_of hX' 6 "count"
    rw [List.getElem?_map] at hx
    obtain ⟨o, hot, rfl⟩ := Option.map_eq_some_iff.1 hx
    have ht := (List.getElem?_eq_some_iff.1 hot).1
    have hfl : ((os.take t).filterMap id).length ≤ os.length := Nat.le_trans (List.length_filterMap_le _ _) (by rw [List.length_take]; omega)
    cases o with
    | none =>
      rw [show undV none = V.non from rfl]
      walk_at "V"
      refine iteF ⟨g, ?_⟩
      rw [hd', List.take_add_one, hot, List.filterMap_append]; simp
    | some z =>
      rw [show undV (some z) = V.int z from rfl]
      walk_at "V"
      refine iteT fun X2 hX2 => ?_
      have c6 := nl_of hX2 6 "count"
      walk_at "V"
      refine ⟨_, hd', by rw [List.length_map, sizeLine_eq]; omega, Grow.intoNew g (GrowX.lst hd') fun c w => by rw [w]; exact hD2, ?_⟩
      rw [upd_same, List.take_add_one, hot, List.filterMap_append, List.map_append]; simp
  rintro H5 ⟨g5, hD5⟩
  rw [List.length_map, List.take_length] at hD5
  have hfl : (os.filterMap id).length ≤ 1 + cs.length + ds.length := Nat.le_trans (List.length_filterMap_le _ _) hosl
  have gD := gC.trans g5
  walk_at "V"
  refine g_setZ hA (SqL.of hD5) (by omega) fun a c ha hc1 => ?_
  walk_at "V"
  refine g_sortedB hA upd_same (by omega) fun ns r o1 o2 o3 hr => ?_
  have memS : ∀ z, z ∈ ns ↔ z ∈ ns0 ∨ ∃ d ∈ ds, fst b1 cs d = some z := fun z => by
    rw [o2 z, decide_eq_true_eq, hos, List.filterMap_append, List.mem_append]
    simp
  have w : Beh ns b1 cs ds := by
    refine ⟨o1, fun n hn => ?_, (memS 0).2 (.inl ((mem0 0).2 (.inl rfl))), fun c hcc => (memS c).2 (.inl ((mem0 c).2 (.inr hcc))), fun d hdd z hz => (memS z).2 (.inr ⟨d, hdd, hz⟩)⟩
    rcases (memS n).1 hn with z | ⟨d, _, z⟩
    · rcases (mem0 n).1 z with y | y
      · omega
      · exact hc.nn n y
    · exact (fst_some hc z).1
  have nsl : ns.length ≤ 1 + cs.length + ds.length := by omega
  have ga := Grow.new (T := m.T) (o := SetO m.w a (fun z => decide (z ∈ os.filterMap id)) c) ha
  have gr := Grow.new (T := m.T) (o := .lst (ns.map V.int)) hr
  have gE := (gD.trans ga).trans gr
  have hr4 : upd (upd H5 a (SetO m.w a (fun z => decide (z ∈ os.filterMap id)) c)) r (.lst (ns.map V.int)) r = some (.lst (ns.map V.int)) := upd_same
  generalize upd (upd H5 a (SetO m.w a (fun z => decide (z ∈ os.filterMap id)) c)) r (.lst (ns.map V.int)) = H6 at gE hr4
  have nle : ns.Pairwise (· ≤ ·) := o1.imp fun z => Int.le_of_lt z
  obtain ⟨w1, w2, w3⟩ := w.run (e := b2) hc hd
  walk_at "B"
  walk_at "V"
  refine w_call hA Cr (by omega) rfl ?_
  walk_at "V"
  refine ⟨i, r, b1, cs, ns, rfl, s1.grow gE (fun _ _ z => z) (fun z => z), hc, by omega, SqL.of hr4, nle, by omega, fun r1 xs H7 g7 nr1 hr1 da1 => ?_⟩
  have x1 : xs.length = ns.length := by rw [da1.length, List.length_map]
  walk_at "B"
  walk_at "V"
  refine w_call hA Cr (by omega) rfl ?_
  walk_at "V"
  refine w_lcP hA (by decide +kernel) (i := 7) (j := 8) ⟨rfl, rfl⟩ ⟨rfl, rfl⟩ ?_
  walk_at "V"
  refine ⟨r1, xs, rfl, SqL.of hr1, fun D3 hD3 => ⟨fun t H' => Grow m.T H7 H' ∧ H' D3 = some (.lst (((ns.take t).map fun n => val b1 cs n).map V.int)), ⟨Grow.new hD3, upd_same⟩, ?_, ?_, ?_⟩⟩
  · rintro t H' _ ⟨g, _⟩
    exact GrowX.seqL g (SqL.of hr1) fun z => z
  · rintro t z H' hz1 ⟨g, hd'⟩
    have ht := (List.getElem?_eq_some_iff.1 hz1).1
    have hn := List.getElem?_eq_getElem (show t < ns.length by omega)
    generalize ns[t]'(by omega) = n at hn
    obtain ⟨pd, hpd, dx⟩ := da1.getV (v := z) (i := t) hz1
    rw [List.getElem?_map, hn] at hpd
    obtain rfl : told2 b1 cs n = pd := by simpa using hpd
    obtain ⟨tp1, rfl, htp⟩ := pair_at (Grow.da g dx)
    refine ⟨tp1, _, _, rfl, htp, fun X' hX' => ?_⟩
    have c7 := nl_of hX' 7 "told"
    walk_at "V"
    refine ⟨_, hd', by rw [List.length_map, List.length_map, List.length_take, sizeLine_eq]; omega, Grow.intoNew g (GrowX.lst hd') fun c w => by rw [w]; exact hD3, ?_⟩
    rw [upd_same, List.take_add_one, hn]; simp
  rintro H8 ⟨g8, hD8⟩
  rw [x1, List.take_length] at hD8
  walk_at "V"
  have gF := (gE.trans g7).trans g8
  have hr48 := GrowX.seqL (g7.trans g8) (SqL.of (K := m.K) hr4) fun z => z
  have hr18 := GrowX.seqL g8 (SqL.of (K := m.K) hr1) fun z => z
  have mono : (ns.map fun n => val b1 cs n).Pairwise (· ≤ ·) := by
    rw [List.pairwise_map]
    exact nle.imp fun h => hc.val_mono h
  refine ⟨j, D3, b2, ds, ns.map fun n => val b1 cs n, rfl, s2.grow gF (fun _ _ z => z) (fun z => z), hd, by omega, SqL.of hD8, mono, by rw [List.length_map]; omega, fun r2 ys H9 g9 nr2 hr2 da2 => ?_⟩
  have y1 : ys.length = ns.length := by rw [da2.length, List.length_map, List.length_map]
  rw [List.map_map] at da2
  walk_at "B"
  walk_at "V"
  refine w_call hA Al (by omega) rfl ?_
  walk_at "V"
  refine w_lcZn hA (n := 2) (own := [("mine", 9), ("told", 7), ("rise", 10)]) (g := gTup m.K 2 (gCons (gName 9) (gCons (gTup m.K 2 (gCons (gName 7) (gCons (gName 10) gNil))) gNil))) (fun X' h' => ?_) hz rfl (by decide +kernel) (by omega) (by omega) ck2 ?_
  · rw [← h'.kk]
    exact pg_tup h'.calm (pgs_cons (pg_nl h' ⟨rfl, rfl⟩) (pgs_cons (pg_tup h'.calm (pgs_cons (pg_nl h' ⟨rfl, rfl⟩) (pgs_cons (pg_nl h' ⟨rfl, rfl⟩) pgs_nil (by with_unfolding_all rfl)) (by with_unfolding_all rfl)) (by with_unfolding_all rfl) (by with_unfolding_all rfl)) pgs_nil (by with_unfolding_all rfl)) (by with_unfolding_all rfl)) (by with_unfolding_all rfl) (by with_unfolding_all rfl)
  walk_at "V"
  have hL : ∀ col ∈ [xs, ys], col.length = ns.length := by
    intro col hcol
    simp only [List.mem_cons, List.not_mem_nil, or_false] at hcol
    rcases hcol with rfl | rfl
    · exact x1
    · exact y1
  have hr19 := GrowX.seqL g9 hr18 fun z => z
  refine ⟨[r1, r2], [xs, ys], ns.length, rfl, rfl, rfl, ColsAt.two hr19 (SqL.of hr2), hL, fun D hD => ⟨fun t H' => Grow m.T H9 H' ∧ ∃ zs, H' D = some (.lst zs) ∧ zs.length = t ∧ DaAll m.K (fun _ => False) H' zs ((ns.take t).map fun n => PyData.tuple [.int (val b2 ds (val b1 cs n)), .int (((pas cs n % 2 : Nat) : Int) * ((pas ds (val b1 cs n) % 2 : Nat) : Int))]), ⟨Grow.new hD, [], upd_same, rfl, .nil⟩, ?_, ?_, ?_⟩⟩
  · rintro t H' _ ⟨g, _⟩
    exact ColsAt.two (GrowX.seqL g hr19 fun z => z) (GrowX.seqL g (SqL.of hr2) fun z => z)
  · rintro t zs T H' ht hrow ⟨g, ws, hd', hwl, dw⟩ hT
    have hn := List.getElem?_eq_getElem ht
    generalize ns[t] = n at hn
    obtain ⟨x, hx⟩ : ∃ x, xs[t]? = some x := ⟨_, List.getElem?_eq_getElem (by omega)⟩
    obtain ⟨y, hy⟩ : ∃ y, ys[t]? = some y := ⟨_, List.getElem?_eq_getElem (by omega)⟩
    obtain rfl := hrow.two hx hy
    obtain ⟨pd1, hpd1, dx⟩ := da1.getV (v := x) (i := t) hx
    obtain ⟨pd2, hpd2, dy⟩ := da2.getV (v := y) (i := t) hy
    rw [List.getElem?_map, hn] at hpd1 hpd2
    obtain rfl : told2 b1 cs n = pd1 := by simpa using hpd1
    obtain rfl : told2 b2 ds (val b1 cs n) = pd2 := by simpa using hpd2
    have gT := Grow.new (T := m.T) (o := .tup [x, y]) hT
    obtain ⟨t1, rfl, ht1⟩ := pair_at (Grow.da (((g8.trans g9).trans g).trans gT) dx)
    obtain ⟨t2, rfl, ht2⟩ := pair_at (Grow.da (g.trans gT) dy)
    refine ⟨T, [.ref t1, .ref t2], rfl, SqT.of upd_same, rfl, ?_⟩
    refine ⟨V.ref t1, [.ref t2], rfl, ?_⟩
    refine ⟨V.ref t2, [], rfl, ?_⟩
    refine ⟨t2, _, rfl, ht2, rfl, ?_⟩
    refine ⟨_, _, rfl, ?_⟩
    refine ⟨_, [], rfl, rfl, rfl, ?_⟩
    refine ⟨by rw [wipe_set (by simp), wipe_set (by simp), wipe_set (by simp), wipe_wipe], fun X' hX' => ?_⟩
    have c9 := nl_of hX' 9 "mine"
    have c7 := nl_of hX' 7 "told"
    have c10 := nl_of hX' 10 "rise"
    have hdT := Grow.extN gT _ _ hd' (fun _ z => by cases z)
    have dwT := Grow.daAll gT dw
    generalize upd H' T (.tup [.ref t1, .ref t2]) = HT at gT ht1 ht2 hdT dwT
    walk_at "V"
    refine g_ixT hX' ht1 (atI_at (j := 1) rfl) ?_
    walk_at "V"
    refine g_mulI (.inl ⟨by omega, by omega⟩) ?_
    walk_at "V"
    refine ⟨by walk_at "S", fun pt hpt => ?_⟩
    have gpt := Grow.new (T := m.T) (o := .tup [V.int (val b2 ds (val b1 cs n)), .int (((pas cs n % 2 : Nat) : Int) * ((pas ds (val b1 cs n) % 2 : Nat) : Int))]) hpt
    have hdp := Grow.extN gpt _ _ hdT (fun _ z => by cases z)
    have gX := GrowX.lst (T := m.T) (ys := ws ++ [V.ref pt]) hdp
    have one : Da m.K (fun _ => False) (upd HT pt (.tup [V.int (val b2 ds (val b1 cs n)), .int (((pas cs n % 2 : Nat) : Int) * ((pas ds (val b1 cs n) % 2 : Nat) : Int))])) (.ref pt) (PyData.tuple [.int (val b2 ds (val b1 cs n)), .int (((pas cs n % 2 : Nat) : Int) * ((pas ds (val b1 cs n) % 2 : Nat) : Int))]) := .tup (SqT.of upd_same) (.cons (.int _) (.cons (.int _) .nil))
    refine ⟨_, hdp, by rw [hwl, sizeLine_eq]; omega, Grow.intoNew ((g.trans gT).trans gpt) gX fun c w => by rw [w]; exact hD, ws ++ [.ref pt], upd_same, by simp [hwl], ?_⟩
    rw [List.take_add_one, hn, List.map_append]
    exact (gX.daAll (Grow.daAll gpt dwT) fun _ z => z.elim).append (.cons (gX.da one fun _ z => z.elim) .nil)
  · rintro H10 ⟨g10, ws, hD10, hwl, dw⟩
    rw [List.take_length] at dw
    walk_at "V"
    have gG := (gF.trans g9).trans g10
    refine ⟨r, D, ns, ws, fun n => val b2 ds (val b1 cs n), fun n => ((pas cs n % 2 : Nat) : Int) * ((pas ds (val b1 cs n) % 2 : Nat) : Int), rfl, GrowX.seqL (g9.trans g10) hr48 fun z => z, SqL.of hD10, dw.sub fun _ z => z.elim, head0 o1 w.nn w.h0, by omega, w1, fun ii H11 g11 hi st => ?_⟩
    exact k ii _ _ H11 (gG.trans g11) (st.sub fun _ _ => trivial) w1 (Nat.le_trans w2 nsl) w3
theorem pas_app : ∀ (cs ts : List Int) (n : Int), pas (cs ++ ts) n = if pas cs n = cs.length then cs.length + pas ts n else pas cs n
  | [], ts, n => by simp [pas]
  | c :: cs, ts, n => by
    show (if c ≤ n then pas (cs ++ ts) n + 1 else 0) = if (if c ≤ n then pas cs n + 1 else 0) = cs.length + 1 then (cs.length + 1) + pas ts n else if c ≤ n then pas cs n + 1 else 0
    rw [pas_app cs ts n]
    by_cases h : c ≤ n
    · rw [if_pos h, if_pos h]
      by_cases h2 : pas cs n = cs.length
      · rw [if_pos h2, if_pos (by omega)]; omega
      · rw [if_neg h2, if_neg (by omega)]
    · rw [if_neg h, if_neg h, if_neg (by omega)]
theorem bk_app (b : Int) (cs ts : List Int) : ∀ k, k ≤ cs.length → bk b (cs ++ ts) k = bk b cs k
  | 0, _ => rfl
  | k + 1, h => by
    show (if k % 2 = 0 then bk b (cs ++ ts) k - (cs ++ ts).getD k 0 else bk b (cs ++ ts) k + (cs ++ ts).getD k 0) = if k % 2 = 0 then bk b cs k - cs.getD k 0 else bk b cs k + cs.getD k 0
    rw [bk_app b cs ts k (by omega), List.getD_eq_getElem?_getD, List.getElem?_append_left (by omega), ← List.getD_eq_getElem?_getD]
theorem val_before {b n : Int} {cs ts : List Int} (h : pas ts n = 0) : val b (cs ++ ts) n = val b cs n := by
  have e : pas (cs ++ ts) n = pas cs n := by rw [pas_app, h]; split <;> omega
  unfold val
  rw [e]
  unfold valK
  rw [bk_app b cs ts _ (pas_le cs n)]
/-- one corner more, where an even number stands before it -/
theorem val_one {b n c : Int} {cs : List Int} (hc : Cor (cs ++ [c])) (he : cs.length % 2 = 0) : val b (cs ++ [c]) n = val b cs n + max 0 (n - c) := by
  rcases Int.lt_or_le n c with h | h
  · rw [val_before (by simp only [pas]; rw [if_neg (by omega)])]; omega
  · have hp : pas cs n = cs.length := (Cor.mk (List.pairwise_append.1 hc.asc).1 fun x hx => hc.nn x (by simp [hx])).pas_all fun x hx => Int.le_of_lt (Int.lt_of_lt_of_le ((List.pairwise_append.1 hc.asc).2.2 x hx c (by simp)) h)
    have e : pas (cs ++ [c]) n = cs.length + 1 := by rw [pas_app, if_pos hp]; simp only [pas]; rw [if_pos h]
    unfold val
    rw [e, hp]
    unfold valK
    rw [if_pos (by omega), if_neg (by omega)]
    show (if cs.length % 2 = 0 then bk b (cs ++ [c]) cs.length - (cs ++ [c]).getD cs.length 0 else _) + n = _
    rw [if_pos he, bk_app b cs _ _ (Nat.le_refl _), List.getD_eq_getElem?_getD, List.getElem?_append_right (Nat.le_refl _), Nat.sub_self]
    show bk b cs cs.length - c + n = _
    omega
theorem val_two {b n c d : Int} {cs : List Int} (hc : Cor (cs ++ [c, d])) (he : cs.length % 2 = 0) : val b (cs ++ [c, d]) n = val b cs n + max 0 (min n d - c) := by
  have e2 : cs ++ [c, d] = (cs ++ [c]) ++ [d] := by simp
  have hc1 : Cor (cs ++ [c]) := by
    rw [e2] at hc
    exact ⟨(List.pairwise_append.1 hc.asc).1, fun x hx => hc.nn x (by rw [List.mem_append]; exact .inl hx)⟩
  have hcd : c < d := (List.pairwise_append.1 hc.asc).2.1 |> fun z => (List.pairwise_cons.1 z).1 d (by simp)
  rcases Int.lt_or_le n d with h | h
  · rw [e2, val_before (by simp only [pas]; rw [if_neg (by omega)]), val_one hc1 he]; omega
  · have hp : pas (cs ++ [c]) n = cs.length + 1 := by
      have := hc1.pas_all (n := n) fun x hx => by
        rcases List.mem_append.1 hx with z | z
        · have := (List.pairwise_append.1 hc1.asc).2.2 x z c (by simp); omega
        · rw [List.mem_singleton] at z; omega
      rw [this]; simp
    have e : pas ((cs ++ [c]) ++ [d]) n = cs.length + 2 := by rw [pas_app, if_pos (by rw [hp]; simp)]; simp only [pas]; rw [if_pos h]; simp
    have v1 := val_one (b := b) (n := n) hc1 he
    rw [e2]
    have hl : (cs ++ [c]).length = cs.length + 1 := by simp
    have b2 : bk b ((cs ++ [c]) ++ [d]) (cs.length + 2) = bk b (cs ++ [c]) (cs.length + 1) + d := by
      show (if (cs.length + 1) % 2 = 0 then _ else bk b ((cs ++ [c]) ++ [d]) (cs.length + 1) + ((cs ++ [c]) ++ [d]).getD (cs.length + 1) 0) = _
      rw [if_neg (by omega), bk_app b _ _ _ (by rw [hl]; exact Nat.le_refl _), List.getD_eq_getElem?_getD, List.getElem?_append_right (by rw [hl]; exact Nat.le_refl _), hl, Nat.sub_self]
      rfl
    unfold val at v1
    rw [hp] at v1
    unfold valK at v1
    rw [if_pos (by omega)] at v1
    unfold val
    rw [e]
    show (if (cs.length + 2) % 2 = 1 then _ else bk b ((cs ++ [c]) ++ [d]) (cs.length + 2)) = _
    rw [if_neg (by omega), b2]
    show bk b (cs ++ [c]) (cs.length + 1) + d = valK b cs (pas cs n) n + _
    unfold valK
    rw [show max 0 (min n d - c) = d - c from by omega]
    omega
theorem rg2 {n : Nat} (h : n < 1000) : RgC 0 n 2 ((n + 1) / 2) := by
  have e : Builtin.Range.rangeSize 0 n 2 = (((n + 1) / 2 : Nat) : Int) := by
    unfold Builtin.Range.rangeSize
    rw [if_pos (by decide)]
    split <;> omega
  refine ⟨by decide, by decide, ?_, e⟩
  have f : ∀ i : Int, -5 ≤ i → i ≤ 2000 → Builtin.Range.rangeFitsLong i = true := fun i h1 h2 => by
    unfold Builtin.Range.rangeFitsLong
    rw [Bool.and_eq_true, decide_eq_true_eq, decide_eq_true_eq]
    omega
  unfold Builtin.Range.small
  rw [e, f 0 (by omega) (by omega), f n (by omega) (by omega), f 2 (by omega) (by omega), f (((n + 1) / 2 : Nat) : Int) (by omega) (by omega), if_pos (by decide), f _ (by omega) (by omega), Bool.or_true]
  rfl
section
variable {m : Md} {N : List Str} {sc : Scope} {k : Nat} {X : Cx} {e1 e2 e3 : Expr} {σ : L2.St} {H : Hp} {Q : VK} {p1 p2 po : Pos} {body : List Stmt} {nx : L2.St → Hp → Prop} {rt : VK} {bk ct : L2.St → Hp → Prop}
/-- for x in range(i, j, c) -/
theorem s_forR3 {tg : Expr} {g : TG} (h : At m N sc k X) (hg : PG X tg g) (hm : m.mg "range" = none) (hgl : sc.names.lookup ("range" : Str) = some .globalImplicit)
    (q : wA X [e1, e2, e3] σ H fun vs H1 => ∃ (i j c : Int) (n : Nat), vs = [.int i, .int j, .int c] ∧ RgC i j c n ∧ ∃ Pv : Nat → L2.St → Hp → Prop, Pv 0 σ H1 ∧ (∀ (t : Nat) σ H, t < n → Pv t σ H → g (.int (i + t * c)) σ H fun σ2 H2 => wB X body ⟨Pv (t + 1), rt, nx, Pv (t + 1)⟩ σ2 H2) ∧ ∀ σ H, Pv n σ H → nx σ H)
    (hs : starEach [e1, e2, e3] X.env = (false, eval e1 X.env) :: starEach [e2, e3] X.env := by with_unfolding_all rfl) (hpl : (backTo p2 (starEach [e2, e3] X.env)).any (·.1) = false := by with_unfolding_all rfl)
    (hf : ∀ x, foldedSetIterable (.Call (.Name "range" p1) [e1, e2, e3] [] p2) X.env x = pure x := by with_unfolding_all (intro _; rfl)) : wS X (.For tg (.Call (.Name "range" p1) [e1, e2, e3] [] p2) body [] po) ⟨nx, rt, bk, ct⟩ σ H := by
  refine toS (ps_for h.pass h.calm (pi_range3 (h.gl hgl) (by rw [h.mm]; exact hm) (cA (es := [e1, e2, e3])) hs hpl) hg cB hf) ?_
  unfold wA at q ⊢
  refine fun pos pins s I => wpAny_mono (q pos pins s I) (fun v s' z => ?_) fun _ _ z => z
  obtain ⟨vs, H1, I1, r1, i, j, c, n, ev, hr, Pv, p0, turn, fin⟩ := z
  refine ⟨vs, H1, I1, r1, i, j, c, n, ev, hr, for_it (walk_rangeC (lo := i) (c := c) (n := n)) Pv p0 (fun _ _ _ _ _ => trivial) (fun t x σ H H' hi hp y => ?_) fin⟩
  obtain ⟨rfl, rfl⟩ := y
  exact turn t σ H' hi hp
end
theorem g_intI {X : Cx} {H : Hp} {Q : VK} {i : Int} (q : Q (.int i) H) : gCall X (.type "int") [.int i] H Q := ⟨_, call_int1, .inl ⟨i, rfl, q⟩⟩
theorem g_intB {X : Cx} {H : Hp} {Q : VK} {b : Bool} (q : Q (.int (if b then 1 else 0)) H) : gCall X (.type "int") [.bl b] H Q := ⟨_, call_int1, .inr ⟨b, rfl, q⟩⟩
theorem cut_one (xs : List V) (i : Nat) (h : i + 1 ≤ 100000) : cutV xs (some (i : Int)) (some ((i + 1 : Nat) : Int)) = (xs.drop i).take 1 := by
  unfold cutV
  rw [HT.sIx_nat, HT.sIx_nat]
  rcases Nat.lt_or_ge i xs.length with z | z
  · rw [Nat.min_eq_left (by omega), Nat.min_eq_left (by omega), show i + 1 - i = 1 from by omega]
  · rw [List.drop_eq_nil_of_le (by omega), List.drop_eq_nil_of_le z]; simp
/-- the pairs of corners, one after another -/
theorem hgt_step {b n : Int} {cs : List Int} (hc : Cor cs) {t : Nat} (ht : 2 * t < cs.length) :
    val b (cs.take (2 * t)) n + max 0 ((match (cs.drop (2 * t + 1)).take 1 with | [] => n | d :: _ => min n d) - cs.getD (2 * t) 0) = val b (cs.take (2 * t + 2)) n := by
  have hd : cs.drop (2 * t) = cs.getD (2 * t) 0 :: cs.drop (2 * t + 1) := by
    rw [List.drop_eq_getElem_cons ht]
    simp [List.getD_eq_getElem?_getD, List.getElem?_eq_getElem ht]
  have hsub : ∀ k, Cor (cs.take k) := fun k => ⟨hc.asc.sublist (List.take_sublist _ _), fun c h => hc.nn c (List.mem_of_mem_take h)⟩
  have hlen : (cs.take (2 * t)).length % 2 = 0 := by rw [List.length_take]; omega
  cases he : cs.drop (2 * t + 1) with
  | nil =>
    have e : cs.take (2 * t + 2) = cs.take (2 * t) ++ [cs.getD (2 * t) 0] := by
      rw [show 2 * t + 2 = 2 * t + 2 from rfl, List.take_add, hd, he]; rfl
    have h1 := hsub (2 * t + 2)
    rw [e] at h1 ⊢
    rw [val_one h1 hlen]
    rfl
  | cons d rest =>
    have e : cs.take (2 * t + 2) = cs.take (2 * t) ++ [cs.getD (2 * t) 0, d] := by
      rw [List.take_add, hd, he]; rfl
    have h1 := hsub (2 * t + 2)
    rw [e] at h1 ⊢
    rw [val_two h1 hlen]
    rfl
def sp_height (m : Md) : Sp := fun vs H Q _ => ∃ (a : Addr) (b n : Int) (cs : List Int), vs = [.int b, .ref a, .int n] ∧ SqL m.K H a (cs.map V.int) ∧ Cor cs ∧ cs.length < 1000 ∧ ∀ H', Grow m.T H H' → Q (.int (val b cs n)) H'
theorem c_height {m : Md} {f : Addr} {fd : FuncData} (F : C8.Def m.K m.mg "_law_height" st_height f fd) (b : L2.Binds m.K fd ps_height []) (hr : m.mg "range" = none) (hn : m.mg "len" = none) (hi : m.mg "int" = none) (hmin : m.mg "min" = none) (hmax : m.mg "max" = none) : Cal m 1 "_law_height" (sp_height m) := by
  refine cal_of F b sc_height (fun vs H Q E h => by obtain ⟨_, _, _, _, rfl, _⟩ := h; rfl) fun X vs H Q E hA h => ?_
  obtain ⟨a, b, n, cs, rfl, hs, hc, hcl, k⟩ := h
  obtain ⟨n0, n1, n2, n3, n4, n5, n6⟩ := nv_height
  walk_at "B"
  walk_at "V"
  refine s_forR3 hA (pg_nl hA n4) hr rfl ?_
  walk_at "V"
  refine g_blt hA hn rfl bt_len ?_
  walk_at "V"
  refine g_lenL hA hs ?_
  rw [List.length_map]
  walk_at "V"
  refine ⟨0, cs.length, 2, (cs.length + 1) / 2, rfl, rg2 hcl, fun t σ H' => σ = [some (.int b), some (.ref a), some (.int n), some (.int (val b (cs.take (2 * t)) n)), σ.getD 4 none, σ.getD 5 none, σ.getD 6 none] ∧ Grow m.T H H', ⟨rfl, GrowX.refl⟩, ?_, ?_⟩
  · rintro t σ H' ht ⟨es, g⟩
    have ht2 : 2 * t < cs.length := by omega
    rw [es]
    rw [show (0 + (t : Int) * 2) = ((2 * t : Nat) : Int) from by omega]
    walk_at "B"
    walk_at "V"
    refine s_forL hA (pg_nl hA n6) ?_
    refine w_slice hA ?_
    walk_at "V"
    have hs1 := GrowX.seqL g hs fun z => z
    refine ⟨a, _, rfl, hs1, fun p hp => ?_⟩
    rw [show (((2 * t : Nat) : Int) + 1) = ((2 * t + 1 : Nat) : Int) from by omega, show (((2 * t : Nat) : Int) + 2) = ((2 * t + 1 + 1 : Nat) : Int) from by omega, cut_one _ _ (by omega), ← List.map_drop, ← List.map_take]
    have gp := Grow.new (T := m.T) (o := .lst (((cs.drop (2 * t + 1)).take 1).map V.int)) hp
    have hp1 : upd H' p (.lst (((cs.drop (2 * t + 1)).take 1).map V.int)) p = _ := upd_same
    generalize upd H' p (.lst (((cs.drop (2 * t + 1)).take 1).map V.int)) = H2 at gp hp1
    have step := hgt_step (b := b) (n := n) hc ht2
    have hL : ((cs.drop (2 * t + 1)).take 1).length ≤ 1 := by rw [List.length_take]; omega
    generalize (cs.drop (2 * t + 1)).take 1 = L at hp1 step hL
    refine ⟨p, _, rfl, SqL.of hp1, fun u σ' H'' => σ' = [some (.int b), some (.ref a), some (.int n), some (.int (val b (cs.take (2 * t)) n)), some (.int ((2 * t : Nat) : Int)), some (.int (match L.take u with | [] => n | d :: _ => min n d)), σ'.getD 6 none] ∧ Grow m.T H2 H'', ⟨rfl, GrowX.refl⟩, ?_, ?_, ?_⟩
    · rintro u σ' H'' _ ⟨_, g'⟩
      exact GrowX.seqL g' (SqL.of hp1) fun z => z
    · rintro u x σ' H'' hx ⟨es', g'⟩
      rw [List.getElem?_map] at hx
      obtain ⟨d, hdu, rfl⟩ := Option.map_eq_some_iff.1 hx
      obtain ⟨rfl, rfl⟩ : u = 0 ∧ L = [d] := by
        match L, u, hL, hdu with
        | [d'], 0, _, hdu => exact ⟨rfl, by simpa using hdu⟩
        | [], _, _, hdu => simp at hdu
        | [_], u + 1, _, hdu => simp at hdu
      rw [es']
      walk_at "B"
      walk_at "V"
      refine g_blt hA hmin rfl bt_min ?_
      walk_at "V"
      refine g_typ hA hi rfl bt_int ?_
      walk_at "V"
      refine g_intI ?_
      walk_at "V"
      refine g_typ hA hi rfl bt_int ?_
      walk_at "V"
      refine g_intI ?_
      walk_at "V"
      refine g_min2 hA ?_
      rw [show (if d < n then d else n) = min n d from by split <;> omega]
      exact b_nil ⟨rfl, g'⟩
    · rintro σ' H'' ⟨es', g'⟩
      rw [List.length_map, List.take_length] at es'
      rw [es']
      have hs2 := GrowX.seqL (gp.trans g') hs1 fun z => z
      walk_at "B"
      walk_at "V"
      refine g_blt hA hmax rfl bt_max ?_
      walk_at "V"
      refine g_typ hA hi rfl bt_int ?_
      walk_at "V"
      refine g_ixL hA hs2 (atI_at (by rw [List.getElem?_map, getD_get ht2]; rfl)) ?_
      walk_at "V"
      refine g_intI ?_
      walk_at "V"
      refine g_max2 hA ?_
      rw [show ∀ z : Int, (if z > 0 then z else 0) = max 0 z from fun z => by split <;> omega]
      walk_at "V"
      refine ⟨?_, (g.trans gp).trans g'⟩
      rw [step]
      rfl
  · rintro σ H' ⟨es, g⟩
    rw [es]
    walk_at "B"
    walk_at "V"
    rw [List.take_of_length_le (by omega)]
    exact k H' g
theorem asc_uniq : ∀ {xs ys : List Int}, xs.Pairwise (· < ·) → ys.Pairwise (· < ·) → (∀ z, z ∈ xs ↔ z ∈ ys) → xs = ys
  | [], [], _, _, _ => rfl
  | [], y :: ys, _, _, h => by have := (h y).2 (by simp); simp at this
  | x :: xs, [], _, _, h => by have := (h x).1 (by simp); simp at this
  | x :: xs, y :: ys, h1, h2, h => by
    obtain ⟨a1, a2⟩ := List.pairwise_cons.1 h1
    obtain ⟨b1, b2⟩ := List.pairwise_cons.1 h2
    have e : x = y := by
      rcases List.mem_cons.1 ((h x).1 (by simp)) with z | z
      · exact z
      · rcases List.mem_cons.1 ((h y).2 (by simp)) with w | w
        · exact w.symm
        · have := b1 x z
          have := a1 y w
          omega
    subst e
    rw [asc_uniq a2 b2 fun z => ⟨fun hz => ?_, fun hz => ?_⟩]
    · rcases List.mem_cons.1 ((h z).1 (List.mem_cons_of_mem _ hz)) with w | w
      · have := a1 z hz; omega
      · exact w
    · rcases List.mem_cons.1 ((h z).2 (List.mem_cons_of_mem _ hz)) with w | w
      · have := b1 z hz; omega
      · exact w
/-- a corner is where the rise changes -/
theorem Cor.mem_iff {cs : List Int} (hc : Cor cs) (n : Int) : n + 1 ∈ cs ↔ pas cs (n + 1) % 2 ≠ pas cs n % 2 := by
  constructor
  · intro hm
    obtain ⟨i, hi⟩ := List.getElem?_of_mem hm
    have hil := (List.getElem?_eq_some_iff.1 hi).1
    have e : cs.getD i 0 = n + 1 := by rw [List.getD_eq_getElem?_getD, hi]; rfl
    have h1 : pas cs (n + 1) = i + 1 := by rw [← e]; exact hc.pas_at hil
    have h2 : pas cs n ≤ i := by
      rcases Nat.lt_or_ge i (pas cs n) with z | z
      · have := pas_lt cs n i z
        omega
      · exact z
    rcases hc.pas_step n with z | ⟨z, _⟩ <;> omega
  · intro hne
    rcases hc.pas_step n with z | ⟨_, z1, z2⟩
    · rw [z] at hne; exact absurd rfl hne
    · rw [← z2]
      exact List.mem_of_getElem? (getD_get z1)
theorem Cor.slope {cs : List Int} (hc : Cor cs) (b n : Int) : ((pas cs n % 2 : Nat) : Int) = val b cs (n + 1) - val b cs n := by
  rw [hc.val_step]; omega
theorem stair_uniq {b b' : Int} {cs cs' : List Int} (hc : Cor cs) (hc' : Cor cs') (h : ∀ n, 0 ≤ n → val b cs n = val b' cs' n) : b = b' ∧ cs = cs' := by
  refine ⟨by have := h 0 (by omega); rwa [hc.val_zero, hc'.val_zero] at this, asc_uniq hc.asc hc'.asc fun z => ?_⟩
  have key : ∀ z : Int, 0 ≤ z → (z ∈ cs ↔ z ∈ cs') := by
    intro z hz
    obtain ⟨n, rfl⟩ : ∃ n, z = n + 1 := ⟨z - 1, by omega⟩
    rw [hc.mem_iff, hc'.mem_iff]
    have s1 := hc.slope b (n + 1)
    have s2 := hc'.slope b' (n + 1)
    have e : pas cs (n + 1) % 2 = pas cs' (n + 1) % 2 := by
      rw [h _ (by omega), h _ (by omega)] at s1
      omega
    have e2 : pas cs n % 2 = pas cs' n % 2 := by
      rcases Int.lt_or_le n 0 with y | y
      · rw [hc.pas_neg y, hc'.pas_neg y]
      · have s3 := hc.slope b n
        have s4 := hc'.slope b' n
        rw [h _ (by omega), h _ (by omega)] at s3
        omega
    rw [e, e2]
  constructor
  · intro hm; exact (key z (hc.nn z hm)).1 hm
  · intro hm; exact (key z (hc'.nn z hm)).2 hm
/-- all corners lie before the rise stands still -/
theorem top_of {b : Int} {cs : List Int} (hc : Cor cs) {N : Int} {h : Int → Int} (h0 : 0 ≤ N) (hv : ∀ n, 0 ≤ n → val b cs n = h n) (hs : ∀ n, N ≤ n → h (n + 2) - h (n + 1) = h (n + 1) - h n) : ∀ c ∈ cs, c ≤ N := by
  intro c hm
  refine Classical.byContradiction fun no => ?_
  obtain ⟨n, rfl⟩ : ∃ n, c = n + 1 := ⟨c - 1, by omega⟩
  have ne := (hc.mem_iff n).1 hm
  have s1 := hc.slope b (n + 1)
  have s2 := hc.slope b n
  rw [hv _ (by omega), hv _ (by omega)] at s1
  rw [hv _ (by omega), hv _ (by omega)] at s2
  have := hs n (by omega)
  rw [show n + 2 = n + 1 + 1 from by omega] at this
  omega
theorem asc_len : ∀ {cs : List Int} {N : Nat}, cs.Pairwise (· < ·) → (∀ c ∈ cs, 0 ≤ c ∧ c < N) → cs.length ≤ N := by
  intro cs N h1 h2
  have hn : (cs.map Int.toNat).Nodup := by
    rw [List.nodup_iff_pairwise_ne, List.pairwise_map]
    refine h1.imp_of_mem fun {a b} ha hb hab => ?_
    have := h2 a ha
    have := h2 b hb
    omega
  have := List.Nodup.length_le_of_subset hn (l₂ := List.range N) fun x hx => by
    obtain ⟨c, hc, rfl⟩ := List.mem_map.1 hx
    have := h2 c hc
    rw [List.mem_range]; omega
  simpa using this
/-- up to which value a stair goes that ends, from which on one that rises -/
theorem even_le {b : Int} {cs : List Int} (hc : Cor cs) (hg : ∀ i, i + 1 < cs.length → cs.getD (i + 1) 0 ≤ cs.getD i 0 + 5) (n : Int) : ∀ t : Nat, 2 * t ≤ cs.length → val b (cs.take (2 * t)) n ≤ b + 5 * t ∧ ((∀ c ∈ cs, c ≤ n) → b + t ≤ val b (cs.take (2 * t)) n)
  | 0, _ => by
    rw [show 2 * 0 = 0 from rfl, List.take_zero]
    show b ≤ b + 5 * ((0 : Nat) : Int) ∧ (_ → b + ((0 : Nat) : Int) ≤ b)
    exact ⟨by omega, fun _ => by omega⟩
  | t + 1, h => by
    obtain ⟨i1, i2⟩ := even_le (b := b) hc hg n t (by omega)
    have st := hgt_step (b := b) (n := n) hc (t := t) (by omega)
    have hd : (cs.drop (2 * t + 1)).take 1 = [cs.getD (2 * t + 1) 0] := by
      rw [List.drop_eq_getElem_cons (show 2 * t + 1 < cs.length by omega), List.take_succ_cons, List.take_zero, List.getD_eq_getElem?_getD, List.getElem?_eq_getElem (show 2 * t + 1 < cs.length by omega)]; rfl
    rw [hd] at st
    rw [show 2 * (t + 1) = 2 * t + 2 from by omega, ← st]
    have g := hg (2 * t) (by omega)
    have lt := hc.lt (show 2 * t < 2 * t + 1 by omega) (by omega)
    show _ + max 0 (min n (cs.getD (2 * t + 1) 0) - cs.getD (2 * t) 0) ≤ _ ∧ (_ → _ ≤ _ + max 0 (min n (cs.getD (2 * t + 1) 0) - cs.getD (2 * t) 0))
    refine ⟨by omega, fun hall => ?_⟩
    have := i2 hall
    have := hall _ (List.mem_of_getElem? (getD_get (show 2 * t + 1 < cs.length by omega)))
    omega
theorem odd_ge {b : Int} {cs : List Int} (hc : Cor cs) (hg : ∀ i, i + 1 < cs.length → cs.getD (i + 1) 0 ≤ cs.getD i 0 + 5) {n : Int} (hall : ∀ c ∈ cs, c ≤ n) {t : Nat} (ht : cs.length = 2 * t + 1) : b + t + n - cs.getD (2 * t) 0 ≤ val b cs n := by
  obtain ⟨_, i2⟩ := even_le (b := b) hc hg n t (by omega)
  have st := hgt_step (b := b) (n := n) hc (t := t) (by omega)
  rw [show cs.drop (2 * t + 1) = [] from List.drop_eq_nil_of_le (by omega)] at st
  rw [List.take_of_length_le (show cs.length ≤ 2 * t + 2 by omega)] at st
  rw [← st]
  have := i2 hall
  show _ ≤ _ + max 0 (n - cs.getD (2 * t) 0)
  omega
/-- drawn stairs: those that end and those that rise -/
structure Low (b : Int) (cs : List Int) : Prop where
  cor : Cor cs
  top : ∀ c ∈ cs, c ≤ 33
  len : cs.length ≤ 7
  even : cs.length % 2 = 0 → ∀ n : Int, val b cs n ≤ 23
  odd : cs.length % 2 = 1 → ∀ n : Int, 59 ≤ n → 24 ≤ val b cs n
theorem Drn.low {b : Int} {cs : List Int} (d : Drn 7 cs) (h1 : -4 ≤ b) (h2 : b ≤ 8) : Low b cs := by
  have hl := d.len
  refine ⟨d.cor, fun c hc => by have := d.top c hc; omega, hl, fun he n => ?_, fun ho n hn => ?_⟩
  · obtain ⟨t, ht⟩ : ∃ t, cs.length = 2 * t := ⟨cs.length / 2, by omega⟩
    have := (even_le (b := b) d.cor d.gap n t (by omega)).1
    rw [List.take_of_length_le (by omega)] at this
    omega
  · obtain ⟨t, ht⟩ : ∃ t, cs.length = 2 * t + 1 := ⟨cs.length / 2, by omega⟩
    have := odd_ge (b := b) d.cor d.gap (n := n) (fun c hc => by have := d.top c hc; omega) ht
    have := d.top _ (List.mem_of_getElem? (getD_get (show 2 * t < cs.length by omega)))
    omega
/-- far out the order of drawn stairs stands still -/
theorem rk_still {S : List (Int × List Int)} (hS : ∀ s ∈ S, Low s.1 s.2) {k : Nat} (hk : k < S.length) {n : Int} (hn : 59 ≤ n) : (rk k S (n + 1)).2 = (rk k S n).2 := by
  have e : srt (tps S (n + 1)) = (srt (tps S n)).map fun p => (p.1 + p.2, p.2) := by
    have hp : ∀ s ∈ S, pas s.2 (n + 1) = s.2.length ∧ pas s.2 n = s.2.length := fun s hs => ⟨(hS s hs).cor.pas_all fun c hc => by have := (hS s hs).top c hc; omega, (hS s hs).cor.pas_all fun c hc => by have := (hS s hs).top c hc; omega⟩
    refine (srt_uniq ?_ ?_).symm
    · have e1 : tps S (n + 1) = (tps S n).map fun p => (p.1 + p.2, p.2) := by
        unfold tps
        rw [List.map_map]
        refine List.map_congr_left fun s hs => ?_
        obtain ⟨p1, p2⟩ := hp s hs
        show (val s.1 s.2 (n + 1), ((pas s.2 (n + 1) % 2 : Nat) : Int)) = (val s.1 s.2 n + ((pas s.2 n % 2 : Nat) : Int), ((pas s.2 n % 2 : Nat) : Int))
        rw [(hS s hs).cor.val_step, p1, p2]
      rw [e1]
      exact (srt_perm (tps S n)).map _
    · rw [List.pairwise_map]
      refine (srt_pw (tps S n)).imp_of_mem fun {p q} hpm hqm h => ?_
      obtain ⟨s, hs, rfl⟩ := List.mem_map.1 ((srt_perm _).mem_iff.1 hpm)
      obtain ⟨t, ht, rfl⟩ := List.mem_map.1 ((srt_perm _).mem_iff.1 hqm)
      have a1 := (hp s hs).2
      have a2 := (hp t ht).2
      have o1 := (hS s hs).odd
      have o2 := (hS t ht).even
      rw [leP_iff] at h ⊢
      unfold tp at h ⊢
      simp only [] at h ⊢
      rw [a1, a2] at h ⊢
      rcases Nat.mod_two_eq_zero_or_one s.2.length with z1 | z1 <;> rcases Nat.mod_two_eq_zero_or_one t.2.length with z2 | z2
      · rw [z1, z2] at h ⊢; simp at h ⊢; omega
      · rw [z1, z2] at h ⊢; simp at h ⊢; omega
      · have := o1 z1 n hn
        have := o2 z2 n
        rw [z1, z2] at h; simp at h; omega
      · rw [z1, z2] at h ⊢; simp at h ⊢; omega
  unfold rk
  rw [e, getD_map' (by rw [tps_len]; exact hk)]
theorem rk_top {S : List (Int × List Int)} (hS : ∀ s ∈ S, Low s.1 s.2) {k : Nat} (hk : k < S.length) {b : Int} {cs : List Int} (hc : Cor cs) (hv : ∀ n, 0 ≤ n → val b cs n = (rk k S n).1) : ∀ c ∈ cs, c ≤ 59 :=
  top_of hc (by omega) hv fun n hn => by
    have cor : ∀ s ∈ S, Cor s.2 := fun s hs => (hS s hs).cor
    have e1 := rk_next cor hk (n + 1)
    have e2 := rk_next cor hk n
    have e3 := rk_still hS hk (n := n) (by omega)
    rw [show n + 2 = n + 1 + 1 from by omega]
    omega
theorem rk_perm {S S' : List (Int × List Int)} (h : S.Perm S') (k : Nat) (n : Int) : rk k S n = rk k S' n := by
  unfold rk
  rw [srt_uniq (l := tps S' n) ((srt_perm (tps S n)).trans (h.map _)) (srt_pw _)]
def sl (h : Int → Int) (t : Nat) : Int := h ((t : Int) + 1) - h t
def pr (h : Int → Int) (t : Nat) : Int := if t = 0 then 0 else h t - h ((t : Int) - 1)
def due (h : Int → Int) (t : Nat) : List Nat := (List.range t).filter fun n : Nat => !decide (sl h n = pr h n)
theorem due_succ (h : Int → Int) (t : Nat) : due h (t + 1) = due h t ++ if sl h t = pr h t then [] else [t] := by
  unfold due
  rw [List.range_succ, List.filter_append]
  congr 1
  by_cases e : sl h t = pr h t
  · rw [if_pos e, List.filter_cons_of_neg (by simp [e]), List.filter_nil]
  · rw [if_neg e, List.filter_cons_of_pos (by simp [e]), List.filter_nil]
theorem due_len (h : Int → Int) (t : Nat) : (due h t).length ≤ t := by
  unfold due
  refine Nat.le_trans (List.length_filter_le _ _) ?_
  rw [List.length_range]; exact Nat.le_refl _
theorem due_eq {b : Int} {cs : List Int} (hc : Cor cs) {h : Int → Int} (hv : ∀ n, 0 ≤ n → val b cs n = h n) (top : ∀ c ∈ cs, c ≤ 59) : (due h 60).map (fun n : Nat => (n : Int)) = cs := by
  refine asc_uniq ?_ hc.asc fun z => ?_
  · rw [List.pairwise_map]
    unfold due
    refine List.Pairwise.filter _ ?_
    exact List.pairwise_lt_range.imp fun h => by omega
  · have key : ∀ t : Nat, t < 60 → (t ∈ due h 60 ↔ (t : Int) ∈ cs) := by
      intro t ht
      unfold due
      rw [List.mem_filter, List.mem_range]
      obtain ⟨n, hn⟩ : ∃ n : Int, (t : Int) = n + 1 := ⟨(t : Int) - 1, by omega⟩
      rw [hn, hc.mem_iff]
      have s1 : sl h t = ((pas cs (n + 1) % 2 : Nat) : Int) := by
        unfold sl
        rw [hc.slope b, hv _ (by omega), hv _ (by omega), ← hn]
      have s2 : pr h t = ((pas cs n % 2 : Nat) : Int) := by
        unfold pr
        by_cases h0 : t = 0
        · rw [if_pos h0, hc.pas_neg (by omega)]; rfl
        · rw [if_neg h0, hc.slope b, hv _ (by omega), hv _ (by omega), ← hn, show (t : Int) - 1 = n from by omega]
      rw [s1, s2]
      simp only [Bool.not_eq_true', decide_eq_false_iff_not, Int.natCast_inj]
      exact ⟨fun z => z.2, fun z => ⟨ht, z⟩⟩
    constructor
    · intro hm
      obtain ⟨t, ht, rfl⟩ := List.mem_map.1 hm
      have : t < 60 := by unfold due at ht; exact List.mem_range.1 (List.mem_filter.1 ht).1
      exact (key t this).1 ht
    · intro hm
      have h1 := hc.nn z hm
      have h2 := top z hm
      exact List.mem_map.2 ⟨z.toNat, (key z.toNat (by omega)).2 (by rw [show (z.toNat : Int) = z from by omega]; exact hm), by omega⟩
def nums (h : Int → Int) : List V := (List.range 61).map fun n : Nat => V.int (h n)
theorem num_at (h : Int → Int) {t : Nat} (ht : t < 61) : atI (nums h) (t : Int) = some (.int (h t)) := atI_at (by unfold nums; rw [List.getElem?_map, List.getElem?_range ht]; rfl)
theorem sw_cell {elt : Expr} {gs : List Comprehension} {scope : Scope} {pos py : Pos} {y : Str} {l : Nat} {env : Env} (hy : env.scope.names.lookup y = some .cell) : swapsWith (.ListComp elt gs scope pos) (some (.Name y py)) l env = pure false := by
  have h : (env.kindOf y == some .local) = false := by
    unfold Env.kindOf
    rw [hy]; rfl
  unfold swapsWith
  show (pure _ : Sem Bool) = pure false
  rw [h, Bool.and_false, Bool.false_and, Bool.false_and]
def sp_alike (m : Md) (C : Addr) : Sp := fun vs H Q _ => ∃ (i l : Addr) (b : Int) (cs : List Int) (h : Int → Int), vs = [.ref i, .ref l] ∧ StairAt C Any H i b cs ∧ Cor cs ∧ cs.length ≤ 1002 ∧ SqL m.K H l (nums h) ∧ (∀ n, 0 ≤ n → val b cs n = h n) ∧ (∀ c ∈ cs, c ≤ 59) ∧ ∀ H', Grow m.T H H' → Q (.bl true) H'
theorem c_alike {m : Md} {C f : Addr} {fd : FuncData} (F : C8.Def m.K m.mg "_law_alike" st_alike f fd) (b : L2.Binds m.K fd ps_alike []) (R : StC m C) (P : Prp m C) (hr : m.mg "range" = none) (hn : m.mg "len" = none) : Cal m 3 "_law_alike" (sp_alike m C) := by
  refine cal_ofM F b sc_alike (fun vs H Q E h => by obtain ⟨_, _, _, _, _, rfl, _⟩ := h; rfl) fun X vs H Q E hA hM h => ?_
  obtain ⟨i, l, b, cs, hf, rfl, st, hc, hcl, hs, hv, top, k⟩ := h
  obtain ⟨n0, n2, n1, n3⟩ := nv_alike
  obtain ⟨pp, gg, fd2, hpp, F2, bb2⟩ := P.pc
  obtain ⟨pq, gq, fd3, hpq, F3, bb3⟩ := P.pb
  walk_at "B"
  refine s_nc hA n3 hM.fn ?_ (sw_cell (by rw [hA.ss]; exact n3.cel))
  refine w_lcR hA hr rfl (by decide +kernel) (i := 4) ⟨rfl, rfl⟩ ?_
  walk_at "V"
  refine g_blt hA hn rfl bt_len ?_
  walk_at "V"
  refine g_lenL hA hs ?_
  rw [show (nums hf).length = 61 from by simp [nums]]
  walk_at "V"
  refine ⟨by decide, by decide, fun D hD => ⟨fun t H' => Grow m.T H H' ∧ H' D = some (.lst (((List.range t).map fun n : Nat => sl hf n).map V.int)), ⟨Grow.new hD, upd_same⟩, ?_, ?_⟩⟩
  · rintro t H' ht ⟨g, hd⟩ X' hX'
    have ht : t < 60 := ht
    have c1 := nc_of hX' 1 "_law_numbers"
    have c4 := nl_of hX' 4 "_law_at"
    have hs1 := GrowX.seqL g hs fun z => z
    walk_at "V"
    rw [show ((t : Int) + 1) = ((t + 1 : Nat) : Int) from by omega]
    refine g_ixL hX' hs1 (num_at hf (by omega)) ?_
    walk_at "V"
    refine g_ixL hX' hs1 (num_at hf (by omega)) ?_
    walk_at "V"
    refine ⟨_, hd, by rw [List.length_map, List.length_map, List.length_range, sizeLine_eq]; omega, Grow.intoNew g (GrowX.lst hd) fun c w => by rw [w]; exact hD, ?_⟩
    rw [upd_same, List.range_succ, List.map_append, List.map_append]; rfl
  rintro H1 ⟨g1, hD1⟩
  have hD1 : H1 D = some (.lst (((List.range 60).map fun n : Nat => sl hf n).map V.int)) := hD1
  have sat : ∀ t : Nat, t < 60 → atI (((List.range 60).map fun n : Nat => sl hf n).map V.int) (t : Int) = some (.int (sl hf t)) := fun t ht => atI_at (by rw [List.getElem?_map, List.getElem?_map, List.getElem?_range ht]; rfl)
  have pat : ∀ t : Nat, t < 60 → atI ([V.int 0] ++ ((List.range 60).map fun n : Nat => sl hf n).map V.int) (t : Int) = some (.int (pr hf t)) := fun t ht => by
    cases t with
    | zero => rfl
    | succ t =>
      refine atI_at ?_
      rw [List.singleton_append, List.getElem?_cons_succ, List.getElem?_map, List.getElem?_map, List.getElem?_range (by omega)]
      show some (V.int (sl hf t)) = _
      unfold sl pr
      rw [if_neg (by omega), show (((t + 1 : Nat) : Int) - 1) = t from by omega, show ((t + 1 : Nat) : Int) = (t : Int) + 1 from by omega]
  walk_at "B"
  refine s_lcRi hA hr rfl n2 (by decide +kernel) (i := 4) ⟨rfl, rfl⟩ ?_
  walk_at "V"
  refine g_blt hA hn rfl bt_len ?_
  walk_at "V"
  refine g_lenL hA (SqL.of hD1) ?_
  rw [show (((List.range 60).map fun n : Nat => sl hf n).map V.int).length = 60 from by simp]
  refine ⟨_, rfl, by decide, by decide, fun D2 hD2 => ⟨fun t H' => Grow m.T H1 H' ∧ H' D2 = some (.lst (((due hf t).map fun n : Nat => (n : Int)).map V.int)), ⟨Grow.new hD2, upd_same⟩, ?_, ?_⟩⟩
  · rintro t H' ht ⟨g, hd⟩ X' hX'
    have ht : t < 60 := ht
    have c3 := nc_of hX' 3 "_law_steps"
    have c4 := nl_of hX' 4 "_law_at"
    have hs1 := Grow.extN g _ _ hD1 (fun _ z => by cases z)
    have hdl := due_len hf t
    walk_at "V"
    refine g_ixL hX' (SqL.of hs1) (sat t ht) ?_
    walk_at "V"
    refine ⟨by walk_at "S", fun p hp => ?_⟩
    have gp := Grow.new (T := m.T) (o := .lst [V.int 0]) hp
    walk_at "V"
    refine g_cat upd_same (gp.extN _ _ hs1 (fun _ z => by cases z)) (by simp [sizeLine_eq]) fun q hq => ?_
    have gq' := Grow.new (T := m.T) (o := .lst ([V.int 0] ++ ((List.range 60).map fun n : Nat => sl hf n).map V.int)) hq
    walk_at "V"
    refine g_ixL hX' (SqL.of upd_same) (pat t ht) ?_
    walk_at "V"
    have hd2 := Grow.extN (gp.trans gq') _ _ hd (fun _ z => by cases z)
    have gA := (g.trans gp).trans gq'
    refine ite2 (fun h0 => ?_) fun h0 => ?_
    · intro X2 hX2
      have c4 := nl_of hX2 4 "_law_at"
      walk_at "V"
      refine ⟨_, hd2, by rw [List.length_map, List.length_map, sizeLine_eq]; omega, Grow.intoNew gA (GrowX.lst hd2) fun c w => by rw [w]; exact hD2, ?_⟩
      rw [upd_same, due_succ, if_neg (by simpa using h0), List.map_append, List.map_append]; rfl
    · refine ⟨gA, ?_⟩
      rw [hd2, due_succ, if_pos (by simpa using h0), List.append_nil]
  rintro H2 ⟨g2, hD2'⟩
  have hD2' : H2 D2 = some (.lst (((due hf 60).map fun n : Nat => (n : Int)).map V.int)) := hD2'
  rw [due_eq hc hv top] at hD2'
  have gA := g1.trans g2
  have stA := st.grow gA (fun _ _ z => z) (fun z => z)
  obtain ⟨dx, lc, e1, e2, _⟩ := id stA
  walk_at "B"
  walk_at "V"
  refine w_prop hA R.cl hpq F3 bb3 (by omega) ?_
  walk_at "V"
  refine ⟨i, dx, _, rfl, e1, i, b, cs, rfl, stA, ?_⟩
  walk_at "V"
  refine g_ixL hA (GrowX.seqL gA hs fun z => z) (num_at hf (t := 0) (by omega)) ?_
  walk_at "V"
  rw [decide_eq_true (show b = hf ((0 : Nat) : Int) from by rw [← hv _ (by omega)]; exact (hc.val_zero b).symm)]
  refine iteT ?_
  walk_at "V"
  refine w_prop hA R.cl hpp F2 bb2 (by omega) ?_
  walk_at "V"
  refine ⟨i, dx, _, rfl, e1, i, b, cs, rfl, stA, fun rc H3 g3 nrc hrc => ?_⟩
  walk_at "V"
  refine g_eqD hA (Dp.lst (SqL.of hrc) (DaAll.dp _ _ (ints_da (A := Any) cs))) (Dp.lst (SqL.of (Grow.extN g3 _ _ hD2' (fun _ z => by cases z))) (DaAll.dp _ _ (ints_da (A := Any) cs))) (ints_shaped _) (ints_shaped _) ?_
  rw [list_eqv, decide_eq_true rfl]
  exact k H3 (gA.trans g3)
structure StE (m : Md) (C : Addr) : Prop where
  ty : ∀ (H : Hp) (i dx : Addr) (fs : List (Str × V)), H i = some (.ins C dx fs) → TyX m.K H (.ref i) (.ref C)
  nfS : PySem.W.notFirst m.K C (.ref C) = true
  nfO : ∀ T ∈ ["NoneType", "bool", "int", "str", "list", "tuple", "dict"], PySem.W.notFirst m.K C (.type T) = true
  ne : PySem.W.findIn m.K (.ref C) "__ne__" = some (some (.builtin "object.__ne__"))
  hm : PySem.W.mroIn m.K C (.type "object") = some true
section
variable {m : Md} {N : List Str} {sc : Scope} {j k : Nat} {X : Cx} {H : Hp} {Q : VK} {C : Addr}
theorem g_eqSt (h : At m N sc k X) (E2 : StE m C) (me : MetX m C8.CX0 j C "__eq__" (sp_seq m C) []) (hk : j ≤ k) {i i' : Addr} {b b' : Int} {cs cs' : List Int} (r : StairAt C Any H i b cs) (r' : StairAt C Any H i' b' cs') (l : cs.length < 4000) (l' : cs'.length < 4000) (q : Q (.bl (decide (b = b' ∧ cs = cs'))) H) : gOp X (compareOp .Eq) (.ref i) (.ref i') H Q := by
  have r0 := r
  obtain ⟨dx, lc, hi, _⟩ := r0
  have r0' := r'
  obtain ⟨dx', lc', hi', _⟩ := r0'
  exact g_eqIns (E := C8.E0) h me hk C8.pass0 hi (E2.ty H i' dx' _ hi') E2.nfS ⟨i, b, cs, .ref i', rfl, r, l, .inl ⟨i', b', cs', rfl, r', l', _, rfl, q⟩⟩
theorem g_neSt (h : At m N sc k X) (E2 : StE m C) (me : MetX m C8.CX0 j C "__eq__" (sp_seq m C) []) (hk : j + 1 ≤ k) {i i' : Addr} {b b' : Int} {cs cs' : List Int} (r : StairAt C Any H i b cs) (r' : StairAt C Any H i' b' cs') (l : cs.length < 4000) (l' : cs'.length < 4000) (q : Q (.bl (!decide (b = b' ∧ cs = cs'))) H) : gOp X (compareOp .NotEq) (.ref i) (.ref i') H Q := by
  have r0 := r
  obtain ⟨dx, lc, hi, _⟩ := r0
  have r0' := r'
  obtain ⟨dx', lc', hi', _⟩ := r0'
  exact g_neIns (E := C8.E0) h me E2.ne E2.hm hk C8.pass0 hi (E2.ty H i' dx' _ hi') E2.nfS ⟨i, b, cs, .ref i', rfl, r, l, .inl ⟨i', b', cs', rfl, r', l', _, rfl, q⟩⟩
end
def Drw (m : Md) (A : Addr → Prop) (H : Hp) (t : Addr) (b : Int) (cs : List Int) : Prop := ∃ l, SqT m.K H t [.int b, .ref l] ∧ SqL m.K H l (cs.map V.int) ∧ A l
theorem Drw.grow {m : Md} {A : Addr → Prop} {S : Addr → Prop} {T : List (Addr × Str)} {H H' : Hp} {t : Addr} {b : Int} {cs : List Int} (d : Drw m A H t b cs) (g : GrowX T S H H') (h : ∀ a, A a → ¬ S a) : Drw m A H' t b cs := by
  obtain ⟨l, h1, h2, h3⟩ := d
  exact ⟨l, GrowX.seqT g h1, GrowX.seqL g h2 (h l h3), h3⟩
theorem sorted_vals {ts : List (Addr × Int × List Int)} {n : Int} {ns : List Int} (h1 : ns.Perm (ts.map fun s => val s.2.1 s.2.2 n)) (h2 : ns.Pairwise (· ≤ ·)) : ns = (srt (tps (ts.map (·.2)) n)).map (·.1) := by
  refine ints_uniq (h1.trans ?_) h2 ?_
  · have e : (ts.map fun s => val s.2.1 s.2.2 n) = (tps (ts.map (·.2)) n).map (·.1) := by
      unfold tps
      rw [List.map_map, List.map_map]; rfl
    rw [e]
    exact ((srt_perm _).map _).symm
  · rw [List.pairwise_map]
    exact (srt_pw _).imp fun h => by rw [leP_iff] at h; omega
/-- the sorted values at a count -/
def col (S : List (Int × List Int)) (n : Int) : List Int := (srt (tps S n)).map (·.1)
theorem col_at {S : List (Int × List Int)} {k : Nat} (hk : k < S.length) (n : Int) : ((col S n).map V.int)[k]? = some (.int (rk k S n).1) := by
  have h : k < (srt (tps S n)).length := by rw [tps_len]; exact hk
  unfold col rk
  rw [List.getElem?_map, List.getElem?_map, List.getD_eq_getElem?_getD, List.getElem?_eq_getElem h]; rfl
theorem col_len (S : List (Int × List Int)) (n : Int) : ((col S n).map V.int).length = S.length := by unfold col; rw [List.length_map, List.length_map, tps_len]
theorem col_last {S : List (Int × List Int)} (h : 0 < S.length) (n : Int) : atI ((col S n).map V.int) (-1) = some (.int (rk (S.length - 1) S n).1) := at_end (by rw [col_len]; exact h) (by rw [col_len]; exact col_at (by omega) n)
theorem paired_refs {K : PySem.W.Frag} {H : Hp} : ∀ sts : List (Addr × Int × List Int), Paired (EqV K H 1) (sts.map fun s => V.ref s.1) (sts.map fun s => V.ref s.1)
  | [] => .nil
  | s :: sts => .cons (.inr (.inl ⟨s.1, rfl, rfl⟩)) (paired_refs sts)
def sp_tog (m : Md) : Sp := fun vs H Q _ => ∃ (p ls : Addr) (n : Nat) (ts : List (Addr × Int × List Int)), vs = [.ref p, .ref ls] ∧ Purse H p n ∧ n ≤ 2 ^ 30 ∧ SqL m.K H ls (ts.map fun s => V.ref s.1) ∧ ls ≠ p ∧ (∀ s ∈ ts, Drw m (· ≠ p) H s.1 s.2.1 s.2.2 ∧ Low s.2.1 s.2.2) ∧ 1 ≤ ts.length ∧ ts.length ≤ 6 ∧ ∀ H', Drew m p n 8 H H' → Q (.bl true) H'
theorem c_tog {m : Md} {C f : Addr} {fd : FuncData} (F : C8.Def m.K m.mg "_law_together_right" st_together_right f fd) (b : L2.Binds m.K fd ps_together_right []) (Mk : MakX m C8.CX0 4 "Stair" C (sp_sinit m C) []) (hlist : m.mg "list" = none) (hr : m.mg "range" = none) (hlen : m.mg "len" = none) (hint : m.mg "int" = none) (hsorted : m.mg "sorted" = none)
    (E2 : StE m C) (Eq : MetX m C8.CX0 1 C "__eq__" (sp_seq m C) []) (Va : MetX m C8.CX0 4 C "value" (sp_value m C) []) (D0 : Cal m 2 "_law_draw" (sp_draw m)) (Hg : Cal m 1 "_law_height" (sp_height m)) (Ak : Cal m 3 "_law_alike" (sp_alike m C))
    (Fi : Cal m 9 "first_of" (sp_ends m C fun _ => 0)) (La : Cal m 9 "last_of" (sp_ends m C fun n => n - 1)) (Ro : Cal m 9 "rank_of" (sp_rank m C)) : Cal m 11 "_law_together_right" (sp_tog m) := by
  refine cal_ofM F b sc_together_right (fun vs H Q E h => by obtain ⟨_, _, _, _, rfl, _⟩ := h; rfl) fun X vs H Q E hA hM h => ?_
  obtain ⟨p, ls, n, ts, rfl, hp, hn, hls, hlp, hts, h1, h6, k⟩ := h
  obtain ⟨n0, n1, n2, n3, n4, n5, n6, n7, n8, n9⟩ := nv_together_right
  obtain ⟨S, hSd⟩ : ∃ S, S = ts.map (·.2) := ⟨_, rfl⟩
  have hSl : S.length = ts.length := by rw [hSd, List.length_map]
  have low : ∀ s ∈ S, Low s.1 s.2 := fun s hs => by
    rw [hSd] at hs
    obtain ⟨x, hx, rfl⟩ := List.mem_map.1 hs
    exact (hts x hx).2
  walk_at "B"
  refine s_two hA (pg_nl hA n2) (pg_nc hA n7 hM.fn) ?_
  walk_at "V"
  refine w_lcP hA (by decide +kernel) (i := 10) (j := 11) ⟨rfl, rfl⟩ ⟨rfl, rfl⟩ ?_
  walk_at "V"
  refine ⟨ls, _, rfl, hls, fun D hD => ⟨fun t H' => Grow m.T H H' ∧ ∃ sts : List (Addr × Int × List Int), H' D = some (.lst (sts.map fun s => V.ref s.1)) ∧ sts.map (·.2) = (ts.take t).map (·.2) ∧ ∀ s ∈ sts, StairAt C (fun a => a ≠ D ∧ a ≠ p) H' s.1 s.2.1 s.2.2 ∧ s.1 ≠ D, ⟨Grow.new hD, [], upd_same, by simp, fun s hs => by simp at hs⟩, ?_, ?_, ?_⟩⟩
  · rintro t H' _ ⟨g, _⟩
    exact GrowX.seqL g hls fun z => z
  · rintro t z H' hz ⟨g, sts, hd, hsts, hst⟩
    rw [List.getElem?_map] at hz
    obtain ⟨s, hs, rfl⟩ := Option.map_eq_some_iff.1 hz
    have htl := (List.getElem?_eq_some_iff.1 hs).1
    obtain ⟨⟨l, q1, q2, _⟩, lw⟩ := hts s (List.mem_of_getElem? hs)
    refine ⟨s.1, _, _, rfl, GrowX.seqT g q1, fun X' hX' => ?_⟩
    have c10 := nl_of hX' 10 "_law_begin"
    have c11 := nl_of hX' 11 "_law_corners_here"
    refine w_stair hX' Mk (by omega) rfl ?_
    walk_at "V"
    refine g_typ hX' hlist rfl bt_list ?_
    walk_at "V"
    refine g_listOf hX' (.inl (GrowX.seqL g q2 fun z => z)) fun p1 hp1 => ?_
    have gp1 := Grow.new (T := m.T) (o := .lst (s.2.2.map V.int)) hp1
    walk_at "V"
    refine ⟨s.2.1, p1, s.2.2, rfl, SqL.of upd_same, by rw [upd_same]; simp, lw.cor, by have := lw.len; omega, fun i1 H2 g2 hi1 st1 => ?_⟩
    have hd2 := Grow.extN (gp1.trans g2) _ _ hd (fun _ z => by cases z)
    have gX := GrowX.lst (T := m.T) (ys := (sts.map fun s => V.ref s.1) ++ [V.ref i1]) hd2
    have hdn : ∀ y, New (upd H' p1 (.lst (s.2.2.map V.int))) y → y ≠ D := fun y hy w => by
      have := Grow.extN gp1 _ _ hd (fun _ z => by cases z)
      rw [← w, hy] at this; cases this
    have hpn : ∀ y, New (upd H' p1 (.lst (s.2.2.map V.int))) y → y ≠ p := fun y hy w => by
      obtain ⟨xs, e⟩ := ((hp.new g).new gp1).at_
      rw [← w, hy] at e; cases e
    have hsl : sts.length = t := by
      have := congrArg List.length hsts
      rw [List.length_map, List.length_map, List.length_take] at this; omega
    refine ⟨_, hd2, by rw [List.length_map, hsl, sizeLine_eq]; omega, Grow.intoNew ((g.trans gp1).trans g2) gX fun c w => by rw [w]; exact hD, sts ++ [(i1, s.2.1, s.2.2)], by rw [upd_same, List.map_append]; rfl, by rw [List.take_add_one, hs, List.map_append, List.map_append, hsts]; rfl, fun y hy => ?_⟩
    rcases List.mem_append.1 hy with z | z
    · obtain ⟨e1, e2⟩ := hst y z
      exact ⟨(e1.grow (gp1.trans g2) (fun _ _ z => z) (fun z => z)).grow gX (fun a ha w => ha.1 w) e2, e2⟩
    · obtain rfl := List.mem_singleton.1 z
      exact ⟨(st1.sub fun a ha => (⟨hdn a ha, hpn a ha⟩ : a ≠ D ∧ a ≠ p)).grow gX (fun a ha w => ha.1 w) (hdn i1 hi1), hdn i1 hi1⟩
  rintro H1 ⟨g1, sts, hD1, hsts, hst⟩
  rw [List.length_map, List.take_length, ← hSd] at hsts
  have hstl : sts.length = ts.length := by rw [← hSl, ← hsts, List.length_map]
  have hst1 : ∀ s ∈ sts, StairAt C Any H1 s.1 s.2.1 s.2.2 := fun s hs => (hst s hs).1.sub fun _ _ => trivial
  have lws : ∀ s ∈ sts, Low s.2.1 s.2.2 := fun s hs => low s.2 (by rw [← hsts]; exact List.mem_map.2 ⟨s, hs, rfl⟩)
  have hls1 := GrowX.seqL g1 hls fun z => z
  walk_at "V"
  refine w_call hA D0 (by omega) rfl ?_
  walk_at "V"
  refine g_blt hA hlen rfl bt_len ?_
  walk_at "V"
  refine g_lenL hA hls1 ?_
  rw [List.length_map]
  walk_at "V"
  refine ⟨p, n, _, rfl, hp.new g1, by omega, by omega, by omega, fun z H2 z0 z1 d2 => ?_⟩
  have hDp : D ≠ p := fun w => by obtain ⟨xs, e⟩ := hp.at_; rw [← w, hD] at e; cases e
  have hD2 := d2.grow.ext _ _ hDp hD1 (fun _ z => by cases z)
  have hst2 : ∀ s ∈ sts, StairAt C Any H2 s.1 s.2.1 s.2.2 := fun s hs => by
    have e := (hst s hs).1
    obtain ⟨dx, lc, e1, _⟩ := id e
    refine (e.grow d2.grow (fun a ha w => ha.2 w) fun w => ?_).sub fun _ _ => trivial
    obtain ⟨xs, e2⟩ := (hp.new g1).at_
    rw [← w, e1] at e2; cases e2
  obtain ⟨num, hnum, hn1, hn2⟩ : ∃ num : Nat, 1 + z = num ∧ 1 ≤ num ∧ num ≤ ts.length := ⟨(1 + z).toNat, by omega, by omega, by omega⟩
  walk_at "V"
  rw [hnum]
  refine ⟨by walk_at "S", fun pT hpT => ?_⟩
  have gT := Grow.new (T := m.T) (o := .tup [V.ref D, .int (num : Nat)]) hpT
  have hTp : upd H2 pT (.tup [V.ref D, .int (num : Nat)]) pT = _ := upd_same
  have hD3 := Grow.extN gT _ _ hD2 (fun _ z => by cases z)
  have hls3 := GrowX.seqL gT (GrowX.seqL d2.grow hls1 fun w => hlp w) fun z => z
  have dH2 : ∀ s ∈ ts, Drw m Any H2 s.1 s.2.1 s.2.2 := fun s hs => by
    obtain ⟨l, a1, a2, a3⟩ := ((hts s hs).1.grow g1 fun _ _ z => z).grow d2.grow fun a ha w => ha w
    exact ⟨l, a1, a2, trivial⟩
  have dH3 : ∀ s ∈ ts, Drw m Any (upd H2 pT (.tup [V.ref D, .int (num : Nat)])) s.1 s.2.1 s.2.2 := fun s hs => (dH2 s hs).grow gT fun _ _ z => z
  have stI : StsIn C (upd H2 pT (.tup [V.ref D, .int (num : Nat)])) sts := fun s hs => ⟨(hst2 s hs).grow gT (fun _ _ z => z) (fun z => z), (lws s hs).cor, by have := (lws s hs).len; omega⟩
  have dp3 := (Drew.pre g1 d2).post gT
  generalize upd H2 pT (.tup [V.ref D, .int (num : Nat)]) = H3 at gT hTp hD3 hls3 dH3 stI dp3
  have ten : ∀ s ∈ sts, s.2.2.length ≤ 10 := fun s hs => by have := (lws s hs).len; omega
  refine ⟨pT, _, _, rfl, SqT.of hTp, ?_⟩
  walk_at "B"
  refine s_par hA n3 n4 ?_
  walk_at "V"
  refine ⟨by walk_at "S", fun K0 hK0 => ?_⟩
  have gK := Grow.new (T := m.T) (o := .lst []) hK0
  have hDK := Grow.extN gK _ _ hD3 (fun _ z => by cases z)
  walk_at "V"
  refine g_typ hA hlist rfl bt_list ?_
  walk_at "V"
  refine g_listOf hA (.inl (SqL.of hDK)) fun K1 hK1 => ?_
  have gK1 := Grow.new (T := m.T) (o := .lst (sts.map fun s => V.ref s.1)) hK1
  have hK01 : K0 ≠ K1 := fun w => by rw [← w, upd_same] at hK1; cases hK1
  have eK0 := (upd_ne (o := .lst (sts.map fun s => V.ref s.1)) hK01).trans (upd_same (H := H3) (a := K0) (o := .lst []))
  have eK1 : upd (upd H3 K0 (.lst [])) K1 (.lst (sts.map fun s => V.ref s.1)) K1 = _ := upd_same
  have g34 := gK.trans gK1
  generalize upd (upd H3 K0 (.lst [])) K1 (.lst (sts.map fun s => V.ref s.1)) = H4 at g34 eK0 eK1
  walk_at "V"
  refine ⟨_, _, rfl, ?_⟩
  walk_at "B"
  refine s_forR hA (pg_nc hA n8 hM.fn) hr rfl ?_
  walk_at "V"
  refine ⟨by decide, by decide, fun t σ H' => σ = [some (.ref p), some (.ref ls), some (.ref D), some (.ref K0), some (.ref K1), none, none, some (.int (num : Nat)), σ.getD 8 none, none, none, none, none] ∧ Grow m.T H3 H' ∧ H' K1 = some (.lst (sts.map fun s => V.ref s.1)) ∧ ∃ rs : List Addr, H' K0 = some (.lst (rs.map V.ref)) ∧ rs.length = t ∧ ∀ (q : Nat) (r : Addr), rs[q]? = some r → H' r = some (.lst ((col S q).map V.int)) ∧ r ≠ K0, ⟨rfl, g34, eK1, [], eK0, rfl, fun q r z => by simp at z⟩, ?_, ?_⟩
  · rintro t σ H' ht ⟨es, g, ek1, rs, ek0, hrl, hrs⟩
    have ht : t < 61 := ht
    rw [es]
    walk_at "B"
    walk_at "V"
    refine g_append ?_
    walk_at "V"
    refine ⟨tyL ek0, ?_⟩
    walk_at "V"
    refine g_blt hA hsorted rfl bt_sorted ?_
    refine w_cons (w_lcP hA (by decide +kernel) (i := 10) (j := 11) ⟨rfl, rfl⟩ ⟨rfl, rfl⟩ ?_)
    walk_at "V"
    refine ⟨ls, _, rfl, GrowX.seqL g hls3 fun z => z, fun D4 hD4 => ⟨fun u H'' => Grow m.T H' H'' ∧ H'' D4 = some (.lst (((ts.take u).map fun s => val s.2.1 s.2.2 t).map V.int)), ⟨Grow.new hD4, upd_same⟩, ?_, ?_, ?_⟩⟩
    · rintro u H'' _ ⟨g', _⟩
      exact GrowX.seqL (g.trans g') hls3 fun z => z
    · rintro u z H'' hz ⟨g', hd'⟩
      rw [List.getElem?_map] at hz
      obtain ⟨s, hs, rfl⟩ := Option.map_eq_some_iff.1 hz
      have hul := (List.getElem?_eq_some_iff.1 hs).1
      have hsm := List.mem_of_getElem? hs
      obtain ⟨l, q1, q2, _⟩ := (dH3 s hsm).grow (g.trans g') fun _ _ z => z
      refine ⟨s.1, _, _, rfl, q1, fun X' hX' => ?_⟩
      have c10 := nl_of hX' 10 "_law_begin"
      have c11 := nl_of hX' 11 "_law_corners_here"
      have c8 := nc_of hX' 8 "_law_count"
      walk_at "V"
      refine g_typ hX' hint rfl bt_int ?_
      refine w_cons (w_call hX' Hg (by omega) rfl ?_)
      walk_at "V"
      refine ⟨l, s.2.1, t, s.2.2, rfl, q2, (hts s hsm).2.cor, by have := (hts s hsm).2.len; omega, fun H5 g5 => ?_⟩
      walk_at "V"
      refine g_intI ?_
      have hd5 := Grow.extN g5 _ _ hd' (fun _ z => by cases z)
      refine ⟨_, hd5, by rw [List.length_map, List.length_map, List.length_take, sizeLine_eq]; omega, Grow.intoNew (g'.trans g5) (GrowX.lst hd5) fun c w => by rw [w]; exact hD4, ?_⟩
      rw [upd_same, List.take_add_one, hs]; simp
    rintro H5 ⟨g5, hD5⟩
    rw [List.length_map, List.take_length] at hD5
    walk_at "V"
    refine g_sortedIB hA (SqL.of hD5) fun ns' pq o1 o2 hpq => ?_
    have ens := sorted_vals o1 o2
    rw [← hSd] at ens
    have gq := Grow.new (T := m.T) (o := .lst (ns'.map V.int)) hpq
    have ek5 := Grow.extN (g5.trans gq) _ _ ek0 (fun _ z => by cases z)
    have ek15 := Grow.extN (g5.trans gq) _ _ ek1 (fun _ z => by cases z)
    walk_at "V"
    have hK0n : New H3 K0 := hK0
    have hpqK : pq ≠ K0 := fun w => by
      have := Grow.extN g5 _ _ ek0 (fun _ z => by cases z)
      rw [← w, hpq] at this; cases this
    have gX := GrowX.lst (T := m.T) (ys := rs.map V.ref ++ [V.ref pq]) ek5
    refine ⟨K0, _, .ref pq, rfl, rfl, ek5, by rw [List.length_map, hrl, sizeLine_eq]; omega, b_nil ⟨rfl, Grow.intoNew ((g.trans g5).trans gq) gX fun c w => by rw [w]; exact hK0n, by rw [upd_ne (Ne.symm hK01)]; exact ek15, rs ++ [pq], by rw [upd_same, List.map_append]; rfl, by simp [hrl], fun q r hq => ?_⟩⟩
    rcases Nat.lt_or_ge q rs.length with zq | zq
    · rw [List.getElem?_append_left zq] at hq
      obtain ⟨e1, e2⟩ := hrs q r hq
      exact ⟨by rw [upd_ne e2]; exact Grow.extN (g5.trans gq) _ _ e1 (fun _ z => by cases z), e2⟩
    · have hq2 := (List.getElem?_eq_some_iff.1 hq).1
      rw [List.length_append, List.length_singleton] at hq2
      obtain rfl : q = t := by omega
      rw [← hrl, List.getElem?_append_right (Nat.le_refl _), Nat.sub_self] at hq
      obtain rfl : pq = r := by simpa using hq
      refine ⟨?_, hpqK⟩
      rw [upd_ne hpqK, upd_same, ens]; rfl
  · rintro σ H5 ⟨es, g35, ek1, rs, ek0, hrl, hrs⟩
    have hrl : rs.length = 61 := hrl
    rw [es]
    have Dat : ∀ HZ, Grow m.T H5 HZ → HZ D = some (.lst (sts.map fun s => V.ref s.1)) := fun HZ g => Grow.extN (g35.trans g) _ _ hD3 (fun _ z => by cases z)
    have K0at : ∀ HZ, Grow m.T H5 HZ → HZ K0 = some (.lst (rs.map V.ref)) := fun HZ g => Grow.extN g _ _ ek0 (fun _ z => by cases z)
    have K1at : ∀ HZ, Grow m.T H5 HZ → HZ K1 = some (.lst (sts.map fun s => V.ref s.1)) := fun HZ g => Grow.extN g _ _ ek1 (fun _ z => by cases z)
    have RSat : ∀ HZ, Grow m.T H5 HZ → ∀ (q : Nat) (r : Addr), rs[q]? = some r → HZ r = some (.lst ((col S q).map V.int)) := fun HZ g q r hq => Grow.extN g _ _ (hrs q r hq).1 (fun _ z => by cases z)
    have stI := stI.grow g35
    have eSl : sts.length - 1 = S.length - 1 := by omega
    have G0 : Grow m.T H5 H5 := GrowX.refl
    walk_at "B"
    walk_at "V"
    refine w_call hA Ak (by omega) rfl ?_
    refine w_cons (w_call hA Fi (by omega) rfl ?_)
    walk_at "V"
    refine ⟨D, sts, rfl, by omega, by omega, SqL.of (Dat _ G0), stI.grow G0, ten, fun r0 b0 cs0 HA0 gA0 st0 hc0 hl0 hv0 => ?_⟩
    have hw0 : ∀ n, 0 ≤ n → val b0 cs0 n = (rk (0) S n).1 := fun n hn => by
      have := hv0 n hn
      rw [hsts] at this
      exact this
    refine w_cons (w_lcL hA (by decide +kernel) (i := 12) ⟨rfl, rfl⟩ ?_)
    walk_at "V"
    have GA0 := G0.trans gA0
    refine ⟨K0, _, rfl, SqL.of (K0at _ GA0), fun Dn hDn => ⟨fun t H' => Grow m.T HA0 H' ∧ H' Dn = some (.lst ((List.range t).map fun n : Nat => V.int (rk (0) S n).1)), ⟨Grow.new hDn, upd_same⟩, ?_, ?_, ?_⟩⟩
    · rintro t H' _ ⟨g, _⟩
      exact SqL.of (K0at _ (GA0.trans g))
    · rintro t x H' hx ⟨g, hd'⟩ X' hX'
      have c12 := nl_of hX' 12 "_law_column"
      rw [List.getElem?_map] at hx
      obtain ⟨r, hr', rfl⟩ := Option.map_eq_some_iff.1 hx
      have htl := (List.getElem?_eq_some_iff.1 hr').1
      have hcl := RSat _ (GA0.trans g) t r hr'
      walk_at "V"
      refine g_ixL hX' (SqL.of hcl) (atI_at (j := 0) (col_at (by omega) _)) ?_
      refine ⟨_, hd', by rw [List.length_map, List.length_range, sizeLine_eq]; omega, Grow.intoNew g (GrowX.lst hd') fun c w => by rw [w]; exact hDn, ?_⟩
      rw [upd_same, List.range_succ, List.map_append]; rfl
    rintro HB0 ⟨gB0, hDn0⟩
    rw [List.length_map, hrl] at hDn0
    walk_at "V"
    refine ⟨r0, Dn, b0, cs0, fun n => (rk (0) S n).1, rfl, st0.grow gB0 (fun _ _ z => z) (fun z => z), hc0, hl0, SqL.of hDn0, hw0, rk_top low (by omega) hc0 hw0, fun HC0 gC0 => ?_⟩
    walk_at "V"
    refine iteF (b_nil ?_)
    have G1 := (GA0.trans gB0).trans gC0
    clear G0 GA0 gA0 gB0 gC0 st0 hDn0 hv0 hw0 hc0 hl0
    walk_at "B"
    walk_at "V"
    refine w_call hA Ak (by omega) rfl ?_
    refine w_cons (w_call hA La (by omega) rfl ?_)
    walk_at "V"
    refine ⟨D, sts, rfl, by omega, by omega, SqL.of (Dat _ G1), stI.grow G1, ten, fun r1 b1 cs1 HA1 gA1 st1 hc1 hl1 hv1 => ?_⟩
    have hw1 : ∀ n, 0 ≤ n → val b1 cs1 n = (rk (S.length - 1) S n).1 := fun n hn => by
      have := hv1 n hn
      rw [hsts] at this
      rw [← eSl]
      exact this
    refine w_cons (w_lcL hA (by decide +kernel) (i := 12) ⟨rfl, rfl⟩ ?_)
    walk_at "V"
    have GA1 := G1.trans gA1
    refine ⟨K0, _, rfl, SqL.of (K0at _ GA1), fun Dn hDn => ⟨fun t H' => Grow m.T HA1 H' ∧ H' Dn = some (.lst ((List.range t).map fun n : Nat => V.int (rk (S.length - 1) S n).1)), ⟨Grow.new hDn, upd_same⟩, ?_, ?_, ?_⟩⟩
    · rintro t H' _ ⟨g, _⟩
      exact SqL.of (K0at _ (GA1.trans g))
    · rintro t x H' hx ⟨g, hd'⟩ X' hX'
      have c12 := nl_of hX' 12 "_law_column"
      rw [List.getElem?_map] at hx
      obtain ⟨r, hr', rfl⟩ := Option.map_eq_some_iff.1 hx
      have htl := (List.getElem?_eq_some_iff.1 hr').1
      have hcl := RSat _ (GA1.trans g) t r hr'
      walk_at "V"
      refine g_ixL hX' (SqL.of hcl) (col_last (by omega) _) ?_
      refine ⟨_, hd', by rw [List.length_map, List.length_range, sizeLine_eq]; omega, Grow.intoNew g (GrowX.lst hd') fun c w => by rw [w]; exact hDn, ?_⟩
      rw [upd_same, List.range_succ, List.map_append]; rfl
    rintro HB1 ⟨gB1, hDn1⟩
    rw [List.length_map, hrl] at hDn1
    walk_at "V"
    refine ⟨r1, Dn, b1, cs1, fun n => (rk (S.length - 1) S n).1, rfl, st1.grow gB1 (fun _ _ z => z) (fun z => z), hc1, hl1, SqL.of hDn1, hw1, rk_top low (by omega) hc1 hw1, fun HC1 gC1 => ?_⟩
    walk_at "V"
    refine iteF (b_nil ?_)
    have G2 := (GA1.trans gB1).trans gC1
    clear G1 GA1 gA1 gB1 gC1 st1 hDn1 hv1 hw1 hc1 hl1
    walk_at "B"
    walk_at "V"
    refine w_call hA Ak (by omega) rfl ?_
    refine w_cons (w_call hA Ro (by omega) rfl ?_)
    walk_at "V"
    refine ⟨num, D, sts, rfl, hn1, by omega, by omega, SqL.of (Dat _ G2), stI.grow G2, ten, fun r2 b2 cs2 HA2 gA2 st2 hc2 hl2 hv2 => ?_⟩
    have hw2 : ∀ n, 0 ≤ n → val b2 cs2 n = (rk (num - 1) S n).1 := fun n hn => by
      have := hv2 n hn
      rw [hsts] at this
      exact this
    refine w_cons (w_lcL hA (by decide +kernel) (i := 12) ⟨rfl, rfl⟩ ?_)
    walk_at "V"
    have GA2 := G2.trans gA2
    refine ⟨K0, _, rfl, SqL.of (K0at _ GA2), fun Dn hDn => ⟨fun t H' => Grow m.T HA2 H' ∧ H' Dn = some (.lst ((List.range t).map fun n : Nat => V.int (rk (num - 1) S n).1)), ⟨Grow.new hDn, upd_same⟩, ?_, ?_, ?_⟩⟩
    · rintro t H' _ ⟨g, _⟩
      exact SqL.of (K0at _ (GA2.trans g))
    · rintro t x H' hx ⟨g, hd'⟩ X' hX'
      have c12 := nl_of hX' 12 "_law_column"
      have c7 := nc_of hX' 7 "_law_number"
      rw [List.getElem?_map] at hx
      obtain ⟨r, hr', rfl⟩ := Option.map_eq_some_iff.1 hx
      have htl := (List.getElem?_eq_some_iff.1 hr').1
      have hcl := RSat _ (GA2.trans g) t r hr'
      walk_at "V"
      rw [show ((num : Int) - 1) = ((num - 1 : Nat) : Int) from by omega]
      refine g_ixL hX' (SqL.of hcl) (atI_at (col_at (by omega) _)) ?_
      refine ⟨_, hd', by rw [List.length_map, List.length_range, sizeLine_eq]; omega, Grow.intoNew g (GrowX.lst hd') fun c w => by rw [w]; exact hDn, ?_⟩
      rw [upd_same, List.range_succ, List.map_append]; rfl
    rintro HB2 ⟨gB2, hDn2⟩
    rw [List.length_map, hrl] at hDn2
    walk_at "V"
    refine ⟨r2, Dn, b2, cs2, fun n => (rk (num - 1) S n).1, rfl, st2.grow gB2 (fun _ _ z => z) (fun z => z), hc2, hl2, SqL.of hDn2, hw2, rk_top low (by omega) hc2 hw2, fun HC2 gC2 => ?_⟩
    walk_at "V"
    refine iteF (b_nil ?_)
    have G3 := (GA2.trans gB2).trans gC2
    clear G2 GA2 gA2 gB2 gC2 st2 hDn2 hv2 hw2 hc2 hl2
    walk_at "B"
    walk_at "V"
    refine w_call hA Ro (by omega) rfl ?_
    walk_at "V"
    refine ⟨1, D, sts, rfl, by omega, by omega, by omega, SqL.of (Dat _ G3), stI.grow G3, ten, fun ra ba ca HA ga sa hca hla hva => ?_⟩
    walk_at "V"
    refine w_call hA Fi (by omega) rfl ?_
    walk_at "V"
    have Ga := G3.trans ga
    refine ⟨D, sts, rfl, by omega, by omega, SqL.of (Dat _ Ga), stI.grow Ga, ten, fun rb bb cb HB gb sb hcb hlb hvb => ?_⟩
    obtain ⟨rfl, rfl⟩ := stair_uniq hca hcb fun n hn => (hva n hn).trans (hvb n hn).symm
    refine g_neSt hA E2 Eq (by omega) (sa.grow gb (fun _ _ z => z) (fun z => z)) sb (by omega) (by omega) ?_
    rw [show (!decide (ba = ba ∧ ca = ca)) = false from by simp]
    walk_at "V"
    refine iteF ?_
    have Gb := Ga.trans gb
    clear Ga G3 ga gb sa sb hva hvb hca hcb hla hlb
    walk_at "V"
    refine w_call hA Ro (by omega) rfl ?_
    walk_at "V"
    refine g_blt hA hlen rfl bt_len ?_
    walk_at "V"
    refine g_lenL hA (GrowX.seqL (g35.trans Gb) hls3 fun z => z) ?_
    rw [List.length_map]
    refine w_cons (w_rev hA ?_)
    walk_at "V"
    refine ⟨D, _, rfl, SqL.of (Dat _ Gb), fun pr hpr => ?_⟩
    rw [← List.map_reverse]
    have gr := Grow.new (T := m.T) (o := .lst (sts.reverse.map fun s => V.ref s.1)) hpr
    have Gr := Gb.trans gr
    walk_at "V"
    refine ⟨ts.length, pr, sts.reverse, rfl, by omega, by rw [List.length_reverse]; omega, by rw [List.length_reverse]; omega, SqL.of upd_same, fun s hs => stI.grow Gr s (List.mem_reverse.1 hs), fun s hs => ten s (List.mem_reverse.1 hs), fun rc bc cc HC gc sc hcc hlc hvc => ?_⟩
    walk_at "V"
    refine w_call hA La (by omega) rfl ?_
    walk_at "V"
    have Gc := Gr.trans gc
    refine ⟨D, sts, rfl, by omega, by omega, SqL.of (Dat _ Gc), stI.grow Gc, ten, fun rd bd cd HD' gd sd hcd hld hvd => ?_⟩
    obtain ⟨rfl, rfl⟩ := stair_uniq hcc hcd fun n hn => by
      rw [hvc n hn, hvd n hn, rk_perm ((List.reverse_perm sts).map _)]
      show (rk (ts.length - 1) _ n).1 = (rk (sts.length - 1) _ n).1
      rw [hstl]
    refine g_neSt hA E2 Eq (by omega) (sc.grow gd (fun _ _ z => z) (fun z => z)) sd (by omega) (by omega) ?_
    rw [show (!decide (bc = bc ∧ cc = cc)) = false from by simp]
    walk_at "V"
    refine iteF (b_nil ?_)
    have G4 := Gc.trans gd
    clear Gc Gr Gb gr gc gd sc sd hvc hvd hcc hcd hlc hld
    walk_at "B"
    refine s_nc hA n9 hM.fn ?_
    walk_at "V"
    refine g_powI ⟨by omega, by omega, by omega⟩ ?_
    obtain ⟨far, hfar, hf0⟩ : ∃ far : Int, (10 : Int) ^ (29 : Int).toNat = far ∧ 0 ≤ far := ⟨_, rfl, by decide⟩
    rw [hfar]
    walk_at "B"
    walk_at "V"
    refine g_blt hA hsorted rfl bt_sorted ?_
    refine w_cons (w_lcP hA (by decide +kernel) (i := 10) (j := 11) ⟨rfl, rfl⟩ ⟨rfl, rfl⟩ ?_)
    walk_at "V"
    refine ⟨ls, _, rfl, GrowX.seqL (g35.trans G4) hls3 fun z => z, fun D4 hD4 => ⟨fun u H'' => Grow m.T HD' H'' ∧ H'' D4 = some (.lst (((ts.take u).map fun s => val s.2.1 s.2.2 far).map V.int)), ⟨Grow.new hD4, upd_same⟩, ?_, ?_, ?_⟩⟩
    · rintro u H'' _ ⟨g', _⟩
      exact GrowX.seqL ((g35.trans G4).trans g') hls3 fun z => z
    · rintro u z H'' hz ⟨g', hd'⟩
      rw [List.getElem?_map] at hz
      obtain ⟨s, hs, rfl⟩ := Option.map_eq_some_iff.1 hz
      have hul := (List.getElem?_eq_some_iff.1 hs).1
      have hsm := List.mem_of_getElem? hs
      obtain ⟨l, q1, q2, _⟩ := (dH3 s hsm).grow ((g35.trans G4).trans g') fun _ _ z => z
      refine ⟨s.1, _, _, rfl, q1, fun X' hX' => ?_⟩
      have c10 := nl_of hX' 10 "_law_begin"
      have c11 := nl_of hX' 11 "_law_corners_here"
      have c9 := nc_of hX' 9 "_law_far"
      walk_at "V"
      refine g_typ hX' hint rfl bt_int ?_
      refine w_cons (w_call hX' Hg (by omega) rfl ?_)
      walk_at "V"
      refine ⟨l, s.2.1, far, s.2.2, rfl, q2, (hts s hsm).2.cor, by have := (hts s hsm).2.len; omega, fun H5 g5 => ?_⟩
      walk_at "V"
      refine g_intI ?_
      have hd5 := Grow.extN g5 _ _ hd' (fun _ z => by cases z)
      refine ⟨_, hd5, by rw [List.length_map, List.length_map, List.length_take, sizeLine_eq]; omega, Grow.intoNew (g'.trans g5) (GrowX.lst hd5) fun c w => by rw [w]; exact hD4, ?_⟩
      rw [upd_same, List.take_add_one, hs]; simp
    rintro H6 ⟨g6, hD6⟩
    rw [List.length_map, List.take_length] at hD6
    walk_at "V"
    refine g_sortedIB hA (SqL.of hD6) fun ns' pq o1 o2 hpq => ?_
    have ens := sorted_vals o1 o2
    rw [← hSd] at ens
    have gq := Grow.new (T := m.T) (o := .lst (ns'.map V.int)) hpq
    have hpq1 : upd H6 pq (.lst (ns'.map V.int)) pq = some (.lst ((col S far).map V.int)) := by rw [upd_same, ens]; rfl
    have G5 := (G4.trans g6).trans gq
    generalize upd H6 pq (.lst (ns'.map V.int)) = H7 at G5 hpq1
    clear G4 g6 gq hD6 o1 o2 ens
    walk_at "B"
    walk_at "V"
    have J0 := G5
    refine w_metX (E := C8.E0) hA Va (by omega) C8.pass0 ?_
    refine w_call hA Fi (by omega) rfl ?_
    walk_at "V"
    refine ⟨D, sts, rfl, by omega, by omega, SqL.of (Dat _ J0), stI.grow J0, ten, fun u0 bb0 cc0 HU0 gu0 su0 hcu0 hlu0 hvu0 => ?_⟩
    have hwu0 : val bb0 cc0 far = (rk (0) S far).1 := by
      have := hvu0 far hf0
      rw [hsts] at this
      exact this
    obtain ⟨dx0, lc0, eu0, _⟩ := id su0
    refine ⟨u0, dx0, _, rfl, eu0, rfl, ?_⟩
    walk_at "V"
    refine ⟨u0, bb0, far, cc0, rfl, su0, hcu0, by omega, hf0, fun HV0 gv0 => ?_⟩
    rw [hwu0]
    have J1 := (J0.trans gu0).trans gv0
    refine w_cons (w_metX (E := C8.E0) hA Va (by omega) C8.pass0 ?_)
    refine w_call hA Ro (by omega) rfl ?_
    walk_at "V"
    refine ⟨num, D, sts, rfl, hn1, by omega, by omega, SqL.of (Dat _ J1), stI.grow J1, ten, fun u1 bb1 cc1 HU1 gu1 su1 hcu1 hlu1 hvu1 => ?_⟩
    have hwu1 : val bb1 cc1 far = (rk (num - 1) S far).1 := by
      have := hvu1 far hf0
      rw [hsts] at this
      exact this
    obtain ⟨dx1, lc1, eu1, _⟩ := id su1
    refine ⟨u1, dx1, _, rfl, eu1, rfl, ?_⟩
    walk_at "V"
    refine ⟨u1, bb1, far, cc1, rfl, su1, hcu1, by omega, hf0, fun HV1 gv1 => ?_⟩
    rw [hwu1]
    have J2 := (J1.trans gu1).trans gv1
    refine w_cons (w_metX (E := C8.E0) hA Va (by omega) C8.pass0 ?_)
    refine w_call hA La (by omega) rfl ?_
    walk_at "V"
    refine ⟨D, sts, rfl, by omega, by omega, SqL.of (Dat _ J2), stI.grow J2, ten, fun u2 bb2 cc2 HU2 gu2 su2 hcu2 hlu2 hvu2 => ?_⟩
    have hwu2 : val bb2 cc2 far = (rk (S.length - 1) S far).1 := by
      have := hvu2 far hf0
      rw [hsts] at this
      rw [← eSl]
      exact this
    obtain ⟨dx2, lc2, eu2, _⟩ := id su2
    refine ⟨u2, dx2, _, rfl, eu2, rfl, ?_⟩
    walk_at "V"
    refine ⟨u2, bb2, far, cc2, rfl, su2, hcu2, by omega, hf0, fun HV2 gv2 => ?_⟩
    rw [hwu2]
    have J3 := (J2.trans gu2).trans gv2
    walk_at "V"
    refine ⟨by walk_at "S", fun pa hpa => ?_⟩
    obtain ⟨vs, hvs⟩ : ∃ vs : List Int, vs = [(rk 0 S far).1, (rk (num - 1) S far).1, (rk (S.length - 1) S far).1] := ⟨_, rfl⟩
    have evs : [V.int (rk 0 S far).1, .int (rk (num - 1) S far).1, .int (rk (S.length - 1) S far).1] = vs.map V.int := by rw [hvs]; rfl
    rw [evs]
    have gpa := Grow.new (T := m.T) (o := .lst (vs.map V.int)) hpa
    have epa : upd HV2 pa (.lst (vs.map V.int)) pa = _ := upd_same
    have J4 := J3.trans gpa
    generalize upd HV2 pa (.lst (vs.map V.int)) = H8 at J4 gpa epa
    have hpq8 := Grow.extN ((((((gu0.trans gv0).trans gu1).trans gv1).trans gu2).trans gv2).trans gpa) _ _ hpq1 (fun _ z => by cases z)
    walk_at "B"
    walk_at "V"
    refine g_ixL hA (SqL.of hpq8) (atI_at (j := 0) (col_at (by omega) _)) ?_
    walk_at "V"
    rw [show ((num : Int) - 1) = ((num - 1 : Nat) : Int) from by omega]
    refine g_ixL hA (SqL.of hpq8) (atI_at (col_at (by omega) _)) ?_
    walk_at "V"
    refine g_ixL hA (SqL.of hpq8) (col_last (by omega) _) ?_
    walk_at "V"
    refine ⟨by walk_at "S", fun pb hpb => ?_⟩
    rw [evs]
    have gpb := Grow.new (T := m.T) (o := .lst (vs.map V.int)) hpb
    refine g_eqD hA (Dp.lst (SqL.of (gpb.extN _ _ epa (fun _ z => by cases z))) (DaAll.dp _ _ (ints_da (A := Any) vs))) (Dp.lst (SqL.of upd_same) (DaAll.dp _ _ (ints_da (A := Any) vs))) (ints_shaped _) (ints_shaped _) ?_
    rw [list_eqv, decide_eq_true rfl]
    have J5 := J4.trans gpb
    generalize upd H8 pb (.lst (vs.map V.int)) = H9 at J5
    walk_at "V"
    refine iteT ?_
    walk_at "V"
    refine gOp.of (op_eqV hA.room.units) ⟨1, by omega, .inl ⟨D, K1, _, _, rfl, rfl, SqL.of (Dat _ J5), SqL.of (K1at _ J5), paired_refs sts⟩, ?_⟩
    exact k _ ((dp3.post (g35.trans J5)).mono (by omega))
theorem s_par3 {m : Md} {N : List Str} {sc : Scope} {k i j l : Nat} {X : Cx} {a b c : Expr} {x y z : Str} {σ : L2.St} {H : Hp} {nx : L2.St → Hp → Prop} {rt : VK} {bk ct : L2.St → Hp → Prop} {p1 p2 p3 p4 p5 pos : Pos} {k1 k2 : Nat}
    (h : At m N sc k X) (n1 : NL N sc i x) (n2 : NL N sc j y) (n3 : NL N sc l z) (q : wA X [a, b, c] σ H fun vs H1 => ∃ u v w, vs = [u, v, w] ∧ nx (((σ.set i (some u)).set j (some v)).set l (some w)) H1) (h1 : i ≠ j := by decide) (h2 : i ≠ l := by decide) (h3 : j ≠ l := by decide)
    (hw : ∀ env : Env, swappedStores [.Tuple [.Name x p1, .Name y p2, .Name z p3] k1 p4] (.Tuple [a, b, c] k2 p5) { env with scope := sc } = pure (some [x, y, z]) := by with_unfolding_all (intro _; rfl))
    (hs : swapsWithSole [.Tuple [.Name x p1, .Name y p2, .Name z p3] k1 p4] (.Tuple [a, b, c] k2 p5) pos.line X.env = pure false := by with_unfolding_all rfl) : wS X (.Assign [.Tuple [.Name x p1, .Name y p2, .Name z p3] k1 p4] (.Tuple [a, b, c] k2 p5) pos) ⟨nx, rt, bk, ct⟩ σ H :=
  toS (ps_par3 h.calm (by rw [h.nn]; exact h.nd) (by rw [h.nn]; exact n1.ix) (by rw [h.nn]; exact n2.ix) (by rw [h.nn]; exact n3.ix) h1 h2 h3 (by rw [h.ss]; exact n1.loc) (by rw [h.ss]; exact n2.loc) (by rw [h.ss]; exact n3.loc) cA (by have := hw X.env; rw [env_sc h.ss] at this; exact this) hs) q
theorem g0_val (n : Int) (hn : 0 ≤ n) : val 0 [0] n = n := by
  unfold val
  rw [show pas [0] n = 1 from by simp only [pas]; rw [if_pos hn]]
  simp [valK, bk]
/-- stairs that are put behind one another -/
structure Up (b : Int) (cs : List Int) : Prop where
  cor : Cor cs
  len : cs.length ≤ 5
  top : ∀ c ∈ cs, c ≤ 23
  lo : 0 ≤ b
theorem Cor.ge {b n : Int} {cs : List Int} (hc : Cor cs) (hn : 0 ≤ n) : b ≤ val b cs n := by
  have := hc.val_mono (b := b) hn
  rwa [hc.val_zero] at this
theorem beh_top {b e b' : Int} {cs ds cs' : List Int} (u : Up b cs) (w : Up e ds) (hc' : Cor cs') (hv : ∀ n, 0 ≤ n → val b' cs' n = val e ds (val b cs n)) : ∀ c ∈ cs', c ≤ 59 := by
  refine top_of hc' (by omega) hv fun n hn => ?_
  have p : ∀ k : Int, 23 ≤ k → pas cs k = cs.length := fun k hk => u.cor.pas_all fun c hc => by have := u.top c hc; omega
  have q : ∀ k : Int, 23 ≤ k → pas ds k = ds.length := fun k hk => w.cor.pas_all fun c hc => by have := w.top c hc; omega
  have s1 := u.cor.val_step b n
  have s2 := u.cor.val_step b (n + 1)
  rw [p n (by omega)] at s1
  rw [p (n + 1) (by omega)] at s2
  show val e ds (val b cs (n + 2)) - val e ds (val b cs (n + 1)) = val e ds (val b cs (n + 1)) - val e ds (val b cs n)
  rw [show n + 2 = n + 1 + 1 from by omega, s2, s1]
  rcases Nat.mod_two_eq_zero_or_one cs.length with z | z
  · rw [z]; simp
  · have far := u.cor.val_far (b := b) (n := 23) (fun c hc => u.top c hc) (n - 23).toNat
    rw [show (23 : Int) + ((n - 23).toNat : Int) = n from by omega, z] at far
    have g := u.cor.ge (b := b) (n := 23) (by omega)
    have lo := u.lo
    have big : 23 ≤ val b cs n := by rw [far]; omega
    rw [z, Int.natCast_one, w.cor.val_step, w.cor.val_step, q _ big, q _ (by omega)]
    omega
/-- a pair of a begin and a list of corners -/
def Prs (m : Md) (H : Hp) (t : Addr) (b : Int) (cs : List Int) : Prop := ∃ l, SqT m.K H t [.int b, .ref l] ∧ H l = some (.lst (cs.map V.int))
theorem Prs.grow {m : Md} {H H' : Hp} {t : Addr} {b : Int} {cs : List Int} (d : Prs m H t b cs) (g : Grow m.T H H') : Prs m H' t b cs := by
  obtain ⟨l, h1, h2⟩ := d
  exact ⟨l, GrowX.seqT g h1, Grow.extN g _ _ h2 (fun _ z => by cases z)⟩
def sp_beh (m : Md) : Sp := fun vs H Q _ => ∃ (t1 t2 t3 : Addr) (b1 b2 b3 : Int) (c1 c2 c3 : List Int), vs = [.ref t1, .ref t2, .ref t3] ∧ Prs m H t1 b1 c1 ∧ Prs m H t2 b2 c2 ∧ Prs m H t3 b3 c3 ∧ Up b1 c1 ∧ Up b2 c2 ∧ Up b3 c3 ∧ ∀ H', Grow m.T H H' → Q (.bl true) H'
theorem c_beh {m : Md} {C f : Addr} {fd : FuncData} (F : C8.Def m.K m.mg "_law_behind_right" st_behind_right f fd) (b : L2.Binds m.K fd ps_behind_right []) (Mk : MakX m C8.CX0 4 "Stair" C (sp_sinit m C) []) (hr : m.mg "range" = none) (E2 : StE m C) (Eq : MetX m C8.CX0 1 C "__eq__" (sp_seq m C) []) (Va : MetX m C8.CX0 4 C "value" (sp_value m C) []) (Hg : Cal m 1 "_law_height" (sp_height m)) (Ak : Cal m 3 "_law_alike" (sp_alike m C))
    (Pb : Cal m 7 "put_behind" (sp_behind m C)) : Cal m 11 "_law_behind_right" (sp_beh m) := by
  refine cal_ofM F b sc_behind_right (fun vs H Q E h => by obtain ⟨_, _, _, _, _, _, _, _, _, rfl, _⟩ := h; rfl) fun X vs H Q E hA hM h => ?_
  obtain ⟨t1, t2, t3, b1, b2, b3, c1, c2, c3, rfl, d1, d2, d3, u1, u2, u3, k⟩ := h
  obtain ⟨n2, n3, n4, n5, n6, n7, n8, n0, n1⟩ := nv_behind_right
  have l1 := u1.len
  have l2 := u2.len
  have l3 := u3.len
  walk_at "B"
  refine s_par3 hA n3 n4 n5 ?_
  refine w_cons (w_stair hA Mk (by omega) rfl ?_)
  obtain ⟨l1_, q1_, r1_⟩ := id d1
  walk_at "V"
  refine g_ixT hA q1_ (atI_at (j := 0) rfl) ?_
  walk_at "V"
  refine g_ixT hA q1_ (atI_at (j := 1) rfl) ?_
  walk_at "V"
  refine ⟨b1, l1_, c1, rfl, SqL.of r1_, by rw [r1_]; simp, u1.cor, by omega, fun i1 H1 g1 ni1 st1 => ?_⟩
  have st1 := st1.sub (A' := Any) fun _ _ => trivial
  refine w_cons (w_stair hA Mk (by omega) rfl ?_)
  obtain ⟨l2_, q2_, r2_⟩ := d2.grow g1
  walk_at "V"
  refine g_ixT hA q2_ (atI_at (j := 0) rfl) ?_
  walk_at "V"
  refine g_ixT hA q2_ (atI_at (j := 1) rfl) ?_
  walk_at "V"
  refine ⟨b2, l2_, c2, rfl, SqL.of r2_, by rw [r2_]; simp, u2.cor, by omega, fun i2 H2 g2 ni2 st2 => ?_⟩
  have st2 := st2.sub (A' := Any) fun _ _ => trivial
  have g12 := g1.trans g2
  refine w_cons (w_stair hA Mk (by omega) rfl ?_)
  obtain ⟨l3_, q3_, r3_⟩ := d3.grow g12
  walk_at "V"
  refine g_ixT hA q3_ (atI_at (j := 0) rfl) ?_
  walk_at "V"
  refine g_ixT hA q3_ (atI_at (j := 1) rfl) ?_
  walk_at "V"
  refine ⟨b3, l3_, c3, rfl, SqL.of r3_, by rw [r3_]; simp, u3.cor, by omega, fun i3 H3 g3 ni3 st3 => ?_⟩
  have st3 := st3.sub (A' := Any) fun _ _ => trivial
  walk_at "V"
  refine ⟨_, _, _, rfl, ?_⟩
  have G0 := g12.trans g3
  have sA := st1.grow (g2.trans g3) (fun _ _ z => z) (fun z => z)
  have sB := st2.grow g3 (fun _ _ z => z) (fun z => z)
  have sC := st3
  clear st1 st2 st3
  walk_at "B"
  refine s_lcR hA hr rfl n6 (by decide +kernel) (i := 9) ⟨rfl, rfl⟩ ?_
  walk_at "V"
  refine ⟨by decide, by decide, fun D hD => ⟨fun t H' => Grow m.T H3 H' ∧ H' D = some (.lst ((List.range t).map fun n : Nat => V.int (val b1 c1 n))), ⟨Grow.new hD, upd_same⟩, ?_, ?_⟩⟩
  · rintro t H' ht ⟨g, hd⟩ X' hX'
    have ht : t < 61 := ht
    have c0 := nc_of hX' 0 "_law_one"
    have c9 := nl_of hX' 9 "_law_count"
    obtain ⟨l, q1, r1⟩ := d1.grow (G0.trans g)
    refine w_call hX' Hg (by omega) rfl ?_
    walk_at "V"
    refine g_ixT hX' q1 (atI_at (j := 0) rfl) ?_
    walk_at "V"
    refine g_ixT hX' q1 (atI_at (j := 1) rfl) ?_
    walk_at "V"
    refine ⟨l, b1, t, c1, rfl, SqL.of r1, u1.cor, by omega, fun H5 g5 => ?_⟩
    have hd5 := Grow.extN g5 _ _ hd (fun _ z => by cases z)
    refine ⟨_, hd5, by rw [List.length_map, List.length_range, sizeLine_eq]; omega, Grow.intoNew (g.trans g5) (GrowX.lst hd5) fun c w => by rw [w]; exact hD, ?_⟩
    rw [upd_same, List.range_succ, List.map_append]; rfl
  rintro H4 ⟨g4, hD4⟩
  have hD4 : H4 D = some (.lst (nums fun n => val b1 c1 n)) := hD4
  have sA := sA.grow g4 (fun _ _ z => z) (fun z => z)
  have sB := sB.grow g4 (fun _ _ z => z) (fun z => z)
  have sC := sC.grow g4 (fun _ _ z => z) (fun z => z)
  have G1 := G0.trans g4
  clear G0 g4
  walk_at "B"
  walk_at "V"
  refine w_call hA Pb (by omega) rfl ?_
  walk_at "V"
  refine ⟨i1, i2, b1, b2, c1, c2, rfl, sA, sB, u1.cor, u2.cor, u1.lo, by omega, by omega, fun rb bb cb H5 g5 sb hcb hlb hvb => ?_⟩
  have G2 := G1.trans g5
  have hD5 := Grow.extN g5 _ _ hD4 (fun _ z => by cases z)
  have sA := sA.grow g5 (fun _ _ z => z) (fun z => z)
  have sB := sB.grow g5 (fun _ _ z => z) (fun z => z)
  have sC := sC.grow g5 (fun _ _ z => z) (fun z => z)
  clear G1 g5 hD4
  walk_at "B"
  walk_at "V"
  refine w_call hA Ak (by omega) rfl ?_
  walk_at "V"
  refine w_lcL hA (by decide +kernel) (i := 9) ⟨rfl, rfl⟩ ?_
  walk_at "V"
  refine ⟨D, _, rfl, SqL.of hD5, fun Dn hDn => ⟨fun t H' => Grow m.T H5 H' ∧ H' Dn = some (.lst ((List.range t).map fun n : Nat => V.int (val b2 c2 (val b1 c1 n)))), ⟨Grow.new hDn, upd_same⟩, ?_, ?_, ?_⟩⟩
  · rintro t H' _ ⟨g, _⟩
    exact GrowX.seqL g (SqL.of hD5) fun z => z
  · rintro t x H' hx ⟨g, hd⟩ X' hX'
    have c1' := nc_of hX' 1 "_law_other"
    have c9 := nl_of hX' 9 "_law_count"
    have ht : t < 61 := by have := (List.getElem?_eq_some_iff.1 hx).1; simpa [nums] using this
    obtain rfl : V.int (val b1 c1 t) = x := by
      unfold nums at hx
      rw [List.getElem?_map, List.getElem?_range ht] at hx
      exact Option.some.inj hx
    obtain ⟨l, q1, r1⟩ := d2.grow (G2.trans g)
    refine w_call hX' Hg (by omega) rfl ?_
    walk_at "V"
    refine g_ixT hX' q1 (atI_at (j := 0) rfl) ?_
    walk_at "V"
    refine g_ixT hX' q1 (atI_at (j := 1) rfl) ?_
    walk_at "V"
    refine ⟨l, b2, val b1 c1 t, c2, rfl, SqL.of r1, u2.cor, by omega, fun H6 g6 => ?_⟩
    have hd6 := Grow.extN g6 _ _ hd (fun _ z => by cases z)
    refine ⟨_, hd6, by rw [List.length_map, List.length_range, sizeLine_eq]; omega, Grow.intoNew (g.trans g6) (GrowX.lst hd6) fun c w => by rw [w]; exact hDn, ?_⟩
    rw [upd_same, List.range_succ, List.map_append]; rfl
  rintro H6 ⟨g6, hDn6⟩
  rw [show (nums fun n => val b1 c1 n).length = 61 from by simp [nums]] at hDn6
  walk_at "V"
  refine ⟨rb, Dn, bb, cb, fun n => val b2 c2 (val b1 c1 n), rfl, sb.grow g6 (fun _ _ z => z) (fun z => z), hcb, by omega, SqL.of hDn6, hvb, beh_top u1 u2 hcb hvb, fun H7 g7 => ?_⟩
  walk_at "V"
  refine iteF (b_nil ?_)
  have g67 := g6.trans g7
  have G3 := G2.trans g67
  have sA := sA.grow g67 (fun _ _ z => z) (fun z => z)
  have sB := sB.grow g67 (fun _ _ z => z) (fun z => z)
  have sC := sC.grow g67 (fun _ _ z => z) (fun z => z)
  have sb := sb.grow g67 (fun _ _ z => z) (fun z => z)
  clear G2 g67 g6 g7 hDn6 hD5
  walk_at "B"
  walk_at "V"
  refine g_powI ⟨by omega, by omega, by omega⟩ ?_
  obtain ⟨far, hfar, hf0⟩ : ∃ far : Int, (10 : Int) ^ (28 : Int).toNat = far ∧ 0 ≤ far := ⟨_, rfl, by decide⟩
  rw [hfar]
  walk_at "B"
  walk_at "V"
  obtain ⟨dxb, lcb, eb, _⟩ := id sb
  refine w_metX (E := C8.E0) hA Va (by omega) C8.pass0 ?_
  walk_at "V"
  refine ⟨rb, dxb, _, rfl, eb, rfl, ?_⟩
  walk_at "V"
  refine ⟨rb, bb, far, cb, rfl, sb, hcb, by omega, hf0, fun H8 g8 => ?_⟩
  rw [hvb far hf0]
  walk_at "V"
  refine w_call hA Hg (by omega) rfl ?_
  walk_at "V"
  obtain ⟨l2', q2', r2'⟩ := d2.grow (G3.trans g8)
  refine g_ixT hA q2' (atI_at (j := 0) rfl) ?_
  walk_at "V"
  refine g_ixT hA q2' (atI_at (j := 1) rfl) ?_
  walk_at "V"
  refine w_call hA Hg (by omega) rfl ?_
  walk_at "V"
  obtain ⟨l1', q1', r1'⟩ := d1.grow (G3.trans g8)
  refine g_ixT hA q1' (atI_at (j := 0) rfl) ?_
  walk_at "V"
  refine g_ixT hA q1' (atI_at (j := 1) rfl) ?_
  walk_at "V"
  refine ⟨l1', b1, far, c1, rfl, SqL.of r1', u1.cor, by omega, fun H9 g9 => ?_⟩
  walk_at "V"
  refine ⟨l2', b2, val b1 c1 far, c2, rfl, SqL.of (Grow.extN g9 _ _ r2' (fun _ z => by cases z)), u2.cor, by omega, fun H10 g10 => ?_⟩
  walk_at "V"
  rw [show (!decide (val b2 c2 (val b1 c1 far) = val b2 c2 (val b1 c1 far))) = false from by simp]
  refine iteF (b_nil ?_)
  have g810 := (g8.trans g9).trans g10
  have G4 := G3.trans g810
  have sA := sA.grow g810 (fun _ _ z => z) (fun z => z)
  have sB := sB.grow g810 (fun _ _ z => z) (fun z => z)
  have sC := sC.grow g810 (fun _ _ z => z) (fun z => z)
  have sb := sb.grow g810 (fun _ _ z => z) (fun z => z)
  clear G3 g810 g8 g9 g10
  walk_at "B"
  walk_at "V"
  refine w_call hA Pb (by omega) rfl ?_
  walk_at "V"
  refine w_stair hA Mk (by omega) rfl ?_
  walk_at "V"
  refine ⟨by walk_at "S", fun la hla => ?_⟩
  have gla := Grow.new (T := m.T) (o := .lst (([0] : List Int).map V.int)) hla
  walk_at "V"
  refine ⟨0, la, [0], rfl, SqL.of upd_same, by rw [upd_same]; simp, (⟨by simp, by simp⟩ : Cor [0]), by simp, fun ia Ha ga nia sta => ?_⟩
  have sta := sta.sub (A' := Any) fun _ _ => trivial
  have g1a := gla.trans ga
  walk_at "V"
  refine ⟨i1, ia, b1, 0, c1, [0], rfl, sA.grow g1a (fun _ _ z => z) (fun z => z), sta, u1.cor, (⟨by simp, by simp⟩ : Cor [0]), u1.lo, by omega, by simp, fun rc bc cc H11 g11 sc hcc hlc hvc => ?_⟩
  obtain ⟨rfl, rfl⟩ := stair_uniq hcc u1.cor fun n hn => (hvc n hn).trans (g0_val _ (Int.le_trans u1.lo (u1.cor.ge hn)))
  walk_at "V"
  refine g_neSt hA E2 Eq (by omega) sc (sA.grow (g1a.trans g11) (fun _ _ z => z) (fun z => z)) (by omega) (by omega) ?_
  rw [show (!decide (bc = bc ∧ cc = cc)) = false from by simp]
  walk_at "V"
  refine iteF ?_
  have g111 := g1a.trans g11
  have G5 := G4.trans g111
  have sA := sA.grow g111 (fun _ _ z => z) (fun z => z)
  have sB := sB.grow g111 (fun _ _ z => z) (fun z => z)
  have sC := sC.grow g111 (fun _ _ z => z) (fun z => z)
  have sb := sb.grow g111 (fun _ _ z => z) (fun z => z)
  clear G4 g111 g1a ga gla g11 sc sta
  walk_at "V"
  refine w_call hA Pb (by omega) rfl ?_
  refine w_cons (w_stair hA Mk (by omega) rfl ?_)
  walk_at "V"
  refine ⟨by walk_at "S", fun la2 hla2 => ?_⟩
  have gla2 := Grow.new (T := m.T) (o := .lst (([0] : List Int).map V.int)) hla2
  walk_at "V"
  refine ⟨0, la2, [0], rfl, SqL.of upd_same, by rw [upd_same]; simp, (⟨by simp, by simp⟩ : Cor [0]), by simp, fun ia2 Ha2 ga2 nia2 sta2 => ?_⟩
  have sta2 := sta2.sub (A' := Any) fun _ _ => trivial
  have g2a := gla2.trans ga2
  walk_at "V"
  refine ⟨ia2, i3, 0, b3, [0], c3, rfl, sta2, sC.grow g2a (fun _ _ z => z) (fun z => z), (⟨by simp, by simp⟩ : Cor [0]), u3.cor, by omega, by simp, by omega, fun rd bd cd H12 g12' sd hcd hld hvd => ?_⟩
  obtain ⟨rfl, rfl⟩ := stair_uniq hcd u3.cor fun n hn => (hvd n hn).trans (by rw [g0_val n hn])
  walk_at "V"
  refine g_neSt hA E2 Eq (by omega) sd (sC.grow (g2a.trans g12') (fun _ _ z => z) (fun z => z)) (by omega) (by omega) ?_
  rw [show (!decide (bd = bd ∧ cd = cd)) = false from by simp]
  walk_at "V"
  refine iteF (b_nil ?_)
  have g112 := g2a.trans g12'
  have G6 := G5.trans g112
  have sA := sA.grow g112 (fun _ _ z => z) (fun z => z)
  have sB := sB.grow g112 (fun _ _ z => z) (fun z => z)
  have sC := sC.grow g112 (fun _ _ z => z) (fun z => z)
  have sb := sb.grow g112 (fun _ _ z => z) (fun z => z)
  clear G5 g112 g2a gla2 ga2 g12' sd sta2
  have lob : 0 ≤ bb := by
    have := hvb 0 (by omega)
    rw [hcb.val_zero, u1.cor.val_zero] at this
    rw [this]
    exact Int.le_trans u2.lo (u2.cor.ge u1.lo)
  walk_at "B"
  walk_at "V"
  refine w_call hA Pb (by omega) rfl ?_
  walk_at "V"
  refine ⟨rb, i3, bb, bd, cb, cd, rfl, sb, sC, hcb, u3.cor, lob, by omega, by omega, fun re be ce H13 g13 se hce hle hve => ?_⟩
  walk_at "V"
  refine w_call hA Pb (by omega) rfl ?_
  walk_at "V"
  refine w_call hA Pb (by omega) rfl ?_
  walk_at "V"
  refine ⟨i2, i3, b2, bd, c2, cd, rfl, sB.grow g13 (fun _ _ z => z) (fun z => z), sC.grow g13 (fun _ _ z => z) (fun z => z), u2.cor, u3.cor, u2.lo, by omega, by omega, fun rf bf cf H14 g14 sf hcf hlf hvf => ?_⟩
  walk_at "V"
  refine ⟨i1, rf, bc, bf, cc, cf, rfl, sA.grow (g13.trans g14) (fun _ _ z => z) (fun z => z), sf, u1.cor, hcf, u1.lo, by omega, by omega, fun rg bg cg H15 g15 sg hcg hlg hvg => ?_⟩
  obtain ⟨rfl, rfl⟩ := stair_uniq hce hcg fun n hn => by
    have p := Int.le_trans u1.lo (u1.cor.ge (b := bc) hn)
    rw [hve n hn, hvg n hn, hvf _ p, hvb n hn]
  refine g_eqSt hA E2 Eq (by omega) (se.grow (g14.trans g15) (fun _ _ z => z) (fun z => z)) sg (by omega) (by omega) ?_
  rw [decide_eq_true ⟨rfl, rfl⟩]
  exact k _ (((G6.trans g13).trans g14).trans g15)
section
variable {x y : Int} (hy : 1 ≤ y) (hx : y < x)
include hy hx
theorem gL_cor : Cor [0, x] := ⟨by simp; omega, by simp; omega⟩
theorem gH_cor : Cor [x + y] := ⟨by simp, by simp; omega⟩
theorem g1_cor : Cor [0, y, x + y, x + x] := ⟨by simp; omega, by simp; omega⟩
theorem g2_cor : Cor [y, x, x + x] := ⟨by simp; omega, by simp; omega⟩
theorem g3_cor : Cor [y, x] := ⟨by simp; omega, by simp; omega⟩
theorem g4_cor : Cor [x + y, 2 * x] := ⟨by simp; omega, by simp; omega⟩
theorem gL_val (n : Int) (hn : 0 ≤ n) : val 0 [0, x] n = if n < x then n else x := by
  have hp : pas [0, x] n = if n < x then 1 else 2 := by
    simp only [pas]
    repeat' split
    all_goals omega
  unfold val
  rw [hp]
  split
  · simp [valK, bk]
  · simp [valK, bk]
theorem gH_val (n : Int) : val y [x + y] n = if n < x + y then y else n - x := by
  have hp : pas [x + y] n = if n < x + y then 0 else 1 := by
    simp only [pas]
    repeat' split
    all_goals omega
  unfold val
  rw [hp]
  split
  · simp [valK, bk]
  · simp [valK, bk]; omega
theorem g1_val (n : Int) (hn : 0 ≤ n) : val 0 [0, y, x + y, x + x] n = if n < y then n else if n < x + y then y else if n < x + x then n - x else x := by
  have hp : pas [0, y, x + y, x + x] n = if n < y then 1 else if n < x + y then 2 else if n < x + x then 3 else 4 := by
    simp only [pas]
    repeat' split
    all_goals omega
  unfold val
  rw [hp]
  repeat' split
  all_goals simp [valK, bk] <;> omega
theorem g2_val (n : Int) : val y [y, x, x + x] n = if n < y then y else if n < x then n else if n < x + x then x else n - x := by
  have hp : pas [y, x, x + x] n = if n < y then 0 else if n < x then 1 else if n < x + x then 2 else 3 := by
    simp only [pas]
    repeat' split
    all_goals omega
  unfold val
  rw [hp]
  repeat' split
  all_goals simp [valK, bk] <;> omega
theorem g3_val (n : Int) : val 5 [y, x] n = if n < y then 5 else if n < x then 5 + n - y else 5 + x - y := by
  have hp : pas [y, x] n = if n < y then 0 else if n < x then 1 else 2 := by
    simp only [pas]
    repeat' split
    all_goals omega
  unfold val
  rw [hp]
  repeat' split
  all_goals simp [valK, bk] <;> omega
theorem g4_val (n : Int) : val y [x + y, 2 * x] n = if n < x + y then y else if n < 2 * x then n - x else x := by
  have hp : pas [x + y, 2 * x] n = if n < x + y then 0 else if n < 2 * x then 1 else 2 := by
    simp only [pas]
    repeat' split
    all_goals omega
  unfold val
  rw [hp]
  repeat' split
  all_goals simp [valK, bk] <;> omega
end
theorem rk_lo2 (s t : Int × List Int) (n : Int) : (rk 0 [s, t] n).1 = min (val s.1 s.2 n) (val t.1 t.2 n) := by
  have := lo_step (S := [s]) (by simp) t n
  rw [rk_one] at this
  exact this
theorem rk_hi2 (s t : Int × List Int) (n : Int) : (rk 1 [s, t] n).1 = max (val s.1 s.2 n) (val t.1 t.2 n) := by
  have := hi_step (S := [s]) (by simp) t n
  rw [show (rk ([s].length - 1) [s] n).1 = (rk 0 [s] n).1 from rfl, rk_one] at this
  exact this
def sp_great (m : Md) : Sp := fun vs H Q _ => ∃ (p : Addr) (n : Nat), vs = [.ref p] ∧ Purse H p n ∧ n ≤ 2 ^ 30 ∧ ∀ H', Drew m p n 16 H H' → Q (.bl true) H'
theorem c_great {m : Md} {C f : Addr} {fd : FuncData} (F : C8.Def m.K m.mg "_law_great_right" st_great_right f fd) (b : L2.Binds m.K fd ps_great_right []) (Mk : MakX m C8.CX0 4 "Stair" C (sp_sinit m C) []) (E2 : StE m C) (Eq : MetX m C8.CX0 1 C "__eq__" (sp_seq m C) []) (D : Cal m 2 "_law_draw" (sp_draw m))
    (Fi : Cal m 9 "first_of" (sp_ends m C fun _ => 0)) (La : Cal m 9 "last_of" (sp_ends m C fun n => n - 1)) (Ro : Cal m 9 "rank_of" (sp_rank m C)) (Pb : Cal m 7 "put_behind" (sp_behind m C)) : Cal m 11 "_law_great_right" (sp_great m) := by
  refine cal_of F b sc_great_right (fun vs H Q E h => by obtain ⟨_, _, rfl, _⟩ := h; rfl) fun X vs H Q E hA h => ?_
  obtain ⟨p, n, rfl, hp, hn, k⟩ := h
  obtain ⟨n0, n1, n2, n3, n4⟩ := nv_great_right
  walk_at "B"
  refine s_par hA n1 n2 ?_
  walk_at "V"
  refine g_powI ⟨by omega, by omega, by omega⟩ ?_
  walk_at "V"
  refine w_call hA D (by omega) rfl ?_
  walk_at "V"
  refine g_powI ⟨by omega, by omega, by omega⟩ ?_
  walk_at "V"
  refine ⟨p, n, _, rfl, hp, by omega, by decide, by decide, fun x0 H1 a0 a1 d1 => ?_⟩
  walk_at "V"
  refine w_call hA D (by omega) rfl ?_
  walk_at "V"
  refine g_powI ⟨by omega, by omega, by omega⟩ ?_
  walk_at "V"
  refine ⟨p, _, _, rfl, d1.purse, by omega, by decide, by decide, fun y0 H2 a2 a3 d2 => ?_⟩
  walk_at "V"
  obtain ⟨x, y, ex, ey, hy, hx, hxb⟩ : ∃ x y : Int, (10 : Int) ^ (24 : Int).toNat + x0 = x ∧ 1 + y0 = y ∧ 1 ≤ y ∧ y < x ∧ x < 10 ^ 30 := by
    rw [show (10 : Int) ^ (20 : Int).toNat = 100000000000000000000 from by decide] at a3
    rw [show (10 : Int) ^ (24 : Int).toNat = 1000000000000000000000000 from by decide] at a1
    exact ⟨_, _, rfl, rfl, by omega, by rw [show (10 : Int) ^ (24 : Int).toNat = 1000000000000000000000000 from by decide]; omega, by rw [show (10 : Int) ^ (24 : Int).toNat = 1000000000000000000000000 from by decide]; omega⟩
  rw [ex, ey]
  clear ex ey a0 a1 a2 a3
  have d12 := d1.trans d2
  refine ⟨_, _, rfl, ?_⟩
  walk_at "B"
  refine s_par hA n3 n4 ?_
  refine w_cons (w_stair hA Mk (by omega) rfl ?_)
  walk_at "V"
  refine ⟨by walk_at "S", fun ll hll => ?_⟩
  have gll := Grow.new (T := m.T) (o := .lst (([0, x] : List Int).map V.int)) hll
  walk_at "V"
  refine ⟨0, ll, [0, x], rfl, SqL.of upd_same, by rw [upd_same]; simp, (gL_cor hy hx), by simp, fun il Hl gl nil stl => ?_⟩
  have stl := stl.sub (A' := Any) fun _ _ => trivial
  have ggl := gll.trans gl
  refine w_cons (w_stair hA Mk (by omega) rfl ?_)
  walk_at "V"
  refine ⟨by walk_at "S", fun lh hlh => ?_⟩
  have glh := Grow.new (T := m.T) (o := .lst (([x + y] : List Int).map V.int)) hlh
  walk_at "V"
  refine ⟨y, lh, [x + y], rfl, SqL.of upd_same, by rw [upd_same]; simp, (gH_cor hy hx), by simp, fun ih Hh gh nih sth => ?_⟩
  have sth := sth.sub (A' := Any) fun _ _ => trivial
  have ggh := glh.trans gh
  walk_at "V"
  refine ⟨_, _, rfl, ?_⟩
  have sL := stl.grow ggh (fun _ _ z => z) (fun z => z)
  have sH := sth
  have G0 := ggl.trans ggh
  clear stl sth ggl ggh
  walk_at "B"
  walk_at "V"
  refine w_call hA Fi (by omega) rfl ?_
  walk_at "V"
  refine ⟨by walk_at "S", fun pa hpa => ?_⟩
  have gpa := Grow.new (T := m.T) (o := .lst [V.ref il, .ref ih]) hpa
  walk_at "V"
  refine ⟨pa, [(il, 0, [0, x]), (ih, y, [x + y])], rfl, by show 1 ≤ 2; omega, by show 2 ≤ 6; omega, SqL.of upd_same, ?_, ?_, fun ra ba ca Ka qa sa hca hla hva => ?_⟩
  · intro s hs
    rcases List.mem_cons.1 hs with rfl | hs
    · exact ⟨sL.grow gpa (fun _ _ z => z) (fun z => z), gL_cor hy hx, by simp⟩
    · obtain rfl := List.mem_singleton.1 hs
      exact ⟨sH.grow gpa (fun _ _ z => z) (fun z => z), gH_cor hy hx, by simp⟩
  · intro s hs
    rcases List.mem_cons.1 hs with rfl | hs
    · simp
    · obtain rfl := List.mem_singleton.1 hs
      simp
  have gqa := gpa.trans qa
  walk_at "V"
  refine w_stair hA Mk (by omega) rfl ?_
  walk_at "V"
  refine ⟨by walk_at "S", fun lb hlb => ?_⟩
  have glb := Grow.new (T := m.T) (o := .lst (([0, y, x + y, x + x] : List Int).map V.int)) hlb
  walk_at "V"
  refine ⟨0, lb, [0, y, x + y, x + x], rfl, SqL.of upd_same, by rw [upd_same]; simp, (g1_cor hy hx), by simp, fun ib Hb gb nib stb => ?_⟩
  have stb := stb.sub (A' := Any) fun _ _ => trivial
  have ggb := glb.trans gb
  obtain ⟨rfl, rfl⟩ := stair_uniq hca (g1_cor hy hx) fun n hn => by
    rw [hva n hn]
    show (rk 0 [(0, [0, x]), (y, [x + y])] n).1 = _
    rw [rk_lo2, gL_val hy hx n hn, gH_val hy hx, g1_val hy hx n hn]
    repeat' split
    all_goals omega
  refine g_neSt hA E2 Eq (by omega) (sa.grow ggb (fun _ _ z => z) (fun z => z)) stb (by simp) (by simp) ?_
  rw [show (!decide ((0 : Int) = 0 ∧ [0, y, x + y, x + x] = [0, y, x + y, x + x])) = false from by simp]
  walk_at "V"
  refine iteF (b_nil ?_)
  have GS0 := gqa.trans ggb
  have G1 := G0.trans GS0
  have sL := sL.grow GS0 (fun _ _ z => z) (fun z => z)
  have sH := sH.grow GS0 (fun _ _ z => z) (fun z => z)
  clear G0 GS0
  walk_at "B"
  walk_at "V"
  refine w_call hA La (by omega) rfl ?_
  walk_at "V"
  refine ⟨by walk_at "S", fun pc hpc => ?_⟩
  have gpc := Grow.new (T := m.T) (o := .lst [V.ref ih, .ref il]) hpc
  walk_at "V"
  refine ⟨pc, [(ih, y, [x + y]), (il, 0, [0, x])], rfl, by show 1 ≤ 2; omega, by show 2 ≤ 6; omega, SqL.of upd_same, ?_, ?_, fun rc bc cc Kc qc sc hcc hlc hvc => ?_⟩
  · intro s hs
    rcases List.mem_cons.1 hs with rfl | hs
    · exact ⟨sH.grow gpc (fun _ _ z => z) (fun z => z), gH_cor hy hx, by simp⟩
    · obtain rfl := List.mem_singleton.1 hs
      exact ⟨sL.grow gpc (fun _ _ z => z) (fun z => z), gL_cor hy hx, by simp⟩
  · intro s hs
    rcases List.mem_cons.1 hs with rfl | hs
    · simp
    · obtain rfl := List.mem_singleton.1 hs
      simp
  have gqc := gpc.trans qc
  walk_at "V"
  refine w_stair hA Mk (by omega) rfl ?_
  walk_at "V"
  refine ⟨by walk_at "S", fun ld hld => ?_⟩
  have gld := Grow.new (T := m.T) (o := .lst (([y, x, x + x] : List Int).map V.int)) hld
  walk_at "V"
  refine ⟨y, ld, [y, x, x + x], rfl, SqL.of upd_same, by rw [upd_same]; simp, (g2_cor hy hx), by simp, fun id Hd gd nid std => ?_⟩
  have std := std.sub (A' := Any) fun _ _ => trivial
  have ggd := gld.trans gd
  have e2 := stair_uniq hcc (g2_cor hy hx) fun n hn => by
    rw [hvc n hn]
    show (rk 1 [(y, [x + y]), (0, [0, x])] n).1 = _
    rw [rk_hi2, gL_val hy hx n hn, gH_val hy hx, g2_val hy hx n]
    repeat' split
    all_goals omega
  rw [e2.1, e2.2] at sc
  refine g_neSt hA E2 Eq (by omega) (sc.grow ggd (fun _ _ z => z) (fun z => z)) std (by simp) (by simp) ?_
  rw [show (!decide (y = y ∧ [y, x, x + x] = [y, x, x + x])) = false from by simp]
  walk_at "V"
  refine iteF (b_nil ?_)
  have GS1 := gqc.trans ggd
  have G2 := G1.trans GS1
  have sL := sL.grow GS1 (fun _ _ z => z) (fun z => z)
  have sH := sH.grow GS1 (fun _ _ z => z) (fun z => z)
  clear G1 GS1
  walk_at "B"
  walk_at "V"
  refine w_call hA Pb (by omega) rfl ?_
  walk_at "V"
  refine w_stair hA Mk (by omega) rfl ?_
  walk_at "V"
  refine ⟨by walk_at "S", fun le hle => ?_⟩
  have gle := Grow.new (T := m.T) (o := .lst (([y, x] : List Int).map V.int)) hle
  walk_at "V"
  refine ⟨5, le, [y, x], rfl, SqL.of upd_same, by rw [upd_same]; simp, (g3_cor hy hx), by simp, fun ie He ge nie ste => ?_⟩
  have ste := ste.sub (A' := Any) fun _ _ => trivial
  have gge := gle.trans ge
  walk_at "V"
  refine ⟨il, ie, 0, 5, [0, x], [y, x], rfl, sL.grow gge (fun _ _ z => z) (fun z => z), ste, gL_cor hy hx, g3_cor hy hx, by omega, by simp, by simp, fun rf bf cf Kf qf sf hcf hlf hvf => ?_⟩
  walk_at "V"
  refine w_stair hA Mk (by omega) rfl ?_
  walk_at "V"
  refine ⟨by walk_at "S", fun lg hlg => ?_⟩
  have glg := Grow.new (T := m.T) (o := .lst (([y, x] : List Int).map V.int)) hlg
  walk_at "V"
  refine ⟨5, lg, [y, x], rfl, SqL.of upd_same, by rw [upd_same]; simp, (g3_cor hy hx), by simp, fun ig Hg gg nig stg => ?_⟩
  have stg := stg.sub (A' := Any) fun _ _ => trivial
  have ggg := glg.trans gg
  have e3 := stair_uniq hcf (g3_cor hy hx) fun n hn => by
    rw [hvf n hn, gL_val hy hx n hn, g3_val hy hx, g3_val hy hx]
    repeat' split
    all_goals omega
  rw [e3.1, e3.2] at sf
  refine g_neSt hA E2 Eq (by omega) (sf.grow ggg (fun _ _ z => z) (fun z => z)) stg (by simp) (by simp) ?_
  rw [show (!decide ((5 : Int) = 5 ∧ [y, x] = [y, x])) = false from by simp]
  walk_at "V"
  refine iteF (b_nil ?_)
  have GS2 := (gge.trans qf).trans ggg
  have G3 := G2.trans GS2
  have sL := sL.grow GS2 (fun _ _ z => z) (fun z => z)
  have sH := sH.grow GS2 (fun _ _ z => z) (fun z => z)
  clear G2 GS2
  walk_at "B"
  walk_at "V"
  refine w_call hA Ro (by omega) rfl ?_
  walk_at "V"
  walk_at "V"
  refine ⟨by walk_at "S", fun pm hpm => ?_⟩
  have gpm := Grow.new (T := m.T) (o := .lst [V.ref il, .ref ih]) hpm
  walk_at "V"
  refine ⟨1, pm, [(il, 0, [0, x]), (ih, y, [x + y])], rfl, by omega, by show 1 ≤ 2; omega, by show 2 ≤ 6; omega, SqL.of upd_same, ?_, ?_, fun rm bm cm Km qm sm hcm hlm hvm => ?_⟩
  · intro s hs
    rcases List.mem_cons.1 hs with rfl | hs
    · exact ⟨sL.grow gpm (fun _ _ z => z) (fun z => z), gL_cor hy hx, by simp⟩
    · obtain rfl := List.mem_singleton.1 hs
      exact ⟨sH.grow gpm (fun _ _ z => z) (fun z => z), gH_cor hy hx, by simp⟩
  · intro s hs
    rcases List.mem_cons.1 hs with rfl | hs
    · simp
    · obtain rfl := List.mem_singleton.1 hs
      simp
  have gqm := gpm.trans qm
  walk_at "V"
  refine w_call hA Fi (by omega) rfl ?_
  walk_at "V"
  refine ⟨by walk_at "S", fun pn hpn => ?_⟩
  have gpn := Grow.new (T := m.T) (o := .lst [V.ref il, .ref ih]) hpn
  walk_at "V"
  refine ⟨pn, [(il, 0, [0, x]), (ih, y, [x + y])], rfl, by show 1 ≤ 2; omega, by show 2 ≤ 6; omega, SqL.of upd_same, ?_, ?_, fun rn bn cn Kn qn sn hcn hln hvn => ?_⟩
  · intro s hs
    rcases List.mem_cons.1 hs with rfl | hs
    · exact ⟨(sL.grow gqm (fun _ _ z => z) (fun z => z)).grow gpn (fun _ _ z => z) (fun z => z), gL_cor hy hx, by simp⟩
    · obtain rfl := List.mem_singleton.1 hs
      exact ⟨(sH.grow gqm (fun _ _ z => z) (fun z => z)).grow gpn (fun _ _ z => z) (fun z => z), gH_cor hy hx, by simp⟩
  · intro s hs
    rcases List.mem_cons.1 hs with rfl | hs
    · simp
    · obtain rfl := List.mem_singleton.1 hs
      simp
  have gqn := gpn.trans qn
  have e4 := stair_uniq hcm hcn fun n hn => (hvm n hn).trans (hvn n hn).symm
  rw [e4.1, e4.2] at sm
  refine g_neSt hA E2 Eq (by omega) (sm.grow gqn (fun _ _ z => z) (fun z => z)) sn (by omega) (by omega) ?_
  rw [show (!decide (bn = bn ∧ cn = cn)) = false from by simp]
  walk_at "V"
  refine iteF ?_
  have GS3 := gqm.trans gqn
  have G4 := G3.trans GS3
  have sL := sL.grow GS3 (fun _ _ z => z) (fun z => z)
  have sH := sH.grow GS3 (fun _ _ z => z) (fun z => z)
  clear G3 GS3
  walk_at "V"
  refine w_call hA Ro (by omega) rfl ?_
  walk_at "V"
  walk_at "V"
  refine ⟨by walk_at "S", fun pq hpq => ?_⟩
  have gpq := Grow.new (T := m.T) (o := .lst [V.ref ih, .ref il]) hpq
  walk_at "V"
  refine ⟨2, pq, [(ih, y, [x + y]), (il, 0, [0, x])], rfl, by omega, by show 2 ≤ 2; omega, by show 2 ≤ 6; omega, SqL.of upd_same, ?_, ?_, fun rq bq cq Kq qq sq hcq hlq hvq => ?_⟩
  · intro s hs
    rcases List.mem_cons.1 hs with rfl | hs
    · exact ⟨sH.grow gpq (fun _ _ z => z) (fun z => z), gH_cor hy hx, by simp⟩
    · obtain rfl := List.mem_singleton.1 hs
      exact ⟨sL.grow gpq (fun _ _ z => z) (fun z => z), gL_cor hy hx, by simp⟩
  · intro s hs
    rcases List.mem_cons.1 hs with rfl | hs
    · simp
    · obtain rfl := List.mem_singleton.1 hs
      simp
  have gqq := gpq.trans qq
  walk_at "V"
  refine w_call hA La (by omega) rfl ?_
  walk_at "V"
  refine ⟨by walk_at "S", fun pr hpr => ?_⟩
  have gpr := Grow.new (T := m.T) (o := .lst [V.ref il, .ref ih]) hpr
  walk_at "V"
  refine ⟨pr, [(il, 0, [0, x]), (ih, y, [x + y])], rfl, by show 1 ≤ 2; omega, by show 2 ≤ 6; omega, SqL.of upd_same, ?_, ?_, fun rr br cr Kr qr sr hcr hlr hvr => ?_⟩
  · intro s hs
    rcases List.mem_cons.1 hs with rfl | hs
    · exact ⟨(sL.grow gqq (fun _ _ z => z) (fun z => z)).grow gpr (fun _ _ z => z) (fun z => z), gL_cor hy hx, by simp⟩
    · obtain rfl := List.mem_singleton.1 hs
      exact ⟨(sH.grow gqq (fun _ _ z => z) (fun z => z)).grow gpr (fun _ _ z => z) (fun z => z), gH_cor hy hx, by simp⟩
  · intro s hs
    rcases List.mem_cons.1 hs with rfl | hs
    · simp
    · obtain rfl := List.mem_singleton.1 hs
      simp
  have gqr := gpr.trans qr
  have e5 := stair_uniq hcq hcr fun n hn => by
    rw [hvq n hn, hvr n hn]
    show (rk 1 [(y, [x + y]), (0, [0, x])] n).1 = (rk 1 [(0, [0, x]), (y, [x + y])] n).1
    rw [rk_hi2, rk_hi2, Int.max_comm]
  rw [e5.1, e5.2] at sq
  refine g_neSt hA E2 Eq (by omega) (sq.grow gqr (fun _ _ z => z) (fun z => z)) sr (by omega) (by omega) ?_
  rw [show (!decide (br = br ∧ cr = cr)) = false from by simp]
  walk_at "V"
  refine iteF (b_nil ?_)
  have GS4 := gqq.trans gqr
  have G5 := G4.trans GS4
  have sL := sL.grow GS4 (fun _ _ z => z) (fun z => z)
  have sH := sH.grow GS4 (fun _ _ z => z) (fun z => z)
  clear G4 GS4
  walk_at "B"
  walk_at "V"
  refine w_call hA Pb (by omega) rfl ?_
  walk_at "V"
  refine ⟨ih, il, y, 0, [x + y], [0, x], rfl, sH, sL, gH_cor hy hx, gL_cor hy hx, by omega, by simp, by simp, fun rs bs cs Ks qs ss hcs hls hvs => ?_⟩
  walk_at "V"
  refine w_stair hA Mk (by omega) rfl ?_
  walk_at "V"
  refine g_mulI (.inl ⟨by omega, by omega⟩) ?_
  walk_at "V"
  refine ⟨by walk_at "S", fun lt hlt => ?_⟩
  have glt := Grow.new (T := m.T) (o := .lst (([x + y, 2 * x] : List Int).map V.int)) hlt
  walk_at "V"
  refine ⟨y, lt, [x + y, 2 * x], rfl, SqL.of upd_same, by rw [upd_same]; simp, (g4_cor hy hx), by simp, fun it Ht gt nit stt => ?_⟩
  have stt := stt.sub (A' := Any) fun _ _ => trivial
  have ggt := glt.trans gt
  have e6 := stair_uniq hcs (g4_cor hy hx) fun n hn => by
    have hh := (gH_cor hy hx).ge (b := y) hn
    rw [hvs n hn, gL_val hy hx _ (by omega), gH_val hy hx, g4_val hy hx]
    repeat' split
    all_goals omega
  rw [e6.1, e6.2] at ss
  refine g_eqSt hA E2 Eq (by omega) (ss.grow ggt (fun _ _ z => z) (fun z => z)) stt (by simp) (by simp) ?_
  rw [decide_eq_true (⟨rfl, rfl⟩ : y = y ∧ [x + y, 2 * x] = [x + y, 2 * x])]
  exact k _ ((d12.post ((G5.trans qs).trans ggt)).mono (by omega))
def PrA (m : Md) (A : Addr → Prop) (H : Hp) (t : Addr) (b : Int) (cs : List Int) : Prop := ∃ l, SqT m.K H t [.int b, .ref l] ∧ H l = some (.lst (cs.map V.int)) ∧ A l
theorem PrA.grow {m : Md} {A : Addr → Prop} {S : Addr → Prop} {T : List (Addr × Str)} {H H' : Hp} {t : Addr} {b : Int} {cs : List Int} (d : PrA m A H t b cs) (g : GrowX T S H H') (h : ∀ a, A a → ¬ S a) : PrA m A H' t b cs := by
  obtain ⟨l, h1, h2, h3⟩ := d
  exact ⟨l, GrowX.seqT g h1, g.ext _ _ (h l h3) h2 (fun _ z => by cases z), h3⟩
theorem PrA.prs {m : Md} {A : Addr → Prop} {H : Hp} {t : Addr} {b : Int} {cs : List Int} (d : PrA m A H t b cs) : Prs m H t b cs := by
  obtain ⟨l, h1, h2, _⟩ := d
  exact ⟨l, h1, h2⟩
theorem Drn.up {b : Int} {cs : List Int} (d : Drn 5 cs) (h : 0 ≤ b) : Up b cs := ⟨d.cor, d.len, fun c hc => by have := d.top c hc; have := d.len; omega, h⟩
def sp_law (m : Md) : Sp := fun vs H Q _ => ∃ (a : Addr) (ns : List Int), vs = [.ref a] ∧ SqL m.K H a (ns.map V.int) ∧ ns.length < 1000 ∧ Tabs m.T H ∧ ∀ H', Q (.bl true) H'
theorem f_law {m : Md} {C f : Addr} {fd : FuncData} (F : C8.Fun m.K "law" "law" st_law f fd) (hr : m.mg "range" = none) (D0 : Cal m 2 "_law_draw" (sp_draw m)) (Pu : Cal m 2 "_law_purses" (sp_purses m)) (Sr : Cal m 5 "_law_stair" (sp_stair m)) (Cn : Cal m 4 "_law_corners" (sp_corners m)) (Tg : Cal m 11 "_law_together_right" (sp_tog m)) (Gr : Cal m 11 "_law_great_right" (sp_great m)) (Bh : Cal m 11 "_law_behind_right" (sp_beh m)) : FnG m C8.CX0 12 f fd ps_law (sp_law m) := by
  refine fnG_of F sc_law (fun vs H Q E h => by obtain ⟨_, _, rfl, _⟩ := h; rfl) fun X vs H Q E hA hM h => ?_
  obtain ⟨a, ns, rfl, hs, hn, hT, k⟩ := h
  replace hA : At m nl_law (C8.fnScope st_law) 11 X := hA
  obtain ⟨n0, n1, n2, n3⟩ := nv_law
  walk_at "B"
  refine s_forL hA (pg_nc hA n3 hM.fn) ?_
  refine w_call hA Pu (by omega) rfl ?_
  walk_at "V"
  refine ⟨a, ns, 3, rfl, hs, hn, by omega, by omega, fun r ps H1 P hl => ?_⟩
  have hrp : ∀ q ∈ ps, r ≠ q := fun q hq w => (List.nodup_cons.1 P.nd).1 (w ▸ hq)
  have hnd := (List.nodup_cons.1 P.nd).2
  refine ⟨r, ps.map V.ref, rfl, P.seq, fun j (σ : L2.St) H' => σ = [some (.ref a), σ.getD 1 none, σ.getD 2 none, σ.getD 3 none, none] ∧ GrowX m.T (· ∈ ps) H1 H' ∧ ∀ q ∈ ps.drop j, Purse H' q 0, ⟨rfl, GrowX.refl, fun q hq => P.purse q (by simpa using hq)⟩, ?_, ?_, ?_⟩
  · rintro j σ H' _ ⟨_, gg, _⟩
    exact gg.seqL P.seq fun z => hrp r z rfl
  · rintro j x σ H' hx ⟨es, gg, hp⟩
    rw [List.getElem?_map] at hx
    obtain ⟨q, hq, rfl⟩ := Option.map_eq_some_iff.1 hx
    have hj : j < ps.length := (List.getElem?_eq_some_iff.1 hq).1
    have ed : ps.drop j = q :: ps.drop (j + 1) := by
      rw [List.drop_eq_getElem_cons hj, (List.getElem?_eq_some_iff.1 hq).2]
    have hqm := List.mem_of_getElem? hq
    have hpq := hp q (by rw [ed]; simp)
    have done : ∀ (HZ : Hp) (σ' : L2.St), σ' = [some (.ref a), σ'.getD 1 none, σ'.getD 2 none, σ'.getD 3 none, none] → GrowX m.T (· = q) H' HZ → σ' = [some (.ref a), σ'.getD 1 none, σ'.getD 2 none, σ'.getD 3 none, none] ∧ GrowX m.T (· ∈ ps) H1 HZ ∧ ∀ q ∈ ps.drop (j + 1), Purse HZ q 0 := by
      intro HZ σ' e g
      refine ⟨e, gg.trans (g.weak fun b z => by rw [z]; exact hqm), fun y hy => ?_⟩
      have hnd2 : (q :: ps.drop (j + 1)).Nodup := by rw [← ed]; exact hnd.sublist (List.drop_sublist _ _)
      exact (hp y (by rw [ed]; simp [hy])).x g fun z => (List.nodup_cons.1 hnd2).1 (z ▸ hy)
    rw [es]
    walk_at "B"
    refine s_lcR hA hr rfl n1 (by decide +kernel) (i := 4) ⟨rfl, rfl⟩ ?_
    walk_at "V"
    refine w_call hA D0 (by omega) rfl ?_
    walk_at "V"
    refine ⟨q, 0, _, rfl, hpq, by omega, by omega, by omega, fun z H2 z0 z1 d2 => ?_⟩
    walk_at "V"
    refine ⟨by omega, by omega, fun D hD => ?_⟩
    have hDq : D ≠ q := d2.purse.ne hD
    have hDn : New H' D := d2.grow.keep _ hD
    have gD0 := Grow.new (T := m.T) (o := .lst []) hD
    refine ⟨fun t HZ => ∃ ts : List (Addr × Int × List Int), Drew m q 0 (8 + 96 * t) H' HZ ∧ HZ D = some (.lst (ts.map fun s => V.ref s.1)) ∧ ts.length = t ∧ ∀ s ∈ ts, Drw m (fun a => a ≠ q ∧ a ≠ D) HZ s.1 s.2.1 s.2.2 ∧ Low s.2.1 s.2.2, ⟨[], (d2.post gD0).mono (by omega), upd_same, rfl, fun s hs => by simp at hs⟩, ?_, ?_⟩
    · rintro t HZ ht ⟨ts, dz, hd, htl, hts⟩ X' hX'
      have ht : t < 6 := by omega
      have c3 := nc_of hX' 3 "_law_purse_here"
      refine w_call hX' Sr (by omega) rfl ?_
      walk_at "V"
      refine ⟨q, _, 7, rfl, dz.purse, by omega, by omega, fun T r1 b cs H3 d3 nr1 hr1 dn hT1 b0 b1 => ?_⟩
      have hd3 := d3.grow.ext _ _ (fun w => hDq w) hd (fun _ z => by cases z)
      have gX := GrowX.lst (T := m.T) (ys := (ts.map fun s => V.ref s.1) ++ [V.ref T]) hd3
      have dd := dz.trans d3
      have hr1D : r1 ≠ D := fun w => by rw [w, New, hd] at nr1; cases nr1
      refine ⟨_, hd3, by rw [List.length_map, htl, sizeLine_eq]; omega, ts ++ [(T, b, cs)], ⟨dd.grow.into gX fun c w => .inl (by rw [w]; exact hDn), (dd.purse.x gX fun w => hDq w.symm).mono (by omega)⟩, by rw [upd_same, List.map_append]; rfl, by simp [htl], fun s hs => ?_⟩
      rcases List.mem_append.1 hs with w | w
      · obtain ⟨e1, e2⟩ := hts s w
        exact ⟨(e1.grow d3.grow fun a ha z => ha.1 z).grow gX fun a ha z => ha.2 z, e2⟩
      · obtain rfl := List.mem_singleton.1 w
        exact ⟨⟨r1, GrowX.seqT gX hT1, SqL.of (by rw [upd_ne hr1D]; exact hr1), dz.purse.ne nr1, hr1D⟩, dn.low b0 b1⟩
    rintro H3 ⟨ts, d3, hD3, htl, hts⟩
    walk_at "B"
    walk_at "V"
    refine w_call hA Tg (by omega) rfl ?_
    walk_at "V"
    refine ⟨q, D, _, ts, rfl, d3.purse, by omega, SqL.of hD3, hDq, fun s hs => ⟨?_, (hts s hs).2⟩, by omega, by omega, fun H4 d4 => ?_⟩
    · obtain ⟨l, e1, e2, e3⟩ := (hts s hs).1
      exact ⟨l, e1, e2, e3.1⟩
    walk_at "V"
    refine iteF ?_
    walk_at "V"
    refine w_call hA Gr (by omega) rfl ?_
    walk_at "V"
    have d34 := d3.trans d4
    refine ⟨q, _, rfl, d34.purse, by omega, fun H5 d5 => ?_⟩
    walk_at "V"
    refine iteF (b_nil ?_)
    have d35 := (d34.trans d5).mono (j := 700) (by omega)
    clear d34 d3 d4 d5 hts hD3
    walk_at "B"
    refine s_lcR hA hr rfl n2 (by decide +kernel) (i := 4) ⟨rfl, rfl⟩ ?_
    walk_at "V"
    refine ⟨by decide, by decide, fun D3 hD3 => ?_⟩
    have hDq3 : D3 ≠ q := d35.purse.ne hD3
    have hDn3 : New H' D3 := d35.grow.keep _ hD3
    have gD3 := Grow.new (T := m.T) (o := .lst []) hD3
    refine ⟨fun t HZ => ∃ ts : List (Addr × Int × List Int), Drew m q 0 (700 + 72 * t) H' HZ ∧ HZ D3 = some (.lst (ts.map fun s => V.ref s.1)) ∧ ts.length = t ∧ ∀ s ∈ ts, PrA m (fun a => a ≠ q ∧ a ≠ D3) HZ s.1 s.2.1 s.2.2 ∧ Up s.2.1 s.2.2, ⟨[], (d35.post gD3).mono (by omega), upd_same, rfl, fun s hs => by simp at hs⟩, ?_, ?_⟩
    · rintro t HZ ht ⟨ts, dz, hd, htl, hts⟩ X' hX'
      have ht : t < 3 := ht
      have c3 := nc_of hX' 3 "_law_purse_here"
      walk_at "V"
      refine w_call hX' D0 (by omega) rfl ?_
      walk_at "V"
      refine ⟨q, _, _, rfl, dz.purse, by omega, by omega, by omega, fun w H6 w0 w1 d6 => ?_⟩
      walk_at "V"
      refine w_call hX' Cn (by omega) rfl ?_
      walk_at "V"
      have dz6 := dz.trans d6
      refine ⟨q, _, 5, rfl, dz6.purse, by omega, by omega, fun r1 cs H7 d7 nr1 hr1 dn => ?_⟩
      walk_at "V"
      refine ⟨by walk_at "S", fun T hT => ?_⟩
      have gT := Grow.new (T := m.T) (o := .tup [V.int w, .ref r1]) hT
      have dz7 := (dz6.trans d7).post gT
      have hd6 := d6.grow.ext _ _ (fun w => hDq3 w) hd (fun _ z => by cases z)
      have hd7 := gT.extN _ _ (d7.grow.ext _ _ (fun w => hDq3 w) hd6 (fun _ z => by cases z)) (fun _ z => by cases z)
      have gX := GrowX.lst (T := m.T) (ys := (ts.map fun s => V.ref s.1) ++ [V.ref T]) hd7
      have hr1D : r1 ≠ D3 := fun w => by rw [w, New, hd6] at nr1; cases nr1
      have hr17 := gT.extN _ _ hr1 (fun _ z => by cases z)
      refine ⟨_, hd7, by rw [List.length_map, htl, sizeLine_eq]; omega, ts ++ [(T, w, cs)], ⟨dz7.grow.into gX fun c w => .inl (by rw [w]; exact hDn3), (dz7.purse.x gX fun w => hDq3 w.symm).mono (by omega)⟩, by rw [upd_same, List.map_append]; rfl, by simp [htl], fun s hs => ?_⟩
      rcases List.mem_append.1 hs with y | y
      · obtain ⟨e1, e2⟩ := hts s y
        exact ⟨(((e1.grow d6.grow fun a ha z => ha.1 z).grow d7.grow fun a ha z => ha.1 z).grow gT fun _ _ z => z).grow gX fun a ha z => ha.2 z, e2⟩
      · obtain rfl := List.mem_singleton.1 y
        exact ⟨⟨r1, GrowX.seqT gX (SqT.of upd_same), by rw [upd_ne hr1D]; exact hr17, dz6.purse.ne nr1, hr1D⟩, dn.up w0⟩
    rintro H6 ⟨ts, d6, hD6, htl, hts⟩
    have htl : ts.length = 3 := htl
    obtain ⟨s0, s1, s2, rfl⟩ : ∃ s0 s1 s2, ts = [s0, s1, s2] := by
      match ts, htl with
      | [s0, s1, s2], _ => exact ⟨s0, s1, s2, rfl⟩
    walk_at "B"
    walk_at "V"
    refine w_call hA Bh (by omega) rfl ?_
    walk_at "V"
    refine g_ixL hA (SqL.of hD6) (atI_at (j := 0) rfl) ?_
    walk_at "V"
    refine g_ixL hA (SqL.of hD6) (atI_at (j := 1) rfl) ?_
    walk_at "V"
    refine g_ixL hA (SqL.of hD6) (atI_at (j := 2) rfl) ?_
    walk_at "V"
    have e0 := hts s0 (by simp)
    have e1 := hts s1 (by simp)
    have e2 := hts s2 (by simp)
    refine ⟨s0.1, s1.1, s2.1, s0.2.1, s1.2.1, s2.2.1, s0.2.2, s1.2.2, s2.2.2, rfl, e0.1.prs, e1.1.prs, e2.1.prs, e0.2, e1.2, e2.2, fun H7 g7 => ?_⟩
    walk_at "V"
    refine iteF (b_nil (b_nil ?_))
    exact done _ _ rfl (d6.grow.trans g7.to)
  · rintro σ H' ⟨es, gg, _⟩
    rw [es]
    walk_at "B"
    walk_at "V"
    exact k _
/-! ### the head's facts -/
/-- a def of the top, as it stands in the written part -/
def DefF (K : PySem.W.Frag) (x : Str) (st : Stmt) : Prop := ∃ (f : Addr) (fd : FuncData), PySem.W.nsIn K mainGlobals x = some (some (.ref f)) ∧ C8.Fun K x x st f fd ∧ PySem.W.keepIn K (.ref f) = true ∧ fd.defaults = .none
theorem mk_def {K : PySem.W.Frag} {x : Str} {st : Stmt} {f : Addr} {od an : Option Addr} {oc kV doc pm cdv ct : Value} {osl : Array (Option Value)} (a : PySem.W.nsIn K mainGlobals x = some (some (.ref f)))
    (l : K.lookup f = some ⟨oc, od, .func (PySem.W.fnOf x x (C8.fnArgs st) (C8.fnBody st) (C8.fnScope st) .none kV doc pm an cdv ct), osl⟩) (c : PySem.W.codeIn K cdv x = true) (k : PySem.W.keepIn K (.ref f) = true) : DefF K x st :=
  ⟨f, _, a, ⟨⟨oc, od, .none, kV, doc, pm, an, cdv, ct, osl, rfl, l, c⟩⟩, k, rfl⟩
theorem DefF.def_ {K : PySem.W.Frag} {h : Heap} {mg : Str → Option Value} {x : Str} {st : Stmt} (D : DefF K x st) (X : K.In h) (G : h.Ns mainGlobals mg) : ∃ f fd, C8.Def K mg x st f fd ∧ fd.defaults = .none := by
  obtain ⟨f, fd, a, F, k, d⟩ := D
  exact ⟨f, fd, ⟨F, PySem.W.mg_of X G a, k⟩, d⟩
/-- a method -/
def MetF (K : PySem.W.Frag) (C : Addr) (x qual : Str) (st : Stmt) : Prop := ∃ (f : Addr) (fd : FuncData), C8.Fun K x qual st f fd ∧ Meth K C x f ∧ fd.defaults = .none
theorem mk_met {K : PySem.W.Frag} {C : Addr} {x qual : Str} {st : Stmt} {f : Addr} {od an : Option Addr} {oc kV doc pm cdv ct : Value} {osl : Array (Option Value)} (a : PySem.W.findIn K (.ref C) x = some (some (.ref f))) (i : PySem.W.isFn K (.ref f) = true)
    (l : K.lookup f = some ⟨oc, od, .func (PySem.W.fnOf x qual (C8.fnArgs st) (C8.fnBody st) (C8.fnScope st) .none kV doc pm an cdv ct), osl⟩) (c : PySem.W.codeIn K cdv qual = true) (k : PySem.W.keepIn K (.ref f) = true) : MetF K C x qual st :=
  ⟨f, _, ⟨⟨oc, od, .none, kV, doc, pm, an, cdv, ct, osl, rfl, l, c⟩⟩, ⟨a, i, k⟩, rfl⟩
/-- a property -/
def PropF (K : PySem.W.Frag) (C : Addr) (x qual : Str) (st : Stmt) : Prop := ∃ (p g : Addr) (fd : FuncData), PropOf K C x p g ∧ C8.Fun K x qual st g fd ∧ fd.defaults = .none
theorem mk_prop {K : PySem.W.Frag} {C : Addr} {x qual : Str} {st : Stmt} {p g : Addr} {rest : List Value} {od an : Option Addr} {oc kV doc pm cdv ct : Value} {osl : Array (Option Value)} (a : PySem.W.findIn K (.ref C) x = some (some (.ref p))) (s : PySem.W.specialIn K (.ref p) "__get__" = some (some (.builtin "property.__get__"))) (t : PySem.W.takesIn K (.ref p) = some true)
    (r : PySem.W.recIn K p "property" = some (.ref g :: rest)) (l : K.lookup g = some ⟨oc, od, .func (PySem.W.fnOf x qual (C8.fnArgs st) (C8.fnBody st) (C8.fnScope st) .none kV doc pm an cdv ct), osl⟩) (c : PySem.W.codeIn K cdv qual = true) : PropF K C x qual st :=
  ⟨p, g, _, ⟨a, s, t, rest, r⟩, ⟨⟨oc, od, .none, kV, doc, pm, an, cdv, ct, osl, rfl, l, c⟩⟩, rfl⟩
/-- the class of stairs -/
structure StaF (K : PySem.W.Frag) (C : Addr) : Prop where
  gR : PySem.W.nsIn K mainGlobals "Stair" = some (some (.ref C))
  pg : PySem.W.plainGet K C Str.empty = true
  hd : PySem.W.hasDictIn K C = true
  po : PySem.W.plainOver K C = true
  sa : PySem.W.findIn K (.ref C) "__setattr__" = some (some (.builtin "object.__setattr__"))
  nb : PySem.W.findIn K (.ref C) "_begin" = some none
  nc : PySem.W.findIn K (.ref C) "_corners" = some none
  ha : PySem.W.findIn K (.ref C) "__class__" = some (some (.builtin "object.__class__"))
  hn : PySem.W.specialIn K (.builtin "object.__class__") "__get__" = some (some (.builtin "getset_descriptor.__get__"))
  ht : PySem.W.takesIn K (.builtin "object.__class__") = some true
  hm : PySem.W.mroIn K C (.type "object") = some true
  own : PySem.W.kitOne K (.ref C) (.ref C) = some true
  oth : ∀ T ∈ ["NoneType", "bool", "int", "str", "list", "tuple", "dict"], PySem.W.kitOne K (.type T) (.ref C) = some false
  nfS : PySem.W.notFirst K C (.ref C) = true
  nfO : ∀ T ∈ ["NoneType", "bool", "int", "str", "list", "tuple", "dict"], PySem.W.notFirst K C (.type T) = true
  ne : PySem.W.findIn K (.ref C) "__ne__" = some (some (.builtin "object.__ne__"))
  mks : PySem.W.makesIn K C = true
  kc : PySem.W.keepIn K (.ref C) = true
theorem mk_most {K : PySem.W.Frag} {t : Tok} (h : PySem.W.nsIn K mainGlobals "MOST_STAIRS" = some (some (Value.int 6 t))) : ∃ t, PySem.W.nsIn K mainGlobals "MOST_STAIRS" = some (some (Value.int 6 t)) := ⟨t, h⟩
section
variable {P : Program} {w : World} {K : PySem.W.Frag} {mg : Str → Option Value} {h : Heap} {fa C : Addr}
theorem all_mk (X : K.In h) (G : h.Ns mainGlobals mg) (hfa : mg "law" = some (.ref fa))
    (dL : DefF K "law" st_law) (R0 : StaF K C) (hM : ∃ t, PySem.W.nsIn K mainGlobals "MOST_STAIRS" = some (some (Value.int 6 t)))
    (m_init : MetF K C "__init__" "Stair.__init__" st_Stair_init) (m_value : MetF K C "value" "Stair.value" st_Stair_value) (m_undone : MetF K C "undone" "Stair.undone" st_Stair_undone) (m_eq : MetF K C "__eq__" "Stair.__eq__" st_Stair_eq)
    (p_begin : PropF K C "begin" "Stair.begin" st_Stair_begin) (p_corners : PropF K C "corners" "Stair.corners" st_Stair_corners)
    (d_is_whole : DefF K "is_whole" st_is_whole) (d_is_count : DefF K "is_count" st_is_count) (d_need_whole : DefF K "need_whole" st_need_whole) (d_need_count_from : DefF K "need_count_from" st_need_count_from) (d_x_are_corners : DefF K "_are_corners" st_x_are_corners) (d_x_course : DefF K "_course" st_x_course) (d_x_along : DefF K "_along" st_x_along) (d_need_stair : DefF K "need_stair" st_need_stair) (d_x_need_stairs : DefF K "_need_stairs" st_x_need_stairs) (d_first_of : DefF K "first_of" st_first_of) (d_last_of : DefF K "last_of" st_last_of) (d_rank_of : DefF K "rank_of" st_rank_of) (d_stair_of_rank : DefF K "stair_of_rank" st_stair_of_rank) (d_x_stair_of_rank_at_once : DefF K "_stair_of_rank_at_once" st_x_stair_of_rank_at_once) (d_x_corners_of : DefF K "_corners_of" st_x_corners_of) (d_x_crossings : DefF K "_crossings" st_x_crossings) (d_put_behind : DefF K "put_behind" st_put_behind) (d_x_first_count : DefF K "_first_count" st_x_first_count) (d_purse : DefF K "_law_purse" st_purse) (d_mixed : DefF K "_law_mixed" st_mixed) (d_draw : DefF K "_law_draw" st_draw) (d_purses : DefF K "_law_purses" st_purses) (d_one_of : DefF K "_law_one_of" st_one_of) (d_height : DefF K "_law_height" st_height) (d_corners : DefF K "_law_corners" st_corners) (d_stair : DefF K "_law_stair" st_stair) (d_alike : DefF K "_law_alike" st_alike) (d_together_right : DefF K "_law_together_right" st_together_right) (d_behind_right : DefF K "_law_behind_right" st_behind_right) (d_great_right : DefF K "_law_great_right" st_great_right)
    (z_isinstance : PySem.W.nsIn K mainGlobals "isinstance" = some none) (z_int : PySem.W.nsIn K mainGlobals "int" = some none) (z_bool : PySem.W.nsIn K mainGlobals "bool" = some none) (z_len : PySem.W.nsIn K mainGlobals "len" = some none) (z_all : PySem.W.nsIn K mainGlobals "all" = some none) (z_list : PySem.W.nsIn K mainGlobals "list" = some none) (z_min : PySem.W.nsIn K mainGlobals "min" = some none) (z_max : PySem.W.nsIn K mainGlobals "max" = some none) (z_sum : PySem.W.nsIn K mainGlobals "sum" = some none) (z_range : PySem.W.nsIn K mainGlobals "range" = some none) (z_zip : PySem.W.nsIn K mainGlobals "zip" = some none) (z_enumerate : PySem.W.nsIn K mainGlobals "enumerate" = some none) (z_sorted : PySem.W.nsIn K mainGlobals "sorted" = some none) (z_set : PySem.W.nsIn K mainGlobals "set" = some none) (z_abs : PySem.W.nsIn K mainGlobals "abs" = some none)
    : ∃ fd cs T sp, LawG P w K C8.CX0 12 63 "_law_script" mg fa h fd cs T sp := by
  obtain ⟨f_is_whole, fd_is_whole, F_is_whole, e_is_whole⟩ := d_is_whole.def_ X G
  have b_is_whole := F_is_whole.fn.binds e_is_whole (ps := ps_is_whole) fun _ _ _ _ _ _ us hl => match us, hl with | [_], _ => rfl
  obtain ⟨f_is_count, fd_is_count, F_is_count, e_is_count⟩ := d_is_count.def_ X G
  have b_is_count := F_is_count.fn.binds e_is_count (ps := ps_is_count) fun _ _ _ _ _ _ us hl => match us, hl with | [_], _ => rfl
  obtain ⟨f_need_whole, fd_need_whole, F_need_whole, e_need_whole⟩ := d_need_whole.def_ X G
  have b_need_whole := F_need_whole.fn.binds e_need_whole (ps := ps_need_whole) fun _ _ _ _ _ _ us hl => match us, hl with | [_], _ => rfl
  obtain ⟨f_need_count_from, fd_need_count_from, F_need_count_from, e_need_count_from⟩ := d_need_count_from.def_ X G
  have b_need_count_from := F_need_count_from.fn.binds e_need_count_from (ps := ps_need_count_from) fun _ _ _ _ _ _ us hl => match us, hl with | [_, _], _ => rfl
  obtain ⟨f_x_are_corners, fd_x_are_corners, F_x_are_corners, e_x_are_corners⟩ := d_x_are_corners.def_ X G
  have b_x_are_corners := F_x_are_corners.fn.binds e_x_are_corners (ps := ps_x_are_corners) fun _ _ _ _ _ _ us hl => match us, hl with | [_], _ => rfl
  obtain ⟨f_x_course, fd_x_course, F_x_course, e_x_course⟩ := d_x_course.def_ X G
  have b_x_course := F_x_course.fn.binds e_x_course (ps := ps_x_course) fun _ _ _ _ _ _ us hl => match us, hl with | [_, _], _ => rfl
  obtain ⟨f_x_along, fd_x_along, F_x_along, e_x_along⟩ := d_x_along.def_ X G
  have b_x_along := F_x_along.fn.binds e_x_along (ps := ps_x_along) fun _ _ _ _ _ _ us hl => match us, hl with | [_, _], _ => rfl
  obtain ⟨f_need_stair, fd_need_stair, F_need_stair, e_need_stair⟩ := d_need_stair.def_ X G
  have b_need_stair := F_need_stair.fn.binds e_need_stair (ps := ps_need_stair) fun _ _ _ _ _ _ us hl => match us, hl with | [_], _ => rfl
  obtain ⟨f_x_need_stairs, fd_x_need_stairs, F_x_need_stairs, e_x_need_stairs⟩ := d_x_need_stairs.def_ X G
  have b_x_need_stairs := F_x_need_stairs.fn.binds e_x_need_stairs (ps := ps_x_need_stairs) fun _ _ _ _ _ _ us hl => match us, hl with | [_], _ => rfl
  obtain ⟨f_first_of, fd_first_of, F_first_of, e_first_of⟩ := d_first_of.def_ X G
  have b_first_of := F_first_of.fn.binds e_first_of (ps := ps_first_of) fun _ _ _ _ _ _ us hl => match us, hl with | [_], _ => rfl
  obtain ⟨f_last_of, fd_last_of, F_last_of, e_last_of⟩ := d_last_of.def_ X G
  have b_last_of := F_last_of.fn.binds e_last_of (ps := ps_last_of) fun _ _ _ _ _ _ us hl => match us, hl with | [_], _ => rfl
  obtain ⟨f_rank_of, fd_rank_of, F_rank_of, e_rank_of⟩ := d_rank_of.def_ X G
  have b_rank_of := F_rank_of.fn.binds e_rank_of (ps := ps_rank_of) fun _ _ _ _ _ _ us hl => match us, hl with | [_, _], _ => rfl
  obtain ⟨f_stair_of_rank, fd_stair_of_rank, F_stair_of_rank, e_stair_of_rank⟩ := d_stair_of_rank.def_ X G
  have b_stair_of_rank := F_stair_of_rank.fn.binds e_stair_of_rank (ps := ps_stair_of_rank) fun _ _ _ _ _ _ us hl => match us, hl with | [_, _], _ => rfl
  obtain ⟨f_x_stair_of_rank_at_once, fd_x_stair_of_rank_at_once, F_x_stair_of_rank_at_once, e_x_stair_of_rank_at_once⟩ := d_x_stair_of_rank_at_once.def_ X G
  have b_x_stair_of_rank_at_once := F_x_stair_of_rank_at_once.fn.binds e_x_stair_of_rank_at_once (ps := ps_x_stair_of_rank_at_once) fun _ _ _ _ _ _ us hl => match us, hl with | [_, _], _ => rfl
  obtain ⟨f_x_corners_of, fd_x_corners_of, F_x_corners_of, e_x_corners_of⟩ := d_x_corners_of.def_ X G
  have b_x_corners_of := F_x_corners_of.fn.binds e_x_corners_of (ps := ps_x_corners_of) fun _ _ _ _ _ _ us hl => match us, hl with | [_], _ => rfl
  obtain ⟨f_x_crossings, fd_x_crossings, F_x_crossings, e_x_crossings⟩ := d_x_crossings.def_ X G
  have b_x_crossings := F_x_crossings.fn.binds e_x_crossings (ps := ps_x_crossings) fun _ _ _ _ _ _ us hl => match us, hl with | [_, _], _ => rfl
  obtain ⟨f_put_behind, fd_put_behind, F_put_behind, e_put_behind⟩ := d_put_behind.def_ X G
  have b_put_behind := F_put_behind.fn.binds e_put_behind (ps := ps_put_behind) fun _ _ _ _ _ _ us hl => match us, hl with | [_, _], _ => rfl
  obtain ⟨f_x_first_count, fd_x_first_count, F_x_first_count, e_x_first_count⟩ := d_x_first_count.def_ X G
  have b_x_first_count := F_x_first_count.fn.binds e_x_first_count (ps := ps_x_first_count) fun _ _ _ _ _ _ us hl => match us, hl with | [_, _], _ => rfl
  obtain ⟨f_purse, fd_purse, F_purse, e_purse⟩ := d_purse.def_ X G
  have b_purse := F_purse.fn.binds e_purse (ps := ps_purse) fun _ _ _ _ _ _ us hl => match us, hl with | [_, _], _ => rfl
  obtain ⟨f_mixed, fd_mixed, F_mixed, e_mixed⟩ := d_mixed.def_ X G
  have b_mixed := F_mixed.fn.binds e_mixed (ps := ps_mixed) fun _ _ _ _ _ _ us hl => match us, hl with | [_, _, _], _ => rfl
  obtain ⟨f_draw, fd_draw, F_draw, e_draw⟩ := d_draw.def_ X G
  have b_draw := F_draw.fn.binds e_draw (ps := ps_draw) fun _ _ _ _ _ _ us hl => match us, hl with | [_, _], _ => rfl
  obtain ⟨f_purses, fd_purses, F_purses, e_purses⟩ := d_purses.def_ X G
  have b_purses := F_purses.fn.binds e_purses (ps := ps_purses) fun _ _ _ _ _ _ us hl => match us, hl with | [_, _], _ => rfl
  obtain ⟨f_one_of, fd_one_of, F_one_of, e_one_of⟩ := d_one_of.def_ X G
  have b_one_of := F_one_of.fn.binds e_one_of (ps := ps_one_of) fun _ _ _ _ _ _ us hl => match us, hl with | [_, _], _ => rfl
  obtain ⟨f_height, fd_height, F_height, e_height⟩ := d_height.def_ X G
  have b_height := F_height.fn.binds e_height (ps := ps_height) fun _ _ _ _ _ _ us hl => match us, hl with | [_, _, _], _ => rfl
  obtain ⟨f_corners, fd_corners, F_corners, e_corners⟩ := d_corners.def_ X G
  have b_corners := F_corners.fn.binds e_corners (ps := ps_corners) fun _ _ _ _ _ _ us hl => match us, hl with | [_, _], _ => rfl
  obtain ⟨f_stair, fd_stair, F_stair, e_stair⟩ := d_stair.def_ X G
  have b_stair := F_stair.fn.binds e_stair (ps := ps_stair) fun _ _ _ _ _ _ us hl => match us, hl with | [_, _], _ => rfl
  obtain ⟨f_alike, fd_alike, F_alike, e_alike⟩ := d_alike.def_ X G
  have b_alike := F_alike.fn.binds e_alike (ps := ps_alike) fun _ _ _ _ _ _ us hl => match us, hl with | [_, _], _ => rfl
  obtain ⟨f_together_right, fd_together_right, F_together_right, e_together_right⟩ := d_together_right.def_ X G
  have b_together_right := F_together_right.fn.binds e_together_right (ps := ps_together_right) fun _ _ _ _ _ _ us hl => match us, hl with | [_, _], _ => rfl
  obtain ⟨f_behind_right, fd_behind_right, F_behind_right, e_behind_right⟩ := d_behind_right.def_ X G
  have b_behind_right := F_behind_right.fn.binds e_behind_right (ps := ps_behind_right) fun _ _ _ _ _ _ us hl => match us, hl with | [_, _, _], _ => rfl
  obtain ⟨f_great_right, fd_great_right, F_great_right, e_great_right⟩ := d_great_right.def_ X G
  have b_great_right := F_great_right.fn.binds e_great_right (ps := ps_great_right) fun _ _ _ _ _ _ us hl => match us, hl with | [_], _ => rfl
  obtain ⟨f_law, fd_law, F_law, e_law⟩ := dL.def_ X G
  obtain ⟨f_minit, fd_minit, F_minit, M_minit, e_minit⟩ := m_init
  have b_minit := F_minit.binds e_minit (ps := ps_Stair_init) fun _ _ _ _ _ _ us hl => match us, hl with | [_, _, _], _ => rfl
  obtain ⟨f_mvalue, fd_mvalue, F_mvalue, M_mvalue, e_mvalue⟩ := m_value
  have b_mvalue := F_mvalue.binds e_mvalue (ps := ps_Stair_value) fun _ _ _ _ _ _ us hl => match us, hl with | [_, _], _ => rfl
  obtain ⟨f_mundone, fd_mundone, F_mundone, M_mundone, e_mundone⟩ := m_undone
  have b_mundone := F_mundone.binds e_mundone (ps := ps_Stair_undone) fun _ _ _ _ _ _ us hl => match us, hl with | [_, _], _ => rfl
  obtain ⟨f_meq, fd_meq, F_meq, M_meq, e_meq⟩ := m_eq
  have b_meq := F_meq.binds e_meq (ps := ps_Stair_eq) fun _ _ _ _ _ _ us hl => match us, hl with | [_, _], _ => rfl
  obtain ⟨q_pbegin, f_pbegin, fd_pbegin, P_pbegin, F_pbegin, e_pbegin⟩ := p_begin
  have b_pbegin := F_pbegin.binds e_pbegin (ps := ps_Stair_begin) fun _ _ _ _ _ _ us hl => match us, hl with | [_], _ => rfl
  obtain ⟨q_pcorners, f_pcorners, fd_pcorners, P_pcorners, F_pcorners, e_pcorners⟩ := p_corners
  have b_pcorners := F_pcorners.binds e_pcorners (ps := ps_Stair_corners) fun _ _ _ _ _ _ us hl => match us, hl with | [_], _ => rfl
  have n_isinstance := PySem.W.mg_none_of X G z_isinstance
  have n_int := PySem.W.mg_none_of X G z_int
  have n_bool := PySem.W.mg_none_of X G z_bool
  have n_len := PySem.W.mg_none_of X G z_len
  have n_all := PySem.W.mg_none_of X G z_all
  have n_list := PySem.W.mg_none_of X G z_list
  have n_min := PySem.W.mg_none_of X G z_min
  have n_max := PySem.W.mg_none_of X G z_max
  have n_sum := PySem.W.mg_none_of X G z_sum
  have n_range := PySem.W.mg_none_of X G z_range
  have n_zip := PySem.W.mg_none_of X G z_zip
  have n_enumerate := PySem.W.mg_none_of X G z_enumerate
  have n_sorted := PySem.W.mg_none_of X G z_sorted
  have n_set := PySem.W.mg_none_of X G z_set
  have n_abs := PySem.W.mg_none_of X G z_abs
  have e := hfa.symm.trans F_law.mgf
  cases e
  refine ⟨fd_law, [], [], sp_law ⟨P, w, K, mg, h, []⟩, ?_⟩
  refine ⟨fun p hp => by simp at hp, fun p hp => by simp at hp, fun p hp => by simp at hp, ?_, ?_, ?_⟩
  · intro s u
    obtain ⟨oc, od, dV, kV, doc, pm, an, cdv, ct, osl, hfd, lk, hcd⟩ := F_law.fn.ex
    have e0 : dV = .none := by have := e_law; rw [hfd] at this; exact this
    subst e0
    subst hfd
    exact .of_eq rfl
  · intro H a ns hl _ hH hS
    exact ⟨a, ns, rfl, hS, by omega, fun p hp => by simp at hp, fun _ => rfl⟩
  · intro base GB XB TB
    obtain ⟨m, hm⟩ : ∃ m : Md, m = ⟨P, w, K, mg, base, []⟩ := ⟨_, rfl⟩
    rw [← hm]
    have hK : m.K = K := by rw [hm]
    have hg : m.mg = mg := by rw [hm]
    have hb : m.base = base := by rw [hm]
    have hTT : m.T = [] := by rw [hm]
    clear hm
    subst hK hg hb
    have R : StC m C := ⟨⟨R0.pg, R0.hd, R0.po, R0.sa⟩, R0.nb, R0.nc, PySem.W.mg_of X G R0.gR⟩
    have tyS : ∀ (H : Hp) (i dx : Addr) (fs : List (Str × V)), H i = some (.ins C dx fs) → TyX m.K H (.ref i) (.ref C) := fun H i dx fs hi => .base (.ins hi R.cl R0.ha R0.hn R0.ht R0.hm)
    obtain ⟨tk, hM⟩ := hM
    have gM := PySem.W.mg_of X G hM
    have gb := m_begin R F_pbegin
    have gc := m_corn R n_list F_pcorners
    have PR : Prp m C := ⟨⟨q_pbegin, f_pbegin, fd_pbegin, P_pbegin, gb, b_pbegin⟩, ⟨q_pcorners, f_pcorners, fd_pcorners, P_pcorners, gc, b_pcorners⟩⟩
    have E2 : StE m C := ⟨tyS, R0.nfS, R0.nfO, R0.ne, R0.hm⟩
    have c1 := c_is_whole F_is_whole b_is_whole n_isinstance n_int n_bool
    have c2 := c_is_count F_is_count b_is_count c1
    have c3 := c_need_whole F_need_whole b_need_whole c1
    have c4 := c_need_count F_need_count_from b_need_count_from c2
    have c5 := c_are F_x_are_corners b_x_are_corners n_isinstance n_list n_all n_range n_len c2
    have c6 := c_course F_x_course b_x_course R n_len P_pbegin gb b_pbegin P_pcorners gc b_pcorners
    have mI := f_sinit R n_list F_minit c3 c5
    have MK : MakX m C8.CX0 4 "Stair" C (sp_sinit m C) [] := ⟨f_minit, fd_minit, ps_Stair_init, [], mI, ⟨R0.mks, M_minit.at_, M_minit.fn, R0.kc⟩, PySem.W.mg_of X G R0.gR, b_minit, .nil⟩
    have mV := m_value R F_mvalue b_mvalue M_mvalue c4 c6
    have mU := m_undone R n_zip F_mundone b_mundone M_mundone c3 c6
    have mQ := m_seq R n_isinstance F_meq b_meq M_meq tyS R0.own R0.oth
    have cCo := c_co F_x_corners_of b_x_corners_of R PR n_sorted n_set
    have cNs := c_need_stair R n_isinstance F_need_stair b_need_stair tyS R0.own
    have cCr := c_cross F_x_crossings b_x_crossings n_zip n_abs cCo c6
    have cAl := c_along F_x_along b_x_along n_zip n_len MK
    have cOn := c_once F_x_stair_of_rank_at_once b_x_stair_of_rank_at_once n_zip n_enumerate n_sorted n_set cCo c6 cCr cAl
    have cNe := c_need_stairs R n_isinstance n_list n_len n_all gM F_x_need_stairs b_x_need_stairs tyS R0.own
    have cRa := c_rank n_len F_stair_of_rank b_stair_of_rank cOn
    have cFi := c_first F_first_of b_first_of cNe cRa
    have cLa := c_last n_len F_last_of b_last_of cNe cRa
    have cRo := c_rankof n_len F_rank_of b_rank_of c4 cNe cRa
    have cFc := c_fcount F_x_first_count b_x_first_count mU
    have cPb := c_behind F_put_behind b_put_behind R PR n_zip n_sorted n_set cNs cCo c6 cFc cAl
    have l1 := c_mixed F_mixed b_mixed
    have l2 := c_draw F_draw b_draw n_range l1
    have l3 := c_purse F_purse b_purse n_sum n_max
    have l4 := c_purses F_purses b_purses n_range n_max n_min n_len l3
    have l5 := c_one_of F_one_of b_one_of n_len l2
    have l6 := c_corners F_corners b_corners n_range l2 l5
    have l7 := c_stair F_stair b_stair l2 l6
    have l8 := c_height F_height b_height n_range n_len n_int n_min n_max
    have l9 := c_alike F_alike b_alike R PR n_range n_len
    have l10 := c_tog F_together_right b_together_right MK n_list n_range n_len n_int n_sorted E2 mQ mV l2 l8 l9 cFi cLa cRo
    have l11 := c_beh F_behind_right b_behind_right MK n_range E2 mQ mV l8 l9 cPb
    have l12 := c_great F_great_right b_great_right MK E2 mQ l2 cFi cLa cRo cPb
    refine (f_law (C := C) F_law.fn n_range l2 l4 l7 l6 l10 l12 l11).imp fun vs H Q E z => ?_
    obtain ⟨a, ns, e, hs, hn, hT, k⟩ := z
    exact ⟨a, ns, e, hs, hn, by rw [hTT]; exact hT, k⟩
end
end Vf
open PySem PySem.W PyProof.Rows
set_option maxRecDepth 100000 in
set_option maxHeartbeats 0 in
theorem PySem.Challenge.cw_leafwaits_k44_whole_stairs_put_together_holds : PySem.Challenge.rw_leafwaits_k44_whole_stairs_put_together.Holds := by
  w_on; o_law; k_head; (case hw => w_witness2)
  k_fill
  refine Vf.walkG (l := PySem.Challenge.rw_leafwaits_k44_whole_stairs_put_together) (n := 63) (k := 12) (x := "_law_script") (CX := fun _ => C8.CX0) rfl (by decide) rfl ⟨rfl, by decide, by decide⟩ (fun w h Y => PySem.W.kIn_of Y) ?F (fun _ _ _ _ _ z => z)
  case F =>
    intro w mg fa h Y KX G hmg
    refine' Vf.all_mk KX G hmg ?dL ?R0 ?hM ?m_init ?m_value ?m_undone ?m_eq ?p_begin ?p_corners ?d_is_whole ?d_is_count ?d_need_whole ?d_need_count_from ?d_x_are_corners ?d_x_course ?d_x_along ?d_need_stair ?d_x_need_stairs ?d_first_of ?d_last_of ?d_rank_of ?d_stair_of_rank ?d_x_stair_of_rank_at_once ?d_x_corners_of ?d_x_crossings ?d_put_behind ?d_x_first_count ?d_purse ?d_mixed ?d_draw ?d_purses ?d_one_of ?d_height ?d_corners ?d_stair ?d_alike ?d_together_right ?d_behind_right ?d_great_right ?z_isinstance ?z_int ?z_bool ?z_len ?z_all ?z_list ?z_min ?z_max ?z_sum ?z_range ?z_zip ?z_enumerate ?z_sorted ?z_set ?z_abs
    (case dL => (refine' Vf.mk_def ?a ?l ?c ?k; (case a => k_is); (case l => k_is); (case c => k_is); (case k => k_is)))
    (case R0 =>
      refine' ⟨?gR, ?pg, ?hd, ?po, ?sa, ?nb, ?nc, ?ha, ?hn, ?ht, ?hm, ?own, ?oth, ?nfS, ?nfO, ?ne, ?mks, ?kc⟩
      (case gR => k_is); (case pg => k_is); (case hd => k_is); (case po => k_is); (case sa => k_is); (case nb => k_is); (case nc => k_is); (case ha => k_is); (case hn => k_is); (case ht => k_is); (case hm => k_is)
      (case own => first | k_is | kernel_rfl)
      (case oth => intro T hT; simp only [List.mem_cons, List.not_mem_nil, or_false] at hT; rcases hT with rfl | rfl | rfl | rfl | rfl | rfl | rfl <;> first | k_is | kernel_rfl)
      (case nfS => k_is)
      (case nfO => intro T hT; simp only [List.mem_cons, List.not_mem_nil, or_false] at hT; rcases hT with rfl | rfl | rfl | rfl | rfl | rfl | rfl <;> k_is)
      (case ne => k_is); (case mks => k_is); (case kc => k_is))
    (case hM => (refine' Vf.mk_most ?h; (case h => k_is)))
    (case m_init => (refine' Vf.mk_met ?a ?i ?l ?c ?k; (case a => k_is); (case i => k_is); (case l => k_is); (case c => k_is); (case k => k_is)))
    (case m_value => (refine' Vf.mk_met ?a ?i ?l ?c ?k; (case a => k_is); (case i => k_is); (case l => k_is); (case c => k_is); (case k => k_is)))
    (case m_undone => (refine' Vf.mk_met ?a ?i ?l ?c ?k; (case a => k_is); (case i => k_is); (case l => k_is); (case c => k_is); (case k => k_is)))
    (case m_eq => (refine' Vf.mk_met ?a ?i ?l ?c ?k; (case a => k_is); (case i => k_is); (case l => k_is); (case c => k_is); (case k => k_is)))
    (case p_begin => (refine' Vf.mk_prop ?a ?s ?t ?r ?l ?c; (case a => k_is); (case s => k_is); (case t => k_is); (case r => k_is); (case l => k_is); (case c => k_is)))
    (case p_corners => (refine' Vf.mk_prop ?a ?s ?t ?r ?l ?c; (case a => k_is); (case s => k_is); (case t => k_is); (case r => k_is); (case l => k_is); (case c => k_is)))
    (case d_is_whole => (refine' Vf.mk_def ?a ?l ?c ?k; (case a => k_is); (case l => k_is); (case c => k_is); (case k => k_is)))
    (case d_is_count => (refine' Vf.mk_def ?a ?l ?c ?k; (case a => k_is); (case l => k_is); (case c => k_is); (case k => k_is)))
    (case d_need_whole => (refine' Vf.mk_def ?a ?l ?c ?k; (case a => k_is); (case l => k_is); (case c => k_is); (case k => k_is)))
    (case d_need_count_from => (refine' Vf.mk_def ?a ?l ?c ?k; (case a => k_is); (case l => k_is); (case c => k_is); (case k => k_is)))
    (case d_x_are_corners => (refine' Vf.mk_def ?a ?l ?c ?k; (case a => k_is); (case l => k_is); (case c => k_is); (case k => k_is)))
    (case d_x_course => (refine' Vf.mk_def ?a ?l ?c ?k; (case a => k_is); (case l => k_is); (case c => k_is); (case k => k_is)))
    (case d_x_along => (refine' Vf.mk_def ?a ?l ?c ?k; (case a => k_is); (case l => k_is); (case c => k_is); (case k => k_is)))
    (case d_need_stair => (refine' Vf.mk_def ?a ?l ?c ?k; (case a => k_is); (case l => k_is); (case c => k_is); (case k => k_is)))
    (case d_x_need_stairs => (refine' Vf.mk_def ?a ?l ?c ?k; (case a => k_is); (case l => k_is); (case c => k_is); (case k => k_is)))
    (case d_first_of => (refine' Vf.mk_def ?a ?l ?c ?k; (case a => k_is); (case l => k_is); (case c => k_is); (case k => k_is)))
    (case d_last_of => (refine' Vf.mk_def ?a ?l ?c ?k; (case a => k_is); (case l => k_is); (case c => k_is); (case k => k_is)))
    (case d_rank_of => (refine' Vf.mk_def ?a ?l ?c ?k; (case a => k_is); (case l => k_is); (case c => k_is); (case k => k_is)))
    (case d_stair_of_rank => (refine' Vf.mk_def ?a ?l ?c ?k; (case a => k_is); (case l => k_is); (case c => k_is); (case k => k_is)))
    (case d_x_stair_of_rank_at_once => (refine' Vf.mk_def ?a ?l ?c ?k; (case a => k_is); (case l => k_is); (case c => k_is); (case k => k_is)))
    (case d_x_corners_of => (refine' Vf.mk_def ?a ?l ?c ?k; (case a => k_is); (case l => k_is); (case c => k_is); (case k => k_is)))
    (case d_x_crossings => (refine' Vf.mk_def ?a ?l ?c ?k; (case a => k_is); (case l => k_is); (case c => k_is); (case k => k_is)))
    (case d_put_behind => (refine' Vf.mk_def ?a ?l ?c ?k; (case a => k_is); (case l => k_is); (case c => k_is); (case k => k_is)))
    (case d_x_first_count => (refine' Vf.mk_def ?a ?l ?c ?k; (case a => k_is); (case l => k_is); (case c => k_is); (case k => k_is)))
    (case d_purse => (refine' Vf.mk_def ?a ?l ?c ?k; (case a => k_is); (case l => k_is); (case c => k_is); (case k => k_is)))
    (case d_mixed => (refine' Vf.mk_def ?a ?l ?c ?k; (case a => k_is); (case l => k_is); (case c => k_is); (case k => k_is)))
    (case d_draw => (refine' Vf.mk_def ?a ?l ?c ?k; (case a => k_is); (case l => k_is); (case c => k_is); (case k => k_is)))
    (case d_purses => (refine' Vf.mk_def ?a ?l ?c ?k; (case a => k_is); (case l => k_is); (case c => k_is); (case k => k_is)))
    (case d_one_of => (refine' Vf.mk_def ?a ?l ?c ?k; (case a => k_is); (case l => k_is); (case c => k_is); (case k => k_is)))
    (case d_height => (refine' Vf.mk_def ?a ?l ?c ?k; (case a => k_is); (case l => k_is); (case c => k_is); (case k => k_is)))
    (case d_corners => (refine' Vf.mk_def ?a ?l ?c ?k; (case a => k_is); (case l => k_is); (case c => k_is); (case k => k_is)))
    (case d_stair => (refine' Vf.mk_def ?a ?l ?c ?k; (case a => k_is); (case l => k_is); (case c => k_is); (case k => k_is)))
    (case d_alike => (refine' Vf.mk_def ?a ?l ?c ?k; (case a => k_is); (case l => k_is); (case c => k_is); (case k => k_is)))
    (case d_together_right => (refine' Vf.mk_def ?a ?l ?c ?k; (case a => k_is); (case l => k_is); (case c => k_is); (case k => k_is)))
    (case d_behind_right => (refine' Vf.mk_def ?a ?l ?c ?k; (case a => k_is); (case l => k_is); (case c => k_is); (case k => k_is)))
    (case d_great_right => (refine' Vf.mk_def ?a ?l ?c ?k; (case a => k_is); (case l => k_is); (case c => k_is); (case k => k_is)))
    (case z_isinstance => k_is)
    (case z_int => k_is)
    (case z_bool => k_is)
    (case z_len => k_is)
    (case z_all => k_is)
    (case z_list => k_is)
    (case z_min => k_is)
    (case z_max => k_is)
    (case z_sum => k_is)
    (case z_range => k_is)
    (case z_zip => k_is)
    (case z_enumerate => k_is)
    (case z_sorted => k_is)
    (case z_set => k_is)
    (case z_abs => k_is)
