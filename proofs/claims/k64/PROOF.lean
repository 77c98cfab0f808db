import PyProof.Rows.All
import Wide.All
import OpenK.AllK
import Wide.FinOn
import HandS.ForMost
import HandS.ForExc
import HandS.Codes
import HandS.Wide
import HandS.WideBits
import HandS.Deep
import HandS.More
import HandS.Flow
import HandS.Lambda
import HandS.Nested
import HandS.EndTab
import PyProof.Rows.RegFStrParts
import HandS.OwnEq
import HandS.IsInst
import HandS.ExcInit
import HandS.ExcField
import HandS.Walk
import HandS.Text
import PyProof.EqKinds
import HandS.Zip
import HandS.Style
import HandS.Property
import HandS.SetFor
import HandS.Strs
import HandS.SetTxt0
import HandS.TupSets
import PyProof.Rows.SortShellAny
import HandS.SortInts
import PyProof.Rows.StrMeet
import HandS.DeepEq
import HandS.TupLen
import HandS.Dict
import KE.KDictPairs
import KE.KDictKeyed
import HandS.DictComp
import HandS.SortKw
import KE.KMinKey
import KE.KSorted
import HandS.DictTup
import HandS.Star
import HandS.ListItems
import KE.KDictItemsList
import HandS.Defaults
import PySem.Challenge.RW_leafwaits_k64_whole_fits_and_clashes
set_option Elab.async false
set_option linter.all false
set_option maxRecDepth 100000
set_option maxHeartbeats 4000000
set_option maxRecDepth 100000
set_option maxHeartbeats 4000000
/-! Core: the layer's judgements as weakest preconditions over the syntax. Own work. -/
namespace Vf
open PySem PySem.Spec PyProof.Rows L2

/-! ### canonical readings -/
@[irreducible] def wE (X : Cx) (e : Expr) : TE := fun σ H Q => ∀ (pins : List (Addr × Obj)) (s : Shared), Inv X pins σ H s → wpAny (model X.prog X.w) X.A (eval e X.env) (EP X pins σ Q) X.xe s
@[irreducible] def wT (X : Cx) (e : Expr) : TT := fun σ H Q => ∀ (pins : List (Addr × Obj)) (s : Shared), Inv X pins σ H s → wpAny (model X.prog X.w) X.A (isTrue e X.env (eval e X.env)) (TP X pins σ Q) X.xe s
@[irreducible] def wW (X : Cx) (e : Expr) : TT := fun σ H Q => ∀ (whole : Sem Value) (pins : List (Addr × Obj)) (s : Shared), Inv X pins σ H s → wpAny (model X.prog X.w) X.A (isTrue e X.env whole) (TP X pins σ Q) X.xe s
@[irreducible] def wA (X : Cx) (es : List Expr) : TA := fun σ H Q => ∀ (pos : Pos) (pins : List (Addr × Obj)) (s : Shared), Inv X pins σ H s → wpAny (model X.prog X.w) X.A (spliced (backTo pos (starEach es X.env))) (AP X pins σ Q) X.xe s
@[irreducible] def wS (X : Cx) (st : Stmt) : TS := fun D σ H => ∀ (pins : List (Addr × Obj)) (s : Shared), Inv X pins σ H s → wpAny (model X.prog X.w) X.A (exec st X.env) (SP X pins D) X.xe s
@[irreducible] def wB (X : Cx) (st : List Stmt) : TS := fun D σ H => ∀ (pins : List (Addr × Obj)) (s : Shared), Inv X pins σ H s → wpAny (model X.prog X.w) X.A (execs st X.env) (SP X pins D) X.xe s
section
variable {X : Cx} {e a b c : Expr} {es : List Expr} {st : Stmt} {sts : List Stmt} {t : TE} {σ : L2.St} {H : Hp} {Q : VK} {D : Ends}
theorem cE : PE X e (wE X e) := ⟨fun pins s _ _ _ I h => by unfold wE at h; exact h pins s I⟩
theorem cT : PT X e (wT X e) := ⟨fun pins s _ _ _ I h => by unfold wT at h; exact h pins s I⟩
theorem cW : PW X e (wW X e) := ⟨fun wh pins s _ _ _ I h => by unfold wW at h; exact h wh pins s I⟩
theorem cA : PA X es (wA X es) := ⟨fun pos pins s _ _ _ I h => by unfold wA at h; exact h pos pins s I⟩
theorem cS : PS X st (wS X st) := ⟨fun pins s _ _ _ I h => by unfold wS at h; exact h pins s I⟩
theorem cB : PSs X sts (wB X sts) := ⟨fun pins s _ _ _ I h => by unfold wB at h; exact h pins s I⟩
theorem toE (h : PE X e t) (q : t σ H Q) : wE X e σ H Q := by unfold wE; exact fun pins s I => h.run pins s σ H Q I q
theorem toT {t : TT} {Q : Bool → Hp → Prop} (h : PT X e t) (q : t σ H Q) : wT X e σ H Q := by unfold wT; exact fun pins s I => h.run pins s σ H Q I q
theorem toW {t : TT} {Q : Bool → Hp → Prop} (h : PW X e t) (q : t σ H Q) : wW X e σ H Q := by unfold wW; exact fun wh pins s I => h.run wh pins s σ H Q I q
theorem toA {t : TA} {Q : List V → Hp → Prop} (h : PA X es t) (q : t σ H Q) : wA X es σ H Q := by unfold wA; exact fun pos pins s I => h.run pos pins s σ H Q I q
theorem toS {t : TS} (h : PS X st t) (q : t D σ H) : wS X st D σ H := by unfold wS; exact fun pins s I => h.run pins s σ H D I q
theorem toB {t : TS} (h : PSs X sts t) (q : t D σ H) : wB X sts D σ H := by unfold wB; exact fun pins s I => h.run pins s σ H D I q
theorem wE.mono {Q' : VK} (h : wE X e σ H Q) (k : ∀ v H', Q v H' → Q' v H') : wE X e σ H Q' := by
  unfold wE at h ⊢
  exact fun pins s I => thn (h pins s I) fun _ _ ⟨v, H', I', r, q⟩ => ⟨v, H', I', r, k v H' q⟩
end

/-! ### the module: program, world, written part, globals, base -/
structure Md where
  P : Program
  w : World
  K : PySem.W.Frag
  mg : Str → Option Value
  base : Heap
  /-- the tables of code objects (a lambda is looked up in its maker's), each with the one name that it tells -/
  T : List (Addr × Str)
/-- a def that keeps a promise where nothing is being shown (no repr under way): what is asked of it at one place is known of all -/
structure FnG (m : Md) (CX : CXT) (k : Nat) (f : Addr) (fd : FuncData) (ps : List Str) (sp : Sp) : Prop where
  len : ∀ vs H Q E, sp vs H Q E → vs.length = ps.length
  run : ∀ (A : Around) (outer : List Env) (s : Shared) (H : Hp) (args : Args) (us : List Value) (vs : List V) (Q : VK) (E : XK), A.guards = some [] → Room k A → Env0 m.P m.w m.K m.mg m.base A outer s H →
    BindsTo s fd args (ps.zip us) → Vals vs us → sp vs H Q E → codeAny (model m.P m.w) A (.call (.ref f) args) (CR CX outer m.P m.w H s Q E) s
theorem FnG.mono {m : Md} {CX : CXT} {j k : Nat} {f : Addr} {fd : FuncData} {ps : List Str} {sp : Sp} (F : FnG m CX j f fd ps sp) (h : j ≤ k) : FnG m CX k f fd ps sp := ⟨F.len, fun A outer s H args us vs Q E hg hr => F.run A outer s H args us vs Q E hg (hr.mono h)⟩
theorem FnG.imp {m : Md} {CX : CXT} {k : Nat} {f : Addr} {fd : FuncData} {ps : List Str} {sp sp' : Sp} (F : FnG m CX k f fd ps sp) (h : ∀ vs H Q E, sp' vs H Q E → sp vs H Q E) : FnG m CX k f fd ps sp' :=
  ⟨fun vs H Q E q => F.len vs H Q E (h _ _ _ _ q), fun A outer s H args us vs Q E hg hr he hb hv hs => F.run A outer s H args us vs Q E hg hr he hb hv (h _ _ _ _ hs)⟩
/-- X is a place in a def of the module m: names N, scope sc, room for k calls -/
structure At (m : Md) (N : List Str) (sc : Scope) (k : Nat) (X : Cx) : Prop where
  pp : X.prog = m.P
  ww : X.w = m.w
  kk : X.K = m.K
  mm : X.mg = m.mg
  bb : X.base = m.base
  nn : X.N = N
  ss : X.env.scope = sc
  calm : X.calm = true
  room : Room k X.A
  pass : PassesOwn (model X.prog X.w) X.A X.env X.xe
  nd : N.Nodup
  gd : X.A.guards = some []
section
variable {m : Md} {N : List Str} {sc : Scope} {k : Nat} {X : Cx} (h : At m N sc k X)
include h
theorem At.hu : X.A.units + 1 < cLine := hu_of h.room
end

def visB (sc : Scope) (x : Str) : Bool := match sc.names.lookup x with
  | some .local => true | some .cell => true | some .free => true | _ => false
theorem vis_of {sc : Scope} {x : Str} (h : visB sc x = true) : Vis sc x := by
  unfold visB at h
  unfold Vis
  split at h
  · next e => exact .inl e
  · next e => exact .inr (.inl e)
  · next e => exact .inr (.inr e)
  · cases h
section
variable {m : Md} {N : List Str} {sc : Scope} {k : Nat} {X : Cx} {a b c e : Expr} {es : List Expr} {σ : L2.St} {H : Hp} {Q : VK} {QB : Bool → Hp → Prop} {D : Ends} {pos p p1 p2 : Pos} {x y : Str} {i j : Nat} {v : V}
theorem At.gl (h : At m N sc k X) (e : sc.names.lookup x = some .globalImplicit) : Gl X x := by
  unfold Gl Env.kindOf
  rw [h.ss]
  exact e
theorem At.vis (h : At m N sc k X) (e : visB sc x = true) : Vis X.env.scope x := by rw [h.ss]; exact vis_of e

/-- the i-th name is x, a plain local of the scope; a local that others capture; one captured from outside -/
structure NL (N : List Str) (sc : Scope) (i : Nat) (x : Str) : Prop where
  ix : N[i]? = some x
  loc : sc.names.lookup x = some .local
structure NC (N : List Str) (sc : Scope) (i : Nat) (x : Str) : Prop where
  ix : N[i]? = some x
  cel : sc.names.lookup x = some .cell
structure NFr (N : List Str) (sc : Scope) (i : Nat) (x : Str) : Prop where
  ix : N[i]? = some x
  fre : sc.names.lookup x = some .free
/-! ### expressions -/
theorem w_var (h : At m N sc k X) (i : Nat) (hN : N[i]? = some x) (hv : visB sc x = true) (hs : σ[i]? = some (some v)) (q : Q v H) (hd : (x == ("__debug__" : Str)) = false := by with_unfolding_all decide) (hcd : (x == ("__classdict__" : Str)) = false := by with_unfolding_all decide) : wE X (.Name x pos) σ H Q :=
  toE (pe_var (by rw [h.nn]; exact hN) (h.vis hv) hd hcd) ⟨v, hs, q⟩
theorem w_nl (h : At m N sc k X) (n : NL N sc i x) (hs : σ[i]? = some (some v)) (q : Q v H) (hd : (x == ("__debug__" : Str)) = false := by with_unfolding_all decide) (hcd : (x == ("__classdict__" : Str)) = false := by with_unfolding_all decide) : wE X (.Name x pos) σ H Q :=
  toE (pe_var (by rw [h.nn]; exact n.ix) (by rw [h.ss]; exact .inl n.loc) hd hcd) ⟨v, hs, q⟩
theorem w_nc (h : At m N sc k X) (n : NC N sc i x) (hs : σ[i]? = some (some v)) (q : Q v H) (hd : (x == ("__debug__" : Str)) = false := by with_unfolding_all decide) (hcd : (x == ("__classdict__" : Str)) = false := by with_unfolding_all decide) : wE X (.Name x pos) σ H Q :=
  toE (pe_var (by rw [h.nn]; exact n.ix) (by rw [h.ss]; exact .inr (.inl n.cel)) hd hcd) ⟨v, hs, q⟩
theorem w_nf (h : At m N sc k X) (n : NFr N sc i x) (hs : σ[i]? = some (some v)) (q : Q v H) (hd : (x == ("__debug__" : Str)) = false := by with_unfolding_all decide) (hcd : (x == ("__classdict__" : Str)) = false := by with_unfolding_all decide) : wE X (.Name x pos) σ H Q :=
  toE (pe_var (by rw [h.nn]; exact n.ix) (by rw [h.ss]; exact .inr (.inr n.fre)) hd hcd) ⟨v, hs, q⟩
theorem w_int {i : Int} (q : Q (.int i) H) : wE X (.Constant (.int i) j pos) σ H Q := toE pe_int q
theorem w_bl {b : Bool} (q : Q (.bl b) H) : wE X (.Constant (.bool b) j pos) σ H Q := toE pe_bl q
theorem w_non (q : Q .non H) : wE X (.Constant .none j pos) σ H Q := toE pe_non q
theorem w_str {z : Str} (q : Q (.str z) H) : wE X (.Constant (.str z) j pos) σ H Q := toE pe_str q
theorem w_bin {op : Operator} {r : R2} (ho : OpR X (binaryOp op) r) (q : wE X a σ H fun x H1 => wE X b σ H1 fun y H2 => r x y H2 Q) : wE X (.BinOp a op b pos) σ H Q := toE (pe_op ho cE cE) q
theorem w_un {op : UnaryOp} {r : V → Hp → VK → Prop} (ho : UnR X (unaryOp op) r) (q : wE X a σ H fun x H1 => r x H1 Q) : wE X (.UnaryOp op a pos) σ H Q := toE (pe_un ho cE) q
theorem w_cmp {op : CmpOp} {r : R2} (ho : OpR X (compareOp op) r) (hm : behindInMarks op b = false) (q : wE X a σ H fun x H1 => wE X b σ H1 fun y H2 => r x y H2 Q) : wE X (.Compare a [op] [b] pos) σ H Q := toE (pe_cmpR ho cE cE hm) q
theorem w_not (q : wE X a σ H fun x H1 => ∃ c, x = .bl c ∧ Q (.bl (!c)) H1) : wE X (.UnaryOp .Not a pos) σ H Q := toE (pe_not cE) q
theorem w_and {rest : List Expr} (q : wE X a σ H fun x H1 => ∃ c, x = .bl c ∧ if c = true then wE X (.BoolOp .And (b :: rest) pos) σ H1 Q else Q (.bl false) H1) : wE X (.BoolOp .And (a :: b :: rest) pos) σ H Q := toE (pe_and cE cE) q
theorem w_or {rest : List Expr} (q : wE X a σ H fun x H1 => ∃ c, x = .bl c ∧ if c = true then Q (.bl true) H1 else wE X (.BoolOp .Or (b :: rest) pos) σ H1 Q) : wE X (.BoolOp .Or (a :: b :: rest) pos) σ H Q := toE (pe_or cE cE) q
theorem w_one {op : BoolOp} (q : wE X a σ H Q) : wE X (.BoolOp op [a] pos) σ H Q := toE (pe_one cE) q
theorem w_if (q : wT X c σ H fun k H1 => if k = true then wE X a σ H1 Q else wE X b σ H1 Q) : wE X (.IfExp c a b pos) σ H Q := toE (pe_ifExp cT cE cE) q
theorem w_tup {x1} (q : wA X es σ H fun xs H1 => xs.length ≤ sizeLine ∧ ∀ p, H1 p = none → Q (.ref p) (upd H1 p (.tup xs))) : wE X (.Tuple es x1 pos) σ H Q := toE (pe_tup cA) q
theorem w_lst (q : wA X es σ H fun xs H1 => xs.length ≤ sizeLine ∧ ∀ p, H1 p = none → Q (.ref p) (upd H1 p (.lst xs))) : wE X (.List es pos) σ H Q := toE (pe_lst cA) q
theorem w_ix {r : R2} (hr : IxR X r) (hs : PlainIx b) (q : wE X a σ H fun x H1 => wE X b σ H1 fun y H2 => r x y H2 Q) : wE X (.Subscript a b pos) σ H Q := toE (pe_ix hr cE cE hs) q
theorem w_nil {Q : List V → Hp → Prop} (q : Q [] H) : wA X [] σ H Q := toA pa_nil q
theorem w_cons {Q : List V → Hp → Prop} (q : wE X e σ H fun x H1 => wA X es σ H1 fun xs H2 => Q (x :: xs) H2) (hs : starEach (e :: es) X.env = (false, eval e X.env) :: starEach es X.env := by with_unfolding_all rfl) : wA X (e :: es) σ H Q := toA (pa_cons cE cA hs) q
/-- what a run of the def at f leaves, seen from X -/
theorem fnG_run {CX : CXT} {f : Addr} {fd : FuncData} {ps : List Str} {sp : Sp} {E : XK} {args : Args} {us : List Value} {vs : List V} {pins : List (Addr × Obj)} {s : Shared} (h : At m N sc k X) (F : FnG m CX j f fd ps sp) (hk : j ≤ k) (hx : Passes CX X E) (I : Inv X pins σ H s)
    (hb : BindsTo s fd args (ps.zip us)) (r : Vals vs us) (q : sp vs H Q E) : codeAny (model X.prog X.w) X.A (.call (.ref f) args) (fun r s' => match r with | .ok (.ret u) => EP X pins σ Q u s' | .ok _ => False | .error e => X.xe e s') s := by
  have e0 := I.env0
  rw [h.pp, h.ww, h.kk, h.mm, h.bb] at e0
  have rc := F.run X.A X.stack s H args us vs Q E h.gd (h.room.mono hk) e0 hb r q
  rw [← h.pp, ← h.ww] at rc
  refine codeAny_mono rc fun r s' hq => ?_
  match r, hq with
  | .error e, hq => exact hx pins σ H s e s' I hq
  | .ok (.ret u), hq => exact I.after hq
/-- a def that may be called by its name; dvs: what stands for the parameters that are left out -/
structure CalX (m : Md) (CX : CXT) (k : Nat) (x : Str) (sp : Sp) (dvs : List V) : Prop where
  ex : ∃ (f : Addr) (fd : FuncData) (ps : List Str) (ds : List Value), FnG m CX k f fd ps sp ∧ m.mg x = some (.ref f) ∧ PySem.W.keepIn m.K (.ref f) = true ∧ Binds m.K fd ps ds ∧ Vals dvs ds
abbrev Cal (m : Md) (k : Nat) (x : Str) (sp : Sp) : Prop := CalX m C8.CX0 k x sp []
theorem w_callX {CX : CXT} {sp : Sp} {dvs : List V} {E : XK} (h : At m N sc k X) (c : CalX m CX j x sp dvs) (hk : j ≤ k) (hg : sc.names.lookup x = some .globalImplicit) (hx : Passes CX X E) (q : wA X (e :: es) σ H fun vs H1 => sp (vs ++ dvs) H1 Q E)
    (hdb : (x == ("__debug__" : Str)) = false := by with_unfolding_all decide) (he : starEach (e :: es) X.env = (false, eval e X.env) :: starEach es X.env := by with_unfolding_all rfl) (hpl : (backTo pos (starEach es X.env)).any (·.1) = false := by with_unfolding_all rfl) : wE X (.Call (.Name x p) (e :: es) [] pos) σ H Q := by
  obtain ⟨f, fd, ps, ds, F, hm, kp, b, d⟩ := c.ex
  unfold wE
  intro pins s I
  refine wpAny_Call_Name_kw (ld_glob (u := .ref f) I (h.gl hg) (by rw [h.mm]; exact hm) ?_ hdb)
  refine PySem.W.callWith_K (h₀ := X.base) I.ok.mod.kin (by rw [h.kk]; exact kp) (thn ((cA (X := X) (es := e :: es)).run pos pins s σ H _ I q) fun us s1 ⟨vs, H1, I1, r, q1⟩ => ⟨I1.kIn, ?_⟩) he hpl
  have r2 := Vals.append r d
  refine wpAny_call (codeAny_mono (fnG_run (us := us ++ ds) (vs := vs ++ dvs) h F hk hx I1 (b s1 us (by rw [← h.kk]; exact I1.kIn) (by rw [← r2.length]; exact F.len _ _ _ _ q1)) r2 q1) fun r s' hq => ?_)
  match r, hq with
  | .error e, hq => exact hq
  | .ok (.ret u), hq => exact hq
theorem w_callX0 {CX : CXT} {sp : Sp} {dvs : List V} {E : XK} (h : At m N sc k X) (c : CalX m CX j x sp dvs) (hk : j ≤ k) (hg : sc.names.lookup x = some .globalImplicit) (hx : Passes CX X E) (q : sp dvs H Q E)
    (hdb : (x == ("__debug__" : Str)) = false := by with_unfolding_all decide) : wE X (.Call (.Name x p) [] [] pos) σ H Q := by
  obtain ⟨f, fd, ps, ds, F, hm, kp, b, d⟩ := c.ex
  unfold wE
  intro pins s I
  refine wpAny_Call_Name_kw (ld_glob (u := .ref f) I (h.gl hg) (by rw [h.mm]; exact hm) ?_ hdb)
  refine PySem.W.callWith_K0 I.kIn (by rw [h.kk]; exact kp) (wpAny_call (codeAny_mono (fnG_run (us := ds) (vs := dvs) h F hk hx I (b s [] (by rw [← h.kk]; exact I.kIn) (by simpa [← d.length] using F.len _ _ _ _ q)) d q) fun r s' hq => ?_))
  match r, hq with
  | .error e, hq => exact hq
  | .ok (.ret u), hq => exact hq
theorem w_call {sp : Sp} (h : At m N sc k X) (c : Cal m j x sp) (hk : j ≤ k) (hg : sc.names.lookup x = some .globalImplicit) (q : wA X (e :: es) σ H fun vs H1 => sp vs H1 Q C8.E0)
    (hdb : (x == ("__debug__" : Str)) = false := by with_unfolding_all decide) (he : starEach (e :: es) X.env = (false, eval e X.env) :: starEach es X.env := by with_unfolding_all rfl) (hpl : (backTo pos (starEach es X.env)).any (·.1) = false := by with_unfolding_all rfl) : wE X (.Call (.Name x p) (e :: es) [] pos) σ H Q := by
  refine w_callX (E := C8.E0) h c hk hg C8.pass0 ?_ hdb he hpl
  simpa using q
/-- a built-in function by its name -/
theorem w_blt {id : String} {r : List V → Hp → VK → Prop} (h : At m N sc k X) (hc : CallR X (.builtin id) r) (hm : m.mg x = none) (hg : sc.names.lookup x = some .globalImplicit) (hv : bootBuiltins x = some (.builtin id)) (q : wA X (e :: es) σ H fun vs H1 => r vs H1 Q)
    (hn : x ≠ "__name__" := by with_unfolding_all decide) (hdb : (x == ("__debug__" : Str)) = false := by with_unfolding_all decide) (he : starEach (e :: es) X.env = (false, eval e X.env) :: starEach es X.env := by with_unfolding_all rfl) (hpl : (backTo pos (starEach es X.env)).any (·.1) = false := by with_unfolding_all rfl) : wE X (.Call (.Name x p) (e :: es) [] pos) σ H Q :=
  toE (pe_callB hc (h.gl hg) (by rw [h.mm]; exact hm) hv cA hn hdb he hpl) q
theorem w_ty {T : String} {r : List V → Hp → VK → Prop} (h : At m N sc k X) (hc : CallR X (.type T) r) (hm : m.mg x = none) (hg : sc.names.lookup x = some .globalImplicit) (hv : bootBuiltins x = some (.type T)) (q : wA X (e :: es) σ H fun vs H1 => r vs H1 Q)
    (hn : x ≠ "__name__" := by with_unfolding_all decide) (hdb : (x == ("__debug__" : Str)) = false := by with_unfolding_all decide) (he : starEach (e :: es) X.env = (false, eval e X.env) :: starEach es X.env := by with_unfolding_all rfl) (hpl : (backTo pos (starEach es X.env)).any (·.1) = false := by with_unfolding_all rfl) : wE X (.Call (.Name x p) (e :: es) [] pos) σ H Q :=
  toE (pe_callTy hc (h.gl hg) (by rw [h.mm]; exact hm) hv cA hn hdb he hpl) q

/-! ### tests -/
theorem t_val (q : wE X e σ H fun x H1 => ∃ c, x = .bl c ∧ QB c H1) (he : ∀ whole, isTrue e X.env whole = (do let v ← whole; standAt e.pos; holding [v] (truthy v)) := by with_unfolding_all (intro _; rfl)) : wT X e σ H QB := toT (pt_val cE he) q
theorem t_cmp {op : CmpOp} {r : R2} (ho : OpR X (compareOp op) r) (hm : behindInMarks op b = false) (q : wE X a σ H fun x H1 => wE X b σ H1 fun y H2 => r x y H2 fun z H' => ∃ k, z = .bl k ∧ QB k H') : wT X (.Compare a [op] [b] pos) σ H QB := toT (pt_cmpR ho cE cE hm) q
theorem t_not (q : wT X a σ H fun c H1 => QB (!c) H1) : wT X (.UnaryOp .Not a pos) σ H QB := toT (pt_not cT) q
theorem t_and {rest : List Expr} (q : wW X (.BoolOp .And (a :: b :: rest) pos) σ H QB) : wT X (.BoolOp .And (a :: b :: rest) pos) σ H QB := toT (cW.pt) q
theorem t_or {rest : List Expr} (q : wW X (.BoolOp .Or (a :: b :: rest) pos) σ H QB) : wT X (.BoolOp .Or (a :: b :: rest) pos) σ H QB := toT (cW.pt) q
theorem k_and {rest : List Expr} (q : wT X a σ H fun c H1 => if c = true then wW X (.BoolOp .And (b :: rest) pos) σ H1 QB else QB false H1) : wW X (.BoolOp .And (a :: b :: rest) pos) σ H QB := toW (pw_and cT cW) q
theorem k_or {rest : List Expr} (q : wT X a σ H fun c H1 => if c = true then QB true H1 else wW X (.BoolOp .Or (b :: rest) pos) σ H1 QB) : wW X (.BoolOp .Or (a :: b :: rest) pos) σ H QB := toW (pw_or cT cW) q
theorem k_and1 (q : wT X a σ H QB) : wW X (.BoolOp .And [a] pos) σ H QB := toW (pw_and1 cT) q
theorem k_or1 (q : wT X a σ H QB) : wW X (.BoolOp .Or [a] pos) σ H QB := toW (pw_or1 cT) q
theorem t_truth (q : wE X a σ H fun x H1 => ∃ k, TruV X.K x H1 k ∧ QB k H1) (he : ∀ whole, isTrue a X.env whole = (do let v ← whole; standAt a.pos; holding [v] (truthy v)) := by with_unfolding_all (intro _; rfl)) : wT X a σ H QB := toT (pt_truth cE he) q

/-! ### statements: what is wanted behind is written out -/
variable {st : Stmt} {sts rest th el body : List Stmt} {nx : L2.St → Hp → Prop} {rt : VK} {bk ct : L2.St → Hp → Prop}
theorem b_nil (q : nx σ H) : wB X [] ⟨nx, rt, bk, ct⟩ σ H := toB pss_nil q
theorem b_cons (q : wS X st ⟨wB X rest ⟨nx, rt, bk, ct⟩, rt, bk, ct⟩ σ H) : wB X (st :: rest) ⟨nx, rt, bk, ct⟩ σ H := toB (pss_cons cS cB) q
theorem b_one (q : wS X st ⟨nx, rt, bk, ct⟩ σ H) : wB X [st] ⟨nx, rt, bk, ct⟩ σ H := toB (pss_one cS) q
theorem s_ret (q : wE X e σ H rt) : wS X (.Return (some e) pos) ⟨nx, rt, bk, ct⟩ σ H := toS (ps_ret cE) q
theorem s_retN (q : rt .non H) : wS X (.Return none pos) ⟨nx, rt, bk, ct⟩ σ H := toS ps_retN q
theorem s_if (q : wT X c σ H fun b H1 => if b = true then wB X th ⟨nx, rt, bk, ct⟩ σ H1 else wB X el ⟨nx, rt, bk, ct⟩ σ H1) : wS X (.If c th el pos) ⟨nx, rt, bk, ct⟩ σ H := toS (ps_if cT cB cB) q
theorem s_expr (q : wE X e σ H fun _ H1 => nx σ H1) (hs : swapsWith e none pos.line X.env = pure false := by with_unfolding_all rfl) : wS X (.Expr e pos) ⟨nx, rt, bk, ct⟩ σ H := toS (ps_expr cE hs) q
theorem s_set (h : At m N sc k X) (i : Nat) (hN : N[i]? = some x) (hl : sc.names.lookup x = some .local) (q : wE X e σ H fun v H1 => nx (σ.set i (some v)) H1) (hs : swapsWith e (some (.Name x p1)) pos.line X.env = pure false := by with_unfolding_all rfl) :
    wS X (.Assign [.Name x p1] e pos) ⟨nx, rt, bk, ct⟩ σ H :=
  toS (ps_set (by rw [h.nn]; exact h.nd) (by rw [h.nn]; exact hN) (by rw [h.ss]; exact .inl hl) cE hs (.inr (by rw [h.ss]; exact hl))) q
theorem s_nl (h : At m N sc k X) (n : NL N sc i x) (q : wE X e σ H fun v H1 => nx (σ.set i (some v)) H1) (hs : swapsWith e (some (.Name x p1)) pos.line X.env = pure false := by with_unfolding_all rfl) : wS X (.Assign [.Name x p1] e pos) ⟨nx, rt, bk, ct⟩ σ H := s_set h i n.ix n.loc q hs
theorem s_nc (h : At m N sc k X) (n : NC N sc i x) (hf : ∀ y, X.fn y = true) (q : wE X e σ H fun v H1 => nx (σ.set i (some v)) H1) (hs : swapsWith e (some (.Name x p1)) pos.line X.env = pure false := by with_unfolding_all rfl) : wS X (.Assign [.Name x p1] e pos) ⟨nx, rt, bk, ct⟩ σ H :=
  toS (ps_set (by rw [h.nn]; exact h.nd) (by rw [h.nn]; exact n.ix) (by rw [h.ss]; exact .inr n.cel) cE hs (.inl (hf x))) q
theorem pg_nl (h : At m N sc k X) (n : NL N sc i x) : PG X (.Name x pos) (gName i) := pg_name (by rw [h.nn]; exact h.nd) (by rw [h.nn]; exact n.ix) (by rw [h.ss]; exact .inl n.loc) (.inr (by rw [h.ss]; exact n.loc))
theorem pg_nc (h : At m N sc k X) (n : NC N sc i x) (hf : ∀ y, X.fn y = true) : PG X (.Name x pos) (gName i) := pg_name (by rw [h.nn]; exact h.nd) (by rw [h.nn]; exact n.ix) (by rw [h.ss]; exact .inr n.cel) (.inl (hf x))
/-- xs[i] = e -/
theorem s_sub {o ix : Expr} {t : TSet} (hs : PSet X t) (q : wE X e σ H fun v H1 => wE X o σ H1 fun x H2 => wE X ix σ H2 fun y H3 => t x y v H3 fun H4 => nx σ H4)
    (ha : ∀ v : Value, assign (.Subscript o ix p1) X.env v = (do
      let ov ← holding [v] (eval o X.env)
      let iv ← holding [v, ov] (eval ix X.env)
      standAt p1
      holding [v, ov, iv] (setItem ov iv v)
      release [v, ov, iv] []) := by with_unfolding_all (intro _; rfl))
    (h1 : swapsWithSole [.Subscript o ix p1] e pos.line X.env = pure false := by with_unfolding_all rfl) (h2 : swappedStores [.Subscript o ix p1] e X.env = pure none := by with_unfolding_all rfl) : wS X (.Assign [.Subscript o ix p1] e pos) ⟨nx, rt, bk, ct⟩ σ H :=
  toS (ps_asg cE (pg_sub cE cE hs ha) h1 h2) q
/-- xs[i] = e, xs a list -/
theorem s_subL {o ix : Expr} (q : wE X e σ H fun v H1 => wE X o σ H1 fun x H2 => wE X ix σ H2 fun y H3 => ∃ (p : Addr) (xs : List V) (z : Int) (j : Nat), x = .ref p ∧ y = .int z ∧ H3 p = some (.lst xs) ∧ ixN xs.length z = some j ∧ nx σ (upd H3 p (.lst (xs.set j v))))
    (ha : ∀ v : Value, assign (.Subscript o ix p1) X.env v = (do
      let ov ← holding [v] (eval o X.env)
      let iv ← holding [v, ov] (eval ix X.env)
      standAt p1
      holding [v, ov, iv] (setItem ov iv v)
      release [v, ov, iv] []) := by with_unfolding_all (intro _; rfl))
    (h1 : swapsWithSole [.Subscript o ix p1] e pos.line X.env = pure false := by with_unfolding_all rfl) (h2 : swappedStores [.Subscript o ix p1] e X.env = pure none := by with_unfolding_all rfl) : wS X (.Assign [.Subscript o ix p1] e pos) ⟨nx, rt, bk, ct⟩ σ H :=
  s_sub set_list q ha h1 h2
/-- for x in range(e) -/
theorem s_forR {tg : Expr} {g : TG} {po : Pos} (h : At m N sc k X) (hg : PG X tg g) (hm : m.mg "range" = none) (hgl : sc.names.lookup ("range" : Str) = some .globalImplicit)
    (q : wE X e σ H fun v H1 => ∃ z : Int, v = .int z ∧ -(2 ^ 62) ≤ z ∧ z < 2 ^ 62 ∧ ∃ Pv : Nat → L2.St → Hp → Prop, Pv 0 σ H1 ∧ (∀ i σ H, i < z.toNat → Pv i σ H → g (.int i) σ H fun σ2 H2 => wB X body ⟨Pv (i + 1), rt, nx, Pv (i + 1)⟩ σ2 H2) ∧ ∀ σ H, Pv z.toNat σ H → nx σ H)
    (hs : starEach [e] X.env = [(false, eval e X.env)] := by with_unfolding_all rfl) (hf : ∀ x, foldedSetIterable (.Call (.Name "range" p1) [e] [] p2) X.env x = pure x := by with_unfolding_all (intro _; rfl)) : wS X (.For tg (.Call (.Name "range" p1) [e] [] p2) body [] po) ⟨nx, rt, bk, ct⟩ σ H := by
  refine toS (ps_for h.pass h.calm (pi_range1 (h.gl hgl) (by rw [h.mm]; exact hm) (pa_cons cE pa_nil hs) hs) hg cB hf) ?_
  refine wE.mono q fun v H1 ⟨z, ez, z1, z2, Pv, p0, turn, fin⟩ => ⟨z, by rw [ez], z1, z2, ?_⟩
  exact for_range (lo := 0) (n := z.toNat) Pv p0 (fun i σ H hi hp => by simpa using turn i σ H hi hp) fin
/-- for x in xs, xs a list that stands still -/
theorem s_forL {tg : Expr} {g : TG} {po : Pos} (h : At m N sc k X) (hg : PG X tg g)
    (q : wE X e σ H fun v H1 => ∃ (a : Addr) (xs : List V), v = .ref a ∧ SqL m.K H1 a xs ∧ ∃ Pv : Nat → L2.St → Hp → Prop, Pv 0 σ H1 ∧ (∀ i σ H, i ≤ xs.length → Pv i σ H → SqL m.K H a xs) ∧ (∀ i x σ H, xs[i]? = some x → Pv i σ H → g x σ H fun σ2 H2 => wB X body ⟨Pv (i + 1), rt, nx, Pv (i + 1)⟩ σ2 H2) ∧ ∀ σ H, Pv xs.length σ H → nx σ H)
    (hf : ∀ x, foldedSetIterable e X.env x = pure x := by with_unfolding_all (intro _; rfl)) : wS X (.For tg e body [] po) ⟨nx, rt, bk, ct⟩ σ H := by
  refine toS (ps_for h.pass h.calm (pi_list cE) hg cB hf) ?_
  refine wE.mono q fun v H1 ⟨a, xs, ea, hs, Pv, p0, hl, turn, fin⟩ => ⟨a, ea, ⟨xs, by rw [h.kk]; exact hs⟩, ?_⟩
  exact for_list (K := X.K) (a := a) (xs := xs) Pv p0 (fun i σ H hi hp => by rw [h.kk]; exact hl i σ H hi hp) turn fin
/-- for x in t, t a tuple -/
theorem s_forT {tg : Expr} {g : TG} {po : Pos} (h : At m N sc k X) (hg : PG X tg g)
    (q : wE X e σ H fun v H1 => ∃ (a : Addr) (xs : List V), v = .ref a ∧ SqT m.K H1 a xs ∧ ∃ Pv : Nat → L2.St → Hp → Prop, Pv 0 σ H1 ∧ (∀ i σ H, i ≤ xs.length → Pv i σ H → SqT m.K H a xs) ∧ (∀ i x σ H, xs[i]? = some x → Pv i σ H → g x σ H fun σ2 H2 => wB X body ⟨Pv (i + 1), rt, nx, Pv (i + 1)⟩ σ2 H2) ∧ ∀ σ H, Pv xs.length σ H → nx σ H)
    (hf : ∀ x, foldedSetIterable e X.env x = pure x := by with_unfolding_all (intro _; rfl)) : wS X (.For tg e body [] po) ⟨nx, rt, bk, ct⟩ σ H := by
  refine toS (ps_for h.pass h.calm (pi_tup cE) hg cB hf) ?_
  refine wE.mono q fun v H1 ⟨a, xs, ea, hs, Pv, p0, hl, turn, fin⟩ => ⟨a, ea, ⟨xs, by rw [h.kk]; exact hs⟩, ?_⟩
  exact for_tup (K := X.K) (a := a) (xs := xs) Pv p0 (fun i σ H hi hp => by rw [h.kk]; exact hl i σ H hi hp) turn fin
end

/-! ### a def by its body -/
/-- what a def that makes lambdas knows of its place besides -/
structure AtM (X : Cx) (x : Str) (cdv : Value) : Prop where
  code : X.env.code = cdv
  qual : X.env.qual = x ++ ".<locals>."
  fn : ∀ y, X.fn y = true
  ex : X.ex = []
section
variable {m : Md} {N ps : List Str} {k : Nat} {x qual : Str} {st : Stmt} {f : Addr} {fd : FuncData} {sp : Sp}
/-- a def that lets no exception out, by its body -/
theorem fnG_of (F : C8.Fun m.K x qual st f fd) (S : FnScope N ps (C8.fnScope st)) (len : ∀ vs H Q E, sp vs H Q E → vs.length = ps.length)
    (hb : ∀ (X : Cx) (vs : List V) (H : Hp) (Q : VK) (E : XK), At m N (C8.fnScope st) k X → AtM X qual fd.code → sp vs H Q E → wB X (C8.fnBody st) { nx := fun _ H' => Q .non H', rt := Q } (start N vs) H) : FnG m C8.CX0 (k + 1) f fd ps sp := by
  obtain ⟨oc, od, dV, kV, doc, pm, an, cdv, ct, osl, rfl, lk, hc⟩ := F.ex
  refine ⟨len, fun A outer s H args us vs Q E hg hr e0 bt r q => ?_⟩
  refine LamX.run_ofS (CX := C8.CX0) (N := N) lk hc S hr e0 bt r (len _ _ _ _ q) fun hr' => ⟨_, PSs.nox cB, ?_⟩
  exact hb (cxOf C8.CX0 m.P m.w m.K m.mg m.base N qual (C8.fnScope st) f cdv A outer s H E).nox vs H Q E ⟨rfl, rfl, rfl, rfl, rfl, rfl, rfl, rfl, hr', PassesOwn.never, S.nd, hg⟩ ⟨rfl, rfl, fun _ => rfl, rfl⟩ q
theorem cal_ofM (F : C8.Def m.K m.mg x st f fd) (b : Binds m.K fd ps []) (S : FnScope N ps (C8.fnScope st)) (len : ∀ vs H Q E, sp vs H Q E → vs.length = ps.length)
    (hb : ∀ (X : Cx) (vs : List V) (H : Hp) (Q : VK) (E : XK), At m N (C8.fnScope st) k X → AtM X x fd.code → sp vs H Q E → wB X (C8.fnBody st) { nx := fun _ H' => Q .non H', rt := Q } (start N vs) H) : Cal m (k + 1) x sp :=
  ⟨f, fd, ps, [], fnG_of F.fn S len hb, F.mgf, F.kp, b, .nil⟩
theorem cal_of (F : C8.Def m.K m.mg x st f fd) (b : Binds m.K fd ps []) (S : FnScope N ps (C8.fnScope st)) (len : ∀ vs H Q E, sp vs H Q E → vs.length = ps.length)
    (hb : ∀ (X : Cx) (vs : List V) (H : Hp) (Q : VK) (E : XK), At m N (C8.fnScope st) k X → sp vs H Q E → wB X (C8.fnBody st) { nx := fun _ H' => Q .non H', rt := Q } (start N vs) H) : Cal m (k + 1) x sp :=
  cal_ofM F b S len fun X vs H Q E h _ q => hb X vs H Q E h q
end
theorem atI_at {α : Type} {xs : List α} {j : Nat} {v : α} (h : xs[j]? = some v) : atI xs (j : Int) = some v := atI_nat h
end Vf
set_option maxRecDepth 100000
set_option maxHeartbeats 4000000
/-! Lam: lambdas with parameters, made in a def's body and handed on. Own work. -/
namespace Vf
open PySem PySem.Spec PyProof.Rows L2 LamX NdefX

/-- a lambda's words -/
structure LF where
  qual : Str
  params : Arguments
  body : Expr
  scope : Scope
  cl : List (Str × Addr)
  c : Addr
abbrev LF.fd (F : LF) (pm ctv : Value) : FuncData := PySem.W.kla_fn "<lambda>" F.qual F.params F.body F.scope F.cl pm (.ref F.c) ctv
abbrev LF.nf (F : LF) : NF := ⟨"<lambda>", F.qual, F.params, [], F.scope, F.cl, F.c⟩
def LamO (f : Addr) (F : LF) : HO := .ext fun h => ∃ (od : Option Addr) (sl : Array (Option Value)) (pm ctv : Value), h.get? f = some (⟨.type "function", od, .func (F.fd pm ctv), sl⟩ : Obj)
theorem lamO_tbl {f : Addr} {F : LF} (ps : Array Value) : LamO f F ≠ .tbl ps := fun z => by unfold LamO at z; cases z
theorem lamO_at {P : Program} {w : World} {H : Hp} {h : Heap} {f : Addr} {F : LF} (hok : HOk P w H h) (e : H f = some (LamO f F)) : ∃ (od : Option Addr) (sl : Array (Option Value)) (pm ctv : Value), h.get? f = some (⟨.type "function", od, .func (F.fd pm ctv), sl⟩ : Obj) := by
  obtain ⟨z, _, _⟩ := hok f _ e
  exact z
theorem lamO_ok {P : Program} {w : World} {H : Hp} {h : Heap} {f : Addr} {F : LF} {od : Option Addr} {sl : Array (Option Value)} {pm ctv : Value} (e : h.get? f = some (⟨.type "function", od, .func (F.fd pm ctv), sl⟩ : Obj)) : ObjOk P w H h f (LamO f F) :=
  ⟨⟨od, sl, pm, ctv, e⟩, ⟨_, e⟩, fun h1 h2 ⟨od, sl, p, t, z⟩ st => ⟨od, sl, p, t, st _ z⟩⟩

section
variable {X : Cx} {pins : List (Addr × Obj)} {σ : L2.St} {H : Hp} {s : Shared}
theorem inv_lam {F : LF} {o : Obj} {t' : Nat} {pm ctv : Value} (I : Inv X pins σ H s) (ho : o = { cls := .type "function", data := .func (F.fd pm ctv) }) :
    Inv X pins σ (upd H s.heap.objs.size (LamO s.heap.objs.size F)) { s with heap := s.heap.push o, toks := t' } := by
  subst ho
  refine I.laid (a := s.heap.objs.size) (fun b u e => Heap.get?_push_of_some _ e) (Nat.le_refl _) ?_
  exact lamO_ok (Heap.get?_push_size _ rfl)
/-- the lambda is made and tracked -/
theorem lam_make3 {T : List (Addr × Str)} {c P : Addr} {params : Arguments} {body : Expr} {scope : Scope} {pos : Pos} {E : Value → Shared → Prop} {Q : Value → Shared → Prop} (I : Inv X pins σ H s) (TB : TabB X.base X.mg c P) (hcode : X.env.code = .ref c)
    (hm : (P, X.env.qual ++ "<lambda>") ∈ T) (hu : ∀ p ∈ T, p.1 = P → p.2 = X.env.qual ++ "<lambda>") (hT : Tabs T H) (hdef : defaultsOf params X.env = ([], [])) (hfree : ∀ y ∈ scope.names, y.2 = .free → ∃ c, X.env.cells.lookup y.1 = some c)
    (h : ∀ (f c' : Addr) (H1 : Hp) (s' : Shared), Inv X pins σ H1 s' → ExtN H H1 → Tabs T H1 → H f = none → H1 f = some (LamO f ⟨X.env.qual ++ "<lambda>", params, body, scope, cloFrom X.env.cells scope.names [], c'⟩) → H1 c' = some (CodeO c' (X.env.qual ++ "<lambda>")) → (∀ b, H1 b = none → H b = none) → Q (.ref f) s') :
    wpAny (model X.prog X.w) X.A (eval (.Lambda params body scope pos) X.env) Q E s := by
  obtain ⟨ps, hP, ht, ha⟩ := hT _ hm
  refine PySem.W.kla_eval hdef ?_
  have bP : s.heap.BuiltinsAt X.mg P := TB.bm.keeps I.bk
  have hP' : s.heap.get? P = some { cls := .none, data := .fields ps } := I.hok P _ hP
  cases hc : codeAmong pos ps.toList with
  | none =>
    refine PySem.W.kla_makeFunction (mg := X.mg) (c := c) (P := P) (ps := ps) (closure_ok hfree) I.ok.glob (I.mod.glob.keeps I.bk) hcode (TB.code.keeps I.bk) hP' ht hc TB.gP bP fun c' ctv h' tk hx hge hlt hrec htb => ?_
    obtain ⟨c2, oc, vs, t, e2, hoc, hd, hv⟩ := hrec
    cases e2
    have nC : H c' = none := I.hok.fresh hge
    have I1 := inv_table (t' := tk) (more := #[rawInt pos.line, rawInt pos.col, .ref c']) (h' := h') I hP (fun b o hb e => hx b o hb e) htb hge ⟨oc, vs, t, hoc, hd, hv⟩
    have hE : ExtN H (upd (upd H P (.tbl (ps ++ #[rawInt pos.line, rawInt pos.col, .ref c']))) c' (CodeO c' (X.env.qual ++ "<lambda>"))) := fun b o e n => by
      rw [upd_ne (ne_of_none e nC), upd_ne (fun z => n ps (Option.some.inj (e.symm.trans (by rw [z]; exact hP))))]
      exact e
    have eL : (ps ++ #[rawInt pos.line, rawInt pos.col, .ref c']).toList = ps.toList ++ [rawInt pos.line, rawInt pos.col, .ref c'] := by simp
    have T1 : Tabs T (upd (upd H P (.tbl (ps ++ #[rawInt pos.line, rawInt pos.col, .ref c']))) c' (CodeO c' (X.env.qual ++ "<lambda>"))) := fun p hp => by
      by_cases hb : p.1 = P
      · rw [hu p hp hb, hb]
        refine ⟨_, by rw [upd_ne (ne_of_none hP nC), upd_same], by rw [eL]; exact PySem.TriplesOk_snoc _ _ _ _ ht, fun p' cv hcv => ?_⟩
        rw [eL] at hcv
        rcases among_app _ ht hcv with z | z
        · obtain ⟨c0, e1, e2⟩ := ha p' cv z
          exact ⟨c0, e1, hE _ _ e2 codeO_ne⟩
        · exact ⟨c', z, upd_same⟩
      · obtain ⟨ps', a1, a2, a3⟩ := hT p hp
        refine ⟨ps', by rw [upd_ne (ne_of_none a1 nC), upd_ne hb]; exact a1, a2, fun p' cv hcv => ?_⟩
        obtain ⟨c0, e1, e2⟩ := a3 p' cv hcv
        exact ⟨c0, e1, hE _ _ e2 codeO_ne⟩
    have nF := I1.hok.fresh (Nat.le_refl _)
    have I2 := inv_lam (F := ⟨X.env.qual ++ "<lambda>", params, body, scope, cloFrom X.env.cells scope.names [], c'⟩) (t' := tk) (pm := (X.mg "__name__").getD .none) (ctv := ctv) I1 rfl
    refine h h'.objs.size c' _ _ I2 (fun b o e n => ?_) (T1.ext fun b o e => ?_) (I.hok.fresh (Nat.le_trans hge (Nat.le_of_lt hlt))) upd_same ?_ (fun b e => upd_none (upd_none (upd_none e)))
    · have e1 := hE b o e n
      exact (upd_ne (ne_of_none e1 nF)).trans e1
    · exact (upd_ne (ne_of_none e nF)).trans e
    · exact (upd_ne (Nat.ne_of_lt hlt)).trans upd_same
  | some cv =>
    obtain ⟨c', e, hco⟩ := ha pos cv hc
    subst e
    refine PySem.W.kla_makeFunctionHit (mg := X.mg) (c := c) (P := P) (ps := ps) (closure_ok hfree) I.ok.glob (I.mod.glob.keeps I.bk) hcode (TB.code.keeps I.bk) hP' ht hc bP fun ctv h' tk hx hsz => ?_
    have I1 : Inv X pins σ H { s with heap := h', toks := tk } := I.kept hx
    have nF : H h'.objs.size = none := I1.hok.fresh (Nat.le_refl _)
    have I2 := inv_lam (F := ⟨X.env.qual ++ "<lambda>", params, body, scope, cloFrom X.env.cells scope.names [], c'⟩) (t' := tk) (pm := (X.mg "__name__").getD .none) (ctv := ctv) I1 rfl
    refine h h'.objs.size c' _ _ I2 (fun b o e n => ?_) (hT.ext fun b o e => ?_) nF upd_same ?_ (fun b e => upd_none e)
    · exact (upd_ne (ne_of_none e nF)).trans e
    · exact (upd_ne (ne_of_none e nF)).trans e
    · exact (upd_ne (ne_of_none hco nF)).trans hco
end

/-! ### what calling a function value promises -/
/-- f, in every heap from H on, keeps the promise sp when it is called -/
structure Callable (m : Md) (k : Nat) (f : Addr) (sp : Sp) (H : Hp) : Prop where
  lam : ∃ F, H f = some (LamO f F)
  run : ∀ (H1 : Hp), ExtN H H1 → ∀ (A : Around) (outer : List Env) (s : Shared) (us : List Value) (vs : List V) (Q : VK), A.guards = some [] → Room k A → Env0 m.P m.w m.K m.mg m.base A outer s H1 → Vals vs us → sp vs H1 Q C8.E0 →
    codeAny (model m.P m.w) A (.call (.ref f) ⟨us, []⟩) (CR C8.CX0 outer m.P m.w H1 s Q C8.E0) s
theorem Callable.ext {m : Md} {k : Nat} {f : Addr} {sp : Sp} {H H' : Hp} (c : Callable m k f sp H) (e : ExtN H H') : Callable m k f sp H' :=
  ⟨by obtain ⟨F, h⟩ := c.lam; exact ⟨F, e _ _ h lamO_tbl⟩, fun H1 e1 => c.run H1 (e.trans e1)⟩
theorem Callable.mono {m : Md} {k j : Nat} {f : Addr} {sp : Sp} {H : Hp} (c : Callable m k f sp H) (h : k ≤ j) : Callable m j f sp H := ⟨c.lam, fun H1 e1 A outer s us vs Q hg hr => c.run H1 e1 A outer s us vs Q hg (hr.mono h)⟩
theorem Callable.imp {m : Md} {k : Nat} {f : Addr} {sp sp' : Sp} {H : Hp} (c : Callable m k f sp H) (h : ∀ H1, ExtN H H1 → ∀ vs Q E, sp' vs H1 Q E → sp vs H1 Q E) : Callable m k f sp' H := ⟨c.lam, fun H1 e1 A outer s us vs Q hg hr e0 r q => c.run H1 e1 A outer s us vs Q hg hr e0 r (h H1 e1 _ _ _ q)⟩

/-- the context of a lambda's body -/
abbrev lcx (m : Md) (N : List Str) (F : LF) (f : Addr) (A : Around) (outer : List Env) (s : Shared) (H : Hp) : Cx := (ncx C8.CX0 m.P m.w m.K m.mg m.base N F.nf f A outer s H C8.E0).nox
/-- a lambda called: its body in its own context; ws: what its captured cells hold -/
theorem lam_run {m : Md} {N ps fr : List Str} {F : LF} {f : Addr} {k : Nat} {A : Around} {outer : List Env} {s : Shared} {H : Hp} {us : List Value} {vs : List V} {ws : List (Option V)} {Q : VK} (S : NScope N ps fr F.scope)
    (hb : ∀ (pm ctv : Value) (us : List Value), us.length = ps.length → bindArgs (F.fd pm ctv) ⟨us, []⟩ = pure (ps.zip us)) (hg : A.guards = some []) (hr : Room (k + 1) A) (e0 : Env0 m.P m.w m.K m.mg m.base A outer s H) (hf : ∃ (od : Option Addr) (sl : Array (Option Value)) (pm ctv : Value), s.heap.get? f = some (⟨.type "function", od, .func (F.fd pm ctv), sl⟩ : Obj))
    (hc : H F.c = some (CodeO F.c F.qual)) (C : CellsAt F.cl fr ws s.heap H) (r : Vals vs us) (hl : vs.length = ps.length)
    (hbody : ∀ (X : Cx), At m N F.scope k X → wE X F.body (startF N vs ws) H Q) : codeAny (model m.P m.w) A (.call (.ref f) ⟨us, []⟩) (CR C8.CX0 outer m.P m.w H s Q C8.E0) s := by
  have lim : s.heap.NoLimit := e0.mod.nolimit.keeps fun b o e => (e0.bs b o e).1
  obtain ⟨od, sl, pm, ctv, ho⟩ := hf
  refine PySem.W.kla_callFunE hr.depth ho rfl S.co S.gen rfl (codeO_at e0.hok hc) ?_
  rw [hb pm ctv us (by rw [← r.length]; exact hl)]
  refine wpAny_pure (wpAny_newFunctionEnv S.nocell (fun ⟨n, _⟩ hy => S.par n (List.of_mem_zip hy).1) (fun h₁ hns hsb => ⟨lim.fresh _ hsb, ?_⟩) S.kind)
  show codeAny _ _ (.expr F.body (envF F.nf f s.heap.objs.size)) _ _
  have kp : ∀ b o, s.heap.get? b = some o → h₁.get? b = some o := fun b o e => hsb.extBut b o (Nat.ne_of_lt (Heap.lt_size e)) (Heap.get?_push_of_some _ e)
  have I : Inv (ncx C8.CX0 m.P m.w m.K m.mg m.base N F.nf f A outer s H C8.E0) [] (startF N vs ws) H { s with heap := h₁, toks := s.toks + (ps.zip us).length } := inv_startN S hr.hd e0 hl r C hns kp
  have hA : At m N F.scope k (lcx m N F f A outer s H) := ⟨rfl, rfl, rfl, rfl, rfl, rfl, rfl, rfl, hr.deeper _, PassesOwn.never, S.nd, hg⟩
  have q := hbody _ hA
  have pe : PE (ncx C8.CX0 m.P m.w m.K m.mg m.base N F.nf f A outer s H C8.E0) F.body (wE (lcx m N F f A outer s H) F.body) := PE.nox cE
  refine PySem.W.kla_codeExpr (wpAny_mono (pe.run [] _ _ H Q I q) (fun v s' hq => ?_) fun e s' hq => hq)
  obtain ⟨w', H', J', rv, q⟩ := hq
  exact ⟨w', H', J'.os, J'.bare, J'.base, J'.hok, rv, q⟩

/-- a name that holds a function value, called -/
theorem w_callv {m : Md} {N : List Str} {sc : Scope} {j k i : Nat} {X : Cx} {x : Str} {sp : Sp} {f : Addr} {σ : L2.St} {H : Hp} {Q : VK} {e : Expr} {es : List Expr} {p pos : Pos} (h : At m N sc j X) (hN : N[i]? = some x) (hv : visB sc x = true) (hs : σ[i]? = some (some (.ref f))) (c : Callable m k f sp H) (hk : k ≤ j)
    (q : wA X (e :: es) σ H fun vs H1 => ExtN H H1 ∧ sp vs H1 Q C8.E0) (hd : (x == ("__debug__" : Str)) = false := by with_unfolding_all decide) (hcd : (x == ("__classdict__" : Str)) = false := by with_unfolding_all decide)
    (he : starEach (e :: es) X.env = (false, eval e X.env) :: starEach es X.env := by with_unfolding_all rfl) (hpl : (backTo pos (starEach es X.env)).any (·.1) = false := by with_unfolding_all rfl) : wE X (.Call (.Name x p) (e :: es) [] pos) σ H Q := by
  unfold wE
  intro pins s I
  refine wpAny_Call_Name_kw (thn ((pe_var (pos := p) (by rw [h.nn]; exact hN) (h.vis hv) hd hcd).run pins s σ H (fun v H1 => v = .ref f ∧ H1 = H) I ⟨.ref f, hs, rfl, rfl⟩) fun u s1 ⟨v, H1, I1, r1, q1⟩ => ?_)
  obtain ⟨rfl, rfl⟩ := q1
  obtain rfl : u = Value.ref f := r1
  obtain ⟨F, hF⟩ := c.lam
  have fnAt : ∀ {H2 : Hp} {s2 : Shared}, Inv X pins σ H2 s2 → ExtN H1 H2 → PySem.W.FnAt f s2.heap := fun {H2 s2} I2 e2 => by
    obtain ⟨od, sl, pm, ctv, ho⟩ := lamO_at I2.hok (e2 _ _ hF lamO_tbl)
    exact ⟨_, od, _, sl, ho⟩
  refine PySem.W.callWith_F (first := []) (fnAt I1 (ExtN.refl _)) (thn ((cA (X := X) (es := e :: es)).run pos pins s1 σ _ _ I1 q) fun us s2 ⟨vs, H2, I2, r, e2, q2⟩ => ⟨fnAt I2 e2, ?_⟩) he hpl
  show wpAny _ _ (call (.ref f) us) _ _ _
  have e0 := I2.env0
  rw [h.pp, h.ww, h.kk, h.mm, h.bb] at e0
  have rc := c.run H2 e2 X.A X.stack s2 us vs Q h.gd (h.room.mono hk) e0 r q2
  rw [← h.pp, ← h.ww] at rc
  refine wpAny_call (codeAny_mono rc fun r s' hq => ?_)
  cases r with
  | error e => exact (show False from hq).elim
  | ok fl =>
    cases fl with
    | ret u => exact I2.after hq
    | next => exact False.elim hq
    | brk => exact False.elim hq
    | cont => exact False.elim hq

/-- a lambda that captures nothing, as a value -/
theorem w_lam0 {m : Md} {N : List Str} {sc : Scope} {j k : Nat} {X : Cx} {T : List (Addr × Str)} {c P : Addr} {qual : Str} {NL ps : List Str} {params : Arguments} {body : Expr} {scope : Scope} {pos : Pos} {sp : Sp} {σ : L2.St} {H : Hp} {Q : VK} (h : At m N sc j X)
    (TB : TabB m.base m.mg c P) (hcode : X.env.code = .ref c) (hqual : X.env.qual ++ "<lambda>" = qual) (hm : (P, qual) ∈ T) (hu : ∀ p ∈ T, p.1 = P → p.2 = qual) (S : NScope NL ps [] scope) (hb : ∀ (c' : Addr) (cl : List (Str × Addr)) (pm ctv : Value) (us : List Value), us.length = ps.length → bindArgs (LF.fd ⟨qual, params, body, scope, cl, c'⟩ pm ctv) ⟨us, []⟩ = pure (ps.zip us))
    (hlen : ∀ vs H Q E, sp vs H Q E → vs.length = ps.length)
    (hbody : ∀ (X : Cx) (vs : List V) (H : Hp) (Q : VK), At m NL scope k X → sp vs H Q C8.E0 → wE X body (startF NL vs []) H Q)
    (hT : Tabs T H) (q : ∀ f H1, ExtN H H1 → Tabs T H1 → (∀ b, H1 b = none → H b = none) → Callable m (k + 1) f sp H1 → Q (.ref f) H1) (hdef : defaultsOf params X.env = ([], []) := by with_unfolding_all rfl) : wE X (.Lambda params body scope pos) σ H Q := by
  unfold wE
  intro pins s I
  subst hqual
  have nofree : ∀ y ∈ scope.names, y.2 = .free → ∃ c, X.env.cells.lookup y.1 = some c := fun y hy e => absurd (S.free y hy e) (by simp)
  refine lam_make3 (T := T) (c := c) (P := P) I (by rw [h.bb, h.mm]; exact TB) hcode hm hu hT hdef nofree fun f c' H1 s' I1 eN T1 f0 f1 c1 nn => ?_
  refine ⟨.ref f, H1, I1, rfl, q f H1 eN T1 nn ⟨⟨_, f1⟩, fun H2 e2 A outer s2 us vs Q2 hg hr e0 r hsp => ?_⟩⟩
  refine lam_run (N := NL) (ps := ps) (fr := []) (ws := []) S (fun pm ctv us hl => hb c' _ pm ctv us hl) hg hr e0 (lamO_at e0.hok (e2 _ _ f1 lamO_tbl)) (e2 _ _ c1 codeO_ne) ?_ r (hlen _ _ _ _ hsp) fun X' hA => hbody X' vs H2 Q2 hA hsp
  have ecl : cloFrom X.env.cells scope.names [] = [] := by
    cases hcl : cloFrom X.env.cells scope.names [] with
    | nil => rfl
    | cons y r =>
      have hm2 : (y.1, y.2) ∈ cloFrom X.env.cells scope.names [] := by rw [hcl]; exact List.mem_cons_self
      rcases cloFrom_mem hm2 with z | ⟨z, _⟩
      · cases z
      · exact absurd (S.free _ z rfl) (by simp)
  refine ⟨rfl, fun y c e => ?_, fun x y c e => ?_, fun i y e => ?_⟩
  · rw [ecl] at e; cases e
  · rw [ecl] at e; cases e
  · simp at e

/-! ### one captured cell, locked while the function is handed on -/
def dl (H : Hp) (c : Addr) : Hp := fun b => if b = c then none else H b
theorem dl_same {H : Hp} {c : Addr} : dl H c c = none := if_pos rfl
theorem dl_ne {H : Hp} {b c : Addr} (h : b ≠ c) : dl H c b = H b := if_neg h
theorem dl_some {H : Hp} {b c : Addr} {o : HO} (h : dl H c b = some o) : b ≠ c ∧ H b = some o := by
  by_cases e : b = c
  · subst e; rw [dl_same] at h; cases h
  · rw [dl_ne e] at h; exact ⟨e, h⟩
abbrev lkO (o : Obj) : HO := .frz o (.own 0)
section
variable {P : Program} {w : World} {H H1 : Hp} {h h' : Heap} {c : Addr} {o : Obj} {fs ex : List Addr}
theorem HOk.lock (x : HOk P w H h) (n : H c = none) (e : h.get? c = some o) : HOk P w (upd H c (lkO o)) h := fun b u q => by
  by_cases hb : b = c
  · subst hb; rw [upd_same] at q; cases q; exact ⟨e, ⟨o, e⟩⟩
  · rw [upd_ne hb] at q
    exact (x b u q).stay (fun _ _ _ r => r) (fun d r => by rw [upd_ne (ne_of_none r n)]; exact r) fun d xs r => by rw [upd_ne (ne_of_none r n)]; exact r
theorem HOk.unlock (x : HOk P w H h) (e : H c = some (lkO o)) : HOk P w (dl H c) h := fun b u q => by
  obtain ⟨hb, q⟩ := dl_some q
  exact (x b u q).stay (fun _ _ _ r => r) (fun d r => by rw [dl_ne (fun z => by subst z; rw [e] at r; cases r)]; exact r) fun d xs r => by rw [dl_ne (fun z => by subst z; rw [e] at r; cases r)]; exact r
/-- behind a run that saw the lock -/
theorem Un.unlock (u : Un fs ex (upd H c (lkO o)) H1 h h') (ok : HOk P w H1 h') (n : H c = none) (e : h.get? c = some o) (hfs : c ∉ fs) (hex : c ∉ ex) : Un fs ex H (dl H1 c) h h' := by
  have hc1 : H1 c = some (lkO o) := u.frzs c o _ upd_same
  have hc' : h'.get? c = some o := (ok c _ hc1).1
  refine ⟨fun b ob q nb hf hx => ?_, fun b ob q nb hf hx => ?_, fun b ob q nb hx => ?_, fun b ob q hx => u.there b ob q hx, fun b xs q => ?_, fun b ob z q => ?_, fun b ps q => ?_⟩
  · by_cases hb : b = c
    · subst hb; rw [e] at q; cases q; exact hc'
    · exact u.keep b ob q (by rw [upd_ne hb]; exact nb) hf hx
  · by_cases hb : b = c
    · subst hb; exact absurd hf hfs
    · exact u.slot b ob q (by rw [upd_ne hb]; exact nb) hf hx
  · by_cases hb : b = c
    · subst hb; exact dl_same
    · rw [dl_ne hb]; exact u.free b ob q (by rw [upd_ne hb]; exact nb) hx
  · have hb : b ≠ c := ne_of_none q n
    rw [dl_ne hb]; exact u.tups b xs (by rw [upd_ne hb]; exact q)
  · have hb : b ≠ c := ne_of_none q n
    rw [dl_ne hb]; exact u.frzs b ob z (by rw [upd_ne hb]; exact q)
  · have hb : b ≠ c := ne_of_none q n
    obtain ⟨more, z⟩ := u.tbls b ps (by rw [upd_ne hb]; exact q)
    exact ⟨more, by rw [dl_ne hb]; exact z⟩
/-- a run from which the lock was taken away, with it again -/
theorem Un.relock (u : Un fs ex (dl H c) H1 h h') (e : H c = some (lkO o)) (ec : h.get? c = some o) (hfs : c ∉ fs) (hex : c ∉ ex) : Un fs ex H (upd H1 c (lkO o)) h h' := by
  refine ⟨fun b ob q nb hf hx => ?_, fun b ob q nb hf hx => ?_, fun b ob q nb hx => ?_, fun b ob q hx => u.there b ob q hx, fun b xs q => ?_, fun b ob z q => ?_, fun b ps q => ?_⟩
  · have hb : b ≠ c := fun z => by subst z; rw [e] at nb; cases nb
    exact u.keep b ob q (by rw [dl_ne hb]; exact nb) hf hx
  · have hb : b ≠ c := fun z => by subst z; rw [e] at nb; cases nb
    exact u.slot b ob q (by rw [dl_ne hb]; exact nb) hf hx
  · have hb : b ≠ c := fun z => by subst z; rw [e] at nb; cases nb
    rw [upd_ne hb]; exact u.free b ob q (by rw [dl_ne hb]; exact nb) hx
  · have hb : b ≠ c := fun z => by subst z; rw [e] at q; cases q
    rw [upd_ne hb]; exact u.tups b xs (by rw [dl_ne hb]; exact q)
  · by_cases hb : b = c
    · subst hb; rw [e] at q; cases q; exact upd_same
    · rw [upd_ne hb]; exact u.frzs b ob z (by rw [dl_ne hb]; exact q)
  · have hb : b ≠ c := fun z => by subst z; rw [e] at q; cases q
    obtain ⟨more, z⟩ := u.tbls b ps (by rw [dl_ne hb]; exact q)
    exact ⟨more, by rw [upd_ne hb]; exact z⟩
theorem HOk.relock (x : HOk P w H1 h') (u : Un fs ex (dl H c) H1 h h') (ec : h.get? c = some o) (hfs : c ∉ fs) (hex : c ∉ ex) : HOk P w (upd H1 c (lkO o)) h' := by
  have hn : H1 c = none := u.free c o ec dl_same hex
  exact HOk.lock x hn (u.keep c o ec dl_same hfs hex)
end
/-- the captured cell of a function value: its address, its object, what it holds -/
structure Cap1 (F : LF) (y : Str) (c : Addr) (o : Obj) (v : V) : Prop where
  look : F.cl.lookup y = some c
  only : ∀ y' c', F.cl.lookup y' = some c' → y' = y
  data : ∃ u, o.data = .cell (some u) ∧ RelV v u
theorem ExtN.frz {H H' : Hp} (e : ExtN H H') {c : Addr} {o : Obj} {u : HO} (h : H c = some (.frz o u)) : H' c = some (.frz o u) := e _ _ h (fun _ z => by cases z)
/-- a lambda that captures one name, handed to a def by its last argument: g(e1, lambda ..: ..) -/
theorem w_lam1 {m : Md} {N : List Str} {sc : Scope} {j k kg iy : Nat} {X : Cx} {T : List (Addr × Str)} {c P : Addr} {x y xg : Str} {cdv : Value} {NL ps : List Str} {params : Arguments} {body e1 : Expr} {scope : Scope} {lpos p pos : Pos} {spw spg : Sp} {v : V} {σ : L2.St} {H : Hp} {Q : VK}
    (h : At m N sc j X) (hm' : AtM X x cdv) (TB : TabB m.base m.mg c P) (hcode : cdv = .ref c) (hm : (P, x ++ ".<locals>." ++ "<lambda>") ∈ T) (hu : ∀ p ∈ T, p.1 = P → p.2 = x ++ ".<locals>." ++ "<lambda>") (S : NScope NL ps [y] scope) (hy : (y, NameKind.free) ∈ scope.names)
    (hyN : N[iy]? = some y) (hyc : sc.names.lookup y = some .cell) (hyv : σ[iy]? = some (some v))
    (hb : ∀ (c' : Addr) (cl : List (Str × Addr)) (pm ctv : Value) (us : List Value), us.length = ps.length → bindArgs (LF.fd ⟨x ++ ".<locals>." ++ "<lambda>", params, body, scope, cl, c'⟩ pm ctv) ⟨us, []⟩ = pure (ps.zip us))
    (hlen : ∀ vs H Q E, spw vs H Q E → vs.length = ps.length) (hbody : ∀ (X : Cx) (vs : List V) (H : Hp) (Q : VK), At m NL scope k X → spw vs H Q C8.E0 → wE X body (startF NL vs [some v]) H Q)
    (g : Cal m kg xg spg) (hkg : kg ≤ j) (hgl : sc.names.lookup xg = some .globalImplicit)
    (q : wE X e1 σ H fun v1 H1 => Tabs T H1 ∧ ∀ (f ca : Addr) (o : Obj) (H2 : Hp), H1 ca = none → ExtN H1 H2 → Tabs T H2 → H2 ca = some (lkO o) →
      Callable m (k + 1) f (fun vs H Q E => H ca = some (lkO o) ∧ spw vs (dl H ca) (fun v H' => Q v (upd H' ca (lkO o))) E) H2 → spg [v1, .ref f] H2 (fun v H3 => Q v (dl H3 ca)) C8.E0)
    (hdef : defaultsOf params X.env = ([], []) := by with_unfolding_all rfl) (hdb : (xg == ("__debug__" : Str)) = false := by with_unfolding_all decide)
    (he : starEach [e1, .Lambda params body scope lpos] X.env = (false, eval e1 X.env) :: starEach [.Lambda params body scope lpos] X.env := by with_unfolding_all rfl) (he2 : starEach [.Lambda params body scope lpos] X.env = [(false, eval (.Lambda params body scope lpos) X.env)] := by with_unfolding_all rfl)
    (hpl : (backTo pos (starEach [.Lambda params body scope lpos] X.env)).any (·.1) = false := by with_unfolding_all rfl) : wE X (.Call (.Name xg p) [e1, .Lambda params body scope lpos] [] pos) σ H Q := by
  subst hcode
  obtain ⟨fg, fdg, psg, dsg, Fg, hmg, kpg, bg, dg⟩ := g.ex
  unfold wE
  intro pins s I
  have bs0 := I.ok
  refine wpAny_Call_Name_kw (ld_glob (u := .ref fg) I (h.gl hgl) (by rw [h.mm]; exact hmg) ?_ hdb)
  refine PySem.W.callWith_K (h₀ := X.base) I.ok.mod.kin (by rw [h.kk]; exact kpg) ?_ he hpl
  rw [he]
  show wpAny _ _ (spliced ((false, eval e1 X.env) :: backTo pos (starEach [.Lambda params body scope lpos] X.env))) _ _ s
  refine Calls.spliced_cons (thn ((cE (X := X) (e := e1)).run pins s σ H _ I q) fun u1 s1 ⟨v1, H1, I1, r1, hT, q1⟩ => ?_)
  rw [he2]
  show wpAny _ _ (spliced ((false, eval (.Lambda params body scope lpos) X.env) :: backTo pos [])) _ _ s1
  have hq : X.env.qual ++ "<lambda>" = x ++ ".<locals>." ++ "<lambda>" := by rw [hm'.qual]
  have hfree : ∀ z ∈ scope.names, z.2 = .free → X.env.scope.names.lookup z.1 = some .cell ∨ X.env.scope.names.lookup z.1 = some .free := fun z hz e => by
    have := S.free z hz e
    simp only [List.mem_singleton] at this
    rw [this, h.ss]; exact .inl hyc
  have hfree' : ∀ z ∈ scope.names, z.2 = .free → ∃ c, X.env.cells.lookup z.1 = some c := fun z hz e => (hfree z hz e).elim (fun k => I1.ok.has _ (.inl k)) fun k => I1.ok.has _ (.inr k)
  refine Calls.spliced_cons (lam_make3 (T := T) (c := c) (P := P) I1 (by rw [h.bb, h.mm]; exact TB) hm'.code (by rw [hq]; exact hm) (by rw [hq]; exact hu) hT hdef hfree' fun f c' H2 s2 I2 eN T2 f0 f1 c1 nn => ?_)
  refine Calls.spliced_nil ⟨I2.kIn, ?_⟩
  rw [hq] at f1 c1
  -- the captured cell
  have cp : Caps X (cloFrom X.env.cells scope.names []) [y] [iy] := Caps.made I2.ok hfree (fun z hz => by simp only [List.mem_singleton] at hz; subst hz; exact hy) (by simp [h.nn, hyN])
  have C := cells_of I2 cp
  obtain ⟨ca, hca, hval⟩ := C.has 0 y rfl
  have eslot : slotAt σ iy = some v := slotAt_of hyv
  obtain ⟨u, ru, o, ho, hod⟩ := hval v (by show ([iy].map (slotAt σ))[0]? = _; simp [eslot])
  have nca : H2 ca = none := (C.all y ca hca).1
  have nca1 : H1 ca = none := nn ca nca
  have hX : X.env.cells.lookup y = some ca := cp.sub y ca hca
  have only : ∀ y' c'', (cloFrom X.env.cells scope.names []).lookup y' = some c'' → y' = y := fun y' c'' e => by
    rcases cloFrom_mem (PySem.mem_of_lookup e) with z | ⟨z, _⟩
    · cases z
    · simpa using S.free (y', .free) z rfl
  have cs0 : X.s_0.heap.objs.size ≤ ca := I2.ok.cab y ca (hm'.fn y) hX
  have ncb : ∀ b ob, X.base.get? b = some ob → b ≠ ca := fun b ob e z => by
    subst z
    exact absurd (Nat.lt_of_lt_of_le (Heap.lt_size e) (Nat.le_trans I2.ok.bsz cs0)) (Nat.lt_irrefl _)
  have nfs : ca ∉ frs X.stack := fun z => by
    rcases List.mem_cons.mp (I2.stkSub _ z) with e | hb'
    · exact I2.cne y ca hX e
    · obtain ⟨_, ob, hob, _⟩ := I2.ok.funs.mem hb'
      exact absurd (Nat.lt_of_lt_of_le (Heap.lt_size hob) cs0) (Nat.lt_irrefl _)
  let H3 := upd H2 ca (lkO o)
  have ok3 : HOk X.prog X.w H3 s2.heap := HOk.lock I2.hok nca ho
  have e0 := I2.env0
  have e03 : Env0 X.prog X.w X.K X.mg X.base X.A X.stack s2 H3 := ⟨e0.frames, e0.mod, fun b ob e => ⟨(e0.bs b ob e).1, by show upd H2 ca (lkO o) b = none; rw [upd_ne (ncb b ob e)]; exact (e0.bs b ob e).2⟩, e0.bsz, e0.funs,
    fun b hb' => by show upd H2 ca (lkO o) b = none; rw [upd_ne (fun z => nfs (by rw [← z]; exact hb'))]; exact e0.frf b hb', ok3, e0.bare⟩
  have x23 : ExtN H2 H3 := fun b ob e _ => by show upd H2 ca (lkO o) b = _; rw [upd_ne (ne_of_none e nca)]; exact e
  have t3 : Tabs T H3 := Tabs.ext T2 fun b ob e => by show upd H2 ca (lkO o) b = _; rw [upd_ne (ne_of_none e nca)]; exact e
  have F3 : H3 f = some (LamO f _) := x23 _ _ f1 lamO_tbl
  have C3 : H3 c' = some (CodeO c' _) := x23 _ _ c1 codeO_ne
  have hcall : Callable m (k + 1) f (fun vs H Q E => H ca = some (lkO o) ∧ spw vs (dl H ca) (fun v H' => Q v (upd H' ca (lkO o))) E) H3 := by
    refine ⟨⟨_, F3⟩, fun H4 e4 A outer s4 us vs Q4 hg hr e04 r hsp => ?_⟩
    obtain ⟨hc4, hsp⟩ := hsp
    have ho4 : s4.heap.get? ca = some o := (e04.hok ca _ hc4).1
    have nf4 : ca ∉ frs outer := fun z => by have := e04.frf ca z; rw [hc4] at this; cases this
    have e05 : Env0 m.P m.w m.K m.mg m.base A outer s4 (dl H4 ca) := ⟨e04.frames, e04.mod, fun b ob e => ⟨(e04.bs b ob e).1, by
        by_cases hb' : b = ca
        · subst hb'; exact dl_same
        · rw [dl_ne hb']; exact (e04.bs b ob e).2⟩, e04.bsz, e04.funs, fun b hb' => by rw [dl_ne (fun z => nf4 (by rw [← z]; exact hb'))]; exact e04.frf b hb', HOk.unlock e04.hok hc4, e04.bare⟩
    have nef : c' ≠ ca := ne_of C3 (show H3 ca = some (lkO o) from upd_same) (by unfold CodeO; intro z; cases z)
    have F4 := e4 _ _ F3 lamO_tbl
    have C4 : dl H4 ca c' = some (CodeO c' (x ++ ".<locals>." ++ "<lambda>")) := by rw [dl_ne nef]; exact e4 _ _ C3 codeO_ne
    have run := lam_run (m := m) (N := NL) (ps := ps) (fr := [y]) (ws := [some v]) (F := ⟨x ++ ".<locals>." ++ "<lambda>", params, body, scope, cloFrom X.env.cells scope.names [], c'⟩) (f := f) (Q := fun v H' => Q4 v (upd H' ca (lkO o))) S (fun pm ctv us hl => hb c' _ pm ctv us hl) hg hr e05 (lamO_at e04.hok F4) C4
      ⟨rfl, fun y' c'' e => ?_, fun a b c0 h1 h2 => by rw [only a c0 h1, only b c0 h2], fun i y' e => ?_⟩ r (hlen _ _ _ _ hsp) fun X' hA => hbody X' vs _ _ hA hsp
    · refine codeAny_mono run fun r s' hq => ?_
      cases r with
      | error e => exact hq
      | ok fl =>
        cases fl with
        | ret u' =>
          obtain ⟨v', H', os, bare, un, hok, rv, qq⟩ := hq
          exact ⟨v', upd H' ca (lkO o), os, bare, Un.relock un hc4 ho4 nf4 (by simp), HOk.relock hok un ho4 nf4 (by simp), rv, qq⟩
        | next => exact hq
        | brk => exact hq
        | cont => exact hq
    · have := only y' c'' e
      subst this
      rw [hca] at e; cases e
      exact ⟨dl_same, _, o, ho4, hod⟩
    · match i, e with
      | 0, e =>
        cases e
        exact ⟨ca, hca, fun v' ev => by cases ev; exact ⟨u, ru, o, ho4, hod⟩⟩
  have hsp := q1 f ca o H3 nca1 (eN.trans x23) t3 upd_same hcall
  have r2 : Vals ([v1, .ref f] ++ []) ([u1, .ref f] ++ dsg) := Vals.append (Paired.cons r1 (Paired.cons rfl .nil) : Vals [v1, .ref f] [u1, .ref f]) dg
  have rc := Fg.run X.A X.stack s2 H3 ⟨[u1, .ref f], []⟩ ([u1, .ref f] ++ dsg) [v1, .ref f] (fun v H3 => Q v (dl H3 ca)) C8.E0 h.gd (h.room.mono hkg) (by rw [← h.pp, ← h.ww, ← h.kk, ← h.mm, ← h.bb]; exact e03)
    (bg s2 [u1, .ref f] (by rw [← h.kk]; exact I2.kIn) (by rw [← r2.length]; have := Fg.len _ _ _ _ hsp; simpa using this)) (by simpa using r2) hsp
  show wpAny _ _ (call (.ref fg) [u1, .ref f]) _ _ _
  rw [← h.pp, ← h.ww] at rc
  refine wpAny_call (codeAny_mono rc fun r s' hq => ?_)
  cases r with
  | error e => exact (show False from hq).elim
  | ok fl =>
    cases fl with
    | ret u' =>
      obtain ⟨v', H', os, bare, un, hok, rv, qq⟩ := hq
      exact I2.after ⟨v', dl H' ca, os, bare, Un.unlock un hok nca ho nfs (by simp), HOk.unlock hok (un.frzs ca o _ upd_same), rv, qq⟩
    | next => exact False.elim hq
    | brk => exact False.elim hq
    | cont => exact False.elim hq
end Vf
set_option maxRecDepth 100000
set_option maxHeartbeats 4000000
/-! Dat: data at any depth in the abstract heap, with the addresses that it lies at. Own work. -/
namespace Vf
open PySem PySem.Spec PyProof.Rows L2 LamX

mutual
/-- v is the data d; all lists of it lie at addresses of A -/
inductive Da (K : PySem.W.Frag) (A : Addr → Prop) (H : Hp) : V → PyData → Prop
  | non : Da K A H .non .none
  | bl (b : Bool) : Da K A H (.bl b) (.bool b)
  | int (i : Int) : Da K A H (.int i) (.int i)
  | str (x : Str) : Da K A H (.str x) (.str x)
  | lst {a : Addr} {xs : List V} {ds : List PyData} : A a → SqL K H a xs → DaAll K A H xs ds → Da K A H (.ref a) (.list ds)
  | tup {a : Addr} {xs : List V} {ds : List PyData} : SqT K H a xs → DaAll K A H xs ds → Da K A H (.ref a) (.tuple ds)
inductive DaAll (K : PySem.W.Frag) (A : Addr → Prop) (H : Hp) : List V → List PyData → Prop
  | nil : DaAll K A H [] []
  | cons {v : V} {vs : List V} {d : PyData} {ds : List PyData} : Da K A H v d → DaAll K A H vs ds → DaAll K A H (v :: vs) (d :: ds)
end
section
variable {K : PySem.W.Frag} {A A' : Addr → Prop} {H H' : Hp}
mutual
theorem Da.dp : ∀ (d : PyData) (v : V), Da K A H v d → Dp K H v d
  | .none, _, h => by cases h; exact .non
  | .bool b, _, h => by cases h; exact .bl b
  | .int i, _, h => by cases h; exact .int i
  | .str x, _, h => by cases h; exact .str x
  | .list ds, _, h => by cases h with | lst _ s r => exact .lst s (DaAll.dp ds _ r)
  | .tuple ds, _, h => by cases h with | tup s r => exact .tup s (DaAll.dp ds _ r)
  | .dict _, _, h => by cases h
theorem DaAll.dp : ∀ (ds : List PyData) (vs : List V), DaAll K A H vs ds → DpAll K H vs ds
  | [], _, h => by cases h; exact .nil
  | d :: ds, _, h => by cases h with | cons a b => exact .cons (Da.dp d _ a) (DaAll.dp ds _ b)
end
mutual
theorem Da.mono (hA : ∀ a, A a → A' a) (hL : ∀ a xs, A a → SqL K H a xs → SqL K H' a xs) (hT : ∀ a xs, SqT K H a xs → SqT K H' a xs) : ∀ (d : PyData) (v : V), Da K A H v d → Da K A' H' v d
  | .none, _, h => by cases h; exact .non
  | .bool b, _, h => by cases h; exact .bl b
  | .int i, _, h => by cases h; exact .int i
  | .str x, _, h => by cases h; exact .str x
  | .list ds, _, h => by cases h with | lst a s r => exact .lst (hA _ a) (hL _ _ a s) (DaAll.mono hA hL hT ds _ r)
  | .tuple ds, _, h => by cases h with | tup s r => exact .tup (hT _ _ s) (DaAll.mono hA hL hT ds _ r)
  | .dict _, _, h => by cases h
theorem DaAll.mono (hA : ∀ a, A a → A' a) (hL : ∀ a xs, A a → SqL K H a xs → SqL K H' a xs) (hT : ∀ a xs, SqT K H a xs → SqT K H' a xs) : ∀ (ds : List PyData) (vs : List V), DaAll K A H vs ds → DaAll K A' H' vs ds
  | [], _, h => by cases h; exact .nil
  | d :: ds, _, h => by cases h with | cons a b => exact .cons (Da.mono hA hL hT d _ a) (DaAll.mono hA hL hT ds _ b)
end
mutual
theorem Dp.noDict : ∀ (d : PyData) (v : V), Dp K H v d → d.hasDict = false
  | .none, _, _ => rfl
  | .bool _, _, _ => rfl
  | .int _, _, _ => rfl
  | .str _, _, _ => rfl
  | .list ds, _, h => by cases h with | lst s r => show PyData.hasDictAll ds = false; exact DpAll.noDict ds _ r
  | .tuple ds, _, h => by cases h with | tup s r => show PyData.hasDictAll ds = false; exact DpAll.noDict ds _ r
  | .dict _, _, h => by cases h
theorem DpAll.noDict : ∀ (ds : List PyData) (vs : List V), DpAll K H vs ds → PyData.hasDictAll ds = false
  | [], _, _ => rfl
  | d :: ds, _, h => by cases h with | cons a b => show (d.hasDict || PyData.hasDictAll ds) = false; rw [Dp.noDict d _ a, DpAll.noDict ds _ b]; rfl
end
/-- everything -/
abbrev Any : Addr → Prop := fun _ => True
mutual
theorem Da.of : ∀ (d : PyData) (v : V), Dp K H v d → Da K Any H v d
  | .none, _, h => by cases h; exact .non
  | .bool b, _, h => by cases h; exact .bl b
  | .int i, _, h => by cases h; exact .int i
  | .str x, _, h => by cases h; exact .str x
  | .list ds, _, h => by cases h with | lst s r => exact .lst trivial s (DaAll.of ds _ r)
  | .tuple ds, _, h => by cases h with | tup s r => exact .tup s (DaAll.of ds _ r)
  | .dict _, _, h => by cases h
theorem DaAll.of : ∀ (ds : List PyData) (vs : List V), DpAll K H vs ds → DaAll K Any H vs ds
  | [], _, h => by cases h; exact .nil
  | d :: ds, _, h => by cases h with | cons a b => exact .cons (Da.of d _ a) (DaAll.of ds _ b)
end
theorem DaAll.length : ∀ {vs : List V} {ds : List PyData}, DaAll K A H vs ds → vs.length = ds.length
  | _, _, .nil => rfl
  | _, _, .cons _ r => congrArg (· + 1) (DaAll.length r)
theorem DaAll.get : ∀ {vs : List V} {ds : List PyData} {i : Nat} {d : PyData}, DaAll K A H vs ds → ds[i]? = some d → ∃ v, vs[i]? = some v ∧ Da K A H v d
  | _, _, i, _, .nil, e => by simp at e
  | _, _, 0, _, .cons a _, e => by simp at e; subst e; exact ⟨_, rfl, a⟩
  | _, _, i + 1, d, .cons _ r, e => by
    obtain ⟨v, h1, h2⟩ := DaAll.get (i := i) r (by simpa using e)
    exact ⟨v, by simpa using h1, h2⟩
theorem DaAll.getV : ∀ {vs : List V} {ds : List PyData} {i : Nat} {v : V}, DaAll K A H vs ds → vs[i]? = some v → ∃ d, ds[i]? = some d ∧ Da K A H v d
  | _, _, i, _, .nil, e => by simp at e
  | _, _, 0, _, .cons a _, e => by simp at e; subst e; exact ⟨_, rfl, a⟩
  | _, _, i + 1, d, .cons _ r, e => by
    obtain ⟨v, h1, h2⟩ := DaAll.getV (i := i) r (by simpa using e)
    exact ⟨v, by simpa using h1, h2⟩
theorem DaAll.append : ∀ {vs ws : List V} {ds es : List PyData}, DaAll K A H vs ds → DaAll K A H ws es → DaAll K A H (vs ++ ws) (ds ++ es)
  | _, _, _, _, .nil, s => s
  | _, _, _, _, .cons a r, s => .cons a (DaAll.append r s)
end

/-! ### how heaps grow -/
theorem SqL.ext {K : PySem.W.Frag} {H H' : Hp} {a : Addr} {xs : List V} (e : ExtN H H') (h : SqL K H a xs) : SqL K H' a xs := by
  rcases h with (h | ⟨o, h⟩) | h
  · exact .inl (.inl (e _ _ h (fun _ z => by cases z)))
  · exact .inl (.inr ⟨o, e _ _ h (fun _ z => by cases z)⟩)
  · exact .inr h
theorem SqT.ext {K : PySem.W.Frag} {H H' : Hp} {a : Addr} {xs : List V} (e : ExtN H H') (h : SqT K H a xs) : SqT K H' a xs := by
  rcases h with (h | ⟨o, h⟩) | h
  · exact .inl (.inl (e _ _ h (fun _ z => by cases z)))
  · exact .inl (.inr ⟨o, e _ _ h (fun _ z => by cases z)⟩)
  · exact .inr h
/-- what was tracked stays, but for the objects of S (and tables of code, which grow); the tables T stay tables; no tuple and nothing frozen changes -/
structure GrowX (T : List (Addr × Str)) (S : Addr → Prop) (H H' : Hp) : Prop where
  ext : ∀ b o, ¬ S b → H b = some o → (∀ ps, o ≠ .tbl ps) → H' b = some o
  tab : Tabs T H → Tabs T H'
  keep : ∀ b, H' b = none → H b = none
  tup : ∀ b xs, H b = some (.tup xs) → H' b = some (.tup xs)
  frz : ∀ b o u, H b = some (.frz o u) → H' b = some (.frz o u)
abbrev Grow (T : List (Addr × Str)) (H H' : Hp) : Prop := GrowX T (fun _ => False) H H'
section
variable {T : List (Addr × Str)} {S S' : Addr → Prop} {H H1 H2 : Hp} {K : PySem.W.Frag} {A : Addr → Prop}
theorem GrowX.refl : GrowX T S H H := ⟨fun _ _ _ h _ => h, id, fun _ h => h, fun _ _ h => h, fun _ _ _ h => h⟩
theorem GrowX.trans (a : GrowX T S H H1) (b : GrowX T S H1 H2) : GrowX T S H H2 := ⟨fun c o s h n => b.ext c o s (a.ext c o s h n) n, fun t => b.tab (a.tab t), fun c h => a.keep c (b.keep c h), fun c xs h => b.tup c xs (a.tup c xs h), fun c o u h => b.frz c o u (a.frz c o u h)⟩
theorem GrowX.weak (a : GrowX T S H H1) (h : ∀ b, S b → S' b) : GrowX T S' H H1 := ⟨fun c o s e n => a.ext c o (fun z => s (h c z)) e n, a.tab, a.keep, a.tup, a.frz⟩
theorem Grow.extN (a : Grow T H H1) : ExtN H H1 := fun b o h n => a.ext b o (fun z => z) h n
theorem Grow.of (a : ExtN H H1) (t : Tabs T H → Tabs T H1) (k : ∀ b, H1 b = none → H b = none) : Grow T H H1 := ⟨fun b o _ h n => a b o h n, t, k, fun b xs h => a b _ h (fun _ z => by cases z), fun b o u h => a b _ h (fun _ z => by cases z)⟩
theorem Grow.to (a : Grow T H H1) : GrowX T S H H1 := a.weak fun _ z => z.elim
theorem Grow.new {p : Addr} {o : HO} (h : H p = none) : Grow T H (upd H p o) := ⟨fun b u _ e _ => by rw [upd_ne (ne_of_none e h)]; exact e, fun t => t.ext fun b u e => by rw [upd_ne (ne_of_none e h)]; exact e, fun b e => NdefX.upd_none e, fun b xs e => by rw [upd_ne (ne_of_none e h)]; exact e, fun b u v e => by rw [upd_ne (ne_of_none e h)]; exact e⟩
theorem GrowX.set {p : Addr} {o u : HO} (hp : S p) (h : H p = some u) (n : ∀ ps, u ≠ .tbl ps) (hc : ∀ q, u ≠ CodeO p q) (ht : ∀ xs, u ≠ .tup xs) (hf : ∀ w v, u ≠ .frz w v) : GrowX T S H (upd H p o) := by
  refine ⟨fun b w s e _ => by rw [upd_ne (fun z => s (by rw [z]; exact hp))]; exact e, fun t q hq => ?_, fun b e => NdefX.upd_none e, fun b xs e => by rw [upd_ne (fun z => ht xs (Option.some.inj (h.symm.trans (by rw [← z]; exact e))))]; exact e, fun b w v e => by rw [upd_ne (fun z => hf w v (Option.some.inj (h.symm.trans (by rw [← z]; exact e))))]; exact e⟩
  obtain ⟨ps, h1, h2, h3⟩ := t q hq
  refine ⟨ps, by rw [upd_ne (fun z => n ps (Option.some.inj (h.symm.trans (by rw [← z]; exact h1))))]; exact h1, h2, fun pos cv hc' => ?_⟩
  obtain ⟨c, e1, e2⟩ := h3 pos cv hc'
  exact ⟨c, e1, by rw [upd_ne (fun z => hc q.2 (Option.some.inj (h.symm.trans (by rw [← z]; exact e2))))]; exact e2⟩
theorem GrowX.seqL {a : Addr} {xs : List V} (g : GrowX T S H H1) (h : SqL K H a xs) (n : ¬ S a) : SqL K H1 a xs := by
  rcases h with (h | ⟨o, h⟩) | h
  · exact .inl (.inl (g.ext _ _ n h (fun _ z => by cases z)))
  · exact .inl (.inr ⟨o, g.ext _ _ n h (fun _ z => by cases z)⟩)
  · exact .inr h
theorem GrowX.seqT {a : Addr} {xs : List V} (g : GrowX T S H H1) (h : SqT K H a xs) : SqT K H1 a xs := by
  rcases h with (h | ⟨o, h⟩) | h
  · exact .inl (.inl (g.tup _ _ h))
  · exact .inl (.inr ⟨o, g.frz _ _ _ h⟩)
  · exact .inr h
theorem GrowX.da {v : V} {d : PyData} (g : GrowX T S H H1) (h : Da K A H v d) (n : ∀ a, A a → ¬ S a) : Da K A H1 v d := Da.mono (fun _ z => z) (fun a xs ha e => g.seqL e (n a ha)) (fun a xs e => g.seqT e) d v h
theorem GrowX.daAll {v : List V} {d : List PyData} (g : GrowX T S H H1) (h : DaAll K A H v d) (n : ∀ a, A a → ¬ S a) : DaAll K A H1 v d := DaAll.mono (fun _ z => z) (fun a xs ha e => g.seqL e (n a ha)) (fun a xs e => g.seqT e) d v h
theorem Grow.da {v : V} {d : PyData} (g : Grow T H H1) (h : Da K A H v d) : Da K A H1 v d := GrowX.da g h fun _ _ z => z
theorem Grow.daAll {v : List V} {d : List PyData} (g : Grow T H H1) (h : DaAll K A H v d) : DaAll K A H1 v d := GrowX.daAll g h fun _ _ z => z
theorem Da.sub {A' : Addr → Prop} {v : V} {d : PyData} (h : Da K A H v d) (s : ∀ a, A a → A' a) : Da K A' H v d := Da.mono s (fun _ _ _ e => e) (fun _ _ e => e) d v h
theorem DaAll.sub {A' : Addr → Prop} {v : List V} {d : List PyData} (h : DaAll K A H v d) (s : ∀ a, A a → A' a) : DaAll K A' H v d := DaAll.mono s (fun _ _ _ e => e) (fun _ _ e => e) d v h
/-- free addresses -/
abbrev New (H : Hp) : Addr → Prop := fun a => H a = none
theorem GrowX.new {a : Addr} (g : GrowX T S H H1) (h : New H1 a) : New H a := g.keep a h
end

/-! ### repr of data -/
theorem call_reprD {X : Cx} (hg : X.A.guards = some []) (hu : X.A.units + 64 < cLine) : CallR X (.builtin "repr") (fun xs H Q => ∃ v d, xs = [v] ∧ Dp X.K H v d ∧ d.showable = true ∧ d.shown.length ≤ sizeLine ∧ d.depth ≤ 60 ∧ Q (.str d.shown) H) := by
  intro pins s σ H xs us Q I r h
  obtain ⟨v, d, rfl, hd, hs, hl, hdp, q⟩ := h
  obtain ⟨u, rfl, ru⟩ := vals1 r
  have fin : ∀ (h' : Heap) (u' tk : Tok), (∀ b o, s.heap.get? b = some o → h'.get? b = some o) → EP X pins σ Q (.str d.shown u') { s with heap := h', toks := tk } := fun h' u' tk kp => ⟨.str d.shown, H, I.kept kp, ⟨_, rfl⟩, q⟩
  cases hd with
  | non => cases ru; exact PySem.P.repr_of_none (fin _ _ _ fun _ _ e => e)
  | bl b => cases ru; exact PySem.P.repr_of_bool (fin _ _ _ fun _ _ e => e)
  | int i => obtain ⟨t, rfl⟩ := ru; exact PySem.P.repr_of_int (by simpa [PyData.showable] using hs) (fin _ _ _ fun _ _ e => e)
  | str x => obtain ⟨t, rfl⟩ := ru; exact PySem.P.repr_of_str (fin _ _ _ fun _ _ e => e) hl
  | lst hsq hda =>
    obtain ⟨as, rd⟩ := Dp.reads I _ _ _ (Dp.lst hsq hda) ru
    cases ru
    exact repr_of_reads' rd hs (PyData.noDict_hsm (Dp.noDict _ _ (Dp.lst hsq hda))) hg (by omega) (fun _ _ e => e) (fun h' u tk kp => fin h' u tk kp) hl
  | tup hsq hda =>
    obtain ⟨as, rd⟩ := Dp.reads I _ _ _ (Dp.tup hsq hda) ru
    cases ru
    exact repr_of_reads' rd hs (PyData.noDict_hsm (Dp.noDict _ _ (Dp.tup hsq hda))) hg (by omega) (fun _ _ e => e) (fun h' u tk kp => fin h' u tk kp) hl
end Vf
set_option maxRecDepth 100000
set_option maxHeartbeats 4000000
/-! Gen: operators, subscripts, calls at values: what is left of an expression when its parts are known. Own work. -/
namespace Vf
open PySem PySem.Spec PyProof.Rows L2 LamX
/-- a binary operator or comparison at two values -/
def gOp (X : Cx) (f : Value → Value → Sem Value) (x y : V) (H : Hp) (Q : VK) : Prop := ∀ (pins : List (Addr × Obj)) (s : Shared) (σ : L2.St) (v u : Value), Inv X pins σ H s → L2.RelV x v → L2.RelV y u → wpAny (model X.prog X.w) X.A (f v u) (EP X pins σ Q) X.xe s
/-- a subscript at two values -/
def gIx (X : Cx) (x y : V) (H : Hp) (Q : VK) : Prop := ∀ (value slice : Expr) (pins : List (Addr × Obj)) (s : Shared) (σ : L2.St) (v u : Value), Inv X pins σ H s → L2.RelV x v → L2.RelV y u →
  subscripted slice false v u = operate [v, u] (getItem v u) → wpAny (model X.prog X.w) X.A (subscriptTail value slice v u) (EP X pins σ Q) X.xe s
/-- a store x[y] = z at three values -/
def gSet (X : Cx) (x y z : V) (H : Hp) (Q : Hp → Prop) : Prop := ∃ t, PSet X t ∧ t x y z H Q
/-- a built-in's call at values -/
def gCall (X : Cx) (f : Value) (xs : List V) (H : Hp) (Q : VK) : Prop := ∃ r, CallR X f r ∧ r xs H Q
/-- truth -/
def gTru (X : Cx) (x : V) (H : Hp) (Q : Bool → Hp → Prop) : Prop := ∃ k, TruV X.K x H k ∧ Q k H
section
variable {m : Md} {N : List Str} {sc : Scope} {k : Nat} {X : Cx} {a b c e o : Expr} {es : List Expr} {σ : L2.St} {H : Hp} {Q : VK} {QB : Bool → Hp → Prop} {D : Ends} {pos p p1 p2 : Pos} {x y : Str} {i j : Nat} {v w : V}
theorem gOp_ok {f : Value → Value → Sem Value} : OpR X f (gOp X f) := fun pins s σ H x y v u Q I rx ry h => h pins s σ v u I rx ry
theorem gOp.of {f : Value → Value → Sem Value} {r : R2} (h : OpR X f r) {x y : V} (q : r x y H Q) : gOp X f x y H Q := fun pins s σ v u I rx ry => h pins s σ H x y v u Q I rx ry q
theorem gIx_ok : IxR X (gIx X) := fun value slice pins s σ H x y v u Q I rx ry h hs => h value slice pins s σ v u I rx ry hs
theorem gIx.of {r : R2} (h : IxR X r) {x y : V} (q : r x y H Q) : gIx X x y H Q := fun value slice pins s σ v u I rx ry hs => h value slice pins s σ H x y v u Q I rx ry q hs
theorem g_bin {op : Operator} (q : wE X a σ H fun x H1 => wE X b σ H1 fun y H2 => gOp X (binaryOp op) x y H2 Q) : wE X (.BinOp a op b pos) σ H Q := w_bin gOp_ok q
theorem g_cmp {op : CmpOp} (q : wE X a σ H fun x H1 => wE X b σ H1 fun y H2 => gOp X (compareOp op) x y H2 Q) (hm : behindInMarks op b = false := by with_unfolding_all first | exact nomark _ | rfl) : wE X (.Compare a [op] [b] pos) σ H Q := w_cmp gOp_ok hm q
theorem gt_cmp {op : CmpOp} (q : wE X a σ H fun x H1 => wE X b σ H1 fun y H2 => gOp X (compareOp op) x y H2 fun z H' => ∃ k, z = .bl k ∧ QB k H') (hm : behindInMarks op b = false := by with_unfolding_all first | exact nomark _ | rfl) : wT X (.Compare a [op] [b] pos) σ H QB := t_cmp gOp_ok hm q
theorem g_ix (q : wE X a σ H fun x H1 => wE X b σ H1 fun y H2 => gIx X x y H2 Q) (hs : PlainIx b := by with_unfolding_all exact fun _ _ => rfl) : wE X (.Subscript a b pos) σ H Q := w_ix gIx_ok hs q
theorem gt_tru (q : wE X a σ H fun x H1 => gTru X x H1 QB) (he : ∀ whole, isTrue a X.env whole = (do let v ← whole; standAt a.pos; holding [v] (truthy v)) := by with_unfolding_all (intro _; rfl)) : wT X a σ H QB := t_truth q he
theorem decI {i j : Int} : decide (V.int i = V.int j) = decide (i = j) := by rw [decide_eq_decide]; exact ⟨fun z => by injection z, fun z => by rw [z]⟩
theorem decS {i j : Str} : decide (V.str i = V.str j) = decide (i = j) := by rw [decide_eq_decide]; exact ⟨fun z => by injection z, fun z => by rw [z]⟩
/-- .. ints -/
theorem g_addI {i j : Int} (q : Q (.int (i + j)) H) : gOp X (binaryOp .Add) (.int i) (.int j) H Q := gOp.of op_add ⟨_, _, rfl, rfl, q⟩
theorem g_subI {i j : Int} (q : Q (.int (i - j)) H) : gOp X (binaryOp .Sub) (.int i) (.int j) H Q := gOp.of op_sub ⟨_, _, rfl, rfl, q⟩
theorem g_mulI {i j : Int} (hc : CMul i j) (q : Q (.int (i * j)) H) : gOp X (binaryOp .Mult) (.int i) (.int j) H Q := gOp.of op_mul ⟨_, _, rfl, rfl, hc, q⟩
theorem g_modI {i j : Int} (hj : 0 < j) (q : Q (.int (i % j)) H) : gOp X (binaryOp .Mod) (.int i) (.int j) H Q := gOp.of op_mod ⟨_, _, rfl, rfl, hj, q⟩
/-- the rest alone is known by its bounds -/
theorem g_modB {i j : Int} (hj : 0 < j) (q : ∀ r, 0 ≤ r → r < j → Q (.int r) H) : gOp X (binaryOp .Mod) (.int i) (.int j) H Q := g_modI hj (q _ (Int.emod_nonneg _ (by omega)) (Int.emod_lt_of_pos _ hj))
theorem g_divI {i j : Int} (hj : 0 < j ∧ j < 1073741824) (q : Q (.int (i / j)) H) : gOp X (binaryOp .FloorDiv) (.int i) (.int j) H Q := gOp.of op_fdiv ⟨_, _, rfl, rfl, hj, q⟩
theorem g_divW {i j : Int} (hj : CDivW i j) (q : Q (.int (i / j)) H) : gOp X (binaryOp .FloorDiv) (.int i) (.int j) H Q := gOp.of op_fdivW ⟨_, _, rfl, rfl, hj, q⟩
theorem g_powI {i j : Int} (hc : CPow i j) (q : Q (.int (i ^ j.toNat)) H) : gOp X (binaryOp .Pow) (.int i) (.int j) H Q := gOp.of op_pow ⟨_, _, rfl, rfl, hc, q⟩
theorem g_ltI {i j : Int} (q : Q (.bl (decide (i < j))) H) : gOp X (compareOp .Lt) (.int i) (.int j) H Q := gOp.of op_lt ⟨_, _, rfl, rfl, q⟩
theorem g_leI {i j : Int} (q : Q (.bl (decide (i ≤ j))) H) : gOp X (compareOp .LtE) (.int i) (.int j) H Q := gOp.of op_le ⟨_, _, rfl, rfl, q⟩
theorem g_gtI {i j : Int} (q : Q (.bl (decide (j < i))) H) : gOp X (compareOp .Gt) (.int i) (.int j) H Q := gOp.of op_gt ⟨_, _, rfl, rfl, q⟩
theorem g_geI {i j : Int} (q : Q (.bl (decide (j ≤ i))) H) : gOp X (compareOp .GtE) (.int i) (.int j) H Q := gOp.of op_ge ⟨_, _, rfl, rfl, q⟩
theorem g_eqI {i j : Int} (q : Q (.bl (decide (i = j))) H) : gOp X (compareOp .Eq) (.int i) (.int j) H Q := gOp.of op_eq ⟨rfl, by rw [decI]; exact q⟩
theorem g_neI {i j : Int} (q : Q (.bl (!decide (i = j))) H) : gOp X (compareOp .NotEq) (.int i) (.int j) H Q := gOp.of op_ne ⟨rfl, by rw [decI]; exact q⟩
theorem g_eqS {i j : Str} (q : Q (.bl (decide (i = j))) H) : gOp X (compareOp .Eq) (.str i) (.str j) H Q := gOp.of op_eq ⟨rfl, by rw [decS]; exact q⟩
theorem g_neS {i j : Str} (q : Q (.bl (!decide (i = j))) H) : gOp X (compareOp .NotEq) (.str i) (.str j) H Q := gOp.of op_ne ⟨rfl, by rw [decS]; exact q⟩
theorem g_leS {i j : Str} (q : Q (.bl (!decide (j.cps.toList < i.cps.toList))) H) (hr : OpR X (compareOp .LtE) (fun x y H Q => ∃ i j, x = .str i ∧ y = .str j ∧ Q (.bl (!decide (j.cps.toList < i.cps.toList))) H)) : gOp X (compareOp .LtE) (.str i) (.str j) H Q := gOp.of hr ⟨_, _, rfl, rfl, q⟩
theorem g_isN (q : Q (.bl (decide (v = .non))) H) : gOp X (compareOp .Is) v .non H Q := gOp.of op_isN ⟨rfl, q⟩
theorem g_notN (q : Q (.bl (!decide (v = .non))) H) : gOp X (compareOp .IsNot) v .non H Q := gOp.of op_notN ⟨rfl, q⟩
/-- .. texts -/
theorem g_addS {i j : Str} (hl : i.length + j.length ≤ sizeLine) (q : Q (.str (i ++ j)) H) : gOp X (binaryOp .Add) (.str i) (.str j) H Q := gOp.of op_add_str ⟨_, _, rfl, rfl, hl, q⟩
/-- .. lists -/
theorem g_cat {l r : Addr} {xs zs : List V} (h1 : H l = some (.lst xs)) (h2 : H r = some (.lst zs)) (hz : xs.length + zs.length ≤ sizeLine) (q : ∀ p, H p = none → Q (.ref p) (upd H p (.lst (xs ++ zs)))) : gOp X (binaryOp .Add) (.ref l) (.ref r) H Q := gOp.of op_cat ⟨_, _, _, _, rfl, rfl, h1, h2, hz, q⟩
theorem g_ixL (h : At m N sc k X) {l : Addr} {xs : List V} {i : Int} {v : V} (hs : SqL m.K H l xs) (e : atI xs i = some v) (q : Q v H) : gIx X (.ref l) (.int i) H Q := gIx.of ix_list ⟨_, _, _, _, rfl, rfl, by rw [h.kk]; exact hs, e, q⟩
theorem g_ixT (h : At m N sc k X) {l : Addr} {xs : List V} {i : Int} {v : V} (hs : SqT m.K H l xs) (e : atI xs i = some v) (q : Q v H) : gIx X (.ref l) (.int i) H Q := gIx.of ix_tup ⟨_, _, _, _, rfl, rfl, by rw [h.kk]; exact hs, e, q⟩
theorem g_ixS {z : Str} {i : Int} {c : Nat} (hz : z.length ≤ sizeLine) (e : atI z.cps.toList i = some c) (q : Q (.str ⟨#[c]⟩) H) : gIx X (.str z) (.int i) H Q := gIx.of ix_str ⟨_, _, _, rfl, rfl, hz, e, q⟩
theorem g_eqD (h : At m N sc k X) {v w : V} {d e : PyData} (hd : Dp m.K H v d) (he : Dp m.K H w e) (sd : SeqAt.shaped d = true) (se : SeqAt.shaped e = true) (q : Q (.bl (PyData.eqv d e)) H) : gOp X (compareOp .Eq) v w H Q := gOp.of (op_eqD h.room.units) ⟨d, e, by rw [h.kk]; exact hd, by rw [h.kk]; exact he, sd, se, q⟩
theorem g_neD (h : At m N sc k X) {v w : V} {d e : PyData} (hd : Dp m.K H v d) (he : Dp m.K H w e) (sd : SeqAt.shaped d = true) (se : SeqAt.shaped e = true) (q : Q (.bl (!PyData.eqv d e)) H) : gOp X (compareOp .NotEq) v w H Q := gOp.of (op_neD h.room.units) ⟨d, e, by rw [h.kk]; exact hd, by rw [h.kk]; exact he, sd, se, q⟩
theorem g_inF (h : At m N sc k X) {v : V} {l : Addr} {xs : List V} (hs : SqL m.K H l xs ∨ SqT m.K H l xs) (f1 : flatV v = true) (f2 : xs.all flatV = true) (q : Q (.bl (inV v xs)) H) : gOp X (compareOp .In) v (.ref l) H Q := gOp.of op_in_seq ⟨_, _, rfl, by rw [h.kk]; exact hs, f1, f2, q⟩
theorem g_notInF (h : At m N sc k X) {v : V} {l : Addr} {xs : List V} (hs : SqL m.K H l xs ∨ SqT m.K H l xs) (f1 : flatV v = true) (f2 : xs.all flatV = true) (q : Q (.bl (!inV v xs)) H) : gOp X (compareOp .NotIn) v (.ref l) H Q := gOp.of op_notIn_seq ⟨_, _, rfl, by rw [h.kk]; exact hs, f1, f2, q⟩
/-- a built-in function by its name -/
theorem g_blt {id : String} (h : At m N sc k X) (hm : m.mg x = none) (hg : sc.names.lookup x = some .globalImplicit) (hv : bootBuiltins x = some (.builtin id)) (q : wA X (e :: es) σ H fun vs H1 => gCall X (.builtin id) vs H1 Q)
    (hn : x ≠ "__name__" := by with_unfolding_all decide) (hdb : (x == ("__debug__" : Str)) = false := by with_unfolding_all decide) (he : starEach (e :: es) X.env = (false, eval e X.env) :: starEach es X.env := by with_unfolding_all rfl) (hpl : (backTo pos (starEach es X.env)).any (·.1) = false := by with_unfolding_all rfl) : wE X (.Call (.Name x p) (e :: es) [] pos) σ H Q :=
  w_blt (r := fun vs H1 Q => gCall X (.builtin id) vs H1 Q) h (fun pins s σ H xs us Q I r ⟨rr, hr, q⟩ => hr pins s σ H xs us Q I r q) hm hg hv q hn hdb he hpl
theorem g_typ {T : String} (h : At m N sc k X) (hm : m.mg x = none) (hg : sc.names.lookup x = some .globalImplicit) (hv : bootBuiltins x = some (.type T)) (q : wA X (e :: es) σ H fun vs H1 => gCall X (.type T) vs H1 Q)
    (hn : x ≠ "__name__" := by with_unfolding_all decide) (hdb : (x == ("__debug__" : Str)) = false := by with_unfolding_all decide) (he : starEach (e :: es) X.env = (false, eval e X.env) :: starEach es X.env := by with_unfolding_all rfl) (hpl : (backTo pos (starEach es X.env)).any (·.1) = false := by with_unfolding_all rfl) : wE X (.Call (.Name x p) (e :: es) [] pos) σ H Q :=
  w_ty (r := fun vs H1 Q => gCall X (.type T) vs H1 Q) h (fun pins s σ H xs us Q I r ⟨rr, hr, q⟩ => hr pins s σ H xs us Q I r q) hm hg hv q hn hdb he hpl
theorem g_sum (h : At m N sc k X) {l : Addr} {ns : List Int} (hs : SqL m.K H l (ns.map V.int)) (q : Q (.int ns.sum) H) : gCall X (.builtin "sum") [.ref l] H Q := ⟨_, cr_sum h.calm, _, _, rfl, by rw [h.kk]; exact hs, q⟩
theorem g_max2 (h : At m N sc k X) {i j : Int} (q : Q (.int (if j > i then j else i)) H) : gCall X (.builtin "max") [.int i, .int j] H Q := ⟨_, call_max2 h.calm, _, _, rfl, q⟩
theorem g_min2 (h : At m N sc k X) {i j : Int} (q : Q (.int (if j < i then j else i)) H) : gCall X (.builtin "min") [.int i, .int j] H Q := ⟨_, call_min2 h.calm, _, _, rfl, q⟩
theorem g_lenL (h : At m N sc k X) {l : Addr} {xs : List V} (hs : SqL m.K H l xs) (q : Q (.int xs.length) H) : gCall X (.builtin "len") [.ref l] H Q := ⟨_, call_len, _, xs.length, rfl, .inl ⟨_, by rw [h.kk]; exact hs, rfl⟩, q⟩
theorem g_lenT (h : At m N sc k X) {l : Addr} {xs : List V} (hs : SqT m.K H l xs) (q : Q (.int xs.length) H) : gCall X (.builtin "len") [.ref l] H Q := ⟨_, call_len, _, xs.length, rfl, .inr ⟨_, by rw [h.kk]; exact hs, rfl⟩, q⟩
theorem g_lenS {z : Str} (hz : z.length ≤ sizeLine) (q : Q (.int z.length) H) : gCall X (.builtin "len") [.str z] H Q := ⟨_, call_len, _, z.length, rfl, ⟨hz, rfl⟩, q⟩
theorem g_listOf (h : At m N sc k X) {l : Addr} {ys : List V} (hs : SqL m.K H l ys ∨ SqT m.K H l ys) (q : ∀ p, H p = none → Q (.ref p) (upd H p (.lst ys))) : gCall X (.type "list") [.ref l] H Q := ⟨_, call_list_of, _, _, rfl, by rw [h.kk]; exact hs, q⟩
theorem g_all (h : At m N sc k X) {l : Addr} {bs : List Bool} (hs : SqL m.K H l (bs.map V.bl)) (q : Q (.bl (bs.all id)) H) : gCall X (.builtin "all") [.ref l] H Q := ⟨_, cr_all h.calm, _, _, rfl, by rw [h.kk]; exact hs, q⟩
theorem g_any (h : At m N sc k X) {l : Addr} {bs : List Bool} (hs : SqL m.K H l (bs.map V.bl)) (q : Q (.bl (bs.any id)) H) : gCall X (.builtin "any") [.ref l] H Q := ⟨_, cr_any h.calm, _, _, rfl, by rw [h.kk]; exact hs, q⟩
theorem g_repr (h : At m N sc k X) {v : V} {d : PyData} (hd : Dp m.K H v d) (h1 : d.showable = true) (h2 : d.shown.length ≤ sizeLine) (h3 : d.depth ≤ 60) (q : Q (.str d.shown) H) : gCall X (.builtin "repr") [v] H Q := ⟨_, call_reprD h.gd h.room.units, _, _, rfl, by rw [h.kk]; exact hd, h1, h2, h3, q⟩
/-- n.bit_length() -/
theorem g_bits (q : wE X o σ H fun x H1 => ∃ i, x = .int i ∧ Q (.int (Builtin.Int.intBits i : Nat)) H1) (hbase : attributeBase o "bit_length" X.env (eval o X.env) = eval o X.env := by with_unfolding_all rfl) {apos : Pos} (hline : (apos.endLine == pos.line) = true := by with_unfolding_all rfl) : wE X (.Call (.Attribute o "bit_length" apos) [] [] pos) σ H Q := toE (pe_bits cE hbase hline) q
/-- xs.append(e) -/
theorem g_append (q : wE X o σ H fun x H1 => tyV X.K "list" x H1 ∧ wA X [e] σ H1 fun ys H2 => ∃ l xs y, x = .ref l ∧ ys = [y] ∧ H2 l = some (.lst xs) ∧ xs.length < sizeLine ∧ Q .non (upd H2 l (.lst (xs ++ [y])))) {apos : Pos}
    (hbase : attributeBase o "append" X.env (eval o X.env) = eval o X.env := by with_unfolding_all rfl)
    (hfew : ((backTo pos (starEach [e] X.env)).all (fun x => !x.1) && (backToKw pos (keywordEach [] X.env)).all (fun x => x.1.isSome) && decide ([e].length + ([] : List Keyword).length + (if ([] : List Keyword).isEmpty then 0 else 1) < 30)) = true := by with_unfolding_all rfl)
    (hline : (apos.endLine == pos.line) = true := by with_unfolding_all rfl) (hs : starEach [e] X.env = (false, eval e X.env) :: starEach [] X.env := by with_unfolding_all rfl) (hplain : (backTo pos (starEach [] X.env)).any (·.1) = false := by with_unfolding_all rfl) : wE X (.Call (.Attribute o "append" apos) [e] [] pos) σ H Q :=
  toE (pe_bm PySem.F.plainAttrs_list PySem.F.slot_list_append PySem.F.type_list_append mt_append cE cA hbase hfew hline hs hplain) q
/-- e[lo:hi] of a list -/
theorem tyL {l : Addr} {xs : List V} (h : H l = some (.lst xs)) : tyV X.K "list" (.ref l) H := .inl ⟨rfl, _, SqL.of h⟩
end
theorem bt_sum : bootBuiltins "sum" = some (.builtin "sum") := by decide +kernel
theorem bt_max : bootBuiltins "max" = some (.builtin "max") := by decide +kernel
theorem bt_min : bootBuiltins "min" = some (.builtin "min") := by decide +kernel
theorem bt_len : bootBuiltins "len" = some (.builtin "len") := by decide +kernel
theorem bt_all : bootBuiltins "all" = some (.builtin "all") := by decide +kernel
theorem bt_any : bootBuiltins "any" = some (.builtin "any") := by decide +kernel
theorem bt_repr : bootBuiltins "repr" = some (.builtin "repr") := by decide +kernel
theorem bt_sorted : bootBuiltins "sorted" = some (.builtin "sorted") := by decide +kernel
theorem bt_isinstance : bootBuiltins "isinstance" = some (.builtin "isinstance") := by decide +kernel
theorem bt_abs : bootBuiltins "abs" = some (.builtin "abs") := by decide +kernel
theorem bt_list : bootBuiltins "list" = some (.type "list") := by decide +kernel
theorem bt_int : bootBuiltins "int" = some (.type "int") := by decide +kernel
theorem bt_str : bootBuiltins "str" = some (.type "str") := by decide +kernel
theorem bt_set : bootBuiltins "set" = some (.type "set") := by decide +kernel
theorem bt_dict : bootBuiltins "dict" = some (.type "dict") := by decide +kernel
theorem bt_tuple : bootBuiltins "tuple" = some (.type "tuple") := by decide +kernel
theorem bt_bool : bootBuiltins "bool" = some (.type "bool") := by decide +kernel
end Vf
set_option maxRecDepth 100000
set_option maxHeartbeats 4000000
/-! Lc: list comprehensions, slices, powers. Own work. -/
namespace Vf
open PySem PySem.Spec PyProof.Rows L2 LamX
section
variable {m : Md} {N : List Str} {sc scope : Scope} {k : Nat} {X : Cx} {a b c e o elt iter : Expr} {es : List Expr} {σ : L2.St} {H : Hp} {Q : VK} {D : Ends} {pos p p1 p2 p3 : Pos} {x y : Str} {i j : Nat} {v w : V}
theorem blk_at (h : At m N sc k X) (s : Shared) (H : Hp) (C : Addr) (cl : List (Str × Addr)) (fp : List Addr) : At m N (relS scope sc) k (X.blk s H scope (compEnvC scope cl C X.env) fp) :=
  ⟨h.pp, h.ww, h.kk, h.mm, h.bb, h.nn, by show relS scope X.env.scope = _; rw [h.ss], h.calm, h.room, PassesOwn.never, h.nd, h.gd⟩
theorem wipe1 {u : Option V} : wipe (σ.set i u) [i] = wipe σ [i] := by simp [wipe, List.set_set]
/-- the new list's element, run wherever the block may stand -/
abbrev inBlk (m : Md) (N : List Str) (sc : Scope) (k : Nat) (e : Expr) : TE := fun σ H Q => ∀ X', At m N sc k X' → wE X' e σ H Q
abbrev inBlkT (m : Md) (N : List Str) (sc : Scope) (k : Nat) (e : Expr) : TT := fun σ H Q => ∀ X', At m N sc k X' → wT X' e σ H Q
theorem blk_pe (h : At m N sc k X) (s : Shared) (H : Hp) (C : Addr) (cl : List (Str × Addr)) (fp : List Addr) : PE (X.blk s H scope (compEnvC scope cl C X.env) fp) e (inBlk m N (relS scope sc) k e) := ⟨fun pins s' σ' H' Q I q => cE.run pins s' σ' H' Q I (q _ (blk_at h s H C cl fp))⟩
theorem blk_pt (h : At m N sc k X) (s : Shared) (H : Hp) (C : Addr) (cl : List (Str × Addr)) (fp : List Addr) : PT (X.blk s H scope (compEnvC scope cl C X.env) fp) e (inBlkT m N (relS scope sc) k e) := ⟨fun pins s' σ' H' Q I q => cT.run pins s' σ' H' Q I (q _ (blk_at h s H C cl fp))⟩
theorem set_wipe {z : V} : (wipe σ [i]).set i (some z) = σ.set i (some z) := by simp [wipe, List.set_set]
/-- what one turn of a block asks: the element is appended to the list at D, then the invariant -/
abbrev App (D : Addr) (P : Hp → Prop) : VK := fun y H4 => ∃ acc, H4 D = some (.lst acc) ∧ acc.length < sizeLine ∧ P (upd H4 D (.lst (acc ++ [y])))
/-- [elt for x in iter], iter a list that the block leaves as it is -/
theorem w_lcL (h : At m N sc k X) (ok : blkC N sc scope [(x, i)] = true) (n : NL N (relS scope sc) i x)
    (q : wE X iter σ H fun v H1 => ∃ (a : Addr) (xs : List V), v = .ref a ∧ SqL m.K H1 a xs ∧ ∀ D, H1 D = none → ∃ Pv : Nat → Hp → Prop, Pv 0 (upd H1 D (.lst [])) ∧ (∀ j H, j ≤ xs.length → Pv j H → SqL m.K H a xs) ∧
      (∀ j x H, xs[j]? = some x → Pv j H → ∀ X', At m N (relS scope sc) k X' → wE X' elt (σ.set i (some x)) H (App D (Pv (j + 1)))) ∧ ∀ H, Pv xs.length H → Q (.ref D) H)
    (hs : ∀ x, foldedSetIterable iter X.env x = pure x := by with_unfolding_all (intro _; rfl)) : wE X (.ListComp elt [⟨.Name x p1, iter, [], 0⟩] scope pos) σ H Q := by
  refine toE (pe_lc (own := [(x, i)]) (g := gName i) (tt := tYes) (te := inBlk m N (relS scope sc) k elt) h.calm (by rw [h.nn]; exact h.nd) (pi_list cE) (by rw [h.nn, h.ss]; exact blkOk_by ok) (fun s H C cl fp => pg_nl (blk_at h s H C cl fp) n) (fun _ _ _ _ _ => pts_nil) (fun s H C cl fp => blk_pe h s H C cl fp) hs) ?_
  refine wE.mono q fun v H1 ⟨a, xs, ea, hl, go⟩ => ⟨a, ea, ⟨xs, by rw [h.kk]; exact hl⟩, fun D hD => ?_⟩
  obtain ⟨Pv, p0, st, turn, fin⟩ := go D hD
  refine lc_list (K := X.K) (a := a) (xs := xs) (g := gName i) (tt := tYes) (te := inBlk m N (relS scope sc) k elt) (vs := [i]) (σ := σ) Pv p0 (fun j H hj hp => by rw [h.kk]; exact st j H hj hp) (fun j z H hz hp => ?_) fin
  refine ⟨by rw [wipe1]; simp [wipe, List.set_set], ?_⟩
  unfold tYes
  refine iteT fun X' hX' => ?_
  rw [set_wipe]
  exact turn j z H hz hp X' hX'
/-- [elt for x in iter if c] -/
theorem w_lcLi (h : At m N sc k X) (ok : blkC N sc scope [(x, i)] = true) (n : NL N (relS scope sc) i x)
    (q : wE X iter σ H fun v H1 => ∃ (a : Addr) (xs : List V), v = .ref a ∧ SqL m.K H1 a xs ∧ ∀ D, H1 D = none → ∃ Pv : Nat → Hp → Prop, Pv 0 (upd H1 D (.lst [])) ∧ (∀ j H, j ≤ xs.length → Pv j H → SqL m.K H a xs) ∧
      (∀ j x H, xs[j]? = some x → Pv j H → ∀ X', At m N (relS scope sc) k X' → wT X' c (σ.set i (some x)) H fun b H3 => if b = true then (∀ X', At m N (relS scope sc) k X' → wE X' elt (σ.set i (some x)) H3 (App D (Pv (j + 1)))) else Pv (j + 1) H3) ∧
      ∀ H, Pv xs.length H → Q (.ref D) H)
    (hs : ∀ x, foldedSetIterable iter X.env x = pure x := by with_unfolding_all (intro _; rfl)) : wE X (.ListComp elt [⟨.Name x p1, iter, [c], 0⟩] scope pos) σ H Q := by
  refine toE (pe_lc (own := [(x, i)]) (g := gName i) (tt := inBlkT m N (relS scope sc) k c) (te := inBlk m N (relS scope sc) k elt) h.calm (by rw [h.nn]; exact h.nd) (pi_list cE) (by rw [h.nn, h.ss]; exact blkOk_by ok) (fun s H C cl fp => pg_nl (blk_at h s H C cl fp) n) (fun s H C cl fp => pts_one (blk_pt h s H C cl fp)) (fun s H C cl fp => blk_pe h s H C cl fp) hs) ?_
  refine wE.mono q fun v H1 ⟨a, xs, ea, hl, go⟩ => ⟨a, ea, ⟨xs, by rw [h.kk]; exact hl⟩, fun D hD => ?_⟩
  obtain ⟨Pv, p0, st, turn, fin⟩ := go D hD
  refine lc_list (K := X.K) (a := a) (xs := xs) (g := gName i) (tt := inBlkT m N (relS scope sc) k c) (te := inBlk m N (relS scope sc) k elt) (vs := [i]) (σ := σ) Pv p0 (fun j H hj hp => by rw [h.kk]; exact st j H hj hp) (fun j z H hz hp => ?_) fin
  refine ⟨by rw [wipe1]; simp [wipe, List.set_set], fun X' hX' => ?_⟩
  have t := turn j z H hz hp X' hX'
  rw [set_wipe]
  exact t
/-- [elt for x in range(e)] -/
theorem w_lcR (h : At m N sc k X) (hm : m.mg "range" = none) (hgl : sc.names.lookup ("range" : Str) = some .globalImplicit) (ok : blkC N sc scope [(x, i)] = true) (n : NL N (relS scope sc) i x)
    (q : wE X e σ H fun v H1 => ∃ z : Int, v = .int z ∧ -(2 ^ 62) ≤ z ∧ z < 2 ^ 62 ∧ ∀ D, H1 D = none → ∃ Pv : Nat → Hp → Prop, Pv 0 (upd H1 D (.lst [])) ∧
      (∀ j H, j < z.toNat → Pv j H → ∀ X', At m N (relS scope sc) k X' → wE X' elt (σ.set i (some (.int j))) H (App D (Pv (j + 1)))) ∧ ∀ H, Pv z.toNat H → Q (.ref D) H)
    (hst : starEach [e] X.env = [(false, eval e X.env)] := by with_unfolding_all rfl) (hs : ∀ x, foldedSetIterable (.Call (.Name "range" p2) [e] [] p3) X.env x = pure x := by with_unfolding_all (intro _; rfl)) : wE X (.ListComp elt [⟨.Name x p1, .Call (.Name "range" p2) [e] [] p3, [], 0⟩] scope pos) σ H Q := by
  refine toE (pe_lc (own := [(x, i)]) (g := gName i) (tt := tYes) (te := inBlk m N (relS scope sc) k elt) h.calm (by rw [h.nn]; exact h.nd) (pi_range1 (h.gl hgl) (by rw [h.mm]; exact hm) (pa_cons cE pa_nil hst) hst) (by rw [h.nn, h.ss]; exact blkOk_by ok) (fun s H C cl fp => pg_nl (blk_at h s H C cl fp) n) (fun _ _ _ _ _ => pts_nil) (fun s H C cl fp => blk_pe h s H C cl fp) hs) ?_
  refine wE.mono q fun v H1 ⟨z, ez, z1, z2, go⟩ => ⟨z, by rw [ez], z1, z2, fun D hD => ?_⟩
  obtain ⟨Pv, p0, turn, fin⟩ := go D hD
  refine lc_range (lo := 0) (n := z.toNat) (g := gName i) (tt := tYes) (te := inBlk m N (relS scope sc) k elt) (vs := [i]) (σ := σ) Pv p0 (fun j H hj hp => ?_) fin
  refine ⟨by rw [wipe1]; simp [wipe, List.set_set], ?_⟩
  unfold tYes
  refine iteT fun X' hX' => ?_
  rw [set_wipe, Int.zero_add]
  exact turn j H hj hp X' hX'
/-- [elt for x in range(e) if c] -/
theorem w_lcRi (h : At m N sc k X) (hm : m.mg "range" = none) (hgl : sc.names.lookup ("range" : Str) = some .globalImplicit) (ok : blkC N sc scope [(x, i)] = true) (n : NL N (relS scope sc) i x)
    (q : wE X e σ H fun v H1 => ∃ z : Int, v = .int z ∧ -(2 ^ 62) ≤ z ∧ z < 2 ^ 62 ∧ ∀ D, H1 D = none → ∃ Pv : Nat → Hp → Prop, Pv 0 (upd H1 D (.lst [])) ∧
      (∀ j H, j < z.toNat → Pv j H → ∀ X', At m N (relS scope sc) k X' → wT X' c (σ.set i (some (.int j))) H fun b H3 => if b = true then (∀ X', At m N (relS scope sc) k X' → wE X' elt (σ.set i (some (.int j))) H3 (App D (Pv (j + 1)))) else Pv (j + 1) H3) ∧ ∀ H, Pv z.toNat H → Q (.ref D) H)
    (hst : starEach [e] X.env = [(false, eval e X.env)] := by with_unfolding_all rfl) (hs : ∀ x, foldedSetIterable (.Call (.Name "range" p2) [e] [] p3) X.env x = pure x := by with_unfolding_all (intro _; rfl)) : wE X (.ListComp elt [⟨.Name x p1, .Call (.Name "range" p2) [e] [] p3, [c], 0⟩] scope pos) σ H Q := by
  refine toE (pe_lc (own := [(x, i)]) (g := gName i) (tt := inBlkT m N (relS scope sc) k c) (te := inBlk m N (relS scope sc) k elt) h.calm (by rw [h.nn]; exact h.nd) (pi_range1 (h.gl hgl) (by rw [h.mm]; exact hm) (pa_cons cE pa_nil hst) hst) (by rw [h.nn, h.ss]; exact blkOk_by ok) (fun s H C cl fp => pg_nl (blk_at h s H C cl fp) n) (fun s H C cl fp => pts_one (blk_pt h s H C cl fp)) (fun s H C cl fp => blk_pe h s H C cl fp) hs) ?_
  refine wE.mono q fun v H1 ⟨z, ez, z1, z2, go⟩ => ⟨z, by rw [ez], z1, z2, fun D hD => ?_⟩
  obtain ⟨Pv, p0, turn, fin⟩ := go D hD
  refine lc_range (lo := 0) (n := z.toNat) (g := gName i) (tt := inBlkT m N (relS scope sc) k c) (te := inBlk m N (relS scope sc) k elt) (vs := [i]) (σ := σ) Pv p0 (fun j H hj hp => ?_) fin
  refine ⟨by rw [wipe1]; simp [wipe, List.set_set], fun X' hX' => ?_⟩
  have t := turn j H hj hp X' hX'
  rw [set_wipe, Int.zero_add]
  exact t
/-! ### slices of lists; powers of any size -/
theorem w_slice {lo hi : Expr} (h : At m N sc k X) (q : wE X e σ H fun x H1 => wE X lo σ H1 fun l H2 => ∃ i : Int, l = .int i ∧ wE X hi σ H2 fun u H3 => ∃ j : Int, u = .int j ∧ ∃ (a : Addr) (xs : List V), x = .ref a ∧ SqL m.K H3 a xs ∧ ∀ p, H3 p = none → Q (.ref p) (upd H3 p (.lst (cutV xs (some i) (some j))))) :
    wE X (.Subscript e (.Slice (some lo) (some hi) none p2) pos) σ H Q := by
  refine toE (pe_slice sl_list cE (po_some cE) (po_some cE)) ?_
  refine wE.mono q fun x H1 q1 => wE.mono q1 fun l H2 ⟨i, ei, q2⟩ => ⟨i, ei, wE.mono q2 fun u H3 ⟨j, ej, a, xs, ea, hs, q3⟩ => ⟨j, ej, a, xs, ea, by rw [h.kk]; exact hs, q3⟩⟩
theorem w_sliceTo {hi : Expr} (h : At m N sc k X) (q : wE X e σ H fun x H1 => wE X hi σ H1 fun u H3 => ∃ j : Int, u = .int j ∧ ∃ (a : Addr) (xs : List V), x = .ref a ∧ SqL m.K H3 a xs ∧ ∀ p, H3 p = none → Q (.ref p) (upd H3 p (.lst (cutV xs none (some j))))) :
    wE X (.Subscript e (.Slice none (some hi) none p2) pos) σ H Q := by
  refine toE (pe_slice sl_list cE po_none (po_some cE)) ?_
  refine wE.mono q fun x H1 q1 => ?_
  show wE X hi σ H1 _
  exact wE.mono q1 fun u H3 ⟨j, ej, a, xs, ea, hs, q3⟩ => ⟨j, ej, a, xs, ea, by rw [h.kk]; exact hs, q3⟩
theorem w_sliceFrom {lo : Expr} (h : At m N sc k X) (q : wE X e σ H fun x H1 => wE X lo σ H1 fun u H3 => ∃ j : Int, u = .int j ∧ ∃ (a : Addr) (xs : List V), x = .ref a ∧ SqL m.K H3 a xs ∧ ∀ p, H3 p = none → Q (.ref p) (upd H3 p (.lst (cutV xs (some j) none)))) :
    wE X (.Subscript e (.Slice (some lo) none none p2) pos) σ H Q := by
  refine toE (pe_slice sl_list cE (po_some cE) po_none) ?_
  exact wE.mono q fun x H1 q1 => wE.mono q1 fun u H3 ⟨j, ej, a, xs, ea, hs, q3⟩ => ⟨j, ej, a, xs, ea, by rw [h.kk]; exact hs, q3⟩
theorem cutV_map {α : Type} (f : α → V) (xs : List α) (lo hi : Option Int) : ∃ ys : List α, cutV (xs.map f) lo hi = ys.map f ∧ ys.length ≤ xs.length := by
  unfold cutV
  rw [List.length_map]
  exact ⟨(xs.drop (HT.sIx xs.length 0 lo)).take (HT.sIx xs.length xs.length hi - HT.sIx xs.length 0 lo), by rw [List.map_take, List.map_drop], by rw [List.length_take, List.length_drop]; omega⟩
theorem g_powW {i j : Int} (h0 : 0 ≤ j) (hb : (Builtin.Int.intBits i : Int) * j ≤ 2 ^ 27) (q : Q (.int (i ^ j.toNat)) H) : gOp X (binaryOp .Pow) (.int i) (.int j) H Q := fun pins s σ v u I rx ry => by
  obtain ⟨t, rfl⟩ := rx
  obtain ⟨t', rfl⟩ := ry
  exact PyProof.Rows.pow_int h0 hb ⟨.int _, H, I.tok _, ⟨_, rfl⟩, q⟩
end
end Vf
set_option maxRecDepth 100000
set_option maxHeartbeats 4000000
/-! Lcs: comprehensions that are stored at once. Own work. -/
namespace Vf
open PySem PySem.Spec PyProof.Rows L2 LamX
section
variable {m : Md} {N : List Str} {sc scope : Scope} {k l : Nat} {X : Cx} {a b c e o elt iter : Expr} {es : List Expr} {σ : L2.St} {H : Hp} {nx : L2.St → Hp → Prop} {rt : VK} {bk ct : L2.St → Hp → Prop} {pos p p1 p2 p3 py spos : Pos} {x y : Str} {i j : Nat} {v w : V}
/-- y = [..], y a name of this place alone -/
theorem s_lcL (h : At m N sc k X) (nl : NL N sc l y) (ok : blkC N sc scope [(x, i)] = true) (n : NL N (relS scope sc) i x)
    (q : wE X iter σ H fun v H1 => ∃ (a : Addr) (xs : List V), v = .ref a ∧ SqL m.K H1 a xs ∧ ∀ D, H1 D = none → ∃ Pv : Nat → Hp → Prop, Pv 0 (upd H1 D (.lst [])) ∧ (∀ j H, j ≤ xs.length → Pv j H → SqL m.K H a xs) ∧
      (∀ j x H, xs[j]? = some x → Pv j H → ∀ X', At m N (relS scope sc) k X' → wE X' elt (σ.set i (some x)) H (App D (Pv (j + 1)))) ∧ ∀ H, Pv xs.length H → nx (σ.set l (some (.ref D))) H)
    (hs : ∀ x, foldedSetIterable iter X.env x = pure x := by with_unfolding_all (intro _; rfl)) (hk : sc.kind = .function := by with_unfolding_all rfl) (hl : (py.line == pos.line) = true := by with_unfolding_all rfl) (ha : (scope.names.any fun (n, k) => n == y && (k == .local || k == .cell)) = false := by with_unfolding_all (decide +kernel)) : wS X (.Assign [.Name y py] (.ListComp elt [⟨.Name x p1, iter, [], 0⟩] scope pos) spos) ⟨nx, rt, bk, ct⟩ σ H := by
  refine toS (ps_setLc (i := l) (y := y) (py := py) (own := [(x, i)]) (g := gName i) (tt := tYes) (te := inBlk m N (relS scope sc) k elt) h.calm (by rw [h.nn]; exact h.nd) (by rw [h.nn]; exact nl.ix) (by rw [h.ss]; exact nl.loc) (sw_true (by rw [h.ss]; exact hk) (by rw [h.ss]; exact nl.loc) hl ha) (pi_list cE) (by rw [h.nn, h.ss]; exact blkOk_by ok) (fun s H C cl fp => pg_nl (blk_at h s H C cl fp) n) (fun _ _ _ _ _ => pts_nil) (fun s H C cl fp => blk_pe h s H C cl fp) hs) ?_
  refine wE.mono q fun v H1 ⟨a, xs, ea, hl, go⟩ => ⟨a, ea, ⟨xs, by rw [h.kk]; exact hl⟩, fun D hD => ?_⟩
  obtain ⟨Pv, p0, st, turn, fin⟩ := go D hD
  refine lc_list (K := X.K) (a := a) (xs := xs) (g := gName i) (tt := tYes) (te := inBlk m N (relS scope sc) k elt) (vs := [i]) (σ := σ) Pv p0 (fun j H hj hp => by rw [h.kk]; exact st j H hj hp) (fun j z H hz hp => ?_) fin
  refine ⟨by rw [wipe1]; simp [wipe, List.set_set], ?_⟩
  unfold tYes
  refine iteT fun X' hX' => ?_
  rw [set_wipe]
  exact turn j z H hz hp X' hX'
/-- y = [..], y a name of this place alone -/
theorem s_lcLi (h : At m N sc k X) (nl : NL N sc l y) (ok : blkC N sc scope [(x, i)] = true) (n : NL N (relS scope sc) i x)
    (q : wE X iter σ H fun v H1 => ∃ (a : Addr) (xs : List V), v = .ref a ∧ SqL m.K H1 a xs ∧ ∀ D, H1 D = none → ∃ Pv : Nat → Hp → Prop, Pv 0 (upd H1 D (.lst [])) ∧ (∀ j H, j ≤ xs.length → Pv j H → SqL m.K H a xs) ∧
      (∀ j x H, xs[j]? = some x → Pv j H → ∀ X', At m N (relS scope sc) k X' → wT X' c (σ.set i (some x)) H fun b H3 => if b = true then (∀ X', At m N (relS scope sc) k X' → wE X' elt (σ.set i (some x)) H3 (App D (Pv (j + 1)))) else Pv (j + 1) H3) ∧
      ∀ H, Pv xs.length H → nx (σ.set l (some (.ref D))) H)
    (hs : ∀ x, foldedSetIterable iter X.env x = pure x := by with_unfolding_all (intro _; rfl)) (hk : sc.kind = .function := by with_unfolding_all rfl) (hl : (py.line == pos.line) = true := by with_unfolding_all rfl) (ha : (scope.names.any fun (n, k) => n == y && (k == .local || k == .cell)) = false := by with_unfolding_all (decide +kernel)) : wS X (.Assign [.Name y py] (.ListComp elt [⟨.Name x p1, iter, [c], 0⟩] scope pos) spos) ⟨nx, rt, bk, ct⟩ σ H := by
  refine toS (ps_setLc (i := l) (y := y) (py := py) (own := [(x, i)]) (g := gName i) (tt := inBlkT m N (relS scope sc) k c) (te := inBlk m N (relS scope sc) k elt) h.calm (by rw [h.nn]; exact h.nd) (by rw [h.nn]; exact nl.ix) (by rw [h.ss]; exact nl.loc) (sw_true (by rw [h.ss]; exact hk) (by rw [h.ss]; exact nl.loc) hl ha) (pi_list cE) (by rw [h.nn, h.ss]; exact blkOk_by ok) (fun s H C cl fp => pg_nl (blk_at h s H C cl fp) n) (fun s H C cl fp => pts_one (blk_pt h s H C cl fp)) (fun s H C cl fp => blk_pe h s H C cl fp) hs) ?_
  refine wE.mono q fun v H1 ⟨a, xs, ea, hl, go⟩ => ⟨a, ea, ⟨xs, by rw [h.kk]; exact hl⟩, fun D hD => ?_⟩
  obtain ⟨Pv, p0, st, turn, fin⟩ := go D hD
  refine lc_list (K := X.K) (a := a) (xs := xs) (g := gName i) (tt := inBlkT m N (relS scope sc) k c) (te := inBlk m N (relS scope sc) k elt) (vs := [i]) (σ := σ) Pv p0 (fun j H hj hp => by rw [h.kk]; exact st j H hj hp) (fun j z H hz hp => ?_) fin
  refine ⟨by rw [wipe1]; simp [wipe, List.set_set], fun X' hX' => ?_⟩
  have t := turn j z H hz hp X' hX'
  rw [set_wipe]
  exact t
/-- y = [..], y a name of this place alone -/
theorem s_lcR (h : At m N sc k X) (hm : m.mg "range" = none) (hgl : sc.names.lookup ("range" : Str) = some .globalImplicit) (nl : NL N sc l y) (ok : blkC N sc scope [(x, i)] = true) (n : NL N (relS scope sc) i x)
    (q : wE X e σ H fun v H1 => ∃ z : Int, v = .int z ∧ -(2 ^ 62) ≤ z ∧ z < 2 ^ 62 ∧ ∀ D, H1 D = none → ∃ Pv : Nat → Hp → Prop, Pv 0 (upd H1 D (.lst [])) ∧
      (∀ j H, j < z.toNat → Pv j H → ∀ X', At m N (relS scope sc) k X' → wE X' elt (σ.set i (some (.int j))) H (App D (Pv (j + 1)))) ∧ ∀ H, Pv z.toNat H → nx (σ.set l (some (.ref D))) H)
    (hst : starEach [e] X.env = [(false, eval e X.env)] := by with_unfolding_all rfl) (hs : ∀ x, foldedSetIterable (.Call (.Name "range" p2) [e] [] p3) X.env x = pure x := by with_unfolding_all (intro _; rfl)) (hk : sc.kind = .function := by with_unfolding_all rfl) (hl : (py.line == pos.line) = true := by with_unfolding_all rfl) (ha : (scope.names.any fun (n, k) => n == y && (k == .local || k == .cell)) = false := by with_unfolding_all (decide +kernel)) : wS X (.Assign [.Name y py] (.ListComp elt [⟨.Name x p1, .Call (.Name "range" p2) [e] [] p3, [], 0⟩] scope pos) spos) ⟨nx, rt, bk, ct⟩ σ H := by
  refine toS (ps_setLc (i := l) (y := y) (py := py) (own := [(x, i)]) (g := gName i) (tt := tYes) (te := inBlk m N (relS scope sc) k elt) h.calm (by rw [h.nn]; exact h.nd) (by rw [h.nn]; exact nl.ix) (by rw [h.ss]; exact nl.loc) (sw_true (by rw [h.ss]; exact hk) (by rw [h.ss]; exact nl.loc) hl ha) (pi_range1 (h.gl hgl) (by rw [h.mm]; exact hm) (pa_cons cE pa_nil hst) hst) (by rw [h.nn, h.ss]; exact blkOk_by ok) (fun s H C cl fp => pg_nl (blk_at h s H C cl fp) n) (fun _ _ _ _ _ => pts_nil) (fun s H C cl fp => blk_pe h s H C cl fp) hs) ?_
  refine wE.mono q fun v H1 ⟨z, ez, z1, z2, go⟩ => ⟨z, by rw [ez], z1, z2, fun D hD => ?_⟩
  obtain ⟨Pv, p0, turn, fin⟩ := go D hD
  refine lc_range (lo := 0) (n := z.toNat) (g := gName i) (tt := tYes) (te := inBlk m N (relS scope sc) k elt) (vs := [i]) (σ := σ) Pv p0 (fun j H hj hp => ?_) fin
  refine ⟨by rw [wipe1]; simp [wipe, List.set_set], ?_⟩
  unfold tYes
  refine iteT fun X' hX' => ?_
  rw [set_wipe, Int.zero_add]
  exact turn j H hj hp X' hX'
/-- y = [..], y a name of this place alone -/
theorem s_lcRi (h : At m N sc k X) (hm : m.mg "range" = none) (hgl : sc.names.lookup ("range" : Str) = some .globalImplicit) (nl : NL N sc l y) (ok : blkC N sc scope [(x, i)] = true) (n : NL N (relS scope sc) i x)
    (q : wE X e σ H fun v H1 => ∃ z : Int, v = .int z ∧ -(2 ^ 62) ≤ z ∧ z < 2 ^ 62 ∧ ∀ D, H1 D = none → ∃ Pv : Nat → Hp → Prop, Pv 0 (upd H1 D (.lst [])) ∧
      (∀ j H, j < z.toNat → Pv j H → ∀ X', At m N (relS scope sc) k X' → wT X' c (σ.set i (some (.int j))) H fun b H3 => if b = true then (∀ X', At m N (relS scope sc) k X' → wE X' elt (σ.set i (some (.int j))) H3 (App D (Pv (j + 1)))) else Pv (j + 1) H3) ∧ ∀ H, Pv z.toNat H → nx (σ.set l (some (.ref D))) H)
    (hst : starEach [e] X.env = [(false, eval e X.env)] := by with_unfolding_all rfl) (hs : ∀ x, foldedSetIterable (.Call (.Name "range" p2) [e] [] p3) X.env x = pure x := by with_unfolding_all (intro _; rfl)) (hk : sc.kind = .function := by with_unfolding_all rfl) (hl : (py.line == pos.line) = true := by with_unfolding_all rfl) (ha : (scope.names.any fun (n, k) => n == y && (k == .local || k == .cell)) = false := by with_unfolding_all (decide +kernel)) : wS X (.Assign [.Name y py] (.ListComp elt [⟨.Name x p1, .Call (.Name "range" p2) [e] [] p3, [c], 0⟩] scope pos) spos) ⟨nx, rt, bk, ct⟩ σ H := by
  refine toS (ps_setLc (i := l) (y := y) (py := py) (own := [(x, i)]) (g := gName i) (tt := inBlkT m N (relS scope sc) k c) (te := inBlk m N (relS scope sc) k elt) h.calm (by rw [h.nn]; exact h.nd) (by rw [h.nn]; exact nl.ix) (by rw [h.ss]; exact nl.loc) (sw_true (by rw [h.ss]; exact hk) (by rw [h.ss]; exact nl.loc) hl ha) (pi_range1 (h.gl hgl) (by rw [h.mm]; exact hm) (pa_cons cE pa_nil hst) hst) (by rw [h.nn, h.ss]; exact blkOk_by ok) (fun s H C cl fp => pg_nl (blk_at h s H C cl fp) n) (fun s H C cl fp => pts_one (blk_pt h s H C cl fp)) (fun s H C cl fp => blk_pe h s H C cl fp) hs) ?_
  refine wE.mono q fun v H1 ⟨z, ez, z1, z2, go⟩ => ⟨z, by rw [ez], z1, z2, fun D hD => ?_⟩
  obtain ⟨Pv, p0, turn, fin⟩ := go D hD
  refine lc_range (lo := 0) (n := z.toNat) (g := gName i) (tt := inBlkT m N (relS scope sc) k c) (te := inBlk m N (relS scope sc) k elt) (vs := [i]) (σ := σ) Pv p0 (fun j H hj hp => ?_) fin
  refine ⟨by rw [wipe1]; simp [wipe, List.set_set], fun X' hX' => ?_⟩
  have t := turn j H hj hp X' hX'
  rw [set_wipe, Int.zero_add]
  exact t
end
end Vf
set_option maxRecDepth 100000
set_option maxHeartbeats 4000000
/-! St: stores into several names, insert. Own work. -/
namespace Vf
open PySem PySem.Spec PyProof.Rows L2 LamX
/-- what changes in objects that were not there is growth -/
theorem GrowX.into {T : List (Addr × Str)} {S S' : Addr → Prop} {H H1 H2 : Hp} (a : GrowX T S H H1) (b : GrowX T S' H1 H2) (h : ∀ c, S' c → New H c ∨ S c) : GrowX T S H H2 :=
  ⟨fun c o s e n => b.ext c o (fun z => (h c z).elim (fun z => by rw [z] at e; cases e) s) (a.ext c o s e n) n, fun t => b.tab (a.tab t), fun c z => a.keep c (b.keep c z), fun c xs z => b.tup c xs (a.tup c xs z), fun c o u z => b.frz c o u (a.frz c o u z)⟩
theorem Grow.intoNew {T : List (Addr × Str)} {S' : Addr → Prop} {H H1 H2 : Hp} (a : Grow T H H1) (b : GrowX T S' H1 H2) (h : ∀ c, S' c → New H c) : Grow T H H2 := a.into b fun c z => .inl (h c z)
/-- a list's new elements -/
theorem GrowX.lst {T : List (Addr × Str)} {H : Hp} {p : Addr} {xs ys : List V} (h : H p = some (.lst xs)) : GrowX T (· = p) H (upd H p (.lst ys)) := GrowX.set rfl h (fun _ z => by cases z) (fun _ z => by unfold CodeO at z; cases z) (fun _ z => by cases z) (fun _ _ z => by cases z)
theorem New.ne {H : Hp} {a p : Addr} {o : HO} (n : New H p) (h : H a = some o) : p ≠ a := fun z => by rw [← z, n] at h; cases h
section
variable {m : Md} {N : List Str} {sc : Scope} {k : Nat} {X : Cx} {a b c e o : Expr} {es : List Expr} {σ : L2.St} {H : Hp} {Q : VK} {nx : L2.St → Hp → Prop} {rt : VK} {bk ct : L2.St → Hp → Prop} {pos p1 p2 p3 p4 : Pos} {x y z : Str} {i j l : Nat} {k1 k2 : Nat}
theorem nl_of (h : At m N sc k X) (i : Nat) (x : Str) (a : N[i]? = some x := by rfl) (b : sc.names.lookup x = some .local := by rfl) : NL N sc i x := ⟨a, b⟩
theorem nc_of (h : At m N sc k X) (i : Nat) (x : Str) (a : N[i]? = some x := by rfl) (b : sc.names.lookup x = some .cell := by rfl) : NC N sc i x := ⟨a, b⟩
theorem env_sc {env : Env} (h : env.scope = sc) : { env with scope := sc } = env := by cases env; cases h; rfl
/-- x, y = a, b, both names of this place alone -/
theorem s_par (h : At m N sc k X) (n1 : NL N sc i x) (n2 : NL N sc j y) (q : wA X [a, b] σ H fun vs H1 => ∃ v w, vs = [v, w] ∧ nx ((σ.set i (some v)).set j (some w)) H1) (hij : i ≠ j := by decide)
    (hw : ∀ env : Env, swappedStores [.Tuple [.Name x p1, .Name y p2] k1 p3] (.Tuple [a, b] k2 p4) { env with scope := sc } = pure (some [x, y]) := by with_unfolding_all (intro _; rfl))
    (hs : swapsWithSole [.Tuple [.Name x p1, .Name y p2] k1 p3] (.Tuple [a, b] k2 p4) pos.line X.env = pure false := by with_unfolding_all rfl) : wS X (.Assign [.Tuple [.Name x p1, .Name y p2] k1 p3] (.Tuple [a, b] k2 p4) pos) ⟨nx, rt, bk, ct⟩ σ H :=
  toS (ps_par h.calm (by rw [h.nn]; exact h.nd) (by rw [h.nn]; exact n1.ix) (by rw [h.nn]; exact n2.ix) hij (by rw [h.ss]; exact n1.loc) (by rw [h.ss]; exact n2.loc) cA (by have := hw X.env; rw [env_sc h.ss] at this; exact this) hs) q
/-- x, y = e where the pair is made, then taken apart -/
theorem s_two {t1 t2 : Expr} (h : At m N sc k X) (hg1 : PG X t1 (gName i)) (hg2 : PG X t2 (gName j)) (q : wE X e σ H fun v H1 => ∃ (p : Addr) (v1 v2 : V), v = .ref p ∧ SqT m.K H1 p [v1, v2] ∧ nx ((σ.set i (some v1)).set j (some v2)) H1)
    (hw : ∀ env : Env, swappedStores [.Tuple [t1, t2] k1 p3] e { env with scope := sc } = pure none := by with_unfolding_all (intro _; rfl))
    (hs : swapsWithSole [.Tuple [t1, t2] k1 p3] e pos.line X.env = pure false := by with_unfolding_all rfl)
    (hz : (assignEach [t1, t2] X.env).map (·.2) = assign t1 X.env :: (assignEach [t2] X.env).map (·.2) := by with_unfolding_all rfl) (hz2 : (assignEach [t2] X.env).map (·.2) = assign t2 X.env :: (assignEach [] X.env).map (·.2) := by with_unfolding_all rfl)
    (hn : (assignEach [t1, t2] X.env).length = 2 := by with_unfolding_all rfl) (hst : (assignEach [t1, t2] X.env).findIdx? (·.1) = none := by with_unfolding_all rfl)
    (ho : (assignEach [.Tuple [t1, t2] k1 p3] X.env).map (·.2) = [assign (.Tuple [t1, t2] k1 p3) X.env] := by with_unfolding_all rfl) : wS X (.Assign [.Tuple [t1, t2] k1 p3] e pos) ⟨nx, rt, bk, ct⟩ σ H := by
  refine toS (ps_asg cE (pg_tup h.calm (pgs_cons hg1 (pgs_cons hg2 pgs_nil hz2) hz) hn hst) hs (by have := hw X.env; rw [env_sc h.ss] at this; exact this) ho) ?_
  exact wE.mono q fun v H1 ⟨p, v1, v2, ev, hp, q1⟩ => ⟨p, [v1, v2], ev, by rw [h.kk]; exact hp, rfl, v1, [v2], rfl, v2, [], rfl, rfl, q1⟩
theorem g_truB {b : Bool} {QB : Bool → Hp → Prop} (q : QB b H) : gTru X (.bl b) H QB := ⟨b, rfl, q⟩
theorem w_neg (q : wE X e σ H fun v H1 => ∃ i : Int, v = .int i ∧ Q (.int (-i)) H1) : wE X (.UnaryOp .USub e pos) σ H Q := toE (pe_un un_neg cE) q
/-- xs.insert(a, b) -/
theorem g_insert (q : wE X o σ H fun x H1 => tyV X.K "list" x H1 ∧ wA X [a, b] σ H1 fun ys H2 => ∃ (l : Addr) (xs : List V) (i : Int) (y : V), x = .ref l ∧ ys = [.int i, y] ∧ H2 l = some (.lst xs) ∧ xs.length < sizeLine ∧ 0 ≤ i ∧ i < 2 ^ 63 ∧ Q .non (upd H2 l (.lst (xs.take i.toNat ++ [y] ++ xs.drop i.toNat)))) {apos : Pos}
    (hbase : attributeBase o "insert" X.env (eval o X.env) = eval o X.env := by with_unfolding_all rfl)
    (hfew : ((backTo pos (starEach [a, b] X.env)).all (fun x => !x.1) && (backToKw pos (keywordEach [] X.env)).all (fun x => x.1.isSome) && decide ([a, b].length + ([] : List Keyword).length + (if ([] : List Keyword).isEmpty then 0 else 1) < 30)) = true := by with_unfolding_all rfl)
    (hline : (apos.endLine == pos.line) = true := by with_unfolding_all rfl) (hs : starEach [a, b] X.env = (false, eval a X.env) :: starEach [b] X.env := by with_unfolding_all rfl) (hplain : (backTo pos (starEach [b] X.env)).any (·.1) = false := by with_unfolding_all rfl) : wE X (.Call (.Attribute o "insert" apos) [a, b] [] pos) σ H Q :=
  toE (pe_bm PySem.F.plainAttrs_list PySem.F.slot_list_insert PySem.F.type_list_insert mt_insert cE cA hbase hfew hline hs hplain) q
end
end Vf
set_option maxRecDepth 100000
set_option maxHeartbeats 4000000
/-! Tm: terms of the program as data. Own work. -/
namespace Vf
open PySem PySem.Spec PyProof.Rows L2 LamX
/-- 1 to 8 signs a to z -/
def IsName (z : Str) : Prop := 1 ≤ z.length ∧ z.length ≤ 8 ∧ ∀ c ∈ z.cps.toList, 97 ≤ c ∧ c ≤ 122
inductive Tm
  | part (now : Bool) (z : Str) (w : Int)
  | all (first : Bool) (ts : List Tm)
  | rank (r : Int) (ts : List Tm)
namespace Tm
mutual
/-- the tuple that a term is -/
def py : Tm → PyData
  | .part n z w => .tuple [.str (if n then "now" else "of"), .str z, .int w]
  | .all f ts => .tuple [.str (if f then "first" else "last"), .list (pys ts)]
  | .rank r ts => .tuple [.str "rank", .int r, .list (pys ts)]
def pys : List Tm → List PyData
  | [] => []
  | t :: ts => py t :: pys ts
end
mutual
/-- names of the two lists, waits up to W, ranks in their bounds, no list empty -/
def ok (W : Int) (zs ns : List Str) : Tm → Prop
  | .part n z w => (if n then z ∈ ns else z ∈ zs) ∧ -W ≤ w ∧ w ≤ W
  | .all _ ts => ts ≠ [] ∧ oks W zs ns ts
  | .rank r ts => ts ≠ [] ∧ 1 ≤ r ∧ r ≤ ts.length ∧ oks W zs ns ts
def oks (W : Int) (zs ns : List Str) : List Tm → Prop
  | [] => True
  | t :: ts => ok W zs ns t ∧ oks W zs ns ts
end
mutual
def dep : Tm → Nat
  | .part _ _ _ => 0
  | .all _ ts => deps ts + 1
  | .rank _ ts => deps ts + 1
def deps : List Tm → Nat
  | [] => 0
  | t :: ts => max (dep t) (deps ts)
end
mutual
/-- parts -/
def cnt : Tm → Nat
  | .part _ _ _ => 1
  | .all _ ts => cnts ts
  | .rank _ ts => cnts ts
def cnts : List Tm → Nat
  | [] => 0
  | t :: ts => cnt t + cnts ts
end
mutual
/-- parts and lists -/
def siz : Tm → Nat
  | .part _ _ _ => 1
  | .all _ ts => sizs ts + 1
  | .rank _ ts => sizs ts + 1
def sizs : List Tm → Nat
  | [] => 0
  | t :: ts => siz t + sizs ts
end
mutual
/-- a term: no list empty or beyond bounds, ranks in their bounds -/
def wf : Tm → Prop
  | .part _ _ _ => True
  | .all _ ts => ts ≠ [] ∧ ts.length < 1000 ∧ wfs ts
  | .rank r ts => ts ≠ [] ∧ ts.length < 1000 ∧ 1 ≤ r ∧ r ≤ ts.length ∧ wfs ts
def wfs : List Tm → Prop
  | [] => True
  | t :: ts => wf t ∧ wfs ts
end
mutual
/-- the parts changed -/
def reb (g : Tm → Tm) : Tm → Tm
  | .part n z w => g (.part n z w)
  | .all f ts => .all f (rebs g ts)
  | .rank r ts => .rank r (rebs g ts)
def rebs (g : Tm → Tm) : List Tm → List Tm
  | [] => []
  | t :: ts => reb g t :: rebs g ts
end
mutual
theorem reb_id : ∀ t : Tm, reb (fun x => x) t = t
  | .part _ _ _ => rfl
  | .all f ts => by rw [reb, rebs_id ts]
  | .rank r ts => by rw [reb, rebs_id ts]
theorem rebs_id : ∀ ts : List Tm, rebs (fun x => x) ts = ts
  | [] => rfl
  | t :: ts => by rw [rebs, reb_id t, rebs_id ts]
end
theorem rebs_map (g : Tm → Tm) : ∀ ts : List Tm, rebs g ts = ts.map (reb g)
  | [] => rfl
  | t :: ts => by rw [rebs, rebs_map g ts]; rfl
theorem wfs_iff : ∀ {ts : List Tm}, wfs ts ↔ ∀ t ∈ ts, wf t
  | [] => by simp [wfs]
  | t :: ts => by rw [wfs, wfs_iff]; simp
theorem dep_mem : ∀ {ts : List Tm} {t : Tm}, t ∈ ts → dep t ≤ deps ts
  | [], _, h => by simp at h
  | a :: ts, t, h => by
    rw [deps]
    rcases List.mem_cons.1 h with e | e
    · rw [e]; omega
    · have := dep_mem e; omega
theorem pys_map : ∀ ts : List Tm, pys ts = ts.map py
  | [] => rfl
  | t :: ts => by rw [pys, pys_map ts]; rfl
theorem oks_iff {W : Int} {zs ns : List Str} : ∀ {ts : List Tm}, oks W zs ns ts ↔ ∀ t ∈ ts, ok W zs ns t
  | [] => by simp [oks]
  | t :: ts => by rw [oks, oks_iff]; simp
theorem pys_length (ts : List Tm) : (pys ts).length = ts.length := by rw [pys_map, List.length_map]
theorem cnts_sum : ∀ ts : List Tm, cnts ts = (ts.map cnt).sum
  | [] => rfl
  | t :: ts => by rw [cnts, cnts_sum ts]; rfl
theorem sizs_append : ∀ a b : List Tm, sizs (a ++ b) = sizs a + sizs b
  | [], b => by simp [sizs]
  | t :: a, b => by rw [List.cons_append, sizs, sizs, sizs_append a b]; omega
theorem cnts_append : ∀ a b : List Tm, cnts (a ++ b) = cnts a + cnts b
  | [], b => by simp [cnts]
  | t :: a, b => by rw [List.cons_append, cnts, cnts, cnts_append a b]; omega
theorem pys_append (a b : List Tm) : pys (a ++ b) = pys a ++ pys b := by rw [pys_map, pys_map, pys_map, List.map_append]
theorem oks_append {W : Int} {zs ns : List Str} {a b : List Tm} (h1 : oks W zs ns a) (h2 : oks W zs ns b) : oks W zs ns (a ++ b) := by
  rw [oks_iff] at *
  intro t ht
  rcases List.mem_append.1 ht with h | h
  · exact h1 t h
  · exact h2 t h
section
variable {W : Int} {zs ns : List Str} (hz : ∀ z ∈ zs, IsName z) (hn : ∀ z ∈ ns, IsName z)
include hz hn
theorem part_name {n : Bool} {z : Str} (h : if n = true then z ∈ ns else z ∈ zs) : IsName z := by
  cases n
  · exact hz z (by simpa using h)
  · exact hn z (by simpa using h)
mutual
theorem canLay : ∀ t : Tm, ok W zs ns t → (py t).canLay0 = true
  | .part n z w, h => by
    have e := (part_name hz hn h.1).2.2
    have e1 : PyData.strOk z = true := by
      unfold PyData.strOk
      rw [Array.all_eq_true']
      intro c hc
      have := e c (by simpa using hc)
      simp; omega
    have e2 : PyData.strOk (if n = true then "now" else "of") = true := by cases n <;> decide +kernel
    simp [py, PyData.canLay0, PyData.canLayAll0, e1, e2]
  | .all f ts, h => by
    have e2 : PyData.strOk (if f = true then "first" else "last") = true := by cases f <;> decide +kernel
    simp [py, PyData.canLay0, PyData.canLayAll0, e2, canLays ts h.2]
  | .rank r ts, h => by
    have e2 : PyData.strOk "rank" = true := by decide +kernel
    simp [py, PyData.canLay0, PyData.canLayAll0, e2, canLays ts h.2.2.2]
theorem canLays : ∀ ts : List Tm, oks W zs ns ts → PyData.canLayAll0 (pys ts) = true
  | [], _ => rfl
  | t :: ts, h => by
    rw [pys, PyData.canLayAll0, canLay t h.1, canLays ts h.2]; rfl
end
end
mutual
theorem depth_le : ∀ t : Tm, (py t).depth ≤ 2 * dep t + 1
  | .part n z w => by simp [py, PyData.depth, PyData.depthAll, dep]
  | .all f ts => by have := depths_le ts; simp [py, PyData.depth, PyData.depthAll, dep]; omega
  | .rank r ts => by have := depths_le ts; simp [py, PyData.depth, PyData.depthAll, dep]; omega
theorem depths_le : ∀ ts : List Tm, PyData.depthAll (pys ts) ≤ 2 * deps ts + 1
  | [] => by simp [pys, PyData.depthAll]
  | t :: ts => by have := depth_le t; have := depths_le ts; simp [pys, PyData.depthAll, deps]; omega
end
mutual
theorem dep_le : ∀ t : Tm, dep t ≤ siz t
  | .part n z w => by simp [dep]
  | .all f ts => by have := deps_le ts; simp [dep, siz]; omega
  | .rank r ts => by have := deps_le ts; simp [dep, siz]; omega
theorem deps_le : ∀ ts : List Tm, deps ts ≤ sizs ts
  | [] => by simp [deps]
  | t :: ts => by have := dep_le t; have := deps_le ts; simp [deps, sizs]; omega
end
mutual
theorem siz_pos : ∀ t : Tm, 1 ≤ siz t
  | .part n z w => by simp [siz]
  | .all f ts => by simp [siz]
  | .rank r ts => by simp [siz]
theorem len_le : ∀ ts : List Tm, ts.length ≤ sizs ts
  | [] => by simp
  | t :: ts => by have := siz_pos t; have := len_le ts; simp [sizs]; omega
end
mutual
theorem ok_wf {W : Int} {zs ns : List Str} : ∀ t : Tm, ok W zs ns t → siz t < 1000 → wf t
  | .part _ _ _, _, _ => trivial
  | .all f ts, h, l => by
    have := len_le ts
    simp only [siz] at l
    exact ⟨h.1, by omega, oks_wf ts h.2 (by omega)⟩
  | .rank r ts, h, l => by
    have := len_le ts
    simp only [siz] at l
    exact ⟨h.1, by omega, h.2.1, h.2.2.1, oks_wf ts h.2.2.2 (by omega)⟩
theorem oks_wf {W : Int} {zs ns : List Str} : ∀ ts : List Tm, oks W zs ns ts → sizs ts < 1000 → wfs ts
  | [], _, _ => trivial
  | t :: ts, h, l => by
    simp only [sizs] at l
    exact ⟨ok_wf t h.1 (by omega), oks_wf ts h.2 (by omega)⟩
end
mutual
theorem eqv_py : ∀ a b : Tm, PyData.eqv (py a) (py b) = true ↔ a = b
  | .part n z w, .part n' z' w' => by
    have : (if n = true then ("now" : Str) else "of") = (if n' = true then ("now" : Str) else "of") ↔ n = n' := by cases n <;> cases n' <;> decide +kernel
    simp [py, PyData.eqv, PyData.eqvAll, this]
  | .part n z w, .all f ts => by simp [py, PyData.eqv, PyData.eqvAll]
  | .part n z w, .rank r ts => by simp [py, PyData.eqv, PyData.eqvAll]
  | .all f ts, .part n z w => by simp [py, PyData.eqv, PyData.eqvAll]
  | .all f ts, .all f' ts' => by
    have : (if f = true then ("first" : Str) else "last") = (if f' = true then ("first" : Str) else "last") ↔ f = f' := by cases f <;> cases f' <;> decide +kernel
    simp [py, PyData.eqv, PyData.eqvAll, this, eqv_pys ts ts']
  | .all f ts, .rank r ts' => by simp [py, PyData.eqv, PyData.eqvAll]
  | .rank r ts, .part n z w => by simp [py, PyData.eqv, PyData.eqvAll]
  | .rank r ts, .all f ts' => by simp [py, PyData.eqv, PyData.eqvAll]
  | .rank r ts, .rank r' ts' => by simp [py, PyData.eqv, PyData.eqvAll, eqv_pys ts ts']
theorem eqv_pys : ∀ a b : List Tm, PyData.eqvAll (pys a) (pys b) = true ↔ a = b
  | [], [] => by simp [pys, PyData.eqvAll]
  | [], _ :: _ => by simp [pys, PyData.eqvAll]
  | _ :: _, [] => by simp [pys, PyData.eqvAll]
  | a :: as, b :: bs => by simp [pys, PyData.eqvAll, eqv_py a b, eqv_pys as bs]
end
theorem wt_int {i : Int} (h : i.natAbs < 2 ^ 47) : PyData.weight (.int i) ≤ 47 := by
  unfold PyData.weight
  split
  · omega
  · have : i.natAbs ≠ 0 := by rename_i g; intro w; exact g (by simpa using Int.natAbs_eq_zero.1 w)
    have := (Nat.log2_lt this).2 h
    omega
section
variable {W : Int} {zs ns : List Str} (hz : ∀ z ∈ zs, IsName z) (hn : ∀ z ∈ ns, IsName z) (hW : W < 10 ^ 12)
include hz hn hW
mutual
theorem weight_le : ∀ t : Tm, ok W zs ns t → sizs [t] ≤ 1000 → (py t).weight + 1 ≤ 100 * siz t
  | .part n z w, h, _ => by
    have e : z.cps.size ≤ 8 := (part_name hz hn h.1).2.1
    have e2 : (if n = true then ("now" : Str) else "of").cps.size ≤ 8 := by cases n <;> decide +kernel
    have e3 := wt_int (i := w) (by have := h.2; omega)
    simp only [py, PyData.weight, PyData.weightAll, siz] at e3 ⊢
    omega
  | .all f ts, h, l => by
    have e2 : (if f = true then ("first" : Str) else "last").cps.size ≤ 8 := by cases f <;> decide +kernel
    have := weights_le ts h.2 (by simp only [sizs, siz] at l; omega)
    simp only [py, PyData.weight, PyData.weightAll, siz] at this ⊢
    omega
  | .rank r ts, h, l => by
    have e2 : ("rank" : Str).cps.size ≤ 8 := by decide +kernel
    have := weights_le ts h.2.2.2 (by simp only [sizs, siz] at l; omega)
    have e4 : ts.length ≤ sizs ts := len_le ts
    have e3 := wt_int (i := r) (by have := h.2; simp only [sizs, siz] at l; omega)
    simp only [py, PyData.weight, PyData.weightAll, siz] at this e3 ⊢
    omega
theorem weights_le : ∀ ts : List Tm, oks W zs ns ts → sizs ts ≤ 1000 → PyData.weightAll (pys ts) ≤ 100 * sizs ts
  | [], _, _ => by simp [pys, PyData.weightAll]
  | t :: ts, h, l => by
    have l' : siz t + sizs ts ≤ 1000 := l
    have h1 := weight_le t h.1 (by simp only [sizs]; omega)
    have h2 := weights_le ts h.2 (by omega)
    have h3 := siz_pos t
    simp only [pys, PyData.weightAll, sizs]
    omega
end
mutual
theorem short : ∀ t : Tm, ok W zs ns t → siz t ≤ 1000 → (py t).intsShort 13 = true
  | .part n z w, h, _ => by
    have e3 := PyData.shown_int_le (i := w) (by have := h.2; omega)
    simp [py, PyData.intsShort, PyData.intsShortAll, e3]
  | .all f ts, h, l => by
    have := shorts ts h.2 (by simp only [siz] at l; omega)
    simp [py, PyData.intsShort, PyData.intsShortAll, this]
  | .rank r ts, h, l => by
    have := shorts ts h.2.2.2 (by simp only [siz] at l; omega)
    have e4 : ts.length ≤ sizs ts := len_le ts
    have e3 := PyData.shown_int_le (i := r) (by have := h.2; simp only [siz] at l; omega)
    simp [py, PyData.intsShort, PyData.intsShortAll, this, e3]
theorem shorts : ∀ ts : List Tm, oks W zs ns ts → sizs ts ≤ 1000 → PyData.intsShortAll 13 (pys ts) = true
  | [], _, _ => rfl
  | t :: ts, h, l => by
    have l' : siz t + sizs ts ≤ 1000 := l
    rw [pys, PyData.intsShortAll, short t h.1 (by omega), shorts ts h.2 (by omega)]; rfl
end
mutual
theorem shows : ∀ t : Tm, ok W zs ns t → siz t ≤ 1000 → (py t).showable = true
  | .part n z w, h, _ => by
    have e3 : w.natAbs.log2 < 1920 := by
      rcases Nat.eq_zero_or_pos w.natAbs with e | e
      · rw [e]; decide
      · exact (Nat.log2_lt (by omega)).2 (by have := h.2; omega)
    simp [py, PyData.showable, PyData.showableAll, e3]
  | .all f ts, h, l => by
    have := showss ts h.2 (by simp only [siz] at l; omega)
    simp [py, PyData.showable, PyData.showableAll, this]
  | .rank r ts, h, l => by
    have := showss ts h.2.2.2 (by simp only [siz] at l; omega)
    have e4 : ts.length ≤ sizs ts := len_le ts
    have e3 : r.natAbs.log2 < 1920 := (Nat.log2_lt (by have := h.2; omega)).2 (by have := h.2; simp only [siz] at l; omega)
    simp [py, PyData.showable, PyData.showableAll, this, e3]
theorem showss : ∀ ts : List Tm, oks W zs ns ts → sizs ts ≤ 1000 → PyData.showableAll (pys ts) = true
  | [], _, _ => rfl
  | t :: ts, h, l => by
    have l' : siz t + sizs ts ≤ 1000 := l
    rw [pys, PyData.showableAll, shows t h.1 (by omega), showss ts h.2 (by omega)]; rfl
end
/-- a term's text is of a size that repr makes -/
theorem shown_fits (t : Tm) (h : ok W zs ns t) (l : siz t ≤ 29) : (py t).showable = true ∧ (py t).shown.length ≤ sizeLine ∧ (py t).depth ≤ 60 := by
  have h1 := weight_le hz hn hW t h (by simp only [sizs]; omega)
  have h2 := depth_le t
  have h3 := dep_le t
  refine ⟨shows hz hn hW t h (by omega), ?_, by omega⟩
  have := shown_le13 (d := py t) ?_ (short hz hn hW t h (by omega))
  · rw [sizeLine_eq]; omega
  · unfold PyData.layable0
    rw [canLay hz hn t h]
    simp only [Bool.true_and, Bool.and_eq_true, decide_eq_true_eq]
    exact ⟨by omega, by omega⟩
end
end Tm
end Vf
set_option maxRecDepth 100000
set_option maxHeartbeats 4000000
/-! Own: instances of the text's own classes: fields, methods, making, ==, isinstance. Own work. -/
namespace Vf
open PySem PySem.Spec PyProof.Rows L2 LamX
section
variable {m : Md} {N : List Str} {sc : Scope} {j k : Nat} {X : Cx} {a b c e o : Expr} {es : List Expr} {σ : L2.St} {H : Hp} {Q : VK} {nx : L2.St → Hp → Prop} {rt : VK} {bk ct : L2.St → Hp → Prop} {pos p p1 p2 apos : Pos} {x mn f : Str} {C : Addr} {sp : Sp} {dvs : List V} {CX : CXT} {E : XK}
/-! ### fields -/
theorem w_fld (h : At m N sc k X) (c : Cls m.K C) (n : NoAttr m.K C f) (q : wE X e σ H fun x H1 => ∃ a dx fs v, x = .ref a ∧ H1 a = some (.ins C dx fs) ∧ fs.lookup f = some v ∧ Q v H1)
    (hb : attributeBase e f X.env (eval e X.env) = eval e X.env := by with_unfolding_all rfl) : wE X (.Attribute e f pos) σ H Q := by
  refine toE (pe_fld cE hb) (wE.mono q fun x H1 ⟨a, dx, fs, v, ex, ea, l, q1⟩ => ?_)
  exact ⟨a, C, dx, fs, v, ex, ea, by rw [h.kk]; exact c, by rw [h.kk]; exact n, l, q1⟩
theorem s_fld (h : At m N sc k X) (c : Cls m.K C) (n : NoAttr m.K C f) (q : wE X e σ H fun y H1 => wE X o σ H1 fun x H2 => ∃ a dx fs, x = .ref a ∧ H2 a = some (.ins C dx fs) ∧ fs.length < 1000 ∧ nx σ (upd H2 a (.ins C dx (putF f y fs))))
    (hs : swapsWith e (some (.Attribute o f p1)) pos.line X.env = pure false := by with_unfolding_all rfl) : wS X (.Assign [.Attribute o f p1] e pos) ⟨nx, rt, bk, ct⟩ σ H := by
  refine toS (ps_fld cE cE hs) (wE.mono q fun y H1 q1 => wE.mono q1 fun x H2 ⟨a, dx, fs, ex, ea, l, q2⟩ => ?_)
  exact ⟨a, C, dx, fs, ex, ea, by rw [h.kk]; exact c, by rw [h.kk]; exact n, l, q2⟩
/-! ### methods -/
/-- a method of the class at C that keeps sp -/
structure MetX (m : Md) (CX : CXT) (k : Nat) (C : Addr) (mn : Str) (sp : Sp) (dvs : List V) : Prop where
  ex : ∃ (f : Addr) (fd : FuncData) (ps : List Str) (ds : List Value), FnG m CX k f fd ps sp ∧ Cls m.K C ∧ Meth m.K C mn f ∧ Binds m.K fd ps ds ∧ Vals dvs ds
/-- the callee's run, as a call -/
theorem run_call {pins : List (Addr × Obj)} {s : Shared} {g : Addr} {fd : FuncData} {ps : List Str} {ds us : List Value} {vs : List V} (h : At m N sc k X) (F : FnG m CX j g fd ps sp) (hk : j ≤ k) (hx : Passes CX X E) (I : Inv X pins σ H s) (b : Binds m.K fd ps ds) (d : Vals dvs ds) (r : Vals vs us) (q : sp (vs ++ dvs) H Q E) :
    wpAny (model X.prog X.w) X.A (call (.ref g) us) (EP X pins σ Q) X.xe s := by
  have r2 := Vals.append r d
  refine wpAny_call (codeAny_mono (fnG_run (us := us ++ ds) (vs := vs ++ dvs) h F hk hx I (b s us (by rw [← h.kk]; exact I.kIn) (by rw [← r2.length]; exact F.len _ _ _ _ q)) r2 q) fun r s' hq => ?_)
  match r, hq with
  | .error e, hq => exact hq
  | .ok (.ret u), hq => exact hq
theorem w_metX {pl : Sem Bool} (h : At m N sc k X) (c : MetX m CX j C mn sp dvs) (hk : j ≤ k) (hx : Passes CX X E)
    (q : wE X o σ H fun x H1 => ∃ a dx fs, x = .ref a ∧ H1 a = some (.ins C dx fs) ∧ fs.lookup mn = none ∧ wA X (e :: es) σ H1 fun vs H2 => sp (x :: (vs ++ dvs)) H2 Q E)
    (hst : starEach (e :: es) X.env = (false, eval e X.env) :: starEach es X.env := by with_unfolding_all rfl) (hpl : (backTo pos (starEach es X.env)).any (·.1) = false := by with_unfolding_all rfl)
    (ht : eval (.Call (.Attribute o mn apos) (e :: es) [] pos) X.env = (do
      let ov ← eval o X.env
      standAt apos.atName
      let (f, first) ← holding [ov] (getMethod ov mn pl)
      callWith pos f first (backTo pos (starEach (e :: es) X.env)) (backToKw pos (keywordEach [] X.env))) := by with_unfolding_all rfl) : wE X (.Call (.Attribute o mn apos) (e :: es) [] pos) σ H Q := by
  obtain ⟨g, fd, ps, ds, F, cl, me, b, d⟩ := c.ex
  unfold wE
  intro pins s I
  refine PySem.W.methodCall_KW (pl := pl) (thn ((cE (X := X) (e := o)).run pins s σ H _ I q) fun u s1 ⟨x, H1, I1, rx, i, dx, fs, ex, ea, l, q1⟩ => ?_) ht
  subst ex
  obtain rfl : u = Value.ref i := rx
  refine getmeth_ok I1 ea (by rw [h.kk]; exact cl) (by rw [h.kk]; exact me) l ?_
  refine PySem.W.callWith_K (first := [.ref i]) (h₀ := X.base) I.ok.mod.kin (by rw [h.kk]; exact me.kp) (thn ((cA (X := X) (es := e :: es)).run pos pins s1 σ H1 _ I1 q1) fun us s2 ⟨vs, H2, I2, r, q2⟩ => ⟨I2.kIn, ?_⟩) hst hpl
  exact run_call (us := .ref i :: us) (vs := .ref i :: vs) h F hk hx I2 b d (.cons rfl r) q2
theorem w_met0 {pl : Sem Bool} (h : At m N sc k X) (c : MetX m CX j C mn sp dvs) (hk : j ≤ k) (hx : Passes CX X E)
    (q : wE X o σ H fun x H1 => ∃ a dx fs, x = .ref a ∧ H1 a = some (.ins C dx fs) ∧ fs.lookup mn = none ∧ sp (x :: dvs) H1 Q E)
    (ht : eval (.Call (.Attribute o mn apos) [] [] pos) X.env = (do
      let ov ← eval o X.env
      standAt apos.atName
      let (f, first) ← holding [ov] (getMethod ov mn pl)
      callWith pos f first (backTo pos (starEach [] X.env)) (backToKw pos (keywordEach [] X.env))) := by with_unfolding_all rfl) : wE X (.Call (.Attribute o mn apos) [] [] pos) σ H Q := by
  obtain ⟨g, fd, ps, ds, F, cl, me, b, d⟩ := c.ex
  unfold wE
  intro pins s I
  refine PySem.W.methodCall_KW (pl := pl) (thn ((cE (X := X) (e := o)).run pins s σ H _ I q) fun u s1 ⟨x, H1, I1, rx, i, dx, fs, ex, ea, l, q1⟩ => ?_) ht
  subst ex
  obtain rfl : u = Value.ref i := rx
  refine getmeth_ok I1 ea (by rw [h.kk]; exact cl) (by rw [h.kk]; exact me) l ?_
  exact PySem.W.callWith_K0 (first := [.ref i]) I1.kIn (by rw [h.kk]; exact me.kp) (run_call (us := [.ref i]) (vs := [.ref i]) h F hk hx I1 b d (.cons rfl .nil) q1)
/-! ### making -/
/-- the class x, at C, whose __init__ keeps sp -/
structure MakX (m : Md) (CX : CXT) (k : Nat) (x : Str) (C : Addr) (sp : Sp) (dvs : List V) : Prop where
  ex : ∃ (f : Addr) (fd : FuncData) (ps : List Str) (ds : List Value), FnG m CX k f fd ps sp ∧ Mk m.K C f ∧ m.mg x = some (.ref C) ∧ Binds m.K fd ps ds ∧ Vals dvs ds
theorem w_makX (h : At m N sc k X) (c : MakX m CX j x C sp dvs) (hk : j + 1 ≤ k) (hg : sc.names.lookup x = some .globalImplicit) (hx : L2.PassesAt CX X σ E)
    (q : wA X (e :: es) σ H fun vs H1 => ∀ i dx, H1 i = none → H1 dx = none → dx ≠ i → sp (.ref i :: (vs ++ dvs)) (upd (upd H1 dx (.own i)) i (.ins C dx [])) (fun v H2 => v = .non ∧ Q (.ref i) H2) E)
    (hdb : (x == ("__debug__" : Str)) = false := by with_unfolding_all decide) (he : starEach (e :: es) X.env = (false, eval e X.env) :: starEach es X.env := by with_unfolding_all rfl) (hpl : (backTo pos (starEach es X.env)).any (·.1) = false := by with_unfolding_all rfl) : wE X (.Call (.Name x p) (e :: es) [] pos) σ H Q := by
  obtain ⟨g, fd, ps, ds, F, M, hm, b, d⟩ := c.ex
  unfold wE
  intro pins s I
  refine wpAny_Call_Name_kw (ld_glob (u := .ref C) I (h.gl hg) (by rw [h.mm]; exact hm) ?_ hdb)
  refine PySem.W.callWith_K (h₀ := X.base) I.ok.mod.kin (by rw [h.kk]; exact M.kp) (thn ((cA (X := X) (es := e :: es)).run pos pins s σ H _ I q) fun us s1 ⟨vs, H1, I1, r, q1⟩ => ⟨I1.kIn, ?_⟩) he hpl
  have hq := q1 (s1.heap.objs.size + 1) s1.heap.objs.size (I1.hok.fresh (Nat.le_succ _)) (I1.hok.fresh (Nat.le_refl _)) (Nat.ne_of_lt (Nat.lt_succ_self _))
  have I2 := Inv.made (C := C) I1
  have r2 : Vals (V.ref (s1.heap.objs.size + 1) :: (vs ++ dvs)) (Value.ref (s1.heap.objs.size + 1) :: (us ++ ds)) := .cons rfl (Vals.append r d)
  have e0 := I2.env0.make C us []
  rw [h.pp, h.ww, h.kk, h.mm, h.bb] at e0
  have rc := F.run _ X.stack _ _ ⟨Value.ref (s1.heap.objs.size + 1) :: us, []⟩ (Value.ref (s1.heap.objs.size + 1) :: (us ++ ds)) _ _ E (by exact h.gd) ((h.room.mono hk).make C us []) e0
    (b _ (Value.ref (s1.heap.objs.size + 1) :: us) (by rw [← h.kk]; exact I2.kIn) (by have z := r2.length; rw [F.len _ _ _ _ hq] at z; exact z.symm)) r2 hq
  rw [← h.pp, ← h.ww] at rc
  refine wpAny_call (make_map (f := g) I1.kIn (by rw [h.kk]; exact M.makes) (by rw [h.kk]; exact M.init) (by rw [h.kk]; exact beq_iff_eq.mp M.fn) (codeAny_mono rc fun r s' hq' => ?_))
  match r, hq' with
  | .error e, hq' => exact hx pins _ _ e s' I2 hq'
  | .ok (.ret u), hq' =>
    obtain ⟨v, H', I3, rv, ev, q3⟩ := I2.after hq'
    subst ev
    exact ⟨rv, ⟨V.ref (s1.heap.objs.size + 1), H', I3, rfl, q3⟩⟩
/-! ### isinstance -/
theorem g_isi (h : At m N sc k X) {x c : V} {t u : Value} {r : Bool} (hc : ClsV c u) (ht : TyX m.K H x t) (hr : PySem.W.kitOne m.K t u = some r) (q : Q (.bl r) H) : gCall X (.builtin "isinstance") [x, c] H Q :=
  ⟨_, call_isi, x, c, t, u, r, rfl, hc, by rw [h.kk]; exact ht, by rw [h.kk]; exact hr, q⟩
/-- == by an own __eq__ -/
theorem g_eqIns (h : At m N sc k X) (c : MetX m CX j C "__eq__" sp []) (hk : j ≤ k) (hx : Passes CX X E) {i dx : Addr} {fs : List (Str × V)} {y : V} {t : Value} (hi : H i = some (.ins C dx fs)) (ty : TyX m.K H y t) (nf : PySem.W.notFirst m.K C t = true)
    (q : sp [.ref i, y] H (fun z H' => ∃ r, z = .bl r ∧ Q (.bl r) H') E) : gOp X (compareOp .Eq) (.ref i) y H Q := by
  obtain ⟨g, fd, ps, ds, F, cl, me, b, d⟩ := c.ex
  intro pins s σ v u I rx ry
  cases rx
  have ty' : TyX X.K H y t := by rw [h.kk]; exact ty
  obtain ⟨P, Z, p, _⟩ := kit_of I ry ty'
  obtain ⟨mA, J, _⟩ := ins_get I.hok hi
  obtain ⟨od, J, _⟩ := J.look
  obtain ⟨mm, hF⟩ := I.fr
  show wpAny (model X.prog X.w) X.A (richCompare .Eq (.ref i) u) (EP X pins σ Q) X.xe s
  have hu := h.hu
  refine PySem.W.cmp_K (op := .Eq) (tb := t) (by omega) hF I.ok.mod.kin J (Z.ty _ _ I.kIn p) (by rw [h.kk]; exact nf) (by rw [h.kk]; exact me.at_) (by rw [h.kk]; exact me.fn) ?_
  refine wpAny_mono (run_call (Q := fun z H' => ∃ r, z = .bl r ∧ Q (.bl r) H') (us := [.ref i, u]) (vs := [.ref i, y]) h F hk hx I b d (.cons rfl (.cons ry .nil)) (by cases d; simpa using q)) (fun w s' hq => ?_) fun _ _ x => x
  obtain ⟨z, H', I', rz, r, ez, q'⟩ := hq
  subst ez
  cases rz
  exact ⟨.bl r, _, I', rfl, q'⟩
/-! != where the class has an own __eq__ and no __ne__ -/
section
variable {M : Model} {prog : Program} {w : World} {A : Around} {EE : Value → Shared → Prop} {s : Shared} {K : PySem.W.Frag} {i g : Addr} {oi : Obj} {od : Option Obj} {u tb : Value}
theorem bound_ne {args : List Value} {R : Option Value → Shared → Prop} (KI : K.In s.heap) (J : PySem.W.InstAt s.heap i oi C od) (hs : PySem.W.findIn K (.ref C) "__ne__" = some (some (.builtin "object.__ne__")))
    (q : wpAny M A (call (.builtin "object.__ne__") (.ref i :: args)) (fun v => R (some v)) EE s) : wpAny M A (callSpecialIfBound? (.ref i) "__ne__" args) R EE s := by
  have last : wpAny M A (do let v ← call (.builtin "object.__ne__") ([.ref i] ++ args); pure (some v)) R EE s := wpAny_bind (wpAny_mono q (fun v s' z => wpAny_pure z) fun _ _ z => z)
  simp only [callSpecialIfBound?, bindSpecialIfBound?]
  refine wpAny_holding (wpAny_bind (wpAny_bind (wpAny_bind (J.type.here ((PySem.W.looks_findIn KI hs).here (wpAny_bind (wpAny_askSetting (wpAny_ite ?_))))))))
  split
  · exact wpAny_bind (wpAny_of_eq (F.cmp_object.ne.bind _) (wpAny_pure (by exact last)))
  · exact wpAny_tryCatch (wpAny_bind (wpAny_of_eq (F.cmp_object.ne.bind _) (wpAny_pure (by exact last))))
theorem body_ne (KI : K.In s.heap) (J : PySem.W.InstAt s.heap i oi C od) (he : PySem.W.findIn K (.ref C) "__eq__" = some (some (.ref g))) (hf : PySem.W.isFn K (.ref g) = true) (hu : A.units < cLine) {R : Fin → Shared → Prop}
    (q : wpAny M A (call (.ref g) [.ref i, u]) (fun v s' => ∃ b, v = .bool b ∧ R (.done (.ret (.bool (!b)))) s') EE s) : wpAny M A (Builtin.«object.__ne__» ⟨[.ref i, u], []⟩) R EE s := by
  unfold Builtin.«object.__ne__»
  repeat (first
    | with_reducible refine wpAny_cRoomFor hu ?_
    | (refine wpAny_bind (m := callSpecialIfBound? (.ref i) (Str.ofString "__eq__") [u]) (PySem.W.ifBound_K KI J he hf (wpAny_mono q (fun r s' z => by
          obtain ⟨b, rfl, hq⟩ := z
          repeat (first | exact hq | exact wpAny_pure hq | exact wpAny_truthy_bool hq | (refine wpAny_bind (m := truthy (.bool _)) (wpAny_truthy_bool ?_)) | wp_step)) fun _ _ z => z)))
    | wp_step)
end
/-- the callee's run one built-in deeper -/
theorem run_call1 {pins : List (Addr × Obj)} {s : Shared} {g : Addr} {fd : FuncData} {ps : List Str} {us : List Value} {vs : List V} (h : At m N sc k X) (F : FnG m CX j g fd ps sp) (hk : j + 1 ≤ k) (hx : Passes CX X E) (I : Inv X pins σ H s) (b : Binds m.K fd ps []) (r : Vals vs us) (q : sp vs H Q E) :
    wpAny (model X.prog X.w) X.A.in1 (call (.ref g) us) (EP X pins σ Q) X.xe s := by
  have e0 := I.env0.in1
  rw [h.pp, h.ww, h.kk, h.mm, h.bb] at e0
  have hl : us.length = ps.length := by rw [← r.length]; exact F.len _ _ _ _ q
  have rc := F.run X.A.in1 X.stack s H ⟨us, []⟩ us vs Q E (by exact h.gd) ((h.room.mono hk).in1) e0 (by have := b s us (by rw [← h.kk]; exact I.kIn) (by simpa using hl); simpa using this) r q
  rw [← h.pp, ← h.ww] at rc
  refine wpAny_call (codeAny_mono rc fun r s' hq => ?_)
  match r, hq with
  | .error e, hq => exact hx pins σ H s e s' I hq
  | .ok (.ret u), hq => exact I.after hq
/-- != where the class has an own __eq__ and no __ne__ -/
theorem g_neIns (h : At m N sc k X) (c : MetX m CX j C "__eq__" sp []) (hn : PySem.W.findIn m.K (.ref C) "__ne__" = some (some (.builtin "object.__ne__"))) (hm : PySem.W.mroIn m.K C (.type "object") = some true) (hk : j + 1 ≤ k) (hx : Passes CX X E) {i dx : Addr} {fs : List (Str × V)} {y : V} {t : Value} (hi : H i = some (.ins C dx fs)) (ty : TyX m.K H y t) (nf : PySem.W.notFirst m.K C t = true)
    (q : sp [.ref i, y] H (fun z H' => ∃ r, z = .bl r ∧ Q (.bl (!r)) H') E) : gOp X (compareOp .NotEq) (.ref i) y H Q := by
  obtain ⟨g, fd, ps, ds, F, cl, me, b, d⟩ := c.ex
  intro pins s σ v u I rx ry
  cases rx
  cases d
  have ty' : TyX X.K H y t := by rw [h.kk]; exact ty
  obtain ⟨P, Z, p, _⟩ := kit_of I ry ty'
  obtain ⟨mA, J, _⟩ := ins_get I.hok hi
  obtain ⟨od, J, _⟩ := J.look
  have hu := h.hu
  have KI := I.kIn
  have hb := Z.ty (model X.prog X.w) _ I.kIn p
  have run := run_call1 (Q := fun z H' => ∃ r, z = .bl r ∧ Q (.bl (!r)) H') (us := [.ref i, u]) (vs := [.ref i, y]) h F hk hx I b (.cons rfl (.cons ry .nil)) (by simpa using q)
  have one : wpAny (model X.prog X.w) X.A (tryCompare (.ref i) (cmpInfo .NotEq).2.1 u) (fun r s' => ∃ v, r = some v ∧ EP X pins σ Q v s') X.xe s := by
    unfold tryCompare
    refine wpAny_bind (bound_ne KI J (by rw [h.kk]; exact hn) (wpAny_call (codeAny_call_builtin PySem.F.cmp_object.ne.plain PySem.F.cmpEntry_ne (PySem.W.check_slot PySem.F.cmpKind_ne PySem.F.cmpSplit_ne (J.type.andThen (PySem.W.looks_mroIn KI (by rw [h.kk]; exact hm))) (PySem.F.cmpArgs_ne _ _)
      (body_ne (A := X.A.in1) KI J (by rw [h.kk]; exact me.at_) (by rw [h.kk]; exact me.fn) (by show X.A.units + 1 < cLine; omega) (wpAny_mono run (fun v s' hv => ?_) fun _ _ z => z))))))
    obtain ⟨z, H', I', rz, r, ez, q'⟩ := hv
    subst ez
    cases rz
    exact ⟨r, rfl, wpAny_pure ⟨_, rfl, .bl (!r), H', I', rfl, q'⟩⟩
  show wpAny (model X.prog X.w) X.A (richCompare .NotEq (.ref i) u) (EP X pins σ Q) X.xe s
  unfold richCompare
  simp only [oneThing_ref]
  refine wpAny_holding (wpAny_bind (wpAny_cRoomFor (by omega) ?_))
  refine wpAny_bind (J.type.here (wpAny_bind (hb.here ?_)))
  have nf' : PySem.W.notFirst X.K C t = true := by rw [h.kk]; exact nf
  split
  · rename_i w
    have e : PySem.W.subIn X.K t (.ref C) = some false := by
      rcases Bool.or_eq_true_iff.mp nf' with e | e
      · rw [beq_iff_eq.mp e] at w; simp at w
      · exact beq_iff_eq.mp e
    refine wpAny_bind ((PySem.W.looks_subIn KI e).here ?_)
    simp only [Bool.false_eq_true, if_false]
    refine wpAny_bind (wpAny_mono one (fun r s' z => ?_) fun _ _ z => z)
    obtain ⟨v, rfl, hq⟩ := z
    exact wpAny_pure hq
  · refine wpAny_bind (wpAny_pure ?_)
    simp only [Bool.false_eq_true, if_false]
    refine wpAny_bind (wpAny_mono one (fun r s' z => ?_) fun _ _ z => z)
    obtain ⟨v, rfl, hq⟩ := z
    exact wpAny_pure hq
end
end Vf
set_option maxRecDepth 100000
set_option maxHeartbeats 4000000
/-! Exn: defs that raise own errors with a field, and what catches them. Own work. -/
namespace Vf
open PySem PySem.Spec PyProof.Rows L2 LamX
/-- how the frame of a def stands -/
structure Frm (X : Cx) : Prop where
  stk : X.stack = X.env :: X.outer
  frm : X.env.frame = some X.env.locals
section
variable {m : Md} {N ps : List Str} {k : Nat} {x qual : Str} {st : Stmt} {f : Addr} {fd : FuncData} {sp : Sp}
/-- a def that may raise, by its body -/
theorem fnG_ofX (F : C8.Fun m.K x qual st f fd) (S : FnScope N ps (C8.fnScope st)) (len : ∀ vs H Q E, sp vs H Q E → vs.length = ps.length)
    (hb : ∀ (X : Cx) (vs : List V) (H : Hp) (Q : VK) (E : XK), At m N (C8.fnScope st) k X → AtM X qual fd.code → Frm X → L2.Takes X (fun cls d _ H => E cls d H) → sp vs H Q E → wB X (C8.fnBody st) { nx := fun _ H' => Q .non H', rt := Q } (start N vs) H) : FnG m (L2.CX m.P m.w) (k + 1) f fd ps sp := by
  obtain ⟨oc, od, dV, kV, doc, pm, an, cdv, ct, osl, rfl, lk, hc⟩ := F.ex
  refine ⟨len, fun A outer s H args us vs Q E hg hr e0 bt r q => ?_⟩
  refine LamX.run_ofS (CX := L2.CX m.P m.w) (N := N) lk hc S hr e0 bt r (len _ _ _ _ q) fun hr' => ⟨_, cB, ?_⟩
  exact hb (cxOf (L2.CX m.P m.w) m.P m.w m.K m.mg m.base N qual (C8.fnScope st) f cdv A outer s H E) vs H Q E ⟨rfl, rfl, rfl, rfl, rfl, rfl, rfl, rfl, hr', L2.passes_of rfl, S.nd, hg⟩ ⟨rfl, rfl, fun _ => rfl, rfl⟩ ⟨rfl, rfl⟩ (L2.takes_of rfl rfl rfl rfl) q
theorem calX_of (F : C8.Def m.K m.mg x st f fd) (b : Binds m.K fd ps []) (S : FnScope N ps (C8.fnScope st)) (len : ∀ vs H Q E, sp vs H Q E → vs.length = ps.length)
    (hb : ∀ (X : Cx) (vs : List V) (H : Hp) (Q : VK) (E : XK), At m N (C8.fnScope st) k X → AtM X x fd.code → Frm X → L2.Takes X (fun cls d _ H => E cls d H) → sp vs H Q E → wB X (C8.fnBody st) { nx := fun _ H' => Q .non H', rt := Q } (start N vs) H) : CalX m (L2.CX m.P m.w) (k + 1) x sp [] :=
  ⟨f, fd, ps, [], fnG_ofX F.fn S len hb, F.mgf, F.kp, b, .nil⟩
end
/-- an own error class x at C whose __init__ stores its one argument in the field fn -/
structure ErrC (m : Md) (x : Str) (C : Addr) (fn : Str) : Prop where
  oex : OexC m.K C
  xf : XfC m.K C
  no : PySem.W.findIn m.K (.ref C) fn = some none
  gC : m.mg x = some (.ref C)
  self : PySem.W.exmOne m.K (.ref C) (.ref C) = some true
  init : ∃ (fI : Addr) (fd : FuncData) (ps : List Str), PySem.W.findIn m.K (.ref C) "__init__" = some (some (.ref fI)) ∧ PySem.W.typeIn m.K (.ref fI) = some (.type "function") ∧ Binds m.K fd ps [] ∧
    FnOk m.P m.w m.K m.mg m.base C8.CX0 1 fI fd ps (fun vs H Q _ => ∃ (a : Addr) (v : V), vs = [.ref a, v] ∧ H a = some (exo a C none) ∧ ∀ dx, H dx = none → dx ≠ a → Q .non (upd (upd H dx (exd dx [(fn, v)])) a (exo a C (some dx))))
section
variable {m : Md} {N : List Str} {sc : Scope} {i k : Nat} {X : Cx} {a b c e o : Expr} {es : List Expr} {σ : L2.St} {H : Hp} {Q : VK} {D : Ends} {W Wout : WX} {pos p p1 p2 pos2 np pos' : Pos} {x nm fn : Str} {C : Addr}
/-- raise x(e) -/
theorem s_raise (h : At m N sc k X) (tk : L2.Takes X W) (c : ErrC m x C fn) (hk : 2 ≤ k) (hg : sc.names.lookup x = some .globalImplicit)
    (q : wE X e σ H fun v H1 => ∀ d, H1 d = none → W (.ref C) (some d) σ (upd H1 d (.xd [(fn, v)])))
    (hdb : (x == ("__debug__" : Str)) = false := by with_unfolding_all decide) (he : starEach [e] X.env = (false, eval e X.env) :: starEach [] X.env := by with_unfolding_all rfl) (hpl : (backTo pos (starEach [] X.env)).any (·.1) = false := by with_unfolding_all rfl) : wS X (.Raise (some (.Call (.Name x p) [e] [] pos)) none pos2) D σ H := by
  obtain ⟨fI, fd, ps, iC, tI, b, F⟩ := c.init
  have F' := F
  rw [← h.pp, ← h.ww, ← h.kk, ← h.mm, ← h.bb] at F'
  refine toS (L2.ps_raise h.calm tk (pmk_oex (dvs := []) (ds := []) (by rw [h.kk]; exact c.oex) (by rw [h.kk]; exact iC) (by rw [h.kk]; exact tI) F' (h.room.mono hk) (by rw [h.kk]; exact b) .nil C8.pass0 (h.gl hg) (by rw [h.mm]; exact c.gC) (pa_cons (cE (e := e)) pa_nil he) hdb he hpl)) ?_
  show tCons (wE X e) tNil σ H _
  refine wE.mono q fun v H1 q1 => ?_
  refine ⟨(show 1 ≤ 1000 by decide), fun a ha => ⟨a, v, rfl, upd_same, fun dx hdx hne => ⟨rfl, dx, [(fn, v)], upd_same, by rw [upd_ne hne, upd_same], by rw [upd_ne hne] at hdx; exact hdx, ?_⟩⟩⟩
  have hdx1 : H1 dx = none := by rw [upd_ne hne] at hdx; exact hdx
  have e1 : upd (del (upd (upd (upd H1 a (exo a C none)) dx (exd dx [(fn, v)])) a (exo a C (some dx))) a) dx (.xd [(fn, v)]) = upd H1 dx (.xd [(fn, v)]) := by
    funext z
    by_cases z1 : z = dx
    · rw [z1, upd_same, upd_same]
    · rw [upd_ne z1, upd_ne z1]
      by_cases z2 : z = a
      · rw [z2, del_same, ha]
      · rw [del_ne z2, upd_ne z2, upd_ne z1, upd_ne z2]
  rw [e1]
  exact q1 dx hdx1
theorem At.tr (h : At m N sc k X) {pn : List (Addr × Obj)} {xe : Value → Shared → Prop} (hp : PassesOwn (model X.prog X.w) X.A X.env xe) : At m N sc k (X.tr pn xe) := ⟨h.pp, h.ww, h.kk, h.mm, h.bb, h.nn, h.ss, h.calm, h.room, hp, h.nd, h.gd⟩
theorem Frm.tr (h : Frm X) {pn : List (Addr × Obj)} {xe : Value → Shared → Prop} : Frm (X.tr pn xe) := ⟨h.stk, h.frm⟩
/-- the place of an except suite: a the exception, cls its class, d its dict -/
structure Sui (m : Md) (N : List Str) (sc : Scope) (a : Addr) (cls : Value) (d : Option Addr) (X : Cx) : Prop where
  ex : ∃ (X0 : Cx) (oe : Obj) (pn : List (Addr × Obj)), X = X0.suite a ((a, oe) :: pn) ∧ Zc cls d oe ∧ (∃ vs, oe.data = .fields vs)
  kk : X.K = m.K
  nn : X.N = N
  ss : X.env.scope = sc
  nd : N.Nodup
/-- try: .. except x as nm: .. -/
theorem s_tryAs {body suite : List Stmt} {b0 : Stmt} (h : At m N sc k X) (fr : Frm X) (n : NL N sc i nm) (hx : sc.names.lookup x = some .globalImplicit) (hC : m.mg x = some (.ref C)) (tk : L2.Takes X Wout)
    (q : ∀ X', At m N sc k X' → Frm X' → L2.Takes X' (fun cls d σ H => ∃ r, PySem.W.exmOne m.K cls (.ref C) = some r ∧
        (r = true → ∀ a, H a = none → ∀ X2, Sui m N sc a cls d X2 → wB X2 (b0 :: suite) { nx := fun σ' H' => D.nx (σ'.set i none) H', rt := D.rt, bk := fun σ' H' => D.bk (σ'.set i none) H', ct := fun σ' H' => D.ct (σ'.set i none) H' } (σ.set i (some (.ref a))) H) ∧ (r = false → Wout cls d σ H)) → wB X' body D σ H)
    (hdb : (x == ("__debug__" : Str)) = false := by with_unfolding_all decide) : wS X (.Try body [.ExceptHandler (some (.Name x np)) (some nm) (b0 :: suite) pos'] [] [] pos) D σ H := by
  refine toS (L2.ps_try_as (c := .ref C) (i := i) (Wout := Wout) (tb := fun W D σ H => ∀ X', At m N sc k X' → Frm X' → L2.Takes X' W → wB X' body D σ H) (ts := fun a cls d D σ H => ∀ X2, Sui m N sc a cls d X2 → wB X2 (b0 :: suite) D σ H)
    fr.stk fr.frm (by rw [h.nn]; exact h.nd) (by rw [h.nn]; exact n.ix) (by show X.env.scope.names.lookup nm = _; rw [h.ss]; exact n.loc) ⟨h.gl hx, hdb, .inl (by rw [h.mm]; exact hC)⟩ tk
    (fun W pn xe tk' ps => ⟨fun pins s σ H D I z => (cB (X := X.tr pn xe) (sts := body)).run pins s σ H D I (z _ (h.tr ps) fr.tr tk')⟩) (fun a oe cls d pn hz hf => ⟨fun pins s σ H D I z => (cB (X := X.suite a ((a, oe) :: pn)) (sts := b0 :: suite)).run pins s σ H D I (z _ ⟨⟨X, oe, pn, rfl, hz, hf⟩, h.kk, h.nn, h.ss, h.nd⟩)⟩)) ?_
  intro X' hX' fr' tk'
  refine q X' hX' fr' (L2.Takes.imp tk' fun cls d σ H z => ?_)
  unfold wAs
  rw [h.kk]
  exact z
/-! in a suite -/
theorem w_nlS {cls : Value} {d : Option Addr} {z : Addr} {v : V} (h : Sui m N sc z cls d X) (n : NL N sc i nm) (hs : σ[i]? = some (some v)) (q : Q v H) (hd : (nm == ("__debug__" : Str)) = false := by with_unfolding_all decide) (hcd : (nm == ("__classdict__" : Str)) = false := by with_unfolding_all decide) : wE X (.Name nm pos) σ H Q :=
  toE (pe_var (by rw [h.nn]; exact n.ix) (by rw [h.ss]; exact .inl n.loc) hd hcd) ⟨v, hs, q⟩
theorem s_nlS {cls : Value} {d : Option Addr} {z : Addr} (h : Sui m N sc z cls d X) (n : NL N sc i nm) (q : wE X e σ H fun v H1 => D.nx (σ.set i (some v)) H1) (hs : swapsWith e (some (.Name nm p1)) pos.line X.env = pure false := by with_unfolding_all rfl) : wS X (.Assign [.Name nm p1] e pos) D σ H :=
  toS (ps_set (by rw [h.nn]; exact h.nd) (by rw [h.nn]; exact n.ix) (by rw [h.ss]; exact .inl n.loc) cE hs (.inr (by rw [h.ss]; exact n.loc))) q
/-- e.fn of the caught error -/
theorem w_errS {cls : Value} {d : Option Addr} {z : Addr} (h : Sui m N sc z cls d X) (c : ErrC m x C fn) (hcls : cls = .ref C) (q : wE X e σ H fun y H1 => y = .ref z ∧ ∃ (dd : Addr) (v : V), d = some dd ∧ H1 dd = some (.xd [(fn, v)]) ∧ Q v H1)
    (hb : attributeBase e fn X.env (eval e X.env) = eval e X.env := by with_unfolding_all rfl) : wE X (.Attribute e fn pos) σ H Q := by
  obtain ⟨X0, oe, pn, rfl, hz, hf⟩ := h.ex
  have kk : X0.K = m.K := h.kk
  refine toE (pe_xf (C := C) (by rw [kk]; exact c.xf) (by rw [kk]; exact c.no) hz hf cE hb) ?_
  refine wE.mono q fun y H1 ⟨ey, dd, v, ed, hd, q1⟩ => ?_
  exact ⟨ey, hcls, dd, [(fn, v)], v, ed, hd, by simp [List.lookup], q1⟩
end
end Vf
set_option maxRecDepth 100000
set_option maxHeartbeats 4000000
/-! Fin: the end of a row, where nothing is being shown. Own work. -/
namespace Vf
open PySem PySem.Spec PyProof.Rows L2 LamX
/-- the script's own object -/
def scrO (vs : List Value) : Obj := { cls := .type "list", data := .seq vs.toArray }
/-- an empty table of a code object -/
def tabO : Obj := { cls := .none, data := .fields #[] }
/-- what is tracked where the law is called: the tables of ts, and the script, if it stands in no written part -/
def hp0 (K : PySem.W.Frag) (ts : List Addr) (a : Addr) (vs : List Value) (ns : List Int) : Hp := fun b => if b ∈ ts then some (.tbl #[]) else if b = a ∧ K.lookup a = none then some (.frz (scrO vs) (.lst (ns.map V.int))) else none
section
variable {K : PySem.W.Frag} {ts : List Addr} {a b : Addr} {vs : List Value} {ns : List Int} {h : Heap}
theorem hp0_tab (z : b ∈ ts) : hp0 K ts a vs ns b = some (.tbl #[]) := if_pos z
theorem hp0_some {u : HO} (z : hp0 K ts a vs ns b = some u) : b ∈ ts ∧ u = .tbl #[] ∨ b ∉ ts ∧ b = a ∧ K.lookup a = none ∧ u = .frz (scrO vs) (.lst (ns.map V.int)) := by
  unfold hp0 at z
  split at z
  · rename_i c; exact .inl ⟨c, (Option.some.inj z).symm⟩
  · rename_i c
    split at z
    · rename_i e; exact .inr ⟨c, e.1, e.2, (Option.some.inj z).symm⟩
    · cases z
/-- a heap with the script at a and the tables ts -/
structure Scr (h : Heap) (ts : List Addr) (a : Addr) (vs : List Value) : Prop where
  scr : h.get? a = some (scrO vs)
  tab : ∀ b ∈ ts, h.get? b = some tabO
theorem Scr.at_ (S : Scr h ts a vs) {u : HO} (z : hp0 K ts a vs ns b = some u) : h.get? b = some tabO ∨ h.get? b = some (scrO vs) ∧ K.lookup b = none := by
  rcases hp0_some z with ⟨m, _⟩ | ⟨_, e, k, _⟩
  · exact .inl (S.tab b m)
  · subst e; exact .inr ⟨S.scr, k⟩
/-- what is neither a sequence nor an object of fields without any is not tracked -/
theorem Scr.free (S : Scr h ts a vs) {o : Obj} (e : h.get? b = some o) (n1 : ∀ xs k, o.data ≠ .seq xs k) (n2 : o.data ≠ .fields #[]) : hp0 K ts a vs ns b = none := by
  cases z : hp0 K ts a vs ns b with
  | none => rfl
  | some u =>
    rcases S.at_ z with g | ⟨g, _⟩
    · rw [g] at e; cases e; exact absurd rfl n2
    · rw [g] at e; cases e; exact absurd rfl (n1 _ _)
theorem Scr.ok {P : Program} {w : World} (S : Scr h ts a vs) (hi : IntsAre vs ns) (hl : ns.length ≤ sizeLine) : HOk P w (hp0 K ts a vs ns) h := fun b u z => by
  rcases hp0_some z with ⟨m, rfl⟩ | ⟨_, rfl, _, rfl⟩
  · exact S.tab b m
  · exact ⟨S.scr, by rw [List.length_map]; exact hl, vs, _, vals_ints hi, S.scr⟩
theorem Scr.seq (S : Scr h ts a vs) (hi : IntsAre vs ns) (hl : ns.length ≤ sizeLine) (KX : K.In h) : SqL K (hp0 K ts a vs ns) a (ns.map V.int) := by
  have na : a ∉ ts := fun z => by
    have := S.tab a z
    rw [S.scr] at this
    have q := congrArg Obj.data (Option.some.inj this)
    cases q
  cases k : K.lookup a with
  | none => exact .inl (.inr ⟨_, by unfold hp0; rw [if_neg na, if_pos ⟨rfl, k⟩]⟩)
  | some o =>
    have e := KX a o k
    rw [S.scr] at e
    cases e
    exact .inr ⟨_, vs.toArray, _, k, rfl, rfl, rfl, by rw [List.size_toArray, hi.length]; exact hl, by simpa using vals_ints hi⟩
end
section
variable {m : Md} {mb : Str → Option Value} {CX : CXT} {k : Nat} {fa a : Addr} {cs : List (Addr × Addr)} {fd : FuncData} {x : Str} {sp : Sp} {vs : List Value} {ns : List Int}
/-- the written part and the globals as the law's call finds them -/
structure Gnd (K : PySem.W.Frag) (mg mb : Str → Option Value) (cs : List (Addr × Addr)) (h : Heap) : Prop where
  kin : K.In h
  glb : h.Ns mainGlobals mg
  blt : h.Ns builtinsNs mb
  bot : ∀ y : Str, y ≠ "__name__" → mb y = bootBuiltins y
  lim : h.NoLimit
  off : ∀ p ∈ cs, K.lookup p.2 = none
  cod : ∀ p ∈ cs, PySem.W.CodeHd h p.1 p.2
  mod : ∃ (bm : Addr) (ob : Obj), mg "__builtins__" = some (.ref bm) ∧ bm ≠ builtinsNs ∧ h.get? bm = some ob ∧ ob.cls = .type "module" ∧ ob.dict = some builtinsNs ∧ ob.data = .plain
/-- the tables' addresses -/
abbrev tbs (cs : List (Addr × Addr)) : List Addr := cs.map (·.2)
theorem mem_tbs {p : Addr × Addr} (h : p ∈ cs) : p.2 ∈ tbs cs := List.mem_map.2 ⟨p, h, rfl⟩
/-- the base: the heap without what is tracked -/
abbrev bas (K : PySem.W.Frag) (cs : List (Addr × Addr)) (a : Addr) (vs : List Value) (ns : List Int) (h : Heap) : Heap := hidT h (hp0 K (tbs cs) a vs ns)
theorem Gnd.nsB {K : PySem.W.Frag} {h : Heap} (S : Scr h (tbs cs) a vs) {b : Addr} {f : Str → Option Value} (z : h.Ns b f) : (bas K cs a vs ns h).Ns b f := by
  obtain ⟨o, es, ep, e, d, r⟩ := z
  exact ⟨o, es, ep, hidT_get e (S.free e (fun xs j w => by rw [d] at w; cases w) fun w => by rw [d] at w; cases w), d, r⟩
theorem Gnd.kinB {K : PySem.W.Frag} {mg : Str → Option Value} {h : Heap} (G : Gnd K mg mb cs h) (S : Scr h (tbs cs) a vs) : K.In (bas K cs a vs ns h) := fun b o e => by
  refine hidT_get (G.kin b o e) ?_
  cases z : hp0 K (tbs cs) a vs ns b with
  | none => rfl
  | some u =>
    rcases hp0_some z with ⟨w, _⟩ | ⟨_, w, n, _⟩
    · obtain ⟨p, hp, w⟩ := List.mem_map.1 w
      have n := G.off p hp
      rw [w, e] at n; cases n
    · rw [w, n] at e; cases e
theorem Gnd.tabB {K : PySem.W.Frag} {mg : Str → Option Value} {h : Heap} (G : Gnd K mg mb cs h) (S : Scr h (tbs cs) a vs) : ∀ p ∈ cs, TabB (bas K cs a vs ns h) mg p.1 p.2 := fun p hp => by
  have hT := S.tab _ (mem_tbs hp)
  have nG : ∀ b, mainGlobals = b → h.get? b ≠ some tabO := fun b z w => by
    obtain ⟨o, es, ep, e, hd, _⟩ := G.glb
    rw [z, w] at e
    cases e
    cases hd
  refine ⟨?_, ?_, fun z => nG _ z hT⟩
  · obtain ⟨o, us, fl, tf, fg, tg, inF, tx, tt, at1, kind, dat, el, more⟩ := G.cod p hp
    refine ⟨o, us, fl, tf, fg, tg, inF, tx, tt, hidT_get at1 (S.free at1 (fun xs j w => by rw [dat] at w; cases w) fun w => ?_), kind, dat, el, more⟩
    rw [dat] at w
    cases w
    simp at el
  · obtain ⟨bm, ob, b1, b2, b3, b4, b5, b6⟩ := G.mod
    refine ⟨bm, ob, b1, b2, fun q => ?_, fun q => ?_, hidT_get b3 (S.free b3 (fun xs j w => by rw [b6] at w; cases w) fun w => by rw [b6] at w; cases w), b4, b5, b6⟩
    · obtain ⟨o, es, ep, e, hd, _⟩ := G.glb
      rw [← q, b3] at e
      cases e
      rw [b6] at hd; cases hd
    · rw [q, hT] at b3
      cases b3
      cases b6
/-- the call of the law -/
theorem law_run {h : Heap} {s : Shared} (es : s.heap = h) (G : Gnd m.K m.mg mb cs h) (S : Scr h (tbs cs) a vs) (hg : s.gens = #[]) (hi : IntsAre vs ns) (hl : ns.length ≤ sizeLine) (hr : Room k callerA)
    (F : (bas m.K cs a vs ns h).Ns mainGlobals m.mg → m.K.In (bas m.K cs a vs ns h) → (∀ p ∈ cs, TabB (bas m.K cs a vs ns h) m.mg p.1 p.2) → FnG { m with base := bas m.K cs a vs ns h } CX k fa fd [x] sp) (hb : ∀ (s : Shared) (u : Value), BindsTo s fd ⟨[u], []⟩ [(x, u)])
    (q : ∀ H : Hp, (∀ p ∈ cs, H p.2 = some (.tbl #[])) → SqL m.K H a (ns.map V.int) → sp [.ref a] H (fun v _ => v = .bl true) fun _ _ _ => False) (hCX : ∀ H e s', CX [] H s (fun _ _ _ => False) e s' → False) :
    codeAny (model m.P m.w) callerA (.call (.ref fa) ⟨[.ref a], []⟩) (fun r s' => r = .ok (.ret (.bool true)) ∧ OldK s.heap s'.heap ∧ s'.os = s.os ∧ AllBare s'.gens) s := by
  subst es
  have M : L2.Mod m.K m.mg (bas m.K cs a vs ns s.heap) := ⟨G.kinB S, Gnd.nsB S G.glb, ⟨mb, Gnd.nsB S G.blt, G.bot⟩, by obtain ⟨c, h1, h2⟩ := G.lim; exact ⟨c, Gnd.nsB S h1, h2⟩⟩
  have ok := S.ok (P := m.P) (w := m.w) (K := m.K) hi hl
  have e0 : Env0 m.P m.w m.K m.mg (bas m.K cs a vs ns s.heap) callerA [] s (hp0 m.K (tbs cs) a vs ns) :=
    ⟨rfl, M, fun b o e => of_hidT e, Nat.le_of_eq (hidT_size _ _), trivial, fun b hb => absurd (show b ∈ ([] : List Addr) from hb) (by simp), ok, .of_eq hg⟩
  have run := (F (Gnd.nsB S G.glb) (G.kinB S) (G.tabB S)).run callerA [] s (hp0 m.K (tbs cs) a vs ns) ⟨[.ref a], []⟩ [.ref a] [.ref a] _ _ rfl hr e0 (hb s (.ref a)) (.cons rfl .nil) (q _ (fun p hp => hp0_tab (mem_tbs hp)) (S.seq hi hl G.kin))
  refine codeAny_mono run fun r s' z => ?_
  match r, z with
  | .error e, z => exact (hCX _ e s' z).elim
  | .ok (.ret u), z =>
    obtain ⟨v, H', os, bare, un, ok', rv, ev⟩ := z
    subst ev
    obtain rfl : u = Value.bool true := rv
    have grown : ∀ p ∈ cs, ∃ more : Array Value, s'.heap.get? p.2 = some { cls := .none, data := .fields more } := fun p hp => by
      obtain ⟨more, w⟩ := un.tbls p.2 #[] (hp0_tab (mem_tbs hp))
      exact ⟨_, ok' p.2 _ w⟩
    have stays : ∀ b o, b ∉ tbs cs → s.heap.get? b = some o → s'.heap.get? b = some o := fun b o nb e => by
      cases w : hp0 m.K (tbs cs) a vs ns b with
      | none => exact un.keep b o e w (fun y => absurd (show b ∈ ([] : List Addr) from y) (by simp)) (by simp)
      | some u =>
        rcases hp0_some w with ⟨y, _⟩ | ⟨_, rfl, _, rfl⟩
        · exact absurd y nb
        · have y := un.frzs b _ _ w
          obtain ⟨y2, _⟩ := ok' b _ y
          rw [S.scr] at e
          cases e
          exact y2
    refine ⟨rfl, ⟨fun b o e => ?_, fun b o e => ?_⟩, os, bare⟩
    · by_cases y : b ∈ tbs cs
      · obtain ⟨p, hp, rfl⟩ := List.mem_map.1 y
        obtain ⟨more, hm⟩ := grown p hp
        have t := S.tab _ y
        rw [t] at e
        cases e
        exact .inr (.inl ⟨((G.cod p hp).tab t).isCodeTable, rfl, #[], more, rfl, by rw [Array.empty_append]; exact hm⟩)
      · exact .inl (stays b o y e)
    · by_cases y : b ∈ tbs cs
      · obtain ⟨p, hp, rfl⟩ := List.mem_map.1 y
        obtain ⟨more, hm⟩ := grown p hp
        exact ⟨_, hm⟩
      · exact ⟨o, stays b o y e⟩
end
/-- what is to be shown of the law at the head's heap h -/
structure LawG (P : Program) (w : World) (K : PySem.W.Frag) (CX : CXT) (k n : Nat) (x : Str) (mg : Str → Option Value) (fa : Addr) (h : Heap) (fd : FuncData) (cs : List (Addr × Addr)) (T : List (Addr × Str)) (sp : Sp) : Prop where
  tab : ∀ p ∈ cs, h.get? p.2 = some tabO
  off : ∀ p ∈ cs, K.lookup p.2 = none
  cod : ∀ p ∈ cs, PySem.W.CodeHd h p.1 p.2
  bnd : ∀ (s : Shared) (u : Value), BindsTo s fd ⟨[u], []⟩ [(x, u)]
  pre : ∀ (H : Hp) (a : Addr) (ns : List Int), ns.length ≤ n → (∀ z ∈ ns, Builtin.Int.intBits z ≤ 1048576) → (∀ p ∈ cs, H p.2 = some (.tbl #[])) → SqL K H a (ns.map V.int) → sp [.ref a] H (fun v _ => v = .bl true) fun _ _ _ => False
  run : ∀ base : Heap, base.Ns mainGlobals mg → K.In base → (∀ p ∈ cs, TabB base mg p.1 p.2) → FnG ⟨P, w, K, mg, base, T⟩ CX k fa fd [x] sp
theorem walkG {l : PySem.W.OpenLaw} {n k : Nat} {q : Program} {loose : List Str} {XP : (Str → Option Value) → Heap → Prop} {YP : World → Heap → Prop} {d : DefRec} {K : Params → PySem.W.Frag} {CX : World → CXT} {x : Str}
    (hn : l.most = some n) (hn2 : n ≤ sizeLine) (hdf : d.params.defaults = []) (hr : Room k callerA) (hY : ∀ (w : World) (h : Heap), YP w h → (K w.params).In h)
    (F : ∀ (w : World) (mg : Str → Option Value) (fa : Addr) (h : Heap), YP w h → (K w.params).In h → h.Ns mainGlobals mg → mg d.name = some (.ref fa) → ∃ fd cs T sp, LawG l.prog w (K w.params) (CX w) k n x mg fa h fd cs T sp)
    (hCX : ∀ (w : World) (H : Hp) (s : Shared) (e : Value) (s' : Shared), CX w [] H s (fun _ _ _ => False) e s' → False) :
    PySem.W.WalkO q loose XP YP l.row.toRowW d [] (fun f vs => PySem.call f vs) := by
  refine Att.attach_callB hn hdf fun w s0 s1 mg mb fa o pm cd doc a vs ns G Y _ _ _ hmg hobj hints hlen hbits hg => ?_
  have KX := hY w _ Y
  obtain ⟨fd, cs, T, sp, L⟩ := F w mg fa _ Y KX G.T.g hmg
  exact law_run (m := ⟨l.prog, w, K w.params, mg, s1.heap, T⟩) (h := s1.heap) rfl ⟨KX, G.T.g, G.T.b, G.T.builtins, G.T.nolimit, L.off, L.cod, G.T.bmain⟩ ⟨hobj, fun b hb => by
    obtain ⟨p, hp, e⟩ := List.mem_map.1 hb
    rw [← e]; exact L.tab p hp⟩ hg hints (Nat.le_trans hlen hn2) hr (fun h1 h2 h3 => L.run _ h1 h2 h3) L.bnd (fun H h1 h2 => L.pre H a ns hlen hbits h1 h2) fun H e s' z => hCX w H s1 e s' z
end Vf
set_option maxRecDepth 100000
set_option maxHeartbeats 4000000
/-! Ob: any object that is handed: data with dicts in it, of which only is known that they are dicts. Own work. -/
namespace Vf
open PySem PySem.Spec PyProof.Rows L2 LamX
mutual
inductive Ob (K : PySem.W.Frag) (A : Addr → Prop) (H : Hp) : V → PyData → Prop
  | non : Ob K A H .non .none
  | bl (b : Bool) : Ob K A H (.bl b) (.bool b)
  | int (i : Int) : Ob K A H (.int i) (.int i)
  | str (x : Str) : x.length ≤ sizeLine → Ob K A H (.str x) (.str x)
  | lst {a : Addr} {xs : List V} {ds : List PyData} : A a → SqL K H a xs → ObAll K A H xs ds → xs.length < 1000000 → Ob K A H (.ref a) (.list ds)
  | tup {a : Addr} {xs : List V} {ds : List PyData} : SqT K H a xs → ObAll K A H xs ds → Ob K A H (.ref a) (.tuple ds)
  | dct {a : Addr} {kvs : List (Key × V)} : A a → H a = some (.dK kvs) → Ob K A H (.ref a) (.dict [])
inductive ObAll (K : PySem.W.Frag) (A : Addr → Prop) (H : Hp) : List V → List PyData → Prop
  | nil : ObAll K A H [] []
  | cons {v : V} {vs : List V} {d : PyData} {ds : List PyData} : Ob K A H v d → ObAll K A H vs ds → ObAll K A H (v :: vs) (d :: ds)
end
section
variable {K : PySem.W.Frag} {A A' : Addr → Prop} {H H' : Hp}
theorem ObAll.length : ∀ {vs : List V} {ds : List PyData}, ObAll K A H vs ds → vs.length = ds.length
  | _, _, .nil => rfl
  | _, _, .cons _ r => congrArg (· + 1) (ObAll.length r)
theorem ObAll.getV : ∀ {vs : List V} {ds : List PyData} {i : Nat} {v : V}, ObAll K A H vs ds → vs[i]? = some v → ∃ d, ds[i]? = some d ∧ Ob K A H v d
  | _, _, i, _, .nil, e => by simp at e
  | _, _, 0, _, .cons a _, e => by simp at e; subst e; exact ⟨_, rfl, a⟩
  | _, _, i + 1, d, .cons _ r, e => by
    obtain ⟨v, h1, h2⟩ := ObAll.getV (i := i) r (by simpa using e)
    exact ⟨v, by simpa using h1, h2⟩
mutual
theorem Ob.mono (hA : ∀ a, A a → A' a) (hL : ∀ a xs, A a → SqL K H a xs → SqL K H' a xs) (hT : ∀ a xs, SqT K H a xs → SqT K H' a xs) (hD : ∀ a (kvs : List (Key × V)), A a → H a = some (.dK kvs) → H' a = some (.dK kvs)) : ∀ (d : PyData) (v : V), Ob K A H v d → Ob K A' H' v d
  | .none, _, h => by cases h; exact .non
  | .bool b, _, h => by cases h; exact .bl b
  | .int i, _, h => by cases h; exact .int i
  | .str x, _, h => by cases h with | str _ l => exact .str x l
  | .list ds, _, h => by cases h with | lst a s r l => exact .lst (hA _ a) (hL _ _ a s) (ObAll.mono hA hL hT hD ds _ r) l
  | .tuple ds, _, h => by cases h with | tup s r => exact .tup (hT _ _ s) (ObAll.mono hA hL hT hD ds _ r)
  | .dict _, _, h => by cases h with | dct a e => exact .dct (hA _ a) (hD _ _ a e)
theorem ObAll.mono (hA : ∀ a, A a → A' a) (hL : ∀ a xs, A a → SqL K H a xs → SqL K H' a xs) (hT : ∀ a xs, SqT K H a xs → SqT K H' a xs) (hD : ∀ a (kvs : List (Key × V)), A a → H a = some (.dK kvs) → H' a = some (.dK kvs)) : ∀ (ds : List PyData) (vs : List V), ObAll K A H vs ds → ObAll K A' H' vs ds
  | [], _, h => by cases h; exact .nil
  | d :: ds, _, h => by cases h with | cons a b => exact .cons (Ob.mono hA hL hT hD d _ a) (ObAll.mono hA hL hT hD ds _ b)
end
mutual
/-- texts of a size that len asks -/
def txOk : PyData → Prop
  | .str x => x.length ≤ sizeLine
  | .list ds => ds.length < 1000000 ∧ txOks ds
  | .tuple ds => txOks ds
  | .none | .bool _ | .int _ | .dict _ => True
def txOks : List PyData → Prop
  | [] => True
  | d :: ds => txOk d ∧ txOks ds
end
mutual
theorem Da.ob : ∀ (d : PyData) (v : V), Da K A H v d → txOk d → Ob K A H v d
  | .none, _, h, _ => by cases h; exact .non
  | .bool b, _, h, _ => by cases h; exact .bl b
  | .int i, _, h, _ => by cases h; exact .int i
  | .str x, _, h, t => by cases h; exact .str x t
  | .list ds, _, h, t => by cases h with | lst a s r => exact .lst a s (DaAll.ob ds _ r t.2) (by rw [r.length]; exact t.1)
  | .tuple ds, _, h, t => by cases h with | tup s r => exact .tup s (DaAll.ob ds _ r t)
  | .dict _, _, h, _ => by cases h
theorem DaAll.ob : ∀ (ds : List PyData) (vs : List V), DaAll K A H vs ds → txOks ds → ObAll K A H vs ds
  | [], _, h, _ => by cases h; exact .nil
  | d :: ds, _, h, t => by cases h with | cons a b => exact .cons (Da.ob d _ a t.1) (DaAll.ob ds _ b t.2)
end
/-- the type of data -/
def tyD : PyData → String
  | .none => "NoneType"
  | .bool _ => "bool"
  | .int _ => "int"
  | .str _ => "str"
  | .list _ => "list"
  | .tuple _ => "tuple"
  | .dict _ => "dict"
theorem tyx_lst {a : Addr} {xs : List V} (h : SqL K H a xs) : TyX K H (.ref a) (.type "list") := by
  rcases h with (h | ⟨o, h⟩) | ⟨o, its, n, e, c, _⟩
  · exact .base (.lst h)
  · exact .base (.frz h)
  · exact .kList e c
theorem tyx_tup {a : Addr} {xs : List V} (h : SqT K H a xs) : TyX K H (.ref a) (.type "tuple") := by
  rcases h with (h | ⟨o, h⟩) | ⟨o, its, n, e, c, _⟩
  · exact .base (.tup h)
  · exact .fTuple h
  · exact .kTuple e c
theorem Ob.ty {v : V} {d : PyData} (h : Ob K A H v d) : TyX K H v (.type (tyD d)) := by
  cases h with
  | non => exact .base .non
  | bl b => exact .base (.bl b)
  | int i => exact .base (.int i)
  | str x _ => exact .base (.str x)
  | lst _ s _ _ => exact tyx_lst s
  | tup s _ => exact tyx_tup s
  | dct _ e => exact .base (.dK e)
end
/-! ### what is a term -/
/-- the text z -/
def isS (z : Str) : PyData → Bool
  | .str y => y == z
  | _ => false
def isWh : PyData → Bool
  | .int _ => true
  | _ => false
def nmB (z : Str) : Bool := decide (1 ≤ z.length) && decide (z.length ≤ 8) && z.cps.toList.all fun c => decide (97 ≤ c) && decide (c ≤ 122)
theorem nmB_iff {z : Str} : nmB z = true ↔ IsName z := by
  unfold nmB IsName
  rw [Bool.and_eq_true, Bool.and_eq_true, decide_eq_true_eq, decide_eq_true_eq, List.all_eq_true, and_assoc]
  simp only [Bool.and_eq_true, decide_eq_true_eq]
def isNm : PyData → Bool
  | .str z => nmB z
  | _ => false
def rkOk : PyData → PyData → Bool
  | .int r, .list ds => decide (1 ≤ r) && decide (r ≤ ds.length)
  | _, _ => false
mutual
def isTm : PyData → Bool
  | .tuple ds => isTm3 ds
  | _ => false
def isTm3 : List PyData → Bool
  | [d, x] => (isS "first" d || isS "last" d) && isTl x
  | [d, x, y] => ((isS "of" d || isS "now" d) && isNm x && isWh y) || (isS "rank" d && isTl y && rkOk x y)
  | _ => false
def isTl : PyData → Bool
  | .list ds => !ds.isEmpty && isTms ds
  | _ => false
def isTms : List PyData → Bool
  | [] => true
  | d :: ds => isTm d && isTms ds
end
/-! isinstance of any object -/
def isIn (T : String) (d : PyData) : Bool := decide (tyD d = T) || (T == "int" && decide (tyD d = "bool"))
theorem kit_all (T : String) (hT : T ∈ ["int", "bool", "str", "tuple", "list", "dict"]) : ∀ d : PyData, kitB (tyD d) T = some (isIn T d) := by
  have all : ∀ t ∈ ["NoneType", "bool", "int", "str", "list", "tuple", "dict"], ∀ T ∈ ["int", "bool", "str", "tuple", "list", "dict"], kitB t T = some (decide (t = T) || (T == "int" && decide (t = "bool"))) := by decide +kernel
  intro d
  exact all (tyD d) (by cases d <;> simp [tyD]) T hT
theorem isWh_eq (d : PyData) : isWh d = (isIn "int" d && !isIn "bool" d) := by cases d <;> simp [isWh, isIn, tyD]
end Vf
set_option maxRecDepth 100000
set_option maxHeartbeats 4000000
/-! Ex: names of types, constants of modules, chains, comprehensions over texts. Own work. -/
namespace Vf
open PySem PySem.Spec PyProof.Rows L2 LamX
section
variable {m : Md} {N : List Str} {sc scope : Scope} {i j k : Nat} {X : Cx} {a b c e o elt iter : Expr} {es : List Expr} {σ : L2.St} {H : Hp} {Q : VK} {QB : Bool → Hp → Prop} {pos p p1 p2 : Pos} {x y : Str}
/-- a built-in type as a value -/
theorem w_tyn {T : String} (h : At m N sc k X) (hm : m.mg x = none) (hg : sc.names.lookup x = some .globalImplicit) (hv : bootBuiltins x = some (.type T)) (q : Q (.ty T) H) (hn : x ≠ "__name__" := by with_unfolding_all decide) (hd : (x == ("__debug__" : Str)) = false := by with_unfolding_all decide) : wE X (.Name x pos) σ H Q :=
  toE (pe_bltn (v := .ty T) (h.gl hg) (by rw [h.mm]; exact hm) hv rfl hn hd) q
/-- a name of the module -/
theorem w_glb {v : V} {u : Value} (h : At m N sc k X) (hm : m.mg x = some u) (r : L2.RelV v u) (hg : sc.names.lookup x = some .globalImplicit) (q : Q v H) (hd : (x == ("__debug__" : Str)) = false := by with_unfolding_all decide) : wE X (.Name x pos) σ H Q :=
  toE (pe_glob (h.gl hg) (by rw [h.mm]; exact hm) r hd) q
theorem w_chain {op op' : CmpOp} (q : wE X a σ H fun x H1 => wE X b σ H1 fun y H2 => gOp X (compareOp op) x y H2 fun z H3 => ∃ k, z = .bl k ∧ (if k = true then wE X c σ H3 fun w H4 => gOp X (compareOp op') y w H4 Q else Q (.bl false) H3))
    (hm : lastMarks [op, op'] [b, c] = false := by with_unfolding_all rfl) : wE X (.Compare a [op, op'] [b, c] pos) σ H Q := toE (pe_chain gOp_ok gOp_ok cE cE cE hm) q
theorem t_chain {op op' : CmpOp} (q : wE X a σ H fun x H1 => wE X b σ H1 fun y H2 => gOp X (compareOp op) x y H2 fun z H3 => ∃ k, z = .bl k ∧ (if k = true then wE X c σ H3 fun w H4 => gOp X (compareOp op') y w H4 fun r H5 => ∃ k', r = .bl k' ∧ QB k' H5 else QB false H3))
    (hm : lastMarks [op, op'] [b, c] = false := by with_unfolding_all rfl) : wT X (.Compare a [op, op'] [b, c] pos) σ H QB := by
  refine toT (pt_chain gOp_ok gOp_ok cE cE cE hm) ?_
  refine wE.mono q fun x H1 q1 => wE.mono q1 fun y H2 q2 => ?_
  refine fun pins s σ v u I rx ry => wpAny_mono (q2 pins s σ v u I rx ry) (fun w s' z => ?_) fun _ _ z => z
  obtain ⟨z', H', I', rz, k, ez, q3⟩ := z
  refine ⟨z', H', I', rz, k, ez, ?_⟩
  cases k with
  | true => exact q3
  | false => exact ⟨false, rfl, q3⟩
theorem g_leT {i j : Str} (q : Q (.bl (!decide (j.cps.toList < i.cps.toList))) H) : gOp X (compareOp .LtE) (.str i) (.str j) H Q := gOp.of op_le_str ⟨_, _, rfl, rfl, q⟩
/-- [elt for x in z], z a text -/
theorem w_lcS (h : At m N sc k X) (ok : blkC N sc scope [(x, i)] = true) (n : NL N (relS scope sc) i x)
    (q : wE X iter σ H fun v H1 => ∃ z : Str, v = .str z ∧ ∀ D, H1 D = none → ∃ Pv : Nat → Hp → Prop, Pv 0 (upd H1 D (.lst [])) ∧
      (∀ j c H, z.cps[j]? = some c → Pv j H → ∀ X', At m N (relS scope sc) k X' → wE X' elt (σ.set i (some (.str ⟨#[c]⟩))) H (App D (Pv (j + 1)))) ∧ ∀ H, Pv z.cps.size H → Q (.ref D) H)
    (hs : ∀ x, foldedSetIterable iter X.env x = pure x := by with_unfolding_all (intro _; rfl)) : wE X (.ListComp elt [⟨.Name x p1, iter, [], 0⟩] scope pos) σ H Q := by
  refine toE (pe_lc (own := [(x, i)]) (g := gName i) (tt := tYes) (te := inBlk m N (relS scope sc) k elt) h.calm (by rw [h.nn]; exact h.nd) (pi_str cE) (by rw [h.nn, h.ss]; exact blkOk_by ok) (fun s H C cl fp => pg_nl (blk_at h s H C cl fp) n) (fun _ _ _ _ _ => pts_nil) (fun s H C cl fp => blk_pe h s H C cl fp) hs) ?_
  refine wE.mono q fun v H1 ⟨z, ev, go⟩ => ⟨z, ev, fun D hD => ?_⟩
  obtain ⟨Pv, p0, turn, fin⟩ := go D hD
  refine lc_it walk_str (g := gName i) (tt := tYes) (te := inBlk m N (relS scope sc) k elt) (vs := [i]) (σ := σ) Pv p0 (fun _ _ _ _ => trivial) (fun j y H H' hj hp hy => ?_) fin
  obtain ⟨rfl, c, hc, rfl⟩ := hy
  refine ⟨by rw [wipe1]; simp [wipe, List.set_set], ?_⟩
  unfold tYes
  refine iteT fun X' hX' => ?_
  rw [set_wipe]
  exact turn j c _ hc hp X' hX'
end
end Vf
set_option maxRecDepth 100000
set_option maxHeartbeats 4000000
/-! InOb: is an object one of two texts; is it a text. Own work. -/
namespace Vf
open PySem PySem.Spec PyProof.Rows L2 LamX
theorem str_dec (z : Str) (tk : Tok) (l : Addr) (c : Value) (es : Array DictEntry) (ep : Nat) (dd : Option Addr) (sl : Array (Option Value)) :
    Meets (Builtin.«str.__eq__» ⟨[.str z tk, .ref l], []⟩) (fun _ R s => s.heap.get? l = some { cls := c, dict := dd, data := .dict es ep, slots := sl } ∧ R (.ok (.ret .notImplemented)) s) :=
  .of_wp fun prog w A R s q => by
    obtain ⟨hp, g, d, t, os⟩ := s
    obtain ⟨at1, q⟩ := q
    wp_walk using wpAny_loadPart' at1, wpAny_load at1
    exact ⟨_, rfl, q⟩
theorem dict_dec (l : Addr) (es : Array DictEntry) (ep : Nat) (dd : Option Addr) (sl : Array (Option Value)) (z : Str) (tk : Tok) :
    Meets (Builtin.«dict.__eq__» ⟨[.ref l, .str z tk], []⟩) (fun _ R s => s.heap.get? l = some { cls := .type "dict", dict := dd, data := .dict es ep, slots := sl } ∧ R (.ok (.ret .notImplemented)) s) :=
  .of_wp fun prog w A R s q => by
    obtain ⟨hp, g, d, t, os⟩ := s
    obtain ⟨at1, q⟩ := q
    have f1 := F.sub_str_dict
    wp_walk using wpAny_loadPart' at1, wpAny_load at1
    exact ⟨_, rfl, q⟩
section
variable {A : Around} {s : Shared} {l : Addr} {es : Array DictEntry} {ep : Nat} {dd : Option Addr} {sl : Array (Option Value)}
theorem rc_str_dict (z : Str) (tk : Tok) (ho : s.heap.get? l = some { cls := .type "dict", dict := dd, data := .dict es ep, slots := sl }) (hu : A.units < cLine) : SeqAt.RcAt A s (.str z tk) (.ref l) false := fun prog w E Q q =>
  SeqAt.rc_eq_decline_or (k := false) (typeIs_str s z tk) ⟨_, ho, rfl⟩ (by decide) F.sub_dict_str F.slot_str_eq F.slot_dict_eq_refl
    (fun _ hq => call_meets F.slot_str_eq (typeIs_str s z tk) F.entry_str_eq (F.args_str_eq_2 _ _) (str_dec z tk l (.type "dict") es ep dd sl) ⟨ho, hq⟩)
    (fun _ hq => call_meets F.slot_dict_eq_refl ⟨_, ho, rfl⟩ F.entry_dict_eq (F.args_dict_eq_2 _ _) (dict_dec l es ep dd sl z tk) ⟨ho, hq⟩)
    (fun _ hq => wpAny_of_eq (rfl : isSame (.str z tk) (.ref l) = pure false) hq) (.inr hu) q
theorem rc_dict_str (z : Str) (tk : Tok) (ho : s.heap.get? l = some { cls := .type "dict", dict := dd, data := .dict es ep, slots := sl }) (hu : A.units < cLine) : SeqAt.RcAt A s (.ref l) (.str z tk) false := fun prog w E Q q =>
  SeqAt.rc_eq_decline_or (k := false) ⟨_, ho, rfl⟩ (typeIs_str s z tk) (by decide) F.sub_str_dict F.slot_dict_eq F.slot_str_eq_refl
    (fun _ hq => call_meets F.slot_dict_eq ⟨_, ho, rfl⟩ F.entry_dict_eq (F.args_dict_eq_2 _ _) (dict_dec l es ep dd sl z tk) ⟨ho, hq⟩)
    (fun _ hq => call_meets F.slot_str_eq_refl (typeIs_str s z tk) F.entry_str_eq (F.args_str_eq_2 _ _) (str_dec z tk l (.type "dict") es ep dd sl) ⟨ho, hq⟩)
    (fun _ hq => wpAny_of_eq (rfl : isSame (.ref l) (.str z tk) = pure false) hq) (.inr hu) q
theorem eqAt_str_dict (z : Str) (tk : Tok) (ho : s.heap.get? l = some { cls := .type "dict", dict := dd, data := .dict es ep, slots := sl }) (hu : A.units < cLine) : SeqAt.EqAt A s (.str z tk) (.ref l) false := fun prog w E Q q => by
  unfold eqBool
  refine wpAny_holding ?_
  refine wpAny_ite_split (fun e => absurd (eq_of_beq e) nofun) (fun _ => ?_)
  exact wpAny_bind (rc_str_dict z tk ho hu prog w E _ (wpAny_truthy_bool q))
end
section
variable {X : Cx} {pins : List (Addr × Obj)} {σ : L2.St} {H : Hp} {s : Shared} {A : Addr → Prop} {v : V} {d : PyData} {u : Value}
theorem dct_at {a : Addr} {kvs : List (Key × V)} (I : Inv X pins σ H s) (e : H a = some (.dK kvs)) : ∃ dd es ep sl, s.heap.get? a = some ({ cls := .type "dict", dict := dd, data := .dict es ep, slots := sl } : Obj) := by
  obtain ⟨_, _, vs, _, ob, es, ep, h1, h2, h3, _⟩ := (show ObjOk X.prog X.w H s.heap a (.dK kvs) from I.hok a _ e)
  obtain ⟨c, dd, dat, sl⟩ := ob
  have hc : c = .type "dict" := h2.1
  have hd : dat = .dict es ep := h3
  subst hc hd
  exact ⟨dd, es, ep, sl, h1⟩
theorem ob_rc (I : Inv X pins σ H s) (o : Ob X.K A H v d) (r : L2.RelV v u) (hu : X.A.units < cLine) (z : Str) (tk : Tok) : SeqAt.RcAt X.A s u (.str z tk) (isS z d) := by
  cases o with
  | non => cases r; exact SeqAt.RcAt.none_str z tk
  | bl b => cases r; exact SeqAt.RcAt.bool_str b z tk
  | int i => obtain ⟨t, rfl⟩ := r; exact SeqAt.RcAt.int_str i t z tk
  | str y _ => obtain ⟨t, rfl⟩ := r; exact SeqAt.RcAt.str_str y t z tk
  | lst _ hs _ _ => cases r; obtain ⟨its, _, pl, _⟩ := I.list hs; exact SeqAt.RcAt.list_str z tk pl.isList hu
  | tup hs _ => cases r; obtain ⟨its, _, pl, _⟩ := I.tuple hs; exact SeqAt.RcAt.tuple_str z tk pl hu
  | dct _ e =>
    cases r
    obtain ⟨dd, es, ep, sl, h1⟩ := dct_at I e
    exact rc_dict_str z tk h1 hu
theorem ob_eq {A0 : Around} (I : Inv X pins σ H s) (o : Ob X.K A H v d) (r : L2.RelV v u) (hu : A0.units < cLine) (z : Str) (tk : Tok) : SeqAt.EqAt A0 s (.str z tk) u (isS z d) := by
  cases o with
  | non => cases r; exact SeqAt.EqAt.str_none z tk
  | bl b => cases r; exact SeqAt.EqAt.str_bool z tk b
  | int i => obtain ⟨t, rfl⟩ := r; exact SeqAt.EqAt.str_int z tk i t
  | str y _ =>
    obtain ⟨t, rfl⟩ := r
    have e : isS z (.str y) = (z == y) := by
      show (y == z) = (z == y)
      rw [Bool.eq_iff_iff, beq_iff_eq, beq_iff_eq]; exact eq_comm
    rw [e]
    exact SeqAt.EqAt.str_str z tk y t
  | lst _ hs _ _ => cases r; obtain ⟨its, _, pl, _⟩ := I.list hs; exact SeqAt.EqAt.str_list z tk pl.isList hu
  | tup hs _ => cases r; obtain ⟨its, _, pl, _⟩ := I.tuple hs; exact SeqAt.EqAt.str_tuple z tk pl hu
  | dct _ e =>
    cases r
    obtain ⟨dd, es, ep, sl, h1⟩ := dct_at I e
    exact eqAt_str_dict z tk h1 hu
end
section
variable {m : Md} {N : List Str} {sc : Scope} {k : Nat} {X : Cx} {H : Hp} {Q : VK} {A : Addr → Prop} {v : V} {d : PyData}
/-- x == z, z a text -/
theorem g_eqOb (h : At m N sc k X) {z : Str} (o : Ob m.K A H v d) (q : Q (.bl (isS z d)) H) : gOp X (compareOp .Eq) v (.str z) H Q := fun pins s σ u w I r rz => by
  obtain ⟨tk, rfl⟩ := rz
  have hu := h.hu
  exact ob_rc I (by rw [h.kk]; exact o) r (by omega) z tk X.prog X.w X.xe _ ⟨.bl (isS z d), H, I, rfl, q⟩
/-- x in (z1, z2), two texts -/
theorem g_inOb (h : At m N sc k X) {a : Addr} {z1 z2 : Str} (o : Ob m.K A H v d) (ht : H a = some (.tup [.str z1, .str z2])) (q : Q (.bl (isS z1 d || isS z2 d)) H) : gOp X (compareOp .In) v (.ref a) H Q := fun pins s σ u w I r rz => by
  cases rz
  have hu := h.hu
  obtain ⟨its, rv, pl, hz⟩ := I.tuple (SqT.of ht)
  cases rv with | cons r1 rv => cases rv with | cons r2 rv =>
  cases rv
  obtain ⟨t1, rfl⟩ := r1
  obtain ⟨t2, rfl⟩ := r2
  have o' : Ob X.K A H v d := by rw [h.kk]; exact o
  refine SeqAt.in_tupleAt (fun y => match y with | .str z _ => isS z d | _ => false) pl (fun y hy => ?_) ⟨.bl (isS z1 d || isS z2 d), H, I, by simp [L2.RelV], q⟩
  have hy2 : y = .str z1 t1 ∨ y = .str z2 t2 := by simpa using hy
  rcases hy2 with e | e
  · subst e; exact ob_eq I o' r (by show X.A.units + 1 < cLine; omega) z1 t1
  · subst e; exact ob_eq I o' r (by show X.A.units + 1 < cLine; omega) z2 t2
end
end Vf
set_option maxRecDepth 100000
set_option maxHeartbeats 4000000
/-! Tp: slices and sums of tuples. Own work. -/
namespace Vf
open PySem PySem.Spec PyProof.Rows L2 LamX
section
variable {m : Md} {N : List Str} {sc : Scope} {k : Nat} {X : Cx} {a b c e o : Expr} {σ : L2.St} {H : Hp} {Q : VK} {pos p2 : Pos}
/-- e[:hi] of a tuple, not the whole of it -/
theorem w_sliceToT {hi : Expr} (h : At m N sc k X) (q : wE X e σ H fun x H1 => wE X hi σ H1 fun u H3 => ∃ j : Int, u = .int j ∧ ∃ (a : Addr) (xs : List V), x = .ref a ∧ SqT m.K H3 a xs ∧ HT.sIx xs.length xs.length (some j) ≠ xs.length ∧ ∀ p, H3 p = none → Q (.ref p) (upd H3 p (.tup (cutV xs none (some j))))) :
    wE X (.Subscript e (.Slice none (some hi) none p2) pos) σ H Q := by
  refine toE (pe_slice sl_tup cE po_none (po_some cE)) ?_
  refine wE.mono q fun x H1 q1 => ?_
  show wE X hi σ H1 _
  exact wE.mono q1 fun u H3 ⟨j, ej, a, xs, ea, hs, hn, q3⟩ => ⟨j, ej, a, xs, ea, by rw [h.kk]; exact hs, fun z => hn z.2, q3⟩
theorem g_catT (h : At m N sc k X) {l r : Addr} {xs ys : List V} (h1 : SqT m.K H l xs) (h2 : SqT m.K H r ys) (n1 : xs ≠ []) (n2 : ys ≠ []) (hz : xs.length + ys.length ≤ sizeLine) (q : ∀ p, H p = none → Q (.ref p) (upd H p (.tup (xs ++ ys)))) : gOp X (binaryOp .Add) (.ref l) (.ref r) H Q :=
  gOp.of op_catT ⟨l, r, xs, ys, rfl, rfl, by rw [h.kk]; exact h1, by rw [h.kk]; exact h2, n1, hz, fun e => absurd e n2, fun _ => q⟩
end
theorem six_val (hd : List V) (x : V) : HT.sIx (hd ++ [x]).length (hd ++ [x]).length (some (-1)) = hd.length := by
  have e : (hd ++ [x]).length = hd.length + 1 := by simp
  rw [e]
  unfold HT.sIx
  dsimp only
  rw [if_pos (by decide)]
  omega
theorem cut_last (hd : List V) (x : V) : cutV (hd ++ [x]) none (some (-1)) = hd := by
  unfold cutV
  rw [HT.sIx_none, List.drop_zero, Nat.sub_zero, six_val, List.take_left']
  rfl
theorem six_last (hd : List V) (x : V) : HT.sIx (hd ++ [x]).length (hd ++ [x]).length (some (-1)) ≠ (hd ++ [x]).length := by
  rw [six_val]
  simp
theorem at_last (hd : List V) (x : V) : atI (hd ++ [x]) (-1) = some x := by
  unfold atI ixN
  rw [if_neg (by decide), List.length_append, List.length_singleton, if_pos (by omega)]
  show (hd ++ [x])[((-1 : Int) + ((hd.length + 1 : Nat) : Int)).toNat]? = some x
  rw [show ((-1 : Int) + ((hd.length + 1 : Nat) : Int)).toNat = hd.length from by omega]
  simp
end Vf
set_option maxRecDepth 100000
set_option maxHeartbeats 4000000
/-! Dn: data with the places of its lists, told one by one. Own work. -/
namespace Vf
open PySem PySem.Spec PyProof.Rows L2 LamX
mutual
/-- v is the data d; L: where its lists lie, from the left -/
inductive Dn (K : PySem.W.Frag) (H : Hp) : V → PyData → List Addr → Prop
  | non : Dn K H .non .none []
  | bl (b : Bool) : Dn K H (.bl b) (.bool b) []
  | int (i : Int) : Dn K H (.int i) (.int i) []
  | str (x : Str) : Dn K H (.str x) (.str x) []
  | lst {a : Addr} {xs : List V} {ds : List PyData} {L : List Addr} : H a = some (.lst xs) → DnAll K H xs ds L → Dn K H (.ref a) (.list ds) (a :: L)
  | tup {a : Addr} {xs : List V} {ds : List PyData} {L : List Addr} : SqT K H a xs → DnAll K H xs ds L → Dn K H (.ref a) (.tuple ds) L
inductive DnAll (K : PySem.W.Frag) (H : Hp) : List V → List PyData → List Addr → Prop
  | nil : DnAll K H [] [] []
  | cons {v : V} {vs : List V} {d : PyData} {ds : List PyData} {L M : List Addr} : Dn K H v d L → DnAll K H vs ds M → DnAll K H (v :: vs) (d :: ds) (L ++ M)
end
section
variable {K : PySem.W.Frag} {H H' : Hp} {A : Addr → Prop}
mutual
theorem Dn.da : ∀ {v : V} {d : PyData} {L : List Addr}, Dn K H v d L → (∀ a ∈ L, A a) → Da K A H v d
  | _, _, _, .non, _ => .non
  | _, _, _, .bl b, _ => .bl b
  | _, _, _, .int i, _ => .int i
  | _, _, _, .str x, _ => .str x
  | _, _, _, .lst h r, z => .lst (z _ (by simp)) (SqL.of h) (DnAll.da r fun a ha => z a (by simp [ha]))
  | _, _, _, .tup h r, z => .tup h (DnAll.da r z)
theorem DnAll.da : ∀ {v : List V} {d : List PyData} {L : List Addr}, DnAll K H v d L → (∀ a ∈ L, A a) → DaAll K A H v d
  | _, _, _, .nil, _ => .nil
  | _, _, _, .cons a r, z => .cons (Dn.da a fun b hb => z b (by simp [hb])) (DnAll.da r fun b hb => z b (by simp [hb]))
end
mutual
theorem Dn.mono (hL : ∀ a xs, H a = some (.lst xs) → A a → H' a = some (.lst xs)) (hT : ∀ a xs, SqT K H a xs → SqT K H' a xs) : ∀ {v : V} {d : PyData} {L : List Addr}, Dn K H v d L → (∀ a ∈ L, A a) → Dn K H' v d L
  | _, _, _, .non, _ => .non
  | _, _, _, .bl b, _ => .bl b
  | _, _, _, .int i, _ => .int i
  | _, _, _, .str x, _ => .str x
  | _, _, _, .lst h r, z => .lst (hL _ _ h (z _ (by simp))) (DnAll.mono hL hT r fun a ha => z a (by simp [ha]))
  | _, _, _, .tup h r, z => .tup (hT _ _ h) (DnAll.mono hL hT r z)
theorem DnAll.mono (hL : ∀ a xs, H a = some (.lst xs) → A a → H' a = some (.lst xs)) (hT : ∀ a xs, SqT K H a xs → SqT K H' a xs) : ∀ {v : List V} {d : List PyData} {L : List Addr}, DnAll K H v d L → (∀ a ∈ L, A a) → DnAll K H' v d L
  | _, _, _, .nil, _ => .nil
  | _, _, _, .cons a r, z => .cons (Dn.mono hL hT a fun b hb => z b (by simp [hb])) (DnAll.mono hL hT r fun b hb => z b (by simp [hb]))
end
mutual
theorem Dn.some : ∀ {v : V} {d : PyData} {L : List Addr}, Dn K H v d L → ∀ a ∈ L, ∃ xs, H a = some (.lst xs)
  | _, _, _, .non, _, h => by simp at h
  | _, _, _, .bl _, _, h => by simp at h
  | _, _, _, .int _, _, h => by simp at h
  | _, _, _, .str _, _, h => by simp at h
  | _, _, _, .lst h r, a, ha => by
    rcases List.mem_cons.1 ha with e | e
    · exact ⟨_, e ▸ h⟩
    · exact DnAll.some r a e
  | _, _, _, .tup _ r, a, ha => DnAll.some r a ha
theorem DnAll.some : ∀ {v : List V} {d : List PyData} {L : List Addr}, DnAll K H v d L → ∀ a ∈ L, ∃ xs, H a = some (.lst xs)
  | _, _, _, .nil, _, h => by simp at h
  | _, _, _, .cons a r, b, hb => by
    rcases List.mem_append.1 hb with e | e
    · exact Dn.some a b e
    · exact DnAll.some r b e
end
theorem DnAll.length : ∀ {vs : List V} {ds : List PyData} {L : List Addr}, DnAll K H vs ds L → vs.length = ds.length
  | _, _, _, .nil => rfl
  | _, _, _, .cons _ r => congrArg (· + 1) (DnAll.length r)
theorem DnAll.append : ∀ {vs ws : List V} {ds es : List PyData} {L M : List Addr}, DnAll K H vs ds L → DnAll K H ws es M → DnAll K H (vs ++ ws) (ds ++ es) (L ++ M)
  | _, _, _, _, _, _, .nil, s => s
  | _, _, _, _, _, _, .cons a r, s => by rw [List.append_assoc]; exact .cons a (DnAll.append r s)
theorem GrowX.dn {T : List (Addr × Str)} {S : Addr → Prop} {v : V} {d : PyData} {L : List Addr} (g : GrowX T S H H') (h : Dn K H v d L) (n : ∀ a ∈ L, ¬ S a) : Dn K H' v d L :=
  Dn.mono (A := fun a => ¬ S a) (fun a xs e z => g.ext _ _ z e (fun _ w => by cases w)) (fun a xs e => g.seqT e) h n
theorem GrowX.dnAll {T : List (Addr × Str)} {S : Addr → Prop} {v : List V} {d : List PyData} {L : List Addr} (g : GrowX T S H H') (h : DnAll K H v d L) (n : ∀ a ∈ L, ¬ S a) : DnAll K H' v d L :=
  DnAll.mono (A := fun a => ¬ S a) (fun a xs e z => g.ext _ _ z e (fun _ w => by cases w)) (fun a xs e => g.seqT e) h n
/-- fresh data: all its lists are new and apart -/
def Fr (K : PySem.W.Frag) (H H' : Hp) (v : V) (d : PyData) : Prop := ∃ L, Dn K H' v d L ∧ L.Nodup ∧ ∀ a ∈ L, New H a
theorem Fr.da {v : V} {d : PyData} (h : Fr K H H' v d) : Da K (New H) H' v d := by
  obtain ⟨L, h, _, n⟩ := h
  exact h.da n
theorem Fr.pre {T : List (Addr × Str)} {H0 : Hp} {v : V} {d : PyData} (g : Grow T H0 H) (h : Fr K H H' v d) : Fr K H0 H' v d := by
  obtain ⟨L, h, nd, n⟩ := h
  exact ⟨L, h, nd, fun a ha => g.keep _ (n a ha)⟩
theorem Fr.post {T : List (Addr × Str)} {H2 : Hp} {v : V} {d : PyData} (h : Fr K H H' v d) (g : Grow T H' H2) : Fr K H H2 v d := by
  obtain ⟨L, h, nd, n⟩ := h
  exact ⟨L, GrowX.dn g h fun _ _ z => z, nd, n⟩
end
end Vf
set_option maxRecDepth 100000
set_option maxHeartbeats 4000000
/-! Lit: displays of constants, tuples, lists and known names, at once. Own work. -/
namespace Vf
open PySem PySem.Spec PyProof.Rows L2 LamX
mutual
/-- the data that a display is; env: what names hold -/
def lit (env : List (Str × PyData)) : Expr → Option PyData
  | .Constant (.int i) _ _ => some (.int i)
  | .Constant (.bool b) _ _ => some (.bool b)
  | .Constant (.str z) _ _ => if z.length ≤ 1000 then some (.str z) else none
  | .Constant .none _ _ => some .none
  | .Tuple es _ _ => (lits env es).bind fun ds => if ds.length ≤ 1000 then some (.tuple ds) else none
  | .UnaryOp .USub (.Constant (.int i) _ _) _ => some (.int (-i))
  | .List es _ => (lits env es).bind fun ds => if ds.length ≤ 1000 then some (.list ds) else none
  | .Dict [] [] _ => some (.dict [])
  | .Dict [some (.Constant (.str _) _ _)] [e] _ => (lit env e).map fun _ => .dict []
  | .Name x _ => env.lookup x
  | _ => none
def lits (env : List (Str × PyData)) : List Expr → Option (List PyData)
  | [] => some []
  | e :: es => (lit env e).bind fun d => (lits env es).map fun ds => d :: ds
end
section
variable {m : Md} {X : Cx} {σ : L2.St} {env : List (Str × PyData)} {H0 : Hp}
/-- the names of env hold their data, wherever the heap has grown -/
def EnvOk (m : Md) (X : Cx) (σ : L2.St) (env : List (Str × PyData)) (A : Addr → Prop) (H0 : Hp) : Prop := ∀ x d pos, env.lookup x = some d → ∃ v, Ob m.K A H0 v d ∧ ∀ H Q, Q v H → wE X (.Name x pos) σ H Q
theorem starPlain {e : Expr} {es : List Expr} {d : PyData} (h : lit env e = some d) : starEach (e :: es) X.env = (false, eval e X.env) :: starEach es X.env := by
  cases e <;> first | rfl | (simp [lit] at h)
theorem lit_neg {op : UnaryOp} {e : Expr} {pos : Pos} {d : PyData} (h : lit env (.UnaryOp op e pos) = some d) : ∃ i k ps, op = .USub ∧ e = .Constant (.int i) k ps ∧ d = .int (-i) := by
  unfold lit at h
  split at h <;> first | (cases h; done) | skip
  all_goals first
    | (rename_i hh; cases hh; cases h; exact ⟨_, _, _, rfl, rfl, rfl⟩)
    | (simp at *)
theorem lit_d0 {ks : List (Option Expr)} {pos : Pos} {d : PyData} (h : lit env (.Dict ks [] pos) = some d) : ks = [] ∧ d = .dict [] := by
  unfold lit at h
  split at h <;> first | (cases h; done) | skip
  all_goals first
    | (rename_i hh; cases hh; cases h; exact ⟨rfl, rfl⟩)
    | (simp at *)
theorem lit_d1 {ks : List (Option Expr)} {e : Expr} {pos : Pos} {d : PyData} (h : lit env (.Dict ks [e] pos) = some d) : (∃ z k ps, ks = [some (.Constant (.str z) k ps)]) ∧ (∃ d', lit env e = some d') ∧ d = .dict [] := by
  unfold lit at h
  split at h <;> first | (cases h; done) | skip
  all_goals first
    | (rename_i hh; cases hh; obtain ⟨d', h1, h2⟩ := Option.map_eq_some_iff.1 h; cases h2; exact ⟨⟨_, _, _, rfl⟩, ⟨d', h1⟩, rfl⟩)
    | (simp at *)
theorem lit_d2 {ks : List (Option Expr)} {e e2 : Expr} {es : List Expr} {pos : Pos} {d : PyData} (h : lit env (.Dict ks (e :: e2 :: es) pos) = some d) : False := by
  unfold lit at h
  split at h <;> first | (cases h; done) | skip
  all_goals first
    | (rename_i hh; cases hh; done)
    | (simp at *)
theorem grow_ob {T : List (Addr × Str)} {K : PySem.W.Frag} {A : Addr → Prop} {H H1 : Hp} {v : V} {d : PyData} (g : Grow T H H1) (h : Ob K A H v d) : Ob K A H1 v d :=
  Ob.mono (fun _ z => z) (fun a xs _ e => GrowX.seqL g e fun z => z) (fun a xs e => GrowX.seqT g e) (fun a kvs _ e => g.extN _ _ e (fun _ z => by cases z)) d v h
theorem grow_obs {T : List (Addr × Str)} {K : PySem.W.Frag} {A : Addr → Prop} {H H1 : Hp} {v : List V} {d : List PyData} (g : Grow T H H1) (h : ObAll K A H v d) : ObAll K A H1 v d :=
  ObAll.mono (fun _ z => z) (fun a xs _ e => GrowX.seqL g e fun z => z) (fun a xs e => GrowX.seqT g e) (fun a kvs _ e => g.extN _ _ e (fun _ z => by cases z)) d v h
theorem obs_sub {K : PySem.W.Frag} {A A' : Addr → Prop} {H : Hp} {v : List V} {d : List PyData} (h : ObAll K A H v d) (s : ∀ a, A a → A' a) : ObAll K A' H v d := ObAll.mono s (fun _ _ _ e => e) (fun _ _ e => e) (fun _ _ _ e => e) d v h
theorem ob_sub {K : PySem.W.Frag} {A A' : Addr → Prop} {H : Hp} {v : V} {d : PyData} (h : Ob K A H v d) (s : ∀ a, A a → A' a) : Ob K A' H v d := Ob.mono s (fun _ _ _ e => e) (fun _ _ e => e) (fun _ _ _ e => e) d v h
/-- new in H, and there in H' -/
abbrev Nw (H H' : Hp) : Addr → Prop := fun a => New H a ∧ H' a ≠ none
theorem nw_up {T : List (Addr × Str)} {A : Addr → Prop} {H H1 H2 : Hp} (g : Grow T H1 H2) : ∀ a, A a ∨ Nw H H1 a → A a ∨ Nw H H2 a := fun a z => z.imp id fun w => ⟨w.1, fun e => w.2 (g.keep _ e)⟩
mutual
theorem w_lit {A : Addr → Prop} (hE : EnvOk m X σ env A H0) : ∀ (e : Expr) (d : PyData) (H : Hp) (Q : VK), lit env e = some d → Grow m.T H0 H → (∀ v H', Grow m.T H H' → Ob m.K (fun a => A a ∨ Nw H H' a) H' v d → Q v H') → wE X e σ H Q
  | .Constant (.int i) _ _, d, H, Q, h, g0, q => by
    rw [lit] at h; cases h
    exact w_int (q _ _ GrowX.refl (.int i))
  | .Constant (.bool i) _ _, d, H, Q, h, g0, q => by
    rw [lit] at h; cases h
    exact w_bl (q _ _ GrowX.refl (.bl i))
  | .Constant .none _ _, d, H, Q, h, g0, q => by
    rw [lit] at h; cases h
    exact w_non (q _ _ GrowX.refl .non)
  | .Constant (.str z) _ _, d, H, Q, h, g0, q => by
    rw [lit] at h
    split at h
    · cases h
      refine w_str (q _ _ GrowX.refl (.str z ?_))
      rw [sizeLine_eq]; omega
    · cases h
  | .Name x _, d, H, Q, h, g0, q => by
    rw [lit] at h
    obtain ⟨v, o, r⟩ := hE x d _ h
    refine r H Q (q v H GrowX.refl ?_)
    exact Ob.mono (fun _ z => .inl z) (fun a xs _ e => GrowX.seqL g0 e fun z => z) (fun a xs e => GrowX.seqT g0 e) (fun a kvs _ e => g0.extN _ _ e (fun _ z => by cases z)) d v o
  | .Tuple es _ _, d, H, Q, h, g0, q => by
    rw [lit] at h
    obtain ⟨ds, h1, h2⟩ := Option.bind_eq_some_iff.1 h
    split at h2
    · rename_i hl
      cases h2
      refine w_tup (w_lits hE es ds H _ h1 g0 fun vs H' g o => ⟨by rw [o.length, sizeLine_eq]; omega, fun p hp => ?_⟩)
      have gn := Grow.new (T := m.T) (o := .tup vs) hp
      exact q _ _ (g.trans gn) (.tup (SqT.of upd_same) (obs_sub (grow_obs gn o) (nw_up gn)))
    · cases h2
  | .List es _, d, H, Q, h, g0, q => by
    rw [lit] at h
    obtain ⟨ds, h1, h2⟩ := Option.bind_eq_some_iff.1 h
    split at h2
    · rename_i hl
      cases h2
      refine w_lst (w_lits hE es ds H _ h1 g0 fun vs H' g o => ⟨by rw [o.length, sizeLine_eq]; omega, fun p hp => ?_⟩)
      have gn := Grow.new (T := m.T) (o := .lst vs) hp
      exact q _ _ (g.trans gn) (.lst (.inr ⟨g.keep _ hp, by rw [upd_same]; exact fun z => by cases z⟩) (SqL.of upd_same) (obs_sub (grow_obs gn o) (nw_up gn)) (by rw [o.length]; omega))
    · cases h2
  | .UnaryOp op e _, d, H, Q, h, g0, q => by
    obtain ⟨i, k, ps, rfl, rfl, rfl⟩ := lit_neg h
    exact w_neg (w_int ⟨i, rfl, q _ _ GrowX.refl (.int (-i))⟩)
  | .Constant (.float _) _ _, d, H, Q, h, g0, q => by simp [lit] at h
  | .Constant (.complex _ _) _ _, d, H, Q, h, g0, q => by simp [lit] at h
  | .Constant (.bytes _) _ _, d, H, Q, h, g0, q => by simp [lit] at h
  | .Constant .ellipsis _ _, d, H, Q, h, g0, q => by simp [lit] at h
  | .BoolOp .., d, H, Q, h, g0, q => by simp [lit] at h
  | .NamedExpr .., d, H, Q, h, g0, q => by simp [lit] at h
  | .BinOp .., d, H, Q, h, g0, q => by simp [lit] at h
  | .Lambda .., d, H, Q, h, g0, q => by simp [lit] at h
  | .IfExp .., d, H, Q, h, g0, q => by simp [lit] at h
  | .Dict ks [] _, d, H, Q, h, g0, q => by
    obtain ⟨rfl, rfl⟩ := lit_d0 h
    refine toE pe_dnewK fun p hp => ?_
    exact q _ _ (Grow.new hp) (.dct (.inr ⟨hp, by rw [upd_same]; exact fun z => by cases z⟩) upd_same)
  | .Dict ks [e] _, d, H, Q, h, g0, q => by
    obtain ⟨⟨z, k, ps, rfl⟩, ⟨d', h1⟩, rfl⟩ := lit_d1 h
    refine toE (pe_disp (pps_cons (cE (e := .Constant (.str z) k ps)) (cE (e := e)) pps_nil) rfl rfl (by simp) (show 1 ≤ 15 by decide)) fun p hp => ?_
    have g1 := Grow.new (T := m.T) (o := .dK []) hp
    refine w_str ?_
    refine w_lit hE e d' _ _ h1 (g0.trans g1) fun v H1 g2 _ => ?_
    have h2 : H1 p = some (.dK []) := g2.extN _ _ upd_same (fun _ w => by cases w)
    refine ⟨h2, [(.inr z, v)], rfl, by simp, ?_⟩
    have gX : GrowX m.T (· = p) H1 (upd H1 p (.dK (mergeK [] [(.inr z, v)]))) := GrowX.set rfl h2 (fun _ z => by cases z) (fun _ z => by unfold CodeO at z; cases z) (fun _ z => by cases z) (fun _ _ z => by cases z)
    exact q _ _ (Grow.intoNew (g1.trans g2) gX fun c w => by rw [w]; exact hp) (.dct (.inr ⟨hp, by rw [upd_same]; exact fun z => by cases z⟩) upd_same)
  | .Dict ks (e :: e2 :: es) _, d, H, Q, h, g0, q => (lit_d2 h).elim
  | .Set .., d, H, Q, h, g0, q => by simp [lit] at h
  | .ListComp .., d, H, Q, h, g0, q => by simp [lit] at h
  | .SetComp .., d, H, Q, h, g0, q => by simp [lit] at h
  | .DictComp .., d, H, Q, h, g0, q => by simp [lit] at h
  | .GeneratorExp .., d, H, Q, h, g0, q => by simp [lit] at h
  | .Await .., d, H, Q, h, g0, q => by simp [lit] at h
  | .Yield .., d, H, Q, h, g0, q => by simp [lit] at h
  | .YieldFrom .., d, H, Q, h, g0, q => by simp [lit] at h
  | .Compare .., d, H, Q, h, g0, q => by simp [lit] at h
  | .Call .., d, H, Q, h, g0, q => by simp [lit] at h
  | .FormattedValue .., d, H, Q, h, g0, q => by simp [lit] at h
  | .JoinedStr .., d, H, Q, h, g0, q => by simp [lit] at h
  | .Attribute .., d, H, Q, h, g0, q => by simp [lit] at h
  | .Subscript .., d, H, Q, h, g0, q => by simp [lit] at h
  | .Starred .., d, H, Q, h, g0, q => by simp [lit] at h
  | .Slice .., d, H, Q, h, g0, q => by simp [lit] at h
theorem w_lits {A : Addr → Prop} (hE : EnvOk m X σ env A H0) : ∀ (es : List Expr) (ds : List PyData) (H : Hp) (Q : List V → Hp → Prop), lits env es = some ds → Grow m.T H0 H → (∀ vs H', Grow m.T H H' → ObAll m.K (fun a => A a ∨ Nw H H' a) H' vs ds → Q vs H') → wA X es σ H Q
  | [], ds, H, Q, h, g0, q => by
    rw [lits] at h; cases h
    exact w_nil (q [] H GrowX.refl .nil)
  | e :: es, ds, H, Q, h, g0, q => by
    rw [lits] at h
    obtain ⟨d, h1, h2⟩ := Option.bind_eq_some_iff.1 h
    obtain ⟨ds', h3, rfl⟩ := Option.map_eq_some_iff.1 h2
    refine w_cons (w_lit hE e d H _ h1 g0 fun v H1 g1 o => ?_) (starPlain h1)
    refine w_lits hE es ds' H1 _ h3 (g0.trans g1) fun vs H2 g2 os => ?_
    refine q (v :: vs) H2 (g1.trans g2) (.cons (ob_sub (grow_ob g2 o) (nw_up g2)) (obs_sub os fun a z => ?_))
    rcases z with z | z
    · exact .inl z
    · exact .inr ⟨g1.keep _ z.1, z.2⟩
end
end
end Vf
set_option maxRecDepth 100000
set_option maxHeartbeats 4000000
/-! Zs: while, zip, reversed slices, range of two, properties. Own work. -/
namespace Vf
open PySem PySem.Spec PyProof.Rows L2 LamX
section
variable {m : Md} {N : List Str} {sc scope : Scope} {i j k : Nat} {X : Cx} {a b c e e2 o elt : Expr} {es : List Expr} {σ : L2.St} {H : Hp} {Q : VK} {pos p p1 p2 p3 tpos : Pos} {x y : Str} {body : List Stmt} {nx : L2.St → Hp → Prop} {rt : VK} {bk ct : L2.St → Hp → Prop}
/-- while c: body, by a measure; what is wanted of a turn is written out -/
theorem s_while (h : At m N sc k X) (q : ∃ (Pv : L2.St → Hp → Prop) (μ : L2.St → Hp → Nat), Pv σ H ∧ ∀ σ H, Pv σ H → wT X c σ H fun b H1 => if b = true then wB X body ⟨fun σ' H' => Pv σ' H' ∧ μ σ' H' < μ σ H, rt, nx, fun σ' H' => Pv σ' H' ∧ μ σ' H' < μ σ H⟩ σ H1 else nx σ H1) : wS X (.While c body [] pos) ⟨nx, rt, bk, ct⟩ σ H := by
  refine toS (ps_while h.pass cT cB) ?_
  obtain ⟨Pv, μ, h0, hs⟩ := q
  refine ⟨fun n σ H => n = μ σ H ∧ Pv σ H, ⟨_, rfl, h0⟩, ?_⟩
  rintro n σ H ⟨rfl, p⟩
  have t := hs σ H p
  unfold wT at t ⊢
  refine fun pins s I => wpAny_mono (t pins s I) (fun v s' z => ?_) fun _ _ z => z
  obtain ⟨H1, I1, q1⟩ := z
  refine ⟨H1, I1, ?_⟩
  cases v with
  | true => exact ⟨fun σ' H' => Pv σ' H' ∧ μ σ' H' < μ σ H, fun σ' H' ⟨p', l⟩ => ⟨_, l, rfl, p'⟩, q1⟩
  | false => exact q1
/-- for t in zip(e, e2), of two lists of one length that stand still -/
theorem s_forZ {elts : List Expr} {kk : Nat} {g : TG} {po : Pos} (h : At m N sc k X) (hg : PG X (.Tuple elts kk tpos) g) (hm : m.mg "zip" = none) (hgl : sc.names.lookup ("zip" : Str) = some .globalImplicit)
    (q : wA X [e, e2] σ H fun vs H1 => ∃ (a b : Addr) (xs ys : List V), vs = [.ref a, .ref b] ∧ SqL m.K H1 a xs ∧ SqL m.K H1 b ys ∧ xs.length = ys.length ∧ ∃ Pv : Nat → L2.St → Hp → Prop, Pv 0 σ H1 ∧ (∀ i σ H, Pv i σ H → SqL m.K H a xs ∧ SqL m.K H b ys) ∧
      (∀ (i : Nat) (x y : V) (T : Addr) (σ : L2.St) (H : Hp), xs[i]? = some x → ys[i]? = some y → Pv i σ H → H T = none → g (.ref T) σ (upd H T (.tup [x, y])) fun σ2 H2 => wB X body ⟨Pv (i + 1), rt, nx, Pv (i + 1)⟩ σ2 H2) ∧ ∀ σ H, Pv xs.length σ H → nx σ H)
    (hs : starEach [e, e2] X.env = (false, eval e X.env) :: starEach [e2] X.env := by with_unfolding_all rfl) (hpl : (backTo p2 (starEach [e2] X.env)).any (·.1) = false := by with_unfolding_all rfl)
    (hf : ∀ x, foldedSetIterable (.Call (.Name "zip" p1) [e, e2] [] p2) X.env x = pure x := by with_unfolding_all (intro _; rfl)) : wS X (.For (.Tuple elts kk tpos) (.Call (.Name "zip" p1) [e, e2] [] p2) body [] po) ⟨nx, rt, bk, ct⟩ σ H := by
  refine toS (ps_for h.pass h.calm (pi_zip (h.gl hgl) (by rw [h.mm]; exact hm) (cA (es := [e, e2])) hs hpl) hg cB hf) ?_
  unfold wA at q ⊢
  refine fun pos pins s I => wpAny_mono (q pos pins s I) (fun v s' z => ?_) fun _ _ z => z
  obtain ⟨vs, H1, I1, r1, a, b, xs, ys, ev, ha, hb, hl, Pv, p0, hq, turn, fin⟩ := z
  exact ⟨vs, H1, I1, r1, a, b, xs, ys, ev, by rw [h.kk]; exact ha, by rw [h.kk]; exact hb, RZ.for_zipL (K := X.K) hl Pv p0 (fun i σ H z => by rw [h.kk]; exact hq i σ H z) turn fin⟩
/-- e[::-1] of a list -/
theorem w_rev {k1 : Nat} (h : At m N sc k X) (q : wE X e σ H fun x H1 => ∃ (a : Addr) (xs : List V), x = .ref a ∧ SqL m.K H1 a xs ∧ ∀ p, H1 p = none → Q (.ref p) (upd H1 p (.lst xs.reverse))) :
    wE X (.Subscript e (.Slice none none (some (.UnaryOp .USub (.Constant (.int 1) k1 p1) p2)) p3) pos) σ H Q := by
  refine toE (pe_revL cE) ?_
  exact wE.mono q fun x H1 ⟨a, xs, ea, hs, q1⟩ => ⟨a, xs, ea, by rw [h.kk]; exact hs, q1⟩
/-- [elt for x in range(a, b)] -/
theorem w_lcR2 (h : At m N sc k X) (hm : m.mg "range" = none) (hgl : sc.names.lookup ("range" : Str) = some .globalImplicit) (ok : blkC N sc scope [(x, i)] = true) (n : NL N (relS scope sc) i x)
    (q : wA X [a, b] σ H fun vs H1 => ∃ z w : Int, vs = [.int z, .int w] ∧ (-(2 ^ 62) ≤ z ∧ z < 2 ^ 62 ∧ -(2 ^ 62) ≤ w ∧ w < 2 ^ 62) ∧ ∀ D, H1 D = none → ∃ Pv : Nat → Hp → Prop, Pv 0 (upd H1 D (.lst [])) ∧
      (∀ j H, j < (w - z).toNat → Pv j H → ∀ X', At m N (relS scope sc) k X' → wE X' elt (σ.set i (some (.int (z + j)))) H (App D (Pv (j + 1)))) ∧ ∀ H, Pv (w - z).toNat H → Q (.ref D) H)
    (hst : starEach [a, b] X.env = [(false, eval a X.env), (false, eval b X.env)] := by with_unfolding_all rfl) (hst2 : starEach [b] X.env = [(false, eval b X.env)] := by with_unfolding_all rfl) (hs : ∀ x, foldedSetIterable (.Call (.Name "range" p2) [a, b] [] p3) X.env x = pure x := by with_unfolding_all (intro _; rfl)) : wE X (.ListComp elt [⟨.Name x p1, .Call (.Name "range" p2) [a, b] [] p3, [], 0⟩] scope pos) σ H Q := by
  refine toE (pe_lc (own := [(x, i)]) (g := gName i) (tt := tYes) (te := inBlk m N (relS scope sc) k elt) h.calm (by rw [h.nn]; exact h.nd) (pi_range2 (h.gl hgl) (by rw [h.mm]; exact hm) (cA (es := [a, b])) hst hst2) (by rw [h.nn, h.ss]; exact blkOk_by ok) (fun s H C cl fp => pg_nl (blk_at h s H C cl fp) n) (fun _ _ _ _ _ => pts_nil) (fun s H C cl fp => blk_pe h s H C cl fp) hs) ?_
  unfold wA at q ⊢
  refine fun pos pins s I => wpAny_mono (q pos pins s I) (fun v s' z => ?_) fun _ _ z => z
  obtain ⟨vs, H1, I1, r1, z, w, ev, hb, go⟩ := z
  refine ⟨vs, H1, I1, r1, z, w, ev, hb, fun D hD => ?_⟩
  obtain ⟨Pv, p0, turn, fin⟩ := go D hD
  refine lc_range (lo := z) (n := (w - z).toNat) (g := gName i) (tt := tYes) (te := inBlk m N (relS scope sc) k elt) (vs := [i]) (σ := σ) Pv p0 (fun j H hj hp => ?_) fin
  refine ⟨by rw [wipe1]; simp [wipe, List.set_set], ?_⟩
  unfold tYes
  refine iteT fun X' hX' => ?_
  rw [set_wipe]
  exact turn j H hj hp X' hX'
/-- e.f, a property whose getter keeps sp -/
theorem w_prop {f : Str} {C q g : Addr} {fd : FuncData} {ps : List Str} {sp : Sp} (h : At m N sc k X) (c : Cls m.K C) (hp : PropOf m.K C f q g) (F : FnG m C8.CX0 j g fd ps sp) (hb : L2.Binds m.K fd ps []) (hk : j + 1 ≤ k)
    (z : wE X e σ H fun x H1 => ∃ a dx fs, x = .ref a ∧ H1 a = some (.ins C dx fs) ∧ sp [.ref a] H1 Q C8.E0)
    (hab : attributeBase e f X.env (eval e X.env) = eval e X.env := by with_unfolding_all rfl) : wE X (.Attribute e f pos) σ H Q := by
  unfold wE
  intro pins s I
  refine attr_of hab (thn ((cE (X := X) (e := e)).run pins s σ H _ I z) fun u s1 ⟨x, H1, I1, rx, a, dx, fs, ex, ea, q1⟩ => ?_)
  subst ex
  obtain rfl : u = Value.ref a := rx
  obtain ⟨mA, O, _, _, _, _⟩ := ins_get I1.hok ea
  obtain ⟨od, J, _⟩ := O.look
  obtain ⟨rest, hrec⟩ := hp.rec_
  have I2 := I1.tok (s1.toks + 1)
  have c' : Cls X.K C := by rw [h.kk]; exact c
  have hc : (PySem.W.clsIn X.K C).isSome = true := by
    obtain ⟨cd, hc, _⟩ := PySem.W.any_some c'.hd
    rw [hc]; rfl
  refine PySem.W.get_bind I1.kIn J (PySem.W.plainGet_of (c'.get f)).1 (PySem.W.findObj_data hc (by rw [h.kk]; exact hp.at_) (by rw [h.kk]; exact hp.get) (by rw [h.kk]; exact hp.tak)) (PySem.W.plainGet_of (c'.get f)).2 (wpAny_call (PySem.W.prop_get (s := { s1 with toks := s1.toks + 1 }) I1.kIn (by rw [h.kk]; exact hrec) ?_))
  have e0 := I2.env0.in1
  rw [h.pp, h.ww, h.kk, h.mm, h.bb] at e0
  have hl : [Value.ref a].length = ps.length := by
    rw [← F.len _ _ _ _ q1]; rfl
  have rc := F.run X.A.in1 X.stack { s1 with toks := s1.toks + 1 } H1 ⟨[.ref a], []⟩ [.ref a] [.ref a] Q C8.E0 (by exact h.gd) ((h.room.mono hk).in1) e0 (by have := hb { s1 with toks := s1.toks + 1 } [.ref a] (by rw [← h.kk]; exact I2.kIn) (by simpa using hl); simpa using this) (.cons rfl .nil) q1
  rw [← h.pp, ← h.ww] at rc
  refine codeAny_mono rc fun r s' hq => ?_
  match r, hq with
  | .error er, hq => exact hq.elim
  | .ok (.ret u), hq =>
    obtain ⟨v, H', I3, rv, q3⟩ := I2.after hq
    show wpAny _ _ (handedOut u) _ _ _
    rw [PySem.W.handedOut_of (handed_of rv)]
    exact wpAny_pure ⟨v, H', I3, rv, q3⟩
end
end Vf
set_option maxRecDepth 100000
set_option maxHeartbeats 4000000
/-! Sst: set(list) of texts, of whole numbers; sorted(set), len(set). Own work. -/
namespace Vs
open PySem PySem.Spec PyProof.Rows L2
/-- what set.__new__ lays -/
abbrev nSet (w : World) : Obj := { cls := .type "set", dict := none, data := .set #[] 0 (.fresh 0 0 (!w.params.followText "set-order")) }
section
variable {P : Program} {w : World} {A : Around} {E : Value → Shared → Prop} {s : Shared}
/-- what one add keeps going -/
abbrev Step (P : Program) (w : World) (S : Addr) (J : Nat → Heap → Prop) (i : Nat) (v : Value) : Prop :=
  ∀ (A' : Around) (E' : Value → Shared → Prop) (s' : Shared) (Q' : Bool → Shared → Prop), J i s'.heap → (∀ b h' tk, Heap.SameBut S s'.heap h' → s'.toks ≤ tk → J (i + 1) h' → Q' b { s' with heap := h', toks := tk }) → wpAny (model P w) A' (setAdd S v) Q' E' s'
theorem upd_loop {I : Addr} {fp wr : List Addr} {G : Array GenState → Array GenState → Prop} {n : Nat} {Pv : Nat → Value → Prop} {St : Nat → Shared → Prop} {R : Result → Shared → Prop}
    (W : WalksS P w A.in1 I fp wr G n Pv St) (S : Addr) (hSf : S ∉ fp) (J : Nat → Heap → Prop) (jk : ∀ i h h', J i h → (∀ o, h.get? S = some o → h'.get? S = some o) → J i h')
    (js : ∀ i v, i < n → Pv i v → Step P w S J i v) : ∀ (k i : Nat) (s : Shared), n - i = k → i ≤ n → St i s → J i s.heap →
      (∀ s', Moved (S :: wr) G s s' → J n s'.heap → R (.ok (.ret .none)) s') → codeAny (model P w) A (.builtin "set.update.loop" ⟨[.ref S, .ref I], []⟩) R s := by
  have nw : S ∉ wr := fun z => hSf (W.sub _ z)
  have up : ∀ b ∈ wr, b ∈ S :: wr := fun b z => List.mem_cons_of_mem _ z
  intro k
  induction k with
  | zero =>
    intro i s e hi st j hR
    obtain rfl : i = n := by omega
    refine codeAny_builtin F.entry_set_update_loop ?_
    rw [Around.under_plainId F.plain_set_update_loop _]
    show wpAny _ A.in1 (pyNext (.ref I) >>= _) _ _ s
    refine wpAny_bind (W.done s _ _ st fun s1 mv => ?_)
    show wpAny _ A.in1 (ret Value.none) _ _ s1
    exact wpAny_pure (hR s1 (mv.mono up) (jk _ _ _ j fun o z => mv.heap S o nw z))
  | succ k ih =>
    intro i s e hi st j hR
    have lt : i < n := by omega
    refine codeAny_builtin F.entry_set_update_loop ?_
    rw [Around.under_plainId F.plain_set_update_loop _]
    show wpAny _ A.in1 (pyNext (.ref I) >>= _) _ _ s
    refine wpAny_bind (W.item i s _ _ lt st fun v s1 pv st1 mv => ?_)
    show wpAny _ A.in1 (holding [v] (setAdd S v) >>= _) _ _ s1
    refine wpAny_bind (wpAny_holding (js i v lt pv _ _ s1 _ (jk _ _ _ j fun o z => mv.heap S o nw z) fun b h1 tk sb ht j1 => ?_))
    have away : ∀ c, c ≠ S → ∀ o, s1.heap.get? c = some o → h1.get? c = some o := fun c hc o z => (sb.2 c hc).trans z
    refine wpAny_pure ⟨plainId_quiet F.plain_set_update_loop _, ih (i + 1) _ (by omega) lt (W.frame _ s1 _ _ st1 ht fun b hb o z => away b (fun q => hSf (q ▸ hb)) o z) j1 fun s2 mv2 j2 => hR s2 (Moved.trans W.gtrans ((mv.mono up).then_heap ht fun b o hb z => away b (fun q => hb (q ▸ List.mem_cons_self)) o z) mv2) j2⟩

set_option maxHeartbeats 4000000 in
/-- set(xs) of a list, by what is known of the set after each item -/
theorem set_of_list {l : Addr} {items : Array Value} {Q : Value → Shared → Prop} (J : Nat → Heap → Prop) (hh : A.handled = none) (hl : s.heap.IsList l items)
    (jk : ∀ i h h', J i h → (∀ o, h.get? s.heap.objs.size = some o → h'.get? s.heap.objs.size = some o) → J i h') (j0 : ∀ h, h.get? s.heap.objs.size = some (nSet w) → J 0 h)
    (js : ∀ i v, items[i]? = some v → Step P w s.heap.objs.size J i v)
    (q : ∀ (h' : Heap) (tk : Nat), J items.size h' → (∀ b o, s.heap.get? b = some o → h'.get? b = some o) → Q (.ref s.heap.objs.size) { s with heap := h', toks := tk }) :
    wpAny (model P w) A (call (.type "set") [.ref l]) Q E s := by
  obtain ⟨c, tl, hmro⟩ := F.called_set.mro
  have hmade := F.called_set.made
  have hsub := F.called_set.sub
  refine wpAny_call (codeAny_of_tree ?_)
  show wpAny _ _ (callAny (.type "set") _) _ _ _
  refine wpAny_pure ⟨Code.quiet_builtin _ (by decide +kernel), codeAny_builtin F.entry_type_call ?_⟩
  rw [Around.under_plain (weight_type_call_type "set" [.ref l] []) rfl]
  have h1 := F.called_set.notType
  have h2 := F.called_set.canCreate
  have h3 := F.typeCall_set_1 (.ref l)
  repeat (any_goals (first | assumption | wp_step))
  refine codeAny_mono (code_set_led1 (.ref l) (E := E) (Q₁ := fun v s1 => v = .ref s.heap.objs.size ∧ s1 = { s with heap := s.heap.push (nSet w) }) ⟨rfl, rfl⟩) fun r s1 hr => ?_
  cases r with
  | error e => exact hr
  | ok fl =>
    cases fl with
    | ret obj =>
      obtain ⟨rfl, rfl⟩ := hr
      have at1 : (s.heap.push (nSet w)).get? s.heap.objs.size = some (nSet w) := Heap.get?_push_size _ rfl
      have ty1 : Shared.TypeIs { s with heap := s.heap.push (nSet w) } (.ref s.heap.objs.size) "set" := ⟨_, at1, rfl⟩
      have h4 := F.called_set.init.lookup
      have h5 := F.called_set.init.bind (.ref s.heap.objs.size)
      repeat (any_goals (first | assumption | wp_step))
      refine codeAny_mono (codeAny_call_builtin (R := wants (fun r s2 => r = .none ∧ ∃ h' tk, s2 = { s with heap := h', toks := tk } ∧ J items.size h' ∧ ∀ b o, s.heap.get? b = some o → h'.get? b = some o) E)
        F.called_set.init.plain F.entry_set_init (check_set_init_1 ty1 ?_)) fun r2 s2 hr2 => ?_
      · obtain ⟨⟨cls, dict, data, slots⟩, ol, hc, nl, hd⟩ := hl
        simp only at hc hd
        subst hc
        subst hd
        have ol' : (s.heap.push (nSet w)).get? l = some { cls := .type "list", dict := dict, data := .seq items nl, slots := slots } := Heap.get?_push_of_some _ ol
        have h6 := F.sub_list_set
        have h7 := F.sub_list_frozenset
        have h8 : (Value.type "list" == Value.type "dict") = false := by decide
        have il : (s.heap.push (nSet w)).IsList l items := ⟨_, ol', rfl, nl, rfl⟩
        unfold Builtin.«set.__init__» noKeywords Builtin.Frozenset.updateFrom
        generalize hPI : pyIter = PI
        wp_walk
        subst hPI
        refine wpAny_pyIter_list il (wpAny_bind (wpAny_runValue ?_))
        have lS : l < s.heap.objs.size := Heap.lt_size ol
        have h9 : A.in1.in1.in1.handled = none := by simp [hh]
        have sz : (s.heap.push (nSet w)).objs.size = s.heap.objs.size + 1 := Heap.size_push ..
        have neI : l ≠ (s.heap.push (nSet w)).objs.size := by rw [sz]; exact Nat.ne_of_lt (Nat.lt_succ_of_lt lS)
        have nf : s.heap.objs.size ∉ [(s.heap.push (nSet w)).objs.size, l] := by
          rw [sz]
          simp only [List.mem_cons, List.not_mem_nil, or_false, not_or]
          exact ⟨Nat.ne_of_lt (Nat.lt_succ_self _), Nat.ne_of_gt lS⟩
        refine upd_loop ((Walks.list h9 _ l neI items).toS) s.heap.objs.size nf J jk (fun i v _ pv => js i v pv) (items.size - 0) 0 _ rfl (Nat.zero_le _) ⟨⟨_, Heap.get?_push_size _ rfl, rfl, rfl⟩, il.push _⟩
          (j0 _ (Heap.get?_push_of_some _ at1)) fun s' mv j => ?_
        obtain ⟨h', g', d', tk', os'⟩ := s'
        have eg : g' = s.gens := mv.gens
        have ed : d' = s.drawn := mv.drawn
        have eo : os' = s.os := mv.os
        subst eg
        subst ed
        subst eo
        show wpAny _ _ _ _ _ _
        refine wpAny_pure ?_
        show wpAny _ _ (ret Value.none) _ _ _
        refine wpAny_pure ⟨rfl, h', tk', rfl, j, fun b o z => ?_⟩
        have b0 : b < s.heap.objs.size := Heap.lt_size z
        refine mv.heap b o ?_ (Heap.get?_push_of_some _ (Heap.get?_push_of_some _ z))
        rw [sz]
        simp only [List.mem_cons, List.not_mem_nil, or_false, not_or]
        exact ⟨Nat.ne_of_lt b0, Nat.ne_of_lt (Nat.lt_succ_of_lt b0)⟩
      · cases r2 with
        | error e => exact hr2
        | ok fl2 =>
          cases fl2 with
          | ret r =>
            obtain ⟨rfl, h', tk, rfl, j, k⟩ := hr2
            repeat (any_goals (first | assumption | wp_step))
            exact q _ _ j k
          | _ => exact hr2.elim
    | _ => exact hr.elim
end

/-! ### sets of texts -/
open PySem.Froz
/-- the set of the texts l at a: its table rises -/
def SetX (P : Program) (w : World) (h : Heap) (a : Addr) (l : List Str) : Prop :=
  l.Nodup ∧ ∃ D : SD, h.get? a = some (sObj "set" D) ∧ TxOk P w D l ∧ Ris D.2.2.place.toList ∧ (w.params.followText "set-order" = true ∨ D.2.2.led = true)
theorem tail_rl (ep : Nat) (es : Array (Int × Value)) (t : SetTable) (b : Bool) (r : Ris t.place.toList) : Ris (tailTx ep es t b).2.2.place.toList ∧ (tailTx ep es t b).2.2.led = t.led := by
  unfold tailTx
  split
  · exact ⟨relayAll_ris _ _ _, relayAll_led _ _ _⟩
  · exact ⟨r, rfl⟩
theorem add_rl (x : Int) (v : Value) (D : SD) (r : Ris D.2.2.place.toList) : Ris (addTx x v D).2.2.place.toList ∧ (addTx x v D).2.2.led = D.2.2.led := by
  have r1 := layNew_ris D.2.2 D.1 x v r
  have l1 := layNew_led D.2.2 D.1 x v
  unfold addTx
  split
  · have z := tail_rl D.2.1 (layNew D.2.2 D.1 x v).1 { (layNew D.2.2 D.1 x v).2.1 with plain := false } (layNew D.2.2 D.1 x v).2.2.1 r1
    exact ⟨z.1, z.2.trans l1⟩
  · have z := tail_rl D.2.1 (layNew D.2.2 D.1 x v).1 (layNew D.2.2 D.1 x v).2.1 (layNew D.2.2 D.1 x v).2.2.1 r1
    exact ⟨z.1, z.2.trans l1⟩
section
variable {P : Program} {w : World} {A : Around} {E : Value → Shared → Prop} {s : Shared}
theorem SetX.keep {h h' : Heap} {a : Addr} {l : List Str} (x : SetX P w h a l) (k : ∀ o, h.get? a = some o → h'.get? a = some o) : SetX P w h' a l := by
  obtain ⟨n, D, h1, r⟩ := x
  exact ⟨n, D, k _ h1, r⟩
theorem setX_new {h : Heap} {a : Addr} (z : h.get? a = some (nSet w)) : SetX P w h a [] :=
  ⟨List.nodup_nil, (#[], 0, .fresh 0 0 (!w.params.followText "set-order")), z, TxOk.nil (by rfl), List.Pairwise.nil, by
    show _ ∨ (!w.params.followText "set-order") = true
    cases w.params.followText "set-order"
    · exact .inr rfl
    · exact .inl rfl⟩
/-- a text that is there -/
theorem add_there {a : Addr} {D : SD} {l : List Str} {k : Str} {u : Tok} {Q : Bool → Shared → Prop} (ho : s.heap.get? a = some (sObj "set" D)) (F : TxOk P w D l) (hk : k ∈ l) (hb : l.length < scanBound) (h : Q false s) :
    wpAny (model P w) A (setAddHashed a (.str k u) (hashStr w k)) Q E s := by
  obtain ⟨es, ep, t⟩ := D
  have hd : (sObj "set" (es, ep, t)).data = .set es ep t := rfl
  have hf : t.fits es.size = true := F.fit
  have hel : ElemsOf (PySem.strKind P w) es.toList := F.el
  have hsz : es.size = l.length := F.sz
  have hkey : (PySem.strKind P w).is k (.str k u) = true := is_str k u
  unfold setAddHashed setAddHashedIn
  refine wpAny_holding (wpAny_bind (wpAny_setState_of ho hd hf ?_))
  dsimp only
  rw [byScan_of rfl (by rw [hsz]; exact hb) hel]
  simp only [↓reduceIte]
  unfold setAddByScan
  refine wpAny_bind (wpAny_bind (wpAny_rule ?_))
  refine wpAny_bind (wpAny_setScan_of (knd := PySem.strKind P w) (k := k) hkey ho hd hf hel ?_)
  cases hfi : List.findIdx? (fun e => (PySem.strKind P w).is k e.2) es.toList with
  | some j =>
    dsimp only
    exact wpAny_pure (wpAny_pure h)
  | none =>
    obtain ⟨e, he, z⟩ := (F.mem k).mp hk
    have c := List.findIdx?_eq_none_iff.mp hfi e he
    rw [z] at c
    cases c
/-- found.add(text) -/
theorem setX_add {a : Addr} {l : List Str} {k : Str} {u : Tok} {Q : Bool → Shared → Prop} (x : SetX P w s.heap a l) (hb : l.length + 1 < scanBound)
    (q : ∀ b h', Heap.SameBut a s.heap h' → SetX P w h' a (if k ∈ l then l else k :: l) → Q b { s with heap := h', toks := s.toks + 1 }) : wpAny (model P w) A (setAdd a (.str k u)) Q E s := by
  obtain ⟨n, D, ho, F, r, ld⟩ := x
  unfold setAdd
  refine wpAny_holding (wpAny_bind ((PySem.strKind P w).pyHash (k := k) (is_str k u) ?_))
  by_cases c : k ∈ l
  · rw [if_pos c] at q
    exact add_there (s := { s with toks := s.toks + 1 }) ho F c (by omega) (q false s.heap (Heap.SameBut.refl a s.heap) ⟨n, D, ho, F, r, ld⟩)
  · rw [if_neg c] at q
    refine add_x (s := { s with toks := s.toks + 1 }) ho F c hb (q true _ (Heap.SameBut.update ..) ⟨List.nodup_cons.mpr ⟨c, n⟩, _, get_upd _ ho rfl, add_ok u F, (add_rl _ _ _ r).1, ld.imp id fun z => (add_rl _ _ _ r).2.trans z⟩)
/-- set(xs) of a list of texts -/
theorem set_texts {p : Addr} {items : Array Value} {xs : List Str} {Q : Value → Shared → Prop} (hh : A.handled = none) (hl : s.heap.IsList p items) (hx : StrsAre items.toList xs) (hb : xs.length + 1 < scanBound)
    (q : ∀ (h' : Heap) (tk : Nat) (l : List Str), SetX P w h' s.heap.objs.size l → (∀ y, y ∈ l ↔ y ∈ xs) → l.length ≤ xs.length → (∀ b o, s.heap.get? b = some o → h'.get? b = some o) → Q (.ref s.heap.objs.size) { s with heap := h', toks := tk }) :
    wpAny (model P w) A (call (.type "set") [.ref p]) Q E s := by
  have sz : items.size = xs.length := by rw [← Array.length_toList]; exact hx.length
  refine set_of_list (fun i h => ∃ l, SetX P w h s.heap.objs.size l ∧ (∀ y, y ∈ l ↔ y ∈ xs.take i) ∧ l.length ≤ i) hh hl (fun i h h' ⟨l, x, r⟩ k => ⟨l, x.keep k, r⟩) (fun h z => ⟨[], setX_new z, by simp, Nat.le_refl _⟩)
    (fun i v hv A' E' s' Q' ⟨l, x, m, ln⟩ q' => ?_) (fun h' tk ⟨l, x, m, ln⟩ k => q h' tk l x (fun y => by rw [m y, List.take_of_length_le (by omega)]) (by omega) k)
  have hi : i < xs.length := by rw [← sz]; exact (Array.getElem?_eq_some_iff.mp hv).1
  obtain ⟨y, t, rfl, hy⟩ := hx.item i v (by rw [Array.getElem?_toList]; exact hv)
  refine setX_add x (by omega) fun b h' sb x' => q' b h' _ sb (Nat.le_succ _) ⟨_, x', fun z => ?_, ?_⟩
  · rw [List.take_add_one, hy]
    simp only [Option.toList, List.mem_append, List.mem_singleton]
    by_cases c : y ∈ l
    · rw [if_pos c, m z]
      refine ⟨.inl, fun h => h.elim id fun e => ?_⟩
      rw [e]
      exact (m y).1 c
    · rw [if_neg c, List.mem_cons, m z]
      exact Or.comm
  · split
    · omega
    · rw [List.length_cons]; omega
theorem strsAre_all : ∀ (vs : List Value), (∀ v ∈ vs, ∃ k t, v = Value.str k t) → ∃ xs, StrsAre vs xs ∧ xs = vs.map strOf
  | [], _ => ⟨[], .nil, rfl⟩
  | v :: vs, h => by
    obtain ⟨k, t, rfl⟩ := h v List.mem_cons_self
    obtain ⟨xs, h1, h2⟩ := strsAre_all vs fun u hu => h u (List.mem_cons_of_mem _ hu)
    exact ⟨k :: xs, .cons k t h1, by rw [h2]; rfl⟩
theorem perm_sub : ∀ (l r : List Str), l.Nodup → (∀ k ∈ l, k ∈ r) → r.length ≤ l.length → r.Perm l
  | [], r, _, _, h => by
    have z : r = [] := List.length_eq_zero_iff.mp (Nat.le_zero.mp h)
    rw [z]
  | k :: l, r, n, s, h => by
    obtain ⟨n1, n2⟩ := List.nodup_cons.mp n
    have hk := s k List.mem_cons_self
    have e := List.length_erase_of_mem hk
    have ih := perm_sub l (r.erase k) n2 (fun y hy => (List.mem_erase_of_ne fun (z : y = k) => n1 (by rw [← z]; exact hy)).2 (s y (List.mem_cons_of_mem _ hy))) (by rw [List.length_cons] at h; omega)
    exact (List.perm_cons_erase hk).trans (ih.cons k)
theorem tx_strs {D : SD} {l : List Str} (n : l.Nodup) (F : TxOk P w D l) : (∀ v ∈ D.1.toList.map (·.2), ∃ k t, v = Value.str k t) ∧ ((D.1.toList.map (·.2)).map strOf).Perm l := by
  have h1 : ∀ e ∈ D.1.toList, ∃ k t, e.2 = Value.str k t := fun e he => by
    obtain ⟨⟨k, z, _⟩, _⟩ := F.el e he
    obtain ⟨t, z2⟩ := Value.isStrOf_shape z
    exact ⟨k, t, z2⟩
  have h2 : ∀ e ∈ D.1.toList, ∀ k, (PySem.strKind P w).is k e.2 = true ↔ strOf e.2 = k := fun e he k => by
    obtain ⟨k0, t, z⟩ := h1 e he
    rw [z]
    exact ⟨fun q => ((PySem.strKind P w).inj (.str k0 t) k k0 q (is_str k0 t)).symm, fun q => by rw [← show k0 = k from q]; exact is_str k0 t⟩
  have hm : ∀ k, k ∈ l ↔ k ∈ (D.1.toList.map (·.2)).map strOf := fun k => by
    rw [F.mem k, List.map_map, List.mem_map]
    exact ⟨fun ⟨e, he, z⟩ => ⟨e, he, (h2 e he k).1 z⟩, fun ⟨e, he, z⟩ => ⟨e, he, (h2 e he k).2 z⟩⟩
  refine ⟨fun v hv => ?_, ?_⟩
  · obtain ⟨e, he, rfl⟩ := List.mem_map.mp hv
    exact h1 e he
  · refine perm_sub _ _ n (fun k hk => (hm k).1 hk) ?_
    have z : D.1.size = l.length := F.sz
    rw [List.length_map, List.length_map, Array.length_toList, z]
    exact Nat.le_refl _
/-- sorted(found) -/
theorem sorted_setX {a : Addr} {l : List Str} {Q : Value → Shared → Prop} (x : SetX P w s.heap a l) (hh : A.handled = none) (hb : l.length < scanBound)
    (q : ∀ s' p (out : Array Value) (c : Nat) (ys : List Str), (∀ b o, s.heap.get? b = some o → s'.heap.get? b = some o) → s'.gens = s.gens → s'.os = s.os → s.heap.objs.size ≤ p →
      s'.heap.get? p = some (seqObj "list" out c) → StrsAre out.toList ys → ys.Perm l → sortedS ys = true → Q (.ref p) s') :
    wpAny (model P w) A (call (.builtin "sorted") [.ref a]) Q E s := by
  obtain ⟨n, ⟨es, ep, t⟩, ho, F, r, ld⟩ := x
  have sz : es.size = l.length := F.sz
  obtain ⟨st, pl⟩ := tx_strs n F
  refine Calls.call_function_entry kind_sorted plain_sorted entry_sorted (args_sorted1 _) ?_
  unfold Builtin.«sorted»
  refine wpAny_bind (m := checkCount "sorted" 1 1 _) (wpAny_pure ?_)
  refine wpAny_bind (collect_set (A := A.in1) hh ⟨_, ho, rfl, rfl⟩ F.fit (by rw [sz]; exact hb) r ld fun s1 vs k1 hz g1 o1 pm => ?_)
  obtain ⟨xs, hS, ex⟩ := strsAre_all vs fun v hv => st v (pm.mem_iff.mp hv)
  have px : xs.Perm l := by rw [ex]; exact (pm.map strOf).trans pl
  have hL : vs.length ≤ sizeLine := by
    have z : scanBound ≤ sizeLine := by rw [sizeLine_eq]; decide
    rw [hS.length, px.length_eq]
    omega
  refine wpAny_bind (wpAny_newList ?_ hL)
  have hoL : (s1.heap.push (seqObj "list" vs.toArray 0)).get? s1.heap.objs.size = some (seqObj "list" vs.toArray 0) := Heap.get?_push_size _ rfl
  refine wpAny_bind (wpAny_holding (wpAny_call_entry slot_list_sort ⟨_, hoL, rfl⟩ entry_list_sort (list_sort_treeKAny strKind_oneLt hoL hS.keysOf (fun v₁ v₂ rest e => keyKind_strs (by rw [← e]; exact hS)) hL fun st' hp hs => ⟨_, rfl, ?_⟩) (args_list_sort _)))
  obtain ⟨ys, h1, h2, h3⟩ := sorted_out_str hS hp hs
  generalize (arrOf st').map (·.2) = out at h1 ⊢
  obtain ⟨c, hc⟩ := sortedHeap_at (vs := vs) (out := out) hoL
  refine wpAny_pure ⟨_, rfl, q _ s1.heap.objs.size out c ys (fun b u e => ?_) g1 o1 hz hc h1 (h2.trans px) h3⟩
  have z := k1 b u e
  have lt := Heap.lt_size z
  show (sortedHeap (s1.heap.push (seqObj "list" vs.toArray 0)) s1.heap.objs.size vs out).get? b = some u
  rw [sortedHeap_old (Nat.ne_of_lt lt) (by rw [size_push']; exact Nat.lt_succ_of_lt lt)]
  exact Heap.get?_push_of_some _ z
end
end Vs

namespace Vf
open PySem PySem.Spec PyProof.Rows L2 LamX Vs
/-- the set of the texts l, as an object -/
def SetH (P : Program) (w : World) (a : Addr) (l : List Str) : HO := .ext fun h => SetX P w h a l
theorem setH_new {P : Program} {w : World} {H : Hp} {h : Heap} {a : Addr} {l : List Str} (R : SetX P w h a l) : ObjOk P w H h a (SetH P w a l) := by
  have ⟨_, D, ho, _⟩ := R
  exact ⟨R, ⟨_, ho⟩, fun h1 h2 p k => SetX.keep p k⟩
theorem setH_get {X : Cx} {pins : List (Addr × Obj)} {σ : L2.St} {H : Hp} {s : Shared} {a : Addr} {l : List Str} (I : Inv X pins σ H s) (ha : H a = some (SetH X.prog X.w a l)) : SetX X.prog X.w s.heap a l := (I.hok a _ ha).1
section
variable {m : Md} {N : List Str} {sc : Scope} {k : Nat} {X : Cx} {H : Hp} {Q : VK}
/-- set(xs) of a list of texts -/
theorem cr_setX (hc : X.calm = true) : CallR X (.type "set") (fun vs H Q => ∃ (p : Addr) (xs : List Str), vs = [V.ref p] ∧ SqL X.K H p (xs.map V.str) ∧ xs.length < 4000 ∧
    ∀ a l, H a = none → l.Nodup → (∀ y, y ∈ l ↔ y ∈ xs) → l.length ≤ xs.length → Q (.ref a) (upd H a (SetH X.prog X.w a l))) := by
  intro pins s σ H vs us Q I r h
  obtain ⟨p, xs, rfl, hs, hb, q⟩ := h
  obtain ⟨its, rv, hl, _⟩ := I.list hs
  rw [Vals.ref1 r]
  refine set_texts (P := X.prog) (I.ok.hd hc) hl.isList (by simpa using rv.strs) (by unfold scanBound; omega) fun h' tk l x ml ll kp => ?_
  exact ⟨.ref _, upd H s.heap.objs.size (SetH X.prog X.w s.heap.objs.size l), I.laid (t' := tk) kp (Nat.le_refl _) (setH_new x), rfl, q _ l (I.hok.fresh (Nat.le_refl _)) x.1 ml ll⟩
/-- sorted(found) -/
theorem cr_sortedX (hc : X.calm = true) : CallR X (.builtin "sorted") (fun vs H Q => ∃ (a : Addr) (l : List Str), vs = [V.ref a] ∧ H a = some (SetH X.prog X.w a l) ∧ l.length < 4000 ∧
    ∀ ys p, ys.Perm l → sortedS ys = true → H p = none → Q (.ref p) (upd H p (.lst (ys.map V.str)))) := by
  intro pins s σ H vs us Q I r h
  obtain ⟨a, l, rfl, ha, hb, q⟩ := h
  have R := setH_get I ha
  rw [Vals.ref1 r]
  refine sorted_setX R (I.ok.hd hc) (by unfold scanBound; omega) fun s' p out c ys kp g o hp hg hi pm st => ?_
  have hlen : (ys.map V.str).length ≤ sizeLine := by rw [List.length_map, pm.length_eq, sizeLine_eq]; omega
  have hn : H p = none := I.hok.fresh hp
  have J : Inv X pins σ (upd H p (.lst (ys.map V.str))) { s with heap := s'.heap, gens := s'.gens, drawn := s'.drawn, toks := s'.toks } :=
    I.call (ch := []) (Un.laid kp hp hn) (I.hok.laid kp hp ⟨hlen, out.toList, c, vals_of_strs hi, hg⟩) (by rw [g]; exact I.bare) (fun _ z => nomatch z)
  have e : s' = { s with heap := s'.heap, gens := s'.gens, drawn := s'.drawn, toks := s'.toks } := by
    cases s'
    cases s
    cases o
    rfl
  rw [e]
  exact ⟨.ref p, _, J, rfl, q ys p pm st hn⟩
/-- len(found) -/
theorem cr_lenX : CallR X (.builtin "len") (fun vs H Q => ∃ (a : Addr) (l : List Str), vs = [V.ref a] ∧ H a = some (SetH X.prog X.w a l) ∧ l.length < 4000 ∧ Q (.int l.length) H) := by
  intro pins s σ H vs us Q I r h
  obtain ⟨a, l, rfl, ha, hb, q⟩ := h
  obtain ⟨_, D, ho, F, _⟩ := setH_get I ha
  rw [Vals.ref1 r]
  have sz : D.1.size = l.length := F.sz
  refine call_len_set ho ⟨rfl, rfl, rfl⟩ rfl F.fit (by rw [sz]; omega) ⟨.int l.length, H, I.tok _, ⟨_, by rw [sz]⟩, q⟩
theorem g_setX (h : At m N sc k X) {p : Addr} {xs : List Str} (hs : SqL m.K H p (xs.map V.str)) (hb : xs.length < 4000)
    (q : ∀ a l, H a = none → l.Nodup → (∀ y, y ∈ l ↔ y ∈ xs) → l.length ≤ xs.length → Q (.ref a) (upd H a (SetH m.P m.w a l))) : gCall X (.type "set") [.ref p] H Q :=
  ⟨_, cr_setX h.calm, p, xs, rfl, by rw [h.kk]; exact hs, hb, by rw [h.pp, h.ww]; exact q⟩
theorem g_sortedX (h : At m N sc k X) {a : Addr} {l : List Str} (ha : H a = some (SetH m.P m.w a l)) (hb : l.length < 4000)
    (q : ∀ ys p, ys.Perm l → sortedS ys = true → H p = none → Q (.ref p) (upd H p (.lst (ys.map V.str)))) : gCall X (.builtin "sorted") [.ref a] H Q :=
  ⟨_, cr_sortedX h.calm, a, l, rfl, by rw [h.pp, h.ww]; exact ha, hb, q⟩
theorem g_lenX (h : At m N sc k X) {a : Addr} {l : List Str} (ha : H a = some (SetH m.P m.w a l)) (hb : l.length < 4000) (q : Q (.int l.length) H) : gCall X (.builtin "len") [.ref a] H Q :=
  ⟨_, cr_lenX, a, l, rfl, by rw [h.pp, h.ww]; exact ha, hb, q⟩
end
end Vf
set_option maxRecDepth 100000
set_option maxHeartbeats 4000000
/-! Dct: dicts that are walked, looked up, stored, copied, displayed; pairs as targets in comprehensions; enumerate. Own work. -/
namespace Vf
open PySem PySem.Spec PyProof.Rows L2 LamX
/-- what a dict walked over asks: it is locked while the block runs -/
theorem Grow.unlock {T : List (Addr × Str)} {H H' : Hp} {d : Addr} {od : Obj} {kvs : List (Key × V)} (hd : H d = some (.dK kvs)) (g : Grow T (upd H d (.frz od (.dK kvs))) H') : Grow T H (upd H' d (.dK kvs)) ∧ H' d = some (.frz od (.dK kvs)) := by
  have fz := g.frz d od (.dK kvs) upd_same
  refine ⟨⟨fun b o _ e n => ?_, fun t => ?_, fun b e => ?_, fun b xs e => ?_, fun b o u e => ?_⟩, fz⟩
  · by_cases c : b = d
    · subst c
      rw [hd] at e
      rw [upd_same, e]
    · rw [upd_ne c]
      exact g.ext b o (fun z => z) (by rw [upd_ne c]; exact e) n
  · have t1 : Tabs T (upd H d (.frz od (.dK kvs))) := by
      intro q hq
      obtain ⟨ps, h1, h2, h3⟩ := t q hq
      refine ⟨ps, by rw [upd_ne (fun z => by rw [z, hd] at h1; cases h1)]; exact h1, h2, fun pos cv hc => ?_⟩
      obtain ⟨c, e1, e2⟩ := h3 pos cv hc
      exact ⟨c, e1, by rw [upd_ne (fun z => by rw [z, hd] at e2; unfold CodeO at e2; cases e2)]; exact e2⟩
    have t2 := g.tab t1
    intro q hq
    obtain ⟨ps, h1, h2, h3⟩ := t2 q hq
    refine ⟨ps, by rw [upd_ne (fun z => by rw [z, fz] at h1; cases h1)]; exact h1, h2, fun pos cv hc => ?_⟩
    obtain ⟨c, e1, e2⟩ := h3 pos cv hc
    exact ⟨c, e1, by rw [upd_ne (fun z => by rw [z, fz] at e2; unfold CodeO at e2; cases e2)]; exact e2⟩
  · exact NdefX.upd_none (g.keep b (NdefX.upd_none e))
  · have c : b ≠ d := fun z => by rw [z, hd] at e; cases e
    rw [upd_ne c]
    exact g.tup b xs (by rw [upd_ne c]; exact e)
  · have c : b ≠ d := fun z => by rw [z, hd] at e; cases e
    rw [upd_ne c]
    exact g.frz b o u (by rw [upd_ne c]; exact e)
section
variable {m : Md} {N : List Str} {sc scope : Scope} {k i j : Nat} {X : Cx} {a b c e f o elt iter : Expr} {es : List Expr} {σ : L2.St} {H : Hp} {Q : VK} {pos p p1 p2 p3 apos tpos : Pos} {x y : Str} {nx : L2.St → Hp → Prop} {rt : VK} {bk ct : L2.St → Hp → Prop}
/-- [elt for x in d], d a dict -/
theorem w_lcDk (h : At m N sc k X) (ok : blkC N sc scope [(x, i)] = true) (n : NL N (relS scope sc) i x)
    (q : ∃ (d : Addr) (kvs : List (Key × V)), H d = some (.dK kvs) ∧ ∀ od, wE X iter σ (upd H d (.frz od (.dK kvs))) fun v H1 => v = .ref d ∧ H1 = upd H d (.frz od (.dK kvs)) ∧ ∀ D, H1 D = none → ∃ Pv : Nat → Hp → Prop, Pv 0 (upd H1 D (.lst [])) ∧ (∀ t H, t ≤ kvs.length → Pv t H → H d = some (.frz od (.dK kvs))) ∧
      (∀ t p H, kvs[t]? = some p → Pv t H → ∀ X', At m N (relS scope sc) k X' → wE X' elt (σ.set i (some (kV p.1))) H (App D (Pv (t + 1)))) ∧ ∀ H, Pv kvs.length H → Q (.ref D) (upd H d (.dK kvs)))
    (hs : ∀ x, foldedSetIterable iter X.env x = pure x := by with_unfolding_all (intro _; rfl)) : wE X (.ListComp elt [⟨.Name x p1, iter, [], 0⟩] scope pos) σ H Q := by
  refine toE (pe_lock (pe_lc (own := [(x, i)]) (g := gName i) (tt := tYes) (te := inBlk m N (relS scope sc) k elt) h.calm (by rw [h.nn]; exact h.nd) (pi_keys cE) (by rw [h.nn, h.ss]; exact blkOk_by ok) (fun s H C cl fp => pg_nl (blk_at h s H C cl fp) n) (fun _ _ _ _ _ => pts_nil) (fun s H C cl fp => blk_pe h s H C cl fp) hs)) ?_
  obtain ⟨d, kvs, hd, q⟩ := q
  refine ⟨d, .dK kvs, hd, trivial, fun od => ?_⟩
  refine wE.mono (q od) fun v H1 ⟨ev, eH, go⟩ => ?_
  refine ⟨d, od, ev, .inl ⟨kvs, by rw [eH]; exact upd_same, fun D hD => ?_⟩⟩
  obtain ⟨Pv, p0, st, turn, fin⟩ := go D hD
  refine lc_it walk_keys (g := gName i) (tt := tYes) (te := inBlk m N (relS scope sc) k elt) (vs := [i]) (σ := σ) Pv p0 st (fun t z H H' ht hp y => ?_) fun H hp => ⟨st _ _ (Nat.le_refl _) hp, fin H hp⟩
  obtain ⟨rfl, kk, v, hk, rfl⟩ := y
  refine ⟨by rw [wipe1]; simp [wipe, List.set_set], ?_⟩
  unfold tYes
  refine iteT fun X' hX' => ?_
  rw [set_wipe]
  exact turn t (kk, v) H' hk hp X' hX'
/-- [elt for x in d.values()] -/
theorem w_lcDv (h : At m N sc k X) (ok : blkC N sc scope [(x, i)] = true) (n : NL N (relS scope sc) i x)
    (q : ∃ (d : Addr) (kvs : List (Key × V)), H d = some (.dK kvs) ∧ ∀ od, wE X e σ (upd H d (.frz od (.dK kvs))) fun v H1 => v = .ref d ∧ H1 = upd H d (.frz od (.dK kvs)) ∧ ∀ D, H1 D = none → ∃ Pv : Nat → Hp → Prop, Pv 0 (upd H1 D (.lst [])) ∧ (∀ t H, t ≤ kvs.length → Pv t H → H d = some (.frz od (.dK kvs))) ∧
      (∀ t p H, kvs[t]? = some p → Pv t H → ∀ X', At m N (relS scope sc) k X' → wE X' elt (σ.set i (some p.2)) H (App D (Pv (t + 1)))) ∧ ∀ H, Pv kvs.length H → Q (.ref D) (upd H d (.dK kvs)))
    (hbase : attributeBase e "values" X.env (eval e X.env) = eval e X.env := by with_unfolding_all rfl) (hline : (apos.endLine == p2.line) = true := by with_unfolding_all rfl)
    (hs : ∀ x, foldedSetIterable (.Call (.Attribute e "values" apos) [] [] p2) X.env x = pure x := by with_unfolding_all (intro _; rfl)) : wE X (.ListComp elt [⟨.Name x p1, .Call (.Attribute e "values" apos) [] [] p2, [], 0⟩] scope pos) σ H Q := by
  refine toE (pe_lock (pe_lc (own := [(x, i)]) (g := gName i) (tt := tYes) (te := inBlk m N (relS scope sc) k elt) h.calm (by rw [h.nn]; exact h.nd) (pi_values cE hbase hline) (by rw [h.nn, h.ss]; exact blkOk_by ok) (fun s H C cl fp => pg_nl (blk_at h s H C cl fp) n) (fun _ _ _ _ _ => pts_nil) (fun s H C cl fp => blk_pe h s H C cl fp) hs)) ?_
  obtain ⟨d, kvs, hd, q⟩ := q
  refine ⟨d, .dK kvs, hd, trivial, fun od => ?_⟩
  refine wE.mono (q od) fun v H1 ⟨ev, eH, go⟩ => ?_
  refine ⟨d, od, kvs, ev, by rw [eH]; exact upd_same, fun D hD => ?_⟩
  obtain ⟨Pv, p0, st, turn, fin⟩ := go D hD
  refine lc_it walk_values (g := gName i) (tt := tYes) (te := inBlk m N (relS scope sc) k elt) (vs := [i]) (σ := σ) Pv p0 st (fun t z H H' ht hp y => ?_) fun H hp => ⟨st _ _ (Nat.le_refl _) hp, fin H hp⟩
  obtain ⟨rfl, kk, hk⟩ := y
  refine ⟨by rw [wipe1]; simp [wipe, List.set_set], ?_⟩
  unfold tYes
  refine iteT fun X' hX' => ?_
  rw [set_wipe]
  exact turn t (kk, z) H' hk hp X' hX'
theorem set2_wipe {u w : V} : ((wipe σ [i, j]).set i (some u)).set j (some w) = (σ.set i (some u)).set j (some w) := by
  by_cases c : i = j
  · subst c; simp [wipe, List.set_set]
  · simp [wipe, List.set_set, List.set_comm _ _ c]
theorem wipe2 {u w : V} : wipe ((σ.set i (some u)).set j (some w)) [i, j] = wipe σ [i, j] := by
  by_cases c : i = j
  · subst c; simp [wipe, List.set_set]
  · simp [wipe, List.set_set, List.set_comm _ _ c]
/-- [elt for x, y in xs], xs a list of pairs -/
theorem w_lcP {k1 : Nat} (h : At m N sc k X) (ok : blkC N sc scope [(x, i), (y, j)] = true) (n1 : NL N (relS scope sc) i x) (n2 : NL N (relS scope sc) j y)
    (q : wE X iter σ H fun v H1 => ∃ (a : Addr) (xs : List V), v = .ref a ∧ SqL m.K H1 a xs ∧ ∀ D, H1 D = none → ∃ Pv : Nat → Hp → Prop, Pv 0 (upd H1 D (.lst [])) ∧ (∀ t H, t ≤ xs.length → Pv t H → SqL m.K H a xs) ∧
      (∀ t z H, xs[t]? = some z → Pv t H → ∃ p u w, z = .ref p ∧ SqT m.K H p [u, w] ∧ ∀ X', At m N (relS scope sc) k X' → wE X' elt ((σ.set i (some u)).set j (some w)) H (App D (Pv (t + 1)))) ∧ ∀ H, Pv xs.length H → Q (.ref D) H)
    (hs : ∀ x, foldedSetIterable iter X.env x = pure x := by with_unfolding_all (intro _; rfl)) : wE X (.ListComp elt [⟨.Tuple [.Name x p1, .Name y p2] k1 p3, iter, [], 0⟩] scope pos) σ H Q := by
  refine toE (pe_lc (own := [(x, i), (y, j)]) (g := gTup X.K 2 (gCons (gName i) (gCons (gName j) gNil))) (tt := tYes) (te := inBlk m N (relS scope sc) k elt) h.calm (by rw [h.nn]; exact h.nd) (pi_list cE) (by rw [h.nn, h.ss]; exact blkOk_by ok) (fun s H C cl fp => pg_tup (blk_at h s H C cl fp).calm (pgs_cons (pg_nl (blk_at h s H C cl fp) n1) (pgs_cons (pg_nl (blk_at h s H C cl fp) n2) pgs_nil (by with_unfolding_all rfl)) (by with_unfolding_all rfl)) (by with_unfolding_all rfl) (by with_unfolding_all rfl)) (fun _ _ _ _ _ => pts_nil) (fun s H C cl fp => blk_pe h s H C cl fp) hs) ?_
  refine wE.mono q fun v H1 ⟨a, xs, ea, hl, go⟩ => ⟨a, ea, ⟨xs, by rw [h.kk]; exact hl⟩, fun D hD => ?_⟩
  obtain ⟨Pv, p0, st, turn, fin⟩ := go D hD
  refine lc_list (K := X.K) (a := a) (xs := xs) (g := gTup X.K 2 (gCons (gName i) (gCons (gName j) gNil))) (tt := tYes) (te := inBlk m N (relS scope sc) k elt) (vs := [i, j]) (σ := σ) Pv p0 (fun j H hj hp => by rw [h.kk]; exact st j H hj hp) (fun t z H hz hp => ?_) fin
  obtain ⟨p, u, w, rfl, hp2, go2⟩ := turn t z H hz hp
  refine ⟨p, [u, w], rfl, by show SqT X.K H p [u, w]; rw [h.kk]; exact hp2, rfl, u, [w], rfl, w, [], rfl, rfl, ?_⟩
  rw [set2_wipe]
  refine ⟨wipe2, ?_⟩
  unfold tYes
  exact iteT fun X' hX' => go2 X' hX'
/-- z = [elt for x, y in xs] -/
theorem s_lcP {k1 l : Nat} {y0 : Str} {py spos : Pos} (h : At m N sc k X) (nl : NL N sc l y0) (ok : blkC N sc scope [(x, i), (y, j)] = true) (n1 : NL N (relS scope sc) i x) (n2 : NL N (relS scope sc) j y)
    (q : wE X iter σ H fun v H1 => ∃ (a : Addr) (xs : List V), v = .ref a ∧ SqL m.K H1 a xs ∧ ∀ D, H1 D = none → ∃ Pv : Nat → Hp → Prop, Pv 0 (upd H1 D (.lst [])) ∧ (∀ t H, t ≤ xs.length → Pv t H → SqL m.K H a xs) ∧
      (∀ t z H, xs[t]? = some z → Pv t H → ∃ p u w, z = .ref p ∧ SqT m.K H p [u, w] ∧ ∀ X', At m N (relS scope sc) k X' → wE X' elt ((σ.set i (some u)).set j (some w)) H (App D (Pv (t + 1)))) ∧ ∀ H, Pv xs.length H → nx (σ.set l (some (.ref D))) H)
    (hs : ∀ x, foldedSetIterable iter X.env x = pure x := by with_unfolding_all (intro _; rfl)) (hk : sc.kind = .function := by with_unfolding_all rfl) (hl : (py.line == pos.line) = true := by with_unfolding_all rfl) (ha : (scope.names.any fun (n, k) => n == y0 && (k == .local || k == .cell)) = false := by with_unfolding_all (decide +kernel)) : wS X (.Assign [.Name y0 py] (.ListComp elt [⟨.Tuple [.Name x p1, .Name y p2] k1 p3, iter, [], 0⟩] scope pos) spos) ⟨nx, rt, bk, ct⟩ σ H := by
  refine toS (ps_setLc (i := l) (y := y0) (py := py) (own := [(x, i), (y, j)]) (g := gTup X.K 2 (gCons (gName i) (gCons (gName j) gNil))) (tt := tYes) (te := inBlk m N (relS scope sc) k elt) h.calm (by rw [h.nn]; exact h.nd) (by rw [h.nn]; exact nl.ix) (by rw [h.ss]; exact nl.loc) (sw_true (by rw [h.ss]; exact hk) (by rw [h.ss]; exact nl.loc) hl ha) (pi_list cE) (by rw [h.nn, h.ss]; exact blkOk_by ok) (fun s H C cl fp => pg_tup (blk_at h s H C cl fp).calm (pgs_cons (pg_nl (blk_at h s H C cl fp) n1) (pgs_cons (pg_nl (blk_at h s H C cl fp) n2) pgs_nil (by with_unfolding_all rfl)) (by with_unfolding_all rfl)) (by with_unfolding_all rfl) (by with_unfolding_all rfl)) (fun _ _ _ _ _ => pts_nil) (fun s H C cl fp => blk_pe h s H C cl fp) hs) ?_
  refine wE.mono q fun v H1 ⟨a, xs, ea, hl, go⟩ => ⟨a, ea, ⟨xs, by rw [h.kk]; exact hl⟩, fun D hD => ?_⟩
  obtain ⟨Pv, p0, st, turn, fin⟩ := go D hD
  refine lc_list (K := X.K) (a := a) (xs := xs) (g := gTup X.K 2 (gCons (gName i) (gCons (gName j) gNil))) (tt := tYes) (te := inBlk m N (relS scope sc) k elt) (vs := [i, j]) (σ := σ) Pv p0 (fun j H hj hp => by rw [h.kk]; exact st j H hj hp) (fun t z H hz hp => ?_) fin
  obtain ⟨p, u, w, rfl, hp2, go2⟩ := turn t z H hz hp
  refine ⟨p, [u, w], rfl, by show SqT X.K H p [u, w]; rw [h.kk]; exact hp2, rfl, u, [w], rfl, w, [], rfl, rfl, ?_⟩
  rw [set2_wipe]
  refine ⟨wipe2, ?_⟩
  unfold tYes
  exact iteT fun X' hX' => go2 X' hX'
/-- [elt for x, y in xs if c] -/
theorem w_lcPi {k1 : Nat} (h : At m N sc k X) (ok : blkC N sc scope [(x, i), (y, j)] = true) (n1 : NL N (relS scope sc) i x) (n2 : NL N (relS scope sc) j y)
    (q : wE X iter σ H fun v H1 => ∃ (a : Addr) (xs : List V), v = .ref a ∧ SqL m.K H1 a xs ∧ ∀ D, H1 D = none → ∃ Pv : Nat → Hp → Prop, Pv 0 (upd H1 D (.lst [])) ∧ (∀ t H, t ≤ xs.length → Pv t H → SqL m.K H a xs) ∧
      (∀ t z H, xs[t]? = some z → Pv t H → ∃ p u w, z = .ref p ∧ SqT m.K H p [u, w] ∧ ∀ X', At m N (relS scope sc) k X' → wT X' c ((σ.set i (some u)).set j (some w)) H fun b H3 => if b = true then (∀ X', At m N (relS scope sc) k X' → wE X' elt ((σ.set i (some u)).set j (some w)) H3 (App D (Pv (t + 1)))) else Pv (t + 1) H3) ∧ ∀ H, Pv xs.length H → Q (.ref D) H)
    (hs : ∀ x, foldedSetIterable iter X.env x = pure x := by with_unfolding_all (intro _; rfl)) : wE X (.ListComp elt [⟨.Tuple [.Name x p1, .Name y p2] k1 p3, iter, [c], 0⟩] scope pos) σ H Q := by
  refine toE (pe_lc (own := [(x, i), (y, j)]) (g := gTup X.K 2 (gCons (gName i) (gCons (gName j) gNil))) (tt := inBlkT m N (relS scope sc) k c) (te := inBlk m N (relS scope sc) k elt) h.calm (by rw [h.nn]; exact h.nd) (pi_list cE) (by rw [h.nn, h.ss]; exact blkOk_by ok) (fun s H C cl fp => pg_tup (blk_at h s H C cl fp).calm (pgs_cons (pg_nl (blk_at h s H C cl fp) n1) (pgs_cons (pg_nl (blk_at h s H C cl fp) n2) pgs_nil (by with_unfolding_all rfl)) (by with_unfolding_all rfl)) (by with_unfolding_all rfl) (by with_unfolding_all rfl)) (fun s H C cl fp => pts_one (blk_pt h s H C cl fp)) (fun s H C cl fp => blk_pe h s H C cl fp) hs) ?_
  refine wE.mono q fun v H1 ⟨a, xs, ea, hl, go⟩ => ⟨a, ea, ⟨xs, by rw [h.kk]; exact hl⟩, fun D hD => ?_⟩
  obtain ⟨Pv, p0, st, turn, fin⟩ := go D hD
  refine lc_list (K := X.K) (a := a) (xs := xs) (g := gTup X.K 2 (gCons (gName i) (gCons (gName j) gNil))) (tt := inBlkT m N (relS scope sc) k c) (te := inBlk m N (relS scope sc) k elt) (vs := [i, j]) (σ := σ) Pv p0 (fun j H hj hp => by rw [h.kk]; exact st j H hj hp) (fun t z H hz hp => ?_) fin
  obtain ⟨p, u, w, rfl, hp2, go2⟩ := turn t z H hz hp
  refine ⟨p, [u, w], rfl, by show SqT X.K H p [u, w]; rw [h.kk]; exact hp2, rfl, u, [w], rfl, w, [], rfl, rfl, ?_⟩
  rw [set2_wipe]
  exact ⟨wipe2, fun X' hX' => go2 X' hX'⟩
/-- for x, y in enumerate(e): the pair is new each time -/
theorem s_forEn {elts : List Expr} {kk : Nat} {g : TG} {po : Pos} {body : List Stmt} (h : At m N sc k X) (hg : PG X (.Tuple elts kk tpos) g) (hm : m.mg "enumerate" = none) (hgl : sc.names.lookup ("enumerate" : Str) = some .globalImplicit)
    (q : wE X e σ H fun v H1 => ∃ (a : Addr) (xs : List V), v = .ref a ∧ SqL m.K H1 a xs ∧ ∃ Pv : Nat → L2.St → Hp → Prop, Pv 0 σ H1 ∧ (∀ t σ H, t ≤ xs.length → Pv t σ H → SqL m.K H a xs) ∧
      (∀ (t : Nat) (z : V) (T : Addr) (σ : L2.St) (H : Hp), xs[t]? = some z → Pv t σ H → H T = none → g (.ref T) σ (upd H T (.tup [.int t, z])) fun σ2 H2 => wB X body ⟨Pv (t + 1), rt, nx, Pv (t + 1)⟩ σ2 H2) ∧ ∀ σ H, Pv xs.length σ H → nx σ H)
    (hs : starEach [e] X.env = [(false, eval e X.env)] := by with_unfolding_all rfl) (hf : ∀ x, foldedSetIterable (.Call (.Name "enumerate" p1) [e] [] p2) X.env x = pure x := by with_unfolding_all (intro _; rfl)) :
    wS X (.For (.Tuple elts kk tpos) (.Call (.Name "enumerate" p1) [e] [] p2) body [] po) ⟨nx, rt, bk, ct⟩ σ H := by
  refine toS (ps_for h.pass h.calm (pi_enum (h.gl hgl) (by rw [h.mm]; exact hm) (pa_cons cE pa_nil hs) hs) hg cB hf) ?_
  refine wE.mono q fun v H1 ⟨a, xs, ea, hl, Pv, p0, st, turn, fin⟩ => ⟨a, xs, by rw [ea], by rw [h.kk]; exact hl, ?_⟩
  refine for_it (walk_enum (K := X.K) (a := a) (xs := xs)) Pv p0 (fun t σ H ht hp => by rw [h.kk]; exact st t σ H ht hp) (fun t z σ H H' ht hp y => ?_) fin
  obtain ⟨T, u, w, rfl, hT, rfl, hu, hw⟩ := y
  have eu : V.int (t : Nat) = u := Option.some.inj hu
  rw [← eu]
  exact turn t w T σ H hw hp hT
/-- xs.extend(e) -/
theorem g_extend (q : wE X o σ H fun x H1 => tyV X.K "list" x H1 ∧ wA X [e] σ H1 fun ys H2 => ∃ l b xs zs, x = .ref l ∧ ys = [.ref b] ∧ H2 l = some (.lst xs) ∧ H2 b = some (.lst zs) ∧ xs.length + zs.length ≤ sizeLine ∧ Q .non (upd H2 l (.lst (xs ++ zs))))
    (hbase : attributeBase o "extend" X.env (eval o X.env) = eval o X.env := by with_unfolding_all rfl)
    (hfew : ((backTo pos (starEach [e] X.env)).all (fun x => !x.1) && (backToKw pos (keywordEach [] X.env)).all (fun x => x.1.isSome) && decide ([e].length + ([] : List Keyword).length + (if ([] : List Keyword).isEmpty then 0 else 1) < 30)) = true := by with_unfolding_all rfl)
    (hline : (apos.endLine == pos.line) = true := by with_unfolding_all rfl) (hs : starEach [e] X.env = (false, eval e X.env) :: starEach [] X.env := by with_unfolding_all rfl) (hplain : (backTo pos (starEach [] X.env)).any (·.1) = false := by with_unfolding_all rfl) : wE X (.Call (.Attribute o "extend" apos) [e] [] pos) σ H Q :=
  toE (pe_bm PySem.F.plainAttrs_list PySem.F.slot_list_extend PySem.F.type_list_extend mt_extend cE cA hbase hfew hline hs hplain) q
/-! dicts of texts -/
theorem w_dget (h : At m N sc k X) {ix : Expr} (q : wE X o σ H fun x H1 => wE X ix σ H1 fun y H2 => ∃ a v, x = .ref a ∧ DGet H2 a y (some v) ∧ Q v H2) (hns : NoSl ix := by with_unfolding_all exact fun _ _ => rfl) : wE X (.Subscript o ix pos) σ H Q := by
  refine toE (pe_dget h.hu cE cE hns) ?_
  exact wE.mono q fun x H1 q1 => wE.mono q1 fun y H2 q2 => q2
/-- d[y] at values -/
theorem g_ixD (h : At m N sc k X) {d : Addr} {y r : V} (g : DGet H d y (some r)) (q : Q r H) : gIx X (.ref d) y H Q := fun value slice pins s σ v u I rx ry hs => by
  obtain rfl : v = Value.ref d := rx
  have hT := dict_typeIs I g
  have h2 := d_getItem (E := X.xe) (A := X.A) h.hu I g ry (Q := EP X pins σ Q) fun w' s3 I3 rw' => ⟨r, H, I3, rw', q⟩
  unfold subscriptTail
  refine wpAny_bind ?_
  rw [getitemInPython_of_ne hT.not_modules]
  refine wpAny_bind (wpAny_specialOf hT PySem.F.slot_dict_getitem.lookup ?_)
  have fin : wpAny (model X.prog X.w) X.A (subscripted slice false (.ref d) u) (fun r s3 => wpAny (model X.prog X.w) X.A (letTemporaryGo value (.ref d) r >>= fun _ => pure r) (EP X pins σ Q) X.xe s3) X.xe s := by
    rw [hs]
    exact wpAny_operating (wpAny_mono h2 (fun r s3 h3 => wpAny_bind (wpAny_letTemporaryGo (wpAny_pure h3))) fun _ _ x => x)
  first
    | exact wpAny_pure (wpAny_bind fin)
    | exact wpAny_bind (wpAny_pure (wpAny_bind fin))
    | exact wpAny_bind fin
theorem g_notInD (h : At m N sc k X) {d : Addr} {kvs : List (Key × V)} {z : Str} (hd : H d = some (.dK kvs)) (q : Q (.bl (!(valV kvs (.inr z)).isSome)) H) : gOp X (compareOp .NotIn) (.str z) (.ref d) H Q := by
  intro pins s σ v u I rx ry
  obtain rfl : u = Value.ref d := ry
  have hu := h.hu
  exact d_notIn hu I (DGet.k (k := .inr z) hd) rx fun s3 I3 => ⟨.bl _, _, I3, rfl, q⟩
theorem g_inD (h : At m N sc k X) {d : Addr} {kvs : List (Key × V)} {z : Str} (hd : H d = some (.dK kvs)) (q : Q (.bl (valV kvs (.inr z)).isSome) H) : gOp X (compareOp .In) (.str z) (.ref d) H Q := by
  intro pins s σ v u I rx ry
  obtain rfl : u = Value.ref d := ry
  have hu := h.hu
  exact d_in hu I (DGet.k (k := .inr z) hd) rx fun s3 I3 => ⟨.bl _, _, I3, rfl, q⟩
theorem s_dput (h : At m N sc k X) {ix : Expr} (q : wE X e σ H fun v H1 => wE X o σ H1 fun x H2 => wE X ix σ H2 fun y H3 => ∃ a H4, x = .ref a ∧ DPut H3 a y v H4 ∧ nx σ H4)
    (hs : swapsWith e (some (.Subscript o ix p1)) pos.line X.env = pure false := by with_unfolding_all rfl) : wS X (.Assign [.Subscript o ix p1] e pos) ⟨nx, rt, bk, ct⟩ σ H := by
  refine toS (ps_dput h.hu cE cE cE hs) ?_
  exact wE.mono q fun v H1 q1 => wE.mono q1 fun x H2 q2 => wE.mono q2 fun y H3 q3 => q3
theorem g_dictD (h : At m N sc k X) {d : Addr} {kvs : List (Key × V)} (hd : H d = some (.dK kvs)) (q : ∀ p, H p = none → Q (.ref p) (upd H p (.dK kvs))) : gCall X (.type "dict") [.ref d] H Q := ⟨_, call_dictD, d, kvs, rfl, .inl hd, q⟩
theorem g_dictP (h : At m N sc k X) {l : Addr} {ps : List Addr} {kvs : List (Key × V)} (hl : SqL m.K H l (ps.map V.ref)) (hp : Paired (fun p kv => SqT m.K H p [kV kv.1, kv.2]) ps kvs) (q : ∀ p, H p = none → Q (.ref p) (upd H p (.dK (mergeK [] kvs)))) : gCall X (.type "dict") [.ref l] H Q :=
  ⟨_, call_dictP h.calm, l, ps, kvs, rfl, by rw [h.kk]; exact hl, by rw [h.kk]; exact hp, q⟩
theorem g_sortedD (h : At m N sc k X) {d : Addr} {kvs : List (Key × V)} {ks : List Str} (hd : H d = some (.dK kvs)) (hk : kvs.map (·.1) = ks.map Sum.inr) (hl : ks.length < 64) (q : ∀ ys p, ys.Perm ks → sortedS ys = true → H p = none → Q (.ref p) (upd H p (.lst (ys.map V.str)))) : gCall X (.builtin "sorted") [.ref d] H Q :=
  ⟨_, call_sortedD h.calm, d, kvs, ks, rfl, .inl hd, hk, hl, q⟩
theorem g_sortedI (h : At m N sc k X) {l : Addr} {ns : List Int} (hl : SqL m.K H l (ns.map V.int)) (q : ∀ (ns' : List Int) (p : Addr), ns'.Perm ns → ns'.Pairwise (· ≤ ·) → H p = none → Q (.ref p) (upd H p (.lst (ns'.map V.int)))) : gCall X (.builtin "sorted") [.ref l] H Q :=
  ⟨_, cr_sortedI, l, ns, rfl, by rw [h.kk]; exact hl, q⟩
theorem g_sortedS (h : At m N sc k X) {l : Addr} {xs : List Str} (hl : SqL m.K H l (xs.map V.str)) (h64 : xs.length < 64) (q : ∀ (ys : List Str) (p : Addr), ys.Perm xs → sortedS ys = true → H p = none → Q (.ref p) (upd H p (.lst (ys.map V.str)))) : gCall X (.builtin "sorted") [.ref l] H Q :=
  ⟨_, cr_sortedS, l, xs, rfl, by rw [h.kk]; exact hl, h64, q⟩
end
theorem ltCps_total {a b : Str} (h1 : ltCps a.cps.toList b.cps.toList = false) (h2 : ltCps b.cps.toList a.cps.toList = false) : a = b := by
  rw [ltCps_eq, decide_eq_false_iff_not] at h1 h2
  have e : a.cps.toList = b.cps.toList := List.le_antisymm (List.not_lt.mp h2) (List.not_lt.mp h1)
  cases a
  cases b
  have e2 := Array.toList_inj.mp e
  simp only at e2
  rw [e2]
theorem rising_pw : ∀ (l : List Str) (p : Str), risingS p l = true → (p :: l).Pairwise (fun a b => ltCps b.cps.toList a.cps.toList = false)
  | [], p, _ => List.pairwise_singleton _ _
  | x :: r, p, h => by
    have h' : (!ltCps x.cps.toList p.cps.toList && risingS x r) = true := h
    rw [Bool.and_eq_true, Bool.not_eq_true'] at h'
    have ih := rising_pw r x h'.2
    refine List.pairwise_cons.mpr ⟨fun y hy => ?_, ih⟩
    rcases List.mem_cons.mp hy with e | e
    · rw [e]; exact h'.1
    · have h2 := List.rel_of_pairwise_cons ih e
      have h1 := h'.1
      rw [ltCps_eq, decide_eq_false_iff_not] at h1 h2 ⊢
      exact List.not_lt.mpr (List.le_trans (List.not_lt.mp h1) (List.not_lt.mp h2))
theorem sorted_pw : ∀ (l : List Str), sortedS l = true → l.Pairwise (fun a b => ltCps b.cps.toList a.cps.toList = false)
  | [], _ => List.Pairwise.nil
  | x :: r, h => rising_pw r x h
/-- sorted lists of the same texts are one list -/
theorem sorted_same {l r : List Str} (p : l.Perm r) (h1 : sortedS l = true) (h2 : sortedS r = true) : l = r :=
  p.eq_of_pairwise (le := fun a b => ltCps b.cps.toList a.cps.toList = false) (fun a b _ _ x y => ltCps_total y x) (sorted_pw l h1) (sorted_pw r h2)
theorem perm_nodup {l r : List Str} (n1 : l.Nodup) (n2 : r.Nodup) (h : ∀ y, y ∈ l ↔ y ∈ r) : l.Perm r := (List.perm_ext_iff_of_nodup n1 n2).mpr h
end Vf
set_option maxRecDepth 100000
set_option maxHeartbeats 4000000
/-! Nel: != of two lists whose items are equal at any depth, dicts among them. Own work. -/
namespace Vq
open PySem PySem.SeqAt
open AutoSeq1 (wpAny_loadPart')
open MeetsSeq MeetsSeq2 MeetsSeq3 SeqRoads2
section
variable {prog : Program} {w : World}
theorem ne_loop (l b : Addr) (xs ys : Array Value) (n n2 : Nat) (dd dd2 : Option Addr) (sl sl2 : Array (Option Value)) (sz : xs.size = ys.size) (k : Nat) :
    ∀ i : Nat, xs.size - i = k → MeetsIn prog w (Builtin.«list.__eq__.loop» ⟨[.ref l, .ref b, rawInt i, rawInt 3], []⟩)
      (fun A R s => s.heap.get? l = some { cls := .type "list", dict := dd, data := .seq xs n, slots := sl } ∧ s.heap.get? b = some { cls := .type "list", dict := dd2, data := .seq ys n2, slots := sl2 } ∧
        (∀ j (h1 : j < xs.size) (h2 : j < ys.size), EqP prog w A.in1 s xs[j] ys[j] true) ∧ R (.ok (.ret (.bool false))) s) := by
  induction k with
  | zero =>
    rintro i hk A R ⟨hp, g, d, tk, os⟩ ⟨hl, hb, he, h⟩
    wp_walk using wpAny_loadPart' hl, wpAny_loadPart' hb
    rw [show xs[((i : Nat) : Int).toNat]? = none from by simp; omega, show ys[((i : Nat) : Int).toNat]? = none from by simp; omega]
    wp_walk using wpAny_loadPart' hl, wpAny_loadPart' hb
    show R (.ok (.ret (.bool (xs.size != ys.size)))) _
    rw [show (xs.size != ys.size) = false from by simp [sz]]
    exact h
  | succ k ih =>
    rintro i hk A R ⟨hp, g, d, tk, os⟩ ⟨hl, hb, he, h⟩
    wp_walk using wpAny_loadPart' hl, wpAny_loadPart' hb
    have l1 : i < xs.size := by omega
    have l2 : i < ys.size := by omega
    rw [show xs[((i : Nat) : Int).toNat]? = some xs[i] from by simp [l1], show ys[((i : Nat) : Int).toNat]? = some ys[i] from by simp [l2]]
    refine wpAny_bind (he i l1 l2 _ _ ?_)
    wp_walk
    rw [show ((i : Int) + 1) = ((i + 1 : Nat) : Int) from by push_cast; rfl]
    exact ⟨plainId_quiet plain_eq_loop _, codeAny_builtin entry_eq_loop (by
      rw [Around.under_plainId plain_eq_loop _]
      exact ih (i + 1) (by omega) A R _ ⟨hl, hb, he, h⟩)⟩
theorem list_ne (l b : Addr) (xs ys : Array Value) (n n2 : Nat) (dd dd2 : Option Addr) (sl sl2 : Array (Option Value)) (sz : xs.size = ys.size) :
    MeetsIn prog w (Builtin.«list.__ne__» ⟨[.ref l, .ref b], []⟩)
      (fun A R s => s.heap.get? l = some { cls := .type "list", dict := dd, data := .seq xs n, slots := sl } ∧ s.heap.get? b = some { cls := .type "list", dict := dd2, data := .seq ys n2, slots := sl2 } ∧
        (∀ j (h1 : j < xs.size) (h2 : j < ys.size), EqP prog w A.in1 s xs[j] ys[j] true) ∧ R (.ok (.ret (.bool false))) s) := by
  rintro A R ⟨hp, g, d, tk, os⟩ ⟨hl, hb, he, h⟩
  have f3 := AutoSeq1.sub_list_list
  have hne : ¬ (xs.size != ys.size) = true := by simp [sz]
  wp_walk using wpAny_loadPart' hl, wpAny_loadPart' hb
  exact ⟨plainId_quiet plain_eq_loop _, codeAny_builtin entry_eq_loop (by
    rw [Around.under_plainId plain_eq_loop _]
    exact ne_loop l b xs ys n n2 dd dd2 sl sl2 sz _ 0 rfl A R _ ⟨hl, hb, he, h⟩)⟩
theorem ne_lists {A : Around} {s : Shared} {l b : Addr} {xs ys : Array Value} (hl : s.heap.IsList l xs) (hb : s.heap.IsList b ys) (sz : xs.size = ys.size) (hu : A.units < cLine)
    (he : ∀ j (h1 : j < xs.size) (h2 : j < ys.size), EqP prog w A.in1 s xs[j] ys[j] true) (E Q : Value → Shared → Prop) (h : Q (.bool false) s) : wpAny (model prog w) A (richCompare .NotEq (.ref l) (.ref b)) Q E s := by
  obtain ⟨⟨c1, d1, a1, s1⟩, o1, e1, n, f1⟩ := id hl
  obtain ⟨⟨c2, d2, a2, s2⟩, o2, e2, n2, f2⟩ := id hb
  simp only at e1 f1 e2 f2
  subst e1 f1 e2 f2
  have ta : s.TypeIs (.ref l) "list" := ⟨_, o1, rfl⟩
  exact wpAny_richCompare_same_room (op := .NotEq) ta ⟨_, o2, rfl⟩ F.slot_list_ne (call_meetsIn F.slot_list_ne ta F.entry_list_ne (F.args_list_ne_2 _ _) (list_ne l b xs ys n n2 d1 d2 s1 s2 sz)
    ⟨o1, o2, he, show Value.bool false ≠ Value.notImplemented ∧ Q (.bool false) s from ⟨(fun x => nomatch x), h⟩⟩) hu
end
end Vq
namespace Vf
open PySem PySem.Spec PyProof.Rows L2 LamX
/-- xs != ys, lists of equal items -/
theorem g_neLV {m : Md} {N : List Str} {sc : Scope} {k n : Nat} {X : Cx} {H : Hp} {Q : VK} (h : At m N sc k X) {a b : Addr} {xs ys : List V} (ha : SqL m.K H a xs) (hb : SqL m.K H b ys) (hn : n ≤ 60) (hp : Paired (EqV m.K H n) xs ys) (q : Q (.bl false) H) : gOp X (compareOp .NotEq) (.ref a) (.ref b) H Q := fun pins s σ v u I rx ry => by
  cases rx
  cases ry
  have hu := h.room.un
  obtain ⟨us, r1, p1, _⟩ := I.list (by rw [h.kk]; exact ha)
  obtain ⟨ws, r2, p2, _⟩ := I.list (by rw [h.kk]; exact hb)
  have sz : us.toArray.size = ws.toArray.size := by
    rw [List.size_toArray, List.size_toArray, ← r1.length, ← r2.length]
    exact Paired.length hp
  refine Vq.ne_lists p1.isList p2.isList sz (by omega) (fun j h1 h2 => ?_) _ _ ⟨.bl false, H, I, rfl, q⟩
  have key := items_run (P := X.prog) (w := X.w) (A := X.A.in1) (s := s) (F := EqV X.K H n) (fun x y v u e rx ry => eqV_run I n X.A.in1 (by show X.A.units + 1 + n < cLine; omega) x y v u e rx ry) (by rw [h.kk]; exact hp) r1 r2 j (by simpa using h1) (by simpa using h2)
  simpa using key
section
variable {m : Md} {N : List Str} {sc scope : Scope} {i j k : Nat} {X : Cx} {a b c e e2 o elt : Expr} {es : List Expr} {σ : L2.St} {H : Hp} {Q : VK} {pos p p1 p2 p3 tpos : Pos} {x y : Str} {body : List Stmt} {nx : L2.St → Hp → Prop} {rt : VK} {bk ct : L2.St → Hp → Prop} {k1 k2 v1 v2 : Expr}
/-- {k: v} -/
theorem w_disp1 (q : ∀ p, H p = none → wE X k1 σ (upd H p (.dK [])) fun x H1 => wE X v1 σ H1 fun v H2 => H2 p = some (.dK []) ∧ ∃ z : Str, x = .str z ∧ Q (.ref p) (upd H2 p (.dK [(.inr z, v)]))) : wE X (.Dict [some k1] [v1] pos) σ H Q := by
  refine toE (pe_disp (pps_cons (cE (X := X) (e := k1)) (cE (X := X) (e := v1)) pps_nil) rfl rfl (by simp) (by simp)) ?_
  intro p hp
  refine wE.mono (q p hp) fun x H1 q1 => wE.mono q1 fun v H2 ⟨h2, z, ex, q2⟩ => ?_
  subst ex
  exact ⟨h2, [(.inr z, v)], rfl, by simp, q2⟩
/-- {k: v, l: w}, two different texts -/
theorem w_disp2 (q : ∀ p, H p = none → wE X k1 σ (upd H p (.dK [])) fun x H1 => wE X v1 σ H1 fun v H2 => wE X k2 σ H2 fun y H3 => wE X v2 σ H3 fun w H4 => H4 p = some (.dK []) ∧ ∃ z1 z2 : Str, x = .str z1 ∧ y = .str z2 ∧ z1 ≠ z2 ∧ Q (.ref p) (upd H4 p (.dK [(.inr z1, v), (.inr z2, w)]))) : wE X (.Dict [some k1, some k2] [v1, v2] pos) σ H Q := by
  refine toE (pe_disp (pps_cons (cE (X := X) (e := k1)) (cE (X := X) (e := v1)) (pps_cons (cE (X := X) (e := k2)) (cE (X := X) (e := v2)) pps_nil)) rfl rfl (by simp) (by simp)) ?_
  intro p hp
  refine wE.mono (q p hp) fun x H1 q1 => wE.mono q1 fun v H2 q2 => wE.mono q2 fun y H3 q3 => wE.mono q3 fun w H4 ⟨h4, z1, z2, ex, ey, ne, q4⟩ => ?_
  subst ex
  subst ey
  refine ⟨h4, [(.inr z1, v), (.inr z2, w)], rfl, by simp, ?_⟩
  have e : mergeK [] [((.inr z1 : Key), v), (.inr z2, w)] = [(.inr z1, v), (.inr z2, w)] := by
    have n2 : (Sum.inr z1 : Key) ≠ .inr z2 := fun h => ne (by injection h)
    simp [mergeK, putK, n2]
  rw [e]
  exact q4
/-- y = [elt for x in range(a, b)] -/
theorem s_lcR2 {l : Nat} {y0 : Str} {py spos : Pos} (h : At m N sc k X) (hm : m.mg "range" = none) (hgl : sc.names.lookup ("range" : Str) = some .globalImplicit) (nl : NL N sc l y0) (ok : blkC N sc scope [(x, i)] = true) (n : NL N (relS scope sc) i x)
    (q : wA X [a, b] σ H fun vs H1 => ∃ z w : Int, vs = [.int z, .int w] ∧ (-(2 ^ 62) ≤ z ∧ z < 2 ^ 62 ∧ -(2 ^ 62) ≤ w ∧ w < 2 ^ 62) ∧ ∀ D, H1 D = none → ∃ Pv : Nat → Hp → Prop, Pv 0 (upd H1 D (.lst [])) ∧
      (∀ j H, j < (w - z).toNat → Pv j H → ∀ X', At m N (relS scope sc) k X' → wE X' elt (σ.set i (some (.int (z + j)))) H (App D (Pv (j + 1)))) ∧ ∀ H, Pv (w - z).toNat H → nx (σ.set l (some (.ref D))) H)
    (hst : starEach [a, b] X.env = [(false, eval a X.env), (false, eval b X.env)] := by with_unfolding_all rfl) (hst2 : starEach [b] X.env = [(false, eval b X.env)] := by with_unfolding_all rfl) (hs : ∀ x, foldedSetIterable (.Call (.Name "range" p2) [a, b] [] p3) X.env x = pure x := by with_unfolding_all (intro _; rfl)) (hk : sc.kind = .function := by with_unfolding_all rfl) (hl0 : (py.line == pos.line) = true := by with_unfolding_all rfl) (ha0 : (scope.names.any fun (n, k) => n == y0 && (k == .local || k == .cell)) = false := by with_unfolding_all (decide +kernel)) : wS X (.Assign [.Name y0 py] (.ListComp elt [⟨.Name x p1, .Call (.Name "range" p2) [a, b] [] p3, [], 0⟩] scope pos) spos) ⟨nx, rt, bk, ct⟩ σ H := by
  refine toS (ps_setLc (i := l) (y := y0) (py := py) (own := [(x, i)]) (g := gName i) (tt := tYes) (te := inBlk m N (relS scope sc) k elt) h.calm (by rw [h.nn]; exact h.nd) (by rw [h.nn]; exact nl.ix) (by rw [h.ss]; exact nl.loc) (sw_true (by rw [h.ss]; exact hk) (by rw [h.ss]; exact nl.loc) hl0 ha0) (pi_range2 (h.gl hgl) (by rw [h.mm]; exact hm) (cA (es := [a, b])) hst hst2) (by rw [h.nn, h.ss]; exact blkOk_by ok) (fun s H C cl fp => pg_nl (blk_at h s H C cl fp) n) (fun _ _ _ _ _ => pts_nil) (fun s H C cl fp => blk_pe h s H C cl fp) hs) ?_
  unfold wA at q ⊢
  refine fun pos pins s I => wpAny_mono (q pos pins s I) (fun v s' z => ?_) fun _ _ z => z
  obtain ⟨vs, H1, I1, r1, z, w, ev, hb, go⟩ := z
  refine ⟨vs, H1, I1, r1, z, w, ev, hb, fun D hD => ?_⟩
  obtain ⟨Pv, p0, turn, fin⟩ := go D hD
  refine lc_range (lo := z) (n := (w - z).toNat) (g := gName i) (tt := tYes) (te := inBlk m N (relS scope sc) k elt) (vs := [i]) (σ := σ) Pv p0 (fun j H hj hp => ?_) fin
  refine ⟨by rw [wipe1]; simp [wipe, List.set_set], ?_⟩
  unfold tYes
  refine iteT fun X' hX' => ?_
  rw [set_wipe]
  exact turn j H hj hp X' hX'
end
end Vf
set_option maxRecDepth 100000
set_option maxHeartbeats 4000000
/-! Dci: comprehensions over the items of a dict. Own work. -/
namespace Vf
open PySem PySem.Spec PyProof.Rows L2 LamX
section
variable {m : Md} {N : List Str} {sc scope : Scope} {k i j : Nat} {X : Cx} {a b c e f o elt iter : Expr} {es : List Expr} {σ : L2.St} {H : Hp} {Q : VK} {pos p p1 p2 p3 p4 apos tpos : Pos} {x y : Str} {nx : L2.St → Hp → Prop} {rt : VK} {bk ct : L2.St → Hp → Prop}
/-- [elt for x, y in d.items()]: the pair is new each time -/
theorem w_lcDi {k1 : Nat} (h : At m N sc k X) (ok : blkC N sc scope [(x, i), (y, j)] = true) (n1 : NL N (relS scope sc) i x) (n2 : NL N (relS scope sc) j y)
    (q : ∃ (d : Addr) (kvs : List (Key × V)), H d = some (.dK kvs) ∧ ∀ od, wE X e σ (upd H d (.frz od (.dK kvs))) fun v H1 => v = .ref d ∧ H1 = upd H d (.frz od (.dK kvs)) ∧ ∀ D, H1 D = none → ∃ Pv : Nat → Hp → Prop, Pv 0 (upd H1 D (.lst [])) ∧ (∀ t H, t ≤ kvs.length → Pv t H → H d = some (.frz od (.dK kvs))) ∧
      (∀ t p T H, kvs[t]? = some p → Pv t H → H T = none → ∀ X', At m N (relS scope sc) k X' → wE X' elt ((σ.set i (some (kV p.1))).set j (some p.2)) (upd H T (.tup [kV p.1, p.2])) (App D (Pv (t + 1)))) ∧ ∀ H, Pv kvs.length H → Q (.ref D) (upd H d (.dK kvs)))
    (hbase : attributeBase e "items" X.env (eval e X.env) = eval e X.env := by with_unfolding_all rfl) (hline : (apos.endLine == p4.line) = true := by with_unfolding_all rfl)
    (hs : ∀ x, foldedSetIterable (.Call (.Attribute e "items" apos) [] [] p4) X.env x = pure x := by with_unfolding_all (intro _; rfl)) : wE X (.ListComp elt [⟨.Tuple [.Name x p1, .Name y p2] k1 p3, .Call (.Attribute e "items" apos) [] [] p4, [], 0⟩] scope pos) σ H Q := by
  refine toE (pe_lock (pe_lc (own := [(x, i), (y, j)]) (g := gTup X.K 2 (gCons (gName i) (gCons (gName j) gNil))) (tt := tYes) (te := inBlk m N (relS scope sc) k elt) h.calm (by rw [h.nn]; exact h.nd) (pi_items cE hbase hline) (by rw [h.nn, h.ss]; exact blkOk_by ok) (fun s H C cl fp => pg_tup (blk_at h s H C cl fp).calm (pgs_cons (pg_nl (blk_at h s H C cl fp) n1) (pgs_cons (pg_nl (blk_at h s H C cl fp) n2) pgs_nil (by with_unfolding_all rfl)) (by with_unfolding_all rfl)) (by with_unfolding_all rfl) (by with_unfolding_all rfl)) (fun _ _ _ _ _ => pts_nil) (fun s H C cl fp => blk_pe h s H C cl fp) hs)) ?_
  obtain ⟨d, kvs, hd, q⟩ := q
  refine ⟨d, .dK kvs, hd, trivial, fun od => ?_⟩
  refine wE.mono (q od) fun v H1 ⟨ev, eH, go⟩ => ?_
  refine ⟨d, od, kvs, ev, by rw [eH]; exact upd_same, fun D hD => ?_⟩
  obtain ⟨Pv, p0, st, turn, fin⟩ := go D hD
  refine lc_it walk_items (g := gTup X.K 2 (gCons (gName i) (gCons (gName j) gNil))) (tt := tYes) (te := inBlk m N (relS scope sc) k elt) (vs := [i, j]) (σ := σ) Pv p0 st (fun t z H H' ht hp y => ?_) fun H hp => ⟨st _ _ (Nat.le_refl _) hp, fin H hp⟩
  obtain ⟨T, u, w, rfl, hT, rfl, hu, hw⟩ := y
  obtain ⟨q1, h1, h2⟩ := Option.map_eq_some_iff.1 hu
  obtain ⟨q2, h3, h4⟩ := Option.map_eq_some_iff.1 hw
  rw [h1] at h3
  cases h3
  subst h2 h4
  refine ⟨T, [kV q1.1, q1.2], rfl, SqT.of upd_same, rfl, kV q1.1, [q1.2], rfl, q1.2, [], rfl, rfl, ?_⟩
  rw [set2_wipe]
  refine ⟨wipe2, ?_⟩
  unfold tYes
  exact iteT fun X' hX' => turn t q1 T H h1 hp hT X' hX'
end
/-- d != e, two dicts of the same keys and equal values -/
theorem g_neDK {m : Md} {N : List Str} {sc : Scope} {k n : Nat} {X : Cx} {H : Hp} {Q : VK} (h : At m N sc k X) {a b : Addr} {ks ls : List (Key × V)} (ha : H a = some (.dK ks)) (hb : H b = some (.dK ls)) (hn : n ≤ 60) (hl : ks.length = ls.length) (hp : ∀ p ∈ ks, ∃ u, valV ls p.1 = some u ∧ EqV m.K H n p.2 u) (q : Q (.bl false) H) : gOp X (compareOp .NotEq) (.ref a) (.ref b) H Q := fun pins s σ v u I rx ry => by
  cases rx
  cases ry
  have hu := h.room.un
  obtain ⟨_, ya, va, ra, da⟩ := (show ObjOk X.prog X.w H s.heap a (.dK ks) from I.hok a _ ha)
  obtain ⟨_, yb, vb, rb, db⟩ := (show ObjOk X.prog X.w H s.heap b (.dK ls) from I.hok b _ hb)
  have e : va.length = vb.length := by rw [← ra.length, ← rb.length]; exact hl
  have hits : PySem.W.KeqHitsP X.prog X.w X.A.in1 s vb va true := hits_run (F := EqV X.K H n) (fun x y v u e rx ry => eqV_run I n X.A.in1 (by show X.A.units + 1 + n < cLine; omega) x y v u e rx ry) rb ra (by rw [h.kk]; exact hp)
  refine wpAny_richCompare_same_room (op := .NotEq) da.typeIs db.typeIs PySem.F.slot_dict_ne (wpAny_call_entry PySem.F.slot_dict_ne da.typeIs PySem.F.entry_dict_ne ?_ (PySem.F.args_dict_ne_2 _ _)) (by omega)
  show wpAny _ _ (Builtin.Dict.dictSlotArgs "__ne__" ⟨[.ref a, .ref b], []⟩ >>= _) _ _ s
  refine wpAny_bind ?_
  unfold Builtin.Dict.dictSlotArgs
  refine wpAny_bind (wpAny_notOrdered_dict da.typeIs ?_)
  show wpAny _ _ (pure (Value.ref a, Value.ref b)) _ _ s
  refine wpAny_pure ?_
  refine wpAny_bind (wpAny_isInstance (T := "dict") db.typeIs PySem.F.sub_dict_dict ?_)
  simp only [Bool.not_true, Bool.false_eq_true, if_false]
  refine wpAny_bind (wpAny_pure (wpAny_bind (wpAny_pure ?_)))
  refine wpAny_bind (PySem.W.samePairsP (knd := mixKind X.prog X.w) (r := true) ya yb da db (fun _ => hits) ?_)
  rw [show (va.length == vb.length && true) = true from by rw [e]; simp]
  refine wpAny_pure ⟨_, rfl, ?_, ?_⟩
  · exact fun x => nomatch x
  · exact ⟨.bl false, H, I, rfl, q⟩
end Vf
set_option maxRecDepth 100000
set_option maxHeartbeats 4000000
/-! Frd: for over a dict's keys; comprehensions over tuples with a test. Own work. -/
namespace Vf
open PySem PySem.Spec PyProof.Rows L2 LamX
section
variable {m : Md} {N : List Str} {sc scope : Scope} {k i j : Nat} {X : Cx} {a b c e f o elt iter tg : Expr} {es : List Expr} {body : List Stmt} {σ : L2.St} {H : Hp} {Q : VK} {pos po p p1 p2 p3 p4 apos tpos : Pos} {x y : Str} {nx : L2.St → Hp → Prop} {rt : VK} {bk ct : L2.St → Hp → Prop} {g : TG}
/-- for x in d, d a dict that the body leaves as it is -/
theorem s_forDk (h : At m N sc k X) (hg : PG X tg g)
    (q : ∃ (d : Addr) (kvs : List (Key × V)), H d = some (.dK kvs) ∧ ∀ od, wE X e σ (upd H d (.frz od (.dK kvs))) fun v H1 => v = .ref d ∧ H1 = upd H d (.frz od (.dK kvs)) ∧ ∃ Pv : Nat → L2.St → Hp → Prop, Pv 0 σ H1 ∧ (∀ t σ H, t ≤ kvs.length → Pv t σ H → H d = some (.frz od (.dK kvs))) ∧
      (∀ t p σ H, kvs[t]? = some p → Pv t σ H → g (kV p.1) σ H fun σ2 H2 => wB X body ⟨Pv (t + 1), fun v H' => H' d = some (.frz od (.dK kvs)) ∧ rt v (upd H' d (.dK kvs)), fun σ' H' => H' d = some (.frz od (.dK kvs)) ∧ nx σ' (upd H' d (.dK kvs)), Pv (t + 1)⟩ σ2 H2) ∧ ∀ σ H, Pv kvs.length σ H → nx σ (upd H d (.dK kvs)))
    (hf : ∀ x, foldedSetIterable e X.env x = pure x := by with_unfolding_all (intro _; rfl)) : wS X (.For tg e body [] po) ⟨nx, rt, bk, ct⟩ σ H := by
  refine toS (ps_lock (ps_for h.pass h.calm (pi_keys cE) hg cB hf)) ?_
  obtain ⟨d, kvs, hd, q⟩ := q
  refine ⟨d, .dK kvs, hd, trivial, fun od => ?_⟩
  refine wE.mono (q od) fun v H1 ⟨ev, eH, Pv, p0, st, turn, fin⟩ => ?_
  refine ⟨d, od, ev, .inl ⟨kvs, by rw [eH]; exact upd_same, ?_⟩⟩
  refine for_it walk_keys Pv p0 st (fun t z σ H H' ht hp y => ?_) fun σ H hp => ⟨st _ _ _ (Nat.le_refl _) hp, fin σ H hp⟩
  obtain ⟨rfl, kk, v, hk, rfl⟩ := y
  exact turn t (kk, v) σ H' hk hp
/-- [elt for x in t if c], t a tuple -/
theorem w_lcTi (h : At m N sc k X) (ok : blkC N sc scope [(x, i)] = true) (n : NL N (relS scope sc) i x)
    (q : wE X iter σ H fun v H1 => ∃ (a : Addr) (xs : List V), v = .ref a ∧ SqT m.K H1 a xs ∧ ∀ D, H1 D = none → ∃ Pv : Nat → Hp → Prop, Pv 0 (upd H1 D (.lst [])) ∧ (∀ j H, j ≤ xs.length → Pv j H → SqT m.K H a xs) ∧
      (∀ j x H, xs[j]? = some x → Pv j H → ∀ X', At m N (relS scope sc) k X' → wT X' c (σ.set i (some x)) H fun b H3 => if b = true then (∀ X', At m N (relS scope sc) k X' → wE X' elt (σ.set i (some x)) H3 (App D (Pv (j + 1)))) else Pv (j + 1) H3) ∧
      ∀ H, Pv xs.length H → Q (.ref D) H)
    (hs : ∀ x, foldedSetIterable iter X.env x = pure x := by with_unfolding_all (intro _; rfl)) : wE X (.ListComp elt [⟨.Name x p1, iter, [c], 0⟩] scope pos) σ H Q := by
  refine toE (pe_lc (own := [(x, i)]) (g := gName i) (tt := inBlkT m N (relS scope sc) k c) (te := inBlk m N (relS scope sc) k elt) h.calm (by rw [h.nn]; exact h.nd) (pi_tup cE) (by rw [h.nn, h.ss]; exact blkOk_by ok) (fun s H C cl fp => pg_nl (blk_at h s H C cl fp) n) (fun s H C cl fp => pts_one (blk_pt h s H C cl fp)) (fun s H C cl fp => blk_pe h s H C cl fp) hs) ?_
  refine wE.mono q fun v H1 ⟨a, xs, ea, hl, go⟩ => ⟨a, ea, ⟨xs, by rw [h.kk]; exact hl⟩, fun D hD => ?_⟩
  obtain ⟨Pv, p0, st, turn, fin⟩ := go D hD
  refine lc_tup (K := X.K) (a := a) (xs := xs) (g := gName i) (tt := inBlkT m N (relS scope sc) k c) (te := inBlk m N (relS scope sc) k elt) (vs := [i]) (σ := σ) Pv p0 (fun j H hj hp => by rw [h.kk]; exact st j H hj hp) (fun j z H hz hp => ?_) fin
  refine ⟨by rw [wipe1]; simp [wipe, List.set_set], fun X' hX' => ?_⟩
  have t := turn j z H hz hp X' hX'
  rw [set_wipe]
  exact t
/-- [elt for x in t], t a tuple -/
theorem w_lcT (h : At m N sc k X) (ok : blkC N sc scope [(x, i)] = true) (n : NL N (relS scope sc) i x)
    (q : wE X iter σ H fun v H1 => ∃ (a : Addr) (xs : List V), v = .ref a ∧ SqT m.K H1 a xs ∧ ∀ D, H1 D = none → ∃ Pv : Nat → Hp → Prop, Pv 0 (upd H1 D (.lst [])) ∧ (∀ j H, j ≤ xs.length → Pv j H → SqT m.K H a xs) ∧
      (∀ j x H, xs[j]? = some x → Pv j H → ∀ X', At m N (relS scope sc) k X' → wE X' elt (σ.set i (some x)) H (App D (Pv (j + 1)))) ∧ ∀ H, Pv xs.length H → Q (.ref D) H)
    (hs : ∀ x, foldedSetIterable iter X.env x = pure x := by with_unfolding_all (intro _; rfl)) : wE X (.ListComp elt [⟨.Name x p1, iter, [], 0⟩] scope pos) σ H Q := by
  refine toE (pe_lc (own := [(x, i)]) (g := gName i) (tt := tYes) (te := inBlk m N (relS scope sc) k elt) h.calm (by rw [h.nn]; exact h.nd) (pi_tup cE) (by rw [h.nn, h.ss]; exact blkOk_by ok) (fun s H C cl fp => pg_nl (blk_at h s H C cl fp) n) (fun _ _ _ _ _ => pts_nil) (fun s H C cl fp => blk_pe h s H C cl fp) hs) ?_
  refine wE.mono q fun v H1 ⟨a, xs, ea, hl, go⟩ => ⟨a, ea, ⟨xs, by rw [h.kk]; exact hl⟩, fun D hD => ?_⟩
  obtain ⟨Pv, p0, st, turn, fin⟩ := go D hD
  refine lc_tup (K := X.K) (a := a) (xs := xs) (g := gName i) (tt := tYes) (te := inBlk m N (relS scope sc) k elt) (vs := [i]) (σ := σ) Pv p0 (fun j H hj hp => by rw [h.kk]; exact st j H hj hp) (fun j z H hz hp => ?_) fin
  refine ⟨by rw [wipe1]; simp [wipe, List.set_set], ?_⟩
  unfold tYes
  refine iteT fun X' hX' => ?_
  rw [set_wipe]
  exact turn j z H hz hp X' hX'
end
end Vf
set_option maxRecDepth 100000
set_option maxHeartbeats 4000000
/-! Dtp: dicts whose keys are tuples: dict(list of pairs), look-ups, len; sets of tuples of numbers, len. Own work. -/
namespace Vf
open PySem PySem.Spec PyProof.Rows L2 LamX
/-- the tuples that are keys and stand where H says -/
def kndH (P : Program) (w : World) (H : Hp) : HeapKind P w (List Key) where
  is := fun h k a => (tupleKind (mixKind P w)).is h k a ∧ H a = some (.tup (k.map kV))
  hash := (tupleKind (mixKind P w)).hash
  draws := (tupleKind (mixKind P w)).draws
  room := (tupleKind (mixKind P w)).room
  inj := fun x y => (tupleKind (mixKind P w)).inj x.1 y.1
  keeps := fun x e d sb => ⟨(tupleKind (mixKind P w)).keeps x.1 e d sb, x.2⟩
  pyHash := fun r x q => (tupleKind (mixKind P w)).pyHash r x.1 q
  eqBool := fun r x y q => (tupleKind (mixKind P w)).eqBool r x.1 y.1 q
  quiet := fun x q => (tupleKind (mixKind P w)).quiet x.1 q
section
variable {m : Md} {N : List Str} {sc : Scope} {k : Nat} {X : Cx} {H : Hp} {Q : VK}
/-- len of a set of tuples -/
theorem cr_lenT : CallR X (.builtin "len") (fun vs H Q => ∃ (a : Addr) (L : List (Addr × List Int)), vs = [V.ref a] ∧ H a = some (SetTO X.prog X.w a L) ∧ ((L.map (·.2)).Nodup → Q (.int L.length) H)) := by
  intro pins s σ H vs us Q I r h
  obtain ⟨a, L, rfl, ha, q⟩ := h
  obtain ⟨es, ep, t, ⟨o, ho, xo, dd⟩, el, tb, nd, _, _, mk, lt⟩ := ((I.hok a _ ha).1 : SetT0 X.prog X.w s.heap a L).ex
  rw [Vals.ref1 r]
  have sz : es.size = L.length := by
    rw [← Array.length_toList, el]
    simp [rowsOf]
  have fl : t.fits es.size = true := by
    have e1 := tb.sz
    have e2 := tb.dm
    rw [List.length_map] at e1
    simp [SetTable.fits, SetTable.fill, e1, e2, sz]
    omega
  refine call_len_set ho xo dd fl (by rw [sz]; omega) ⟨.int L.length, H, I.tok _, ⟨_, by rw [sz]⟩, q nd⟩
theorem g_setT (h : At m N sc k X) {l : Addr} {ks : List (Addr × List Int)} (hl : SqL m.K H l (ks.map fun p => V.ref p.1)) (hk : ∀ p ∈ ks, SqT m.K H p.1 (p.2.map V.int)) (h64 : ks.length < 64)
    (q : ∀ a L, H a = none → (∀ p ∈ L, p ∈ ks) → (∀ p ∈ ks, p.2 ∈ L.map (·.2)) → Q (.ref a) (upd H a (SetTO m.P m.w a L))) : gCall X (.type "set") [.ref l] H Q :=
  ⟨_, cr_setOfT h.calm (by have := h.room.un; omega), l, ks, rfl, by rw [h.kk]; exact hl, by rw [h.kk]; exact hk, h64, by rw [h.pp, h.ww]; exact q⟩
theorem g_lenST (h : At m N sc k X) {a : Addr} {L : List (Addr × List Int)} (ha : H a = some (SetTO m.P m.w a L)) (q : (L.map (·.2)).Nodup → Q (.int L.length) H) : gCall X (.builtin "len") [.ref a] H Q :=
  ⟨_, cr_lenT, a, L, rfl, by rw [h.pp, h.ww]; exact ha, q⟩
end
theorem kndH_stays {P : Program} {w : World} {H : Hp} : (kndH P w H).Stays := ⟨fun f x => ⟨tupleKind_stays.stays f x.1, x.2⟩, fun x => tupleKind_stays.tuple x.1⟩
section
variable {m : Md} {N : List Str} {sc : Scope} {k : Nat} {X : Cx} {H : Hp} {Q : VK} {pins : List (Addr × Obj)} {σ : L2.St} {s : Shared}
theorem pairs_have (I : Inv X pins σ H s) : ∀ {ps : List Addr} {ks : List (Addr × List Key × V)}, Paired (fun p kv => SqT X.K H p [.ref kv.1, kv.2.2] ∧ H kv.1 = some (.tup (kv.2.1.map kV))) ps ks →
    ∃ xs : List (List Key × Addr × Value), KT H (ks.map (·.2)) xs ∧ Paired (fun p x => s.heap.IsTuple p #[Value.ref x.2.1, x.2.2]) ps xs ∧ xs.map (·.1) = ks.map (·.2.1) := by
  intro ps ks h
  induction h with
  | nil => exact ⟨[], .nil, .nil, rfl⟩
  | @cons p kv ps ks h _ ih =>
    obtain ⟨xs, h1, h2, h3⟩ := ih
    obtain ⟨its, rv, it, _⟩ := I.tuple h.1
    cases rv with
    | cons r1 r2 =>
      cases r2 with
      | cons r3 r4 =>
        cases r4
        cases r1
        exact ⟨(kv.2.1, kv.1, _) :: xs, .cons ⟨rfl, h.2, r3⟩ h1, .cons it h2, by rw [List.map_cons, List.map_cons, h3]⟩
theorem paired_at {α β : Type} {F : α → β → Prop} {as : List α} {bs : List β} (p : Paired F as bs) : ∀ (j : Nat) (b : β), bs[j]? = some b → ∃ a, as[j]? = some a ∧ F a b := by
  induction p with
  | nil => intro j b h; simp at h
  | cons h _ ih =>
    intro j b e
    cases j with
    | zero => exact ⟨_, rfl, by rw [List.getElem?_cons_zero] at e; cases e; exact h⟩
    | succ j => exact ih j b e
theorem paired_len {α β : Type} {F : α → β → Prop} {as : List α} {bs : List β} (p : Paired F as bs) : as.length = bs.length := by
  induction p with
  | nil => rfl
  | cons _ _ ih => simp [ih]
theorem merged_new {K : Type} [DecidableEq K] : ∀ (kvs acc : List (K × Value)), ((acc ++ kvs).map (·.1)).Nodup → merged acc kvs = acc ++ kvs
  | [], acc, _ => by simp [merged]
  | x :: l, acc, h => by
    have e : stored acc x.1 x.2 = acc ++ [x] := by
      unfold stored
      rw [if_neg]
      intro c
      rw [List.any_eq_true] at c
      obtain ⟨y, hy, e⟩ := c
      rw [List.map_append, List.map_cons] at h
      have h2 := (List.nodup_append.mp h).2.2 y.1 (List.mem_map_of_mem hy) x.1 List.mem_cons_self
      exact h2 (of_decide_eq_true e)
    show merged (stored acc x.1 x.2) l = _
    rw [e, merged_new l (acc ++ [x]) (by rw [List.append_assoc]; exact h), List.append_assoc]
    rfl
/-- dict(a list of pairs whose firsts are tuples, all different) -/
theorem cr_dictPT (hc : X.calm = true) (hu : X.A.units + 2 < cLine) : CallR X (.type "dict") (fun vs H Q => ∃ (l : Addr) (ps : List Addr) (ks : List (Addr × List Key × V)), vs = [V.ref l] ∧ SqL X.K H l (ps.map V.ref) ∧ Paired (fun p kv => SqT X.K H p [.ref kv.1, kv.2.2] ∧ H kv.1 = some (.tup (kv.2.1.map kV))) ps ks ∧ (ks.map (·.2.1)).Nodup ∧
    ∀ p, H p = none → Q (.ref p) (upd H p (.dT (ks.map (·.2))))) := by
  intro pins s σ H vs us Q I r h
  obtain ⟨l, ps, ks, rfl, hl, pk, nd, q⟩ := h
  obtain ⟨its, rv, pl, hz⟩ := I.list hl
  rw [Vals.ref1 r]
  obtain ⟨xs, kt, px, ek⟩ := pairs_have I pk
  have l1 := paired_len px
  have l2 := paired_len rv
  rw [List.length_map] at l2 hz
  have at1 : ∀ j x, xs[j]? = some x → its[j]? = some (Value.ref (ps.getD j 0)) ∧ s.heap.IsTuple (ps.getD j 0) #[Value.ref x.2.1, x.2.2] := by
    intro j x hx
    obtain ⟨p, hp, hi⟩ := paired_at px j x hx
    have e : ps.getD j 0 = p := by rw [List.getD_eq_getElem?_getD, hp]; rfl
    rw [e]
    refine ⟨?_, hi⟩
    have lj : j < its.length := by rw [← l2]; exact (List.getElem?_eq_some_iff.1 hp).1
    obtain ⟨a, ha, ra⟩ := paired_at rv j its[j] (List.getElem?_eq_getElem lj)
    rw [List.getElem?_map, hp] at ha
    cases ha
    have ra' : its[j] = Value.ref p := ra
    rw [List.getElem?_eq_getElem lj, ra']
  refine dict_keyed (knd := kndH X.prog X.w H) (kvs := pairsH xs) kndH_stays (PairArg.list l its.toArray (fun j => ps.getD j 0) (xs.map fun x => (Value.ref x.2.1, x.2.2))) (I.ok.hd hc) (by show X.A.units + 1 + 1 < cLine; omega) ⟨pl, ?_, ?_⟩ ⟨xs, rfl, ⟨by simp, ?_⟩, ?_⟩ (fun h' st k b e => ⟨tupleKind_stays.stays (fun b o vs n e _ => st b o (by simp) e) e.1, e.2⟩) (by simp; omega) (fun h' tk D kp => ?_)
  · simp; omega
  · intro j k v hj
    rw [List.getElem?_map] at hj
    obtain ⟨x, hx, e⟩ := Option.map_eq_some_iff.1 hj
    cases e
    obtain ⟨a1, a2⟩ := at1 j x hx
    exact ⟨by simpa using a1, .inl a2⟩
  · intro i key v hr
    have hr' : (xs.map fun x => (Value.ref x.2.1, x.2.2))[i]? = some (key, v) := hr
    rw [List.getElem?_map] at hr'
    obtain ⟨x, hx, e⟩ := Option.map_eq_some_iff.1 hr'
    cases e
    exact ⟨x.1, x.2.1, hx, rfl⟩
  · intro x hx
    obtain ⟨j, hj⟩ := List.getElem?_of_mem hx
    obtain ⟨p, _, e1, e2, _⟩ := paired_at kt j x hj
    rw [e1] at e2
    exact ⟨key_of I.hok e2, e2⟩
  · have hn : H s.heap.objs.size = none := I.hok.fresh (Nat.le_refl _)
    have em : merged [] (pairsH xs) = pairsH xs := by
      rw [merged_new (pairsH xs) [] (by
        rw [List.nil_append]
        show ((xs.map _).map _).Nodup
        rw [List.map_map]
        exact ek ▸ nd)]
      rfl
    rw [em] at D
    obtain ⟨ys, ⟨o, es, ep, ho, xo, dd, el, kis, nd2⟩, ey⟩ := D
    refine ⟨.ref _, upd H s.heap.objs.size (.dT (ks.map (·.2))), I.laid (t' := tk) (fun b u e => kp b u (by simp) e) (Nat.le_refl _) ⟨?_, ?_, ys, ?_, o, es, ep, ho, xo, dd, el, nd2⟩, rfl, q _ hn⟩
    · rw [List.length_map, ← paired_len pk]; exact hz
    · have := I.big
      exact beq_eq_false_iff_ne.mpr (Nat.ne_of_gt this)
    · have hh : ∀ {kvs : List (List Key × V)} {xs ys : List (List Key × Addr × Value)}, KT H kvs xs → pairsH ys = pairsH xs → (∀ y ∈ ys, H y.2.1 = some (.tup (y.1.map kV))) → KT (upd H s.heap.objs.size (.dT (ks.map (·.2)))) kvs ys := by
        intro kvs xs ys k1
        induction k1 generalizing ys with
        | nil => intro e _; cases ys with
          | nil => exact .nil
          | cons _ _ => cases e
        | cons h _ ih =>
          intro e hy
          cases ys with
          | nil => cases e
          | cons y ys =>
            have e1 := List.cons.inj e
            have e2 := Prod.mk.inj e1.1
            refine .cons ⟨h.1.trans e2.1.symm, ?_, ?_⟩ (ih e1.2 fun z hz => hy z (List.mem_cons_of_mem _ hz))
            · have z := hy y List.mem_cons_self
              rw [upd_ne (fun c => by rw [c, hn] at z; cases z), z, h.1, e2.1]
            · rw [e2.2]; exact h.2.2
      exact hh kt ey fun y hy => (kis y hy).2
theorem g_dictPT (h : At m N sc k X) {l : Addr} {ps : List Addr} {ks : List (Addr × List Key × V)} (hl : SqL m.K H l (ps.map V.ref)) (hp : Paired (fun p kv => SqT m.K H p [.ref kv.1, kv.2.2] ∧ H kv.1 = some (.tup (kv.2.1.map kV))) ps ks) (nd : (ks.map (·.2.1)).Nodup) (q : ∀ p, H p = none → Q (.ref p) (upd H p (.dT (ks.map (·.2))))) : gCall X (.type "dict") [.ref l] H Q :=
  ⟨_, cr_dictPT h.calm (by have := h.room.un; omega), l, ps, ks, rfl, by rw [h.kk]; exact hl, by rw [h.kk]; exact hp, nd, q⟩
theorem g_lenDT (h : At m N sc k X) {d : Addr} {kvs : List (List Key × V)} (hd : H d = some (.dT kvs)) (q : Q (.int kvs.length) H) : gCall X (.builtin "len") [.ref d] H Q := ⟨_, L2.call_len_dT, d, kvs, rfl, hd, q⟩
/-- t in d -/
theorem g_inDT (h : At m N sc k X) {d b : Addr} {kvs : List (List Key × V)} {z : List Key} (hd : H d = some (.dT kvs)) (hb : H b = some (.tup (z.map kV))) (q : Q (.bl (valV kvs z).isSome) H) : gOp X (compareOp .In) (.ref b) (.ref d) H Q := by
  intro pins s σ v u I rx ry
  obtain rfl : u = Value.ref d := ry
  have hu := h.hu
  exact d_in hu I (DGet.t hd hb) rx fun s3 I3 => ⟨.bl _, _, I3, rfl, q⟩
end
section
variable {m : Md} {N : List Str} {sc : Scope} {k : Nat} {X : Cx} {e o : Expr} {σ : L2.St} {H : Hp} {Q : VK} {pos apos : Pos}
/-- d.get(e) -/
theorem w_dget1 (h : At m N sc k X) (q : wE X o σ H fun x H1 => ∃ a, x = .ref a ∧ IsD H1 a ∧ wE X e σ H1 fun y H2 => ∃ r, DGet H2 a y r ∧ Q (r.getD .non) H2)
    (hb : attributeBase o "get" X.env (eval o X.env) = eval o X.env := by with_unfolding_all rfl)
    (hf : ((backTo pos (starEach [e] X.env)).all (fun x => !x.1) && (backToKw pos (keywordEach [] X.env)).all (fun x => x.1.isSome) && decide (([e] : List Expr).length + ([] : List Keyword).length + (if ([] : List Keyword).isEmpty then 0 else 1) < 30)) = true := by with_unfolding_all rfl)
    (hl : (apos.endLine == pos.line) = true := by with_unfolding_all rfl) (ht : backTo pos (starEach [e] X.env) = [(false, eval e X.env)] := by with_unfolding_all rfl) : wE X (.Call (.Attribute o "get" apos) [e] [] pos) σ H Q := by
  refine toE (pe_dget1 h.hu cE cE ⟨hb, hf, hl, ht⟩) ?_
  exact wE.mono q fun x H1 ⟨a, ex, d, q1⟩ => ⟨a, ex, d, wE.mono q1 fun y H2 q2 => q2⟩
end
end Vf
set_option maxRecDepth 100000
set_option maxHeartbeats 4000000
/-! Dtc: {k: v for ..} whose keys are tuples. Own work. -/
namespace Vf
open PySem PySem.Spec PyProof.Rows L2 LamX
section
variable {X : Cx} {pins : List (Addr × Obj)} {σ : L2.St} {H : Hp} {s : Shared} {E : Value → Shared → Prop}
/-- what a store asks: the dict, its entries, the key's tuple -/
def PutT (H : Hp) (D : Addr) (y z : V) (R : Hp → Prop) : Prop := ∃ (kvs : List (List Key × V)) (k : List Key) (b : Addr), y = .ref b ∧ H b = some (.tup (k.map kV)) ∧ H D = some (.dT kvs) ∧ kvs.length < sizeLine ∧ R (upd H D (.dT (putK kvs k z)))
theorem d_dictSetT {D b : Addr} {kvs : List (List Key × V)} {k : List Key} {v : V} {u r : Value} {Q : Unit → Shared → Prop} (hu : X.A.units < cLine) (I : Inv X pins σ H s) (hD : H D = some (.dT kvs)) (hb : H b = some (.tup (k.map kV))) (hz : kvs.length < sizeLine) (ru : RelV (.ref b) u) (rv : RelV v r)
    (q : ∀ s', Inv X pins σ (upd H D (.dT (putK kvs k v))) s' → Q () s') : wpAny (model X.prog X.w) X.A (dictSet D u r) Q E s := by
  cases ru
  obtain ⟨z, hd, xs, rel, dd⟩ := dt_of I.hok hD
  have lx := paired_len rel
  refine wpAny_dictSet_heap (knd := tupleKind (mixKind X.prog X.w)) hu (key_of I.hok hb) dd (fun h' dd' hs => ?_) (by omega)
  refine q _ ?_
  obtain ⟨o, es, ep, h1, h2, h3, h4, h5, h6⟩ := dd'
  have ll := length_putK kvs k v
  have ne : ∀ (c : Addr) (ys : List V), H c = some (.tup ys) → upd H D (.dT (putK kvs k v)) c = some (.tup ys) := fun c ys e => by
    rw [upd_ne (fun z => by rw [z, hD] at e; cases e)]; exact e
  exact d_write I (by rw [hD]; trivial) hs ⟨o, h1⟩ ⟨by omega, hd, _, KT.keeps (KT.put rel k hb rv) ne, o, es, ep, h1, h2, h3, h4, h6⟩
end
def tDcT (wi : TI) (g : TG) (tt : TT) (tk tv : TE) (vs : List Nat) : TE := fun σ H Q => wi σ H fun J H1 => ∀ D, H1 D = none → ∃ W : Nat → Nat → Hp → Prop, (∃ m, W 0 m (upd H1 D (.dT []))) ∧
  ∀ (i m : Nat) (H : Hp), W i m H → (J.stop i H ∧ Q (.ref D) H) ∨ (J.go i H ∧ ∃ Nx : Hp → Prop, (∀ H', Nx H' → ∃ m', m' < m ∧ W (i + 1) m' H') ∧
    ∀ (x : V) (H' : Hp), J.yld i H x H' → g x (wipe σ vs) H' fun σ2 H2 => wipe σ2 vs = wipe σ vs ∧ tt σ2 H2 fun b H3 => if b = true then tk σ2 H3 fun y H4 => tv σ2 H4 fun z H5 => PutT H5 D y z Nx else Nx H3)
theorem dcT_loop {X : Cx} {pins : List (Addr × Obj)} {σ : L2.St} {H2 : Hp} {D it : Addr} {s3 : Shared} {fp : List Addr} {J : It} {tn : Nat → Heap → Prop} {W : Nat → Nat → Hp → Prop} {m0 : Nat} {Q : VK} {kx vx tg iter : Expr} {ifs : List Expr} {scope : Scope} {own : List (Str × Nat)} {pos : Pos} {g : TG} {tt : TT} {tk tv : TE} (hu : X.A.units < cLine) (hc : X.calm = true) (hN : X.N.Nodup) (ok : BlkOk X.N X.env.scope scope own)
    (hg : ∀ s H C cl fp, PG (X.blk s H scope (compEnvC scope cl C X.env) fp) tg g) (ht : ∀ s H C cl fp, PTs (X.blk s H scope (compEnvC scope cl C X.env) fp) ifs tt)
    (hk : ∀ s H C cl fp, PE (X.blk s H scope (compEnvC scope cl C X.env) fp) kx tk) (he : ∀ s H C cl fp, PE (X.blk s H scope (compEnvC scope cl C X.env) fp) vx tv)
    (I3 : Inv X pins σ (upd H2 D (.dT [])) s3) (f3 : ∀ b ∈ fp, FpOk X pins (upd H2 D (.dT [])) b ∧ b < s3.heap.objs.size) (T : Turn X.prog X.w X.K tg J fp it tn) (st3 : tn 0 s3.heap) (w0 : W 0 m0 (upd H2 D (.dT [])))
    (turn : ∀ (i m : Nat) (H : Hp), W i m H → (J.stop i H ∧ Q (.ref D) H) ∨ (J.go i H ∧ ∃ Nx : Hp → Prop, (∀ H', Nx H' → ∃ m', m' < m ∧ W (i + 1) m' H') ∧
      ∀ (x : V) (H' : Hp), J.yld i H x H' → g x (wipe σ (own.map (·.2))) H' fun σ2 H2 => wipe σ2 (own.map (·.2)) = wipe σ (own.map (·.2)) ∧ tt σ2 H2 fun b H3 => if b = true then tk σ2 H3 fun y H4 => tv σ2 H4 fun z H5 => PutT H5 D y z Nx else Nx H3)) :
    codeAny (model X.prog X.w) X.A (Code.compStart (.DictComp kx vx [⟨tg, iter, ifs, 0⟩] scope pos) 0 (.ref it) (.ref D) (compEnvC scope (cellsFrom (s3.heap.objs.size + 1) scope.names (cloFrom X.env.cells scope.names [])) s3.heap.objs.size X.env))
      (compPost (model X.prog X.w) X.A X.xe none (EP X pins σ Q) (.ref D) s3.heap.objs.size) { heap := pushCells (s3.heap.push { cls := .type "dict", data := .dict #[] }) scope.names, gens := s3.gens, drawn := s3.drawn, toks := s3.toks, os := s3.os } := by
  have I4 := block_start I3 ok hN f3
  have pg := hg s3 (upd H2 D (.dT [])) s3.heap.objs.size (cellsFrom (s3.heap.objs.size + 1) scope.names (cloFrom X.env.cells scope.names [])) fp
  have pt := ht s3 (upd H2 D (.dT [])) s3.heap.objs.size (cellsFrom (s3.heap.objs.size + 1) scope.names (cloFrom X.env.cells scope.names [])) fp
  have pk := hk s3 (upd H2 D (.dT [])) s3.heap.objs.size (cellsFrom (s3.heap.objs.size + 1) scope.names (cloFrom X.env.cells scope.names [])) fp
  have pv := he s3 (upd H2 D (.dT [])) s3.heap.objs.size (cellsFrom (s3.heap.objs.size + 1) scope.names (cloFrom X.env.cells scope.names [])) fp
  have st4 := T.keep 0 _ (pushCells (s3.heap.push { cls := .type "dict", data := .dict #[] }) scope.names) st3 fun b _ o e => pushCells_keeps _ _ b o (Heap.get?_push_of_some _ e)
  have nf : ∀ b ∈ fp, (upd H2 D (.dT [])) b = none := fun b hb => (f3 b hb).1.1
  have cL : (compEnvC scope (cellsFrom (s3.heap.objs.size + 1) scope.names (cloFrom X.env.cells scope.names [])) s3.heap.objs.size X.env).locals = s3.heap.objs.size := rfl
  generalize compEnvC scope (cellsFrom (s3.heap.objs.size + 1) scope.names (cloFrom X.env.cells scope.names [])) s3.heap.objs.size X.env = cenv at I4 pg pt pk pv cL ⊢
  have stat : ∀ {σ' : L2.St} {H' : Hp} {s' : Shared}, Inv (X.blk s3 (upd H2 D (.dT [])) scope cenv fp) [] σ' H' s' → (∀ b ∈ fp, H' b = none) → ∀ b ∈ fp, FpOk (X.blk s3 (upd H2 D (.dT [])) scope cenv fp) [] H' b := fun I' hn b hb => by
    have z := I'.ok.exf b hb
    exact ⟨hn b hb, z.1, I'.ok.exfs b hb, .inl hb, z.2, fun p hp => by cases hp⟩
  have loop : codeAny (model X.prog X.w) X.A (Code.compLoop (.DictComp kx vx [⟨tg, iter, ifs, 0⟩] scope pos) 0 (.ref it) (.ref D) cenv)
      (compPost (model X.prog X.w) X.A X.xe none (EP X pins σ Q) (.ref D) s3.heap.objs.size) { heap := pushCells (s3.heap.push { cls := .type "dict", data := .dict #[] }) scope.names, gens := s3.gens, drawn := s3.drawn, toks := s3.toks, os := s3.os } := by
    refine compLoop_anyD (fun n s' => ∃ i H', Inv (X.blk s3 (upd H2 D (.dT [])) scope cenv fp) [] (wipe σ (own.map (·.2))) H' s' ∧ tn i s'.heap ∧ (∀ b ∈ fp, H' b = none) ∧ W i n H') ?_ m0 ⟨0, _, I4, st4, nf, w0⟩
    rintro n s5 ⟨i, H5, I5, st5, n5, w5⟩
    rcases turn i n H5 w5 with ⟨stop, qq⟩ | ⟨go, Nx, hNx, step⟩
    · refine thnF (T.done (X.blk s3 (upd H2 D (.dT [])) scope cenv fp) rfl rfl rfl hc i [] s5 _ H5 (fun _ _ => False) I5 (stat I5 n5) st5 stop) fun r s6 ⟨hr, I6⟩ => ?_
      subst hr
      have I7 : Inv X pins σ H5 s6 := I3.call' (ch := fp) I6.os I6.base I6.hok I6.bare fun b hb => ⟨(f3 b hb).1.2.2.2.1, (f3 b hb).1.2.1, (f3 b hb).1.2.2.2.2.1, (f3 b hb).1.2.2.2.2.2⟩
      have nC : H5 s3.heap.objs.size = none := cL ▸ I6.free
      obtain ⟨mm, hn, _⟩ := I6.loc
      have hn : s6.heap.Ns s3.heap.objs.size mm := cL ▸ hn
      refine ⟨mm, hn, fun h' sb => ?_⟩
      obtain ⟨c0, c1, c2, c3, c4, c5⟩ := I3.fpOk (Nat.le_refl _) nC
      exact ⟨.ref D, H5, I7.turned (fun b o hb e => (sb.2 b hb).trans e) c0 c1 c3 c4 c5, rfl, qq⟩
    · refine thnF (T.item (X.blk s3 (upd H2 D (.dT [])) scope cenv fp) rfl rfl rfl hc i [] s5 _ H5 (fun _ _ => False) I5 (stat I5 n5) st5 go) fun r s6 ⟨u, hr, h6⟩ => ?_
      subst hr
      refine thnF h6 fun _ s7 ⟨x, H7, I7, rx, yl, st7, n7⟩ => ?_
      have I7p := I7.pinned (stat I7 n7) fun b hb => T.obj _ _ st7 b hb
      refine thnF (pg.run _ s7 _ _ x u _ I7p rx (step x H7 yl)) fun _ s8 ⟨σ2, H8, I8, e8, q8⟩ => ?_
      have fin : ∀ {H' : Hp} {s' : Shared}, Inv (X.blk s3 (upd H2 D (.dT [])) scope cenv fp) ([] ++ pinsAt fp s7.heap) σ2 H' s' → Nx H' → ∃ m, m < n ∧ ∃ i H', Inv (X.blk s3 (upd H2 D (.dT [])) scope cenv fp) [] (wipe σ (own.map (·.2))) H' s' ∧ tn i s'.heap ∧ (∀ b ∈ fp, H' b = none) ∧ W i m H' := fun {H'} {s'} I' nx => by
        obtain ⟨m', lt, w'⟩ := hNx H' nx
        have pin : ∀ b ∈ fp, ∀ o, s7.heap.get? b = some o → s'.heap.get? b = some o ∧ H' b = none := fun b hb o e => by
          have z := I'.pin (b, o) (List.mem_append_right _ (mem_pinsAt hb e))
          exact ⟨z.1, z.2.1⟩
        refine ⟨m', lt, i + 1, H', Inv.weak (I'.unpinned) ?_ ?_, T.keep _ _ _ st7 fun b hb o e => (pin b hb o e).1, fun b hb => ?_, w'⟩
        · rw [← e8, wipe_length]
        · intro j v e
          rw [← e8] at e
          exact (wipe_some e).1
        · obtain ⟨o, e, _⟩ := T.obj _ _ st7 b hb
          exact (pin b hb o e).2
      refine thnF (pt.run _ s8 σ2 H8 _ I8 q8) fun bb s9 ⟨H9, I9, q9⟩ => ?_
      cases bb with
      | false => exact fin I9 q9
      | true =>
        refine thnF (pk.run _ s9 σ2 H9 _ I9 q9) fun kv s10 ⟨y, H10, I10, r10, q10⟩ => ?_
        refine thnF (pv.run _ s10 σ2 H10 _ I10 q10) fun vv s11 ⟨z, H11, I11, r11, q11⟩ => ?_
        obtain ⟨kvs, k, b, rfl, hb, hD, hz, nx⟩ := q11
        exact d_dictSetT (X := X.blk s3 (upd H2 D (.dT [])) scope cenv fp) hu I11 hD hb hz r10 r11 fun s12 I12 => fin I12 nx
  exact codeAny_compStart_dict loop (T.self X.A 0 _ _ _ st4 loop)
theorem pe_dcT {X : Cx} {kx vx tg iter : Expr} {ifs : List Expr} {scope : Scope} {own : List (Str × Nat)} {pos : Pos} {wi : TI} {g : TG} {tt : TT} {tk tv : TE} (hu : X.A.units < cLine) (hc : X.calm = true) (hN : X.N.Nodup) (hi : PI X tg iter wi) (ok : BlkOk X.N X.env.scope scope own)
    (hg : ∀ s H C cl fp, PG (X.blk s H scope (compEnvC scope cl C X.env) fp) tg g) (ht : ∀ s H C cl fp, PTs (X.blk s H scope (compEnvC scope cl C X.env) fp) ifs tt)
    (hk : ∀ s H C cl fp, PE (X.blk s H scope (compEnvC scope cl C X.env) fp) kx tk) (he : ∀ s H C cl fp, PE (X.blk s H scope (compEnvC scope cl C X.env) fp) vx tv)
    (hs : ∀ x, foldedSetIterable iter X.env x = pure x) : PE X (.DictComp kx vx [⟨tg, iter, ifs, 0⟩] scope pos) (tDcT wi g tt tk tv (own.map (·.2))) := by
  refine ⟨fun pins s σ H Q I h => ?_⟩
  rw [arm_eval_DictComp]
  refine wpAny_comprehension_free rfl hs (closure_ok fun y hy e => Or.elim (ok.free y hy e) (fun k => I.ok.has y.1 (.inl k)) fun k => I.ok.has y.1 (.inr k)) ok.kind (fun y hy e => by rw [ok.uniq y hy, e]) ?_
  refine thn (hi.run pins s σ H _ I h) fun xv s1 hx => thn hx fun itv s2 h2 => ?_
  obtain ⟨it, fp, tn, J, H2, rfl, I2, T, st2, f2, q⟩ := h2
  refine wpAny_newObj_type (newEnv_comp ?_)
  have hDn := I2.hok.fresh (Nat.le_refl s2.heap.objs.size)
  obtain ⟨W, ⟨m0, w0⟩, turn⟩ := q _ hDn
  have big := I2.big
  have I3 : Inv X pins σ (upd H2 s2.heap.objs.size (.dT [])) { s2 with heap := s2.heap.push { cls := .type "dict", data := .dict #[] } } :=
    I2.laid (t' := s2.toks) (fun b o e => Heap.get?_push_of_some _ e) (Nat.le_refl _) ⟨Nat.zero_le _, beq_eq_false_iff_ne.mpr (Nat.ne_of_gt big), [], .nil, { cls := .type "dict", data := .dict #[] }, #[], _, Heap.get?_push_size _ rfl, ⟨rfl, rfl, rfl⟩, rfl, rfl, List.nodup_nil⟩
  exact dcT_loop hu hc hN ok hg ht hk he I3 (fun b hb => by
    obtain ⟨o, e, _⟩ := T.obj 0 _ st2 b hb
    have lt := Heap.lt_size e
    exact ⟨⟨by rw [upd_ne (Nat.ne_of_lt lt)]; exact (f2 b hb).1, (f2 b hb).2⟩, by show b < (s2.heap.push _).objs.size; rw [Heap.size_push]; exact Nat.lt_succ_of_lt lt⟩) T (T.keep 0 _ _ st2 fun b _ o e => Heap.get?_push_of_some _ e) w0 turn
theorem dc_itT {J : It} {n : Nat} {G : Hp → Prop} {Y : Nat → Hp → V → Hp → Prop} (w : Walk J n G Y) {g : TG} {tt : TT} {tk tv : TE} {vs : List Nat} {σ : L2.St} {H1 : Hp} {D : Addr} {Qd : Hp → Prop} (Pv : Nat → Hp → Prop) (h0 : Pv 0 (upd H1 D (.dT []))) (hG : ∀ (i : Nat) H, i ≤ n → Pv i H → G H)
    (hs : ∀ (i : Nat) x H H', i < n → Pv i H → Y i H x H' → g x (wipe σ vs) H' fun σ2 H2 => wipe σ2 vs = wipe σ vs ∧ tt σ2 H2 fun b H3 => if b = true then tk σ2 H3 fun y H4 => tv σ2 H4 fun z H5 => PutT H5 D y z (Pv (i + 1)) else Pv (i + 1) H3) (hd : ∀ H, Pv n H → Qd H) :
    ∃ W : Nat → Nat → Hp → Prop, (∃ m, W 0 m (upd H1 D (.dT []))) ∧ ∀ (i m : Nat) (H : Hp), W i m H → (J.stop i H ∧ Qd H) ∨ (J.go i H ∧ ∃ Nx : Hp → Prop, (∀ H', Nx H' → ∃ m', m' < m ∧ W (i + 1) m' H') ∧
      ∀ (x : V) (H' : Hp), J.yld i H x H' → g x (wipe σ vs) H' fun σ2 H2 => wipe σ2 vs = wipe σ vs ∧ tt σ2 H2 fun b H3 => if b = true then tk σ2 H3 fun y H4 => tv σ2 H4 fun z H5 => PutT H5 D y z Nx else Nx H3) := by
  refine ⟨fun i m H => m = n - i ∧ i ≤ n ∧ Pv i H, ⟨n, rfl, Nat.zero_le _, h0⟩, ?_⟩
  rintro i m H ⟨rfl, hi, p⟩
  have gg := hG i H hi p
  by_cases lt : i < n
  · exact .inr ⟨w.goes i H lt gg, Pv (i + 1), fun H' p' => ⟨n - (i + 1), by omega, rfl, lt, p'⟩, fun x H' y => hs i x H H' lt p (w.yields i H x H' lt gg y)⟩
  · have e : i = n := by omega
    subst e
    exact .inl ⟨w.stops H gg, hd H p⟩
section
variable {m : Md} {N : List Str} {sc scope : Scope} {k i : Nat} {X : Cx} {iter kx vx : Expr} {σ : L2.St} {H : Hp} {Q : VK} {pos p1 : Pos} {x : Str}
/-- {kx: vx for x in iter}, iter a list, the keys tuples -/
theorem w_dcT (h : At m N sc k X) (ok : blkC N sc scope [(x, i)] = true) (n : NL N (relS scope sc) i x)
    (q : wE X iter σ H fun v H1 => ∃ (a : Addr) (xs : List V), v = .ref a ∧ SqL m.K H1 a xs ∧ ∀ D, H1 D = none → ∃ Pv : Nat → Hp → Prop, Pv 0 (upd H1 D (.dT [])) ∧ (∀ j H, j ≤ xs.length → Pv j H → SqL m.K H a xs) ∧
      (∀ j x H, xs[j]? = some x → Pv j H → ∀ X', At m N (relS scope sc) k X' → wE X' kx (σ.set i (some x)) H fun y H4 => ∀ X', At m N (relS scope sc) k X' → wE X' vx (σ.set i (some x)) H4 fun z H5 => PutT H5 D y z (Pv (j + 1))) ∧ ∀ H, Pv xs.length H → Q (.ref D) H)
    (hs : ∀ x, foldedSetIterable iter X.env x = pure x := by with_unfolding_all (intro _; rfl)) : wE X (.DictComp kx vx [⟨.Name x p1, iter, [], 0⟩] scope pos) σ H Q := by
  refine toE (pe_dcT (own := [(x, i)]) (g := gName i) (tt := tYes) (tk := inBlk m N (relS scope sc) k kx) (tv := inBlk m N (relS scope sc) k vx) (by have := h.room.un; omega) h.calm (by rw [h.nn]; exact h.nd) (pi_list cE) (by rw [h.nn, h.ss]; exact blkOk_by ok) (fun s H C cl fp => pg_nl (blk_at h s H C cl fp) n) (fun _ _ _ _ _ => pts_nil) (fun s H C cl fp => blk_pe h s H C cl fp) (fun s H C cl fp => blk_pe h s H C cl fp) hs) ?_
  refine wE.mono q fun v H1 ⟨a, xs, ea, hl, go⟩ => ⟨a, ea, ⟨xs, by rw [h.kk]; exact hl⟩, fun D hD => ?_⟩
  obtain ⟨Pv, p0, st, turn, fin⟩ := go D hD
  refine dc_itT (walk_list (K := X.K) (a := a) (xs := xs)) (g := gName i) (tt := tYes) (tk := inBlk m N (relS scope sc) k kx) (tv := inBlk m N (relS scope sc) k vx) (vs := [i]) (σ := σ) Pv p0 (fun j H hj hp => by rw [h.kk]; exact st j H hj hp) (fun j z H H' hj hp y => ?_) fin
  obtain ⟨rfl, hz⟩ := y
  refine ⟨by rw [wipe1]; simp [wipe, List.set_set], ?_⟩
  unfold tYes
  refine iteT fun X' hX' => ?_
  rw [set_wipe]
  exact turn j z H' hz hp X' hX'
end
section
variable {m : Md} {N : List Str} {sc scope : Scope} {k i j : Nat} {X : Cx} {e elt : Expr} {σ : L2.St} {H : Hp} {pos p1 p2 p3 p4 p5 : Pos} {x y : Str} {nx : L2.St → Hp → Prop} {rt : VK} {bk ct : L2.St → Hp → Prop}
/-- z = [elt for x, y in enumerate(e)]: the pair is new each time -/
theorem s_lcEn {k1 l : Nat} {y0 : Str} {py spos : Pos} (h : At m N sc k X) (hm : m.mg "enumerate" = none) (hgl : sc.names.lookup ("enumerate" : Str) = some .globalImplicit) (nl : NL N sc l y0) (ok : blkC N sc scope [(x, i), (y, j)] = true) (n1 : NL N (relS scope sc) i x) (n2 : NL N (relS scope sc) j y)
    (q : wE X e σ H fun v H1 => ∃ (a : Addr) (xs : List V), v = .ref a ∧ SqL m.K H1 a xs ∧ ∀ D, H1 D = none → ∃ Pv : Nat → Hp → Prop, Pv 0 (upd H1 D (.lst [])) ∧ (∀ t H, t ≤ xs.length → Pv t H → SqL m.K H a xs) ∧
      (∀ (t : Nat) (z : V) (T : Addr) (H : Hp), xs[t]? = some z → Pv t H → H T = none → ∀ X', At m N (relS scope sc) k X' → wE X' elt ((σ.set i (some (.int t))).set j (some z)) (upd H T (.tup [.int t, z])) (App D (Pv (t + 1)))) ∧ ∀ H, Pv xs.length H → nx (σ.set l (some (.ref D))) H)
    (hst : starEach [e] X.env = [(false, eval e X.env)] := by with_unfolding_all rfl) (hs : ∀ x, foldedSetIterable (.Call (.Name "enumerate" p4) [e] [] p5) X.env x = pure x := by with_unfolding_all (intro _; rfl)) (hk : sc.kind = .function := by with_unfolding_all rfl) (hl : (py.line == pos.line) = true := by with_unfolding_all rfl) (ha : (scope.names.any fun (n, k) => n == y0 && (k == .local || k == .cell)) = false := by with_unfolding_all (decide +kernel)) : wS X (.Assign [.Name y0 py] (.ListComp elt [⟨.Tuple [.Name x p1, .Name y p2] k1 p3, .Call (.Name "enumerate" p4) [e] [] p5, [], 0⟩] scope pos) spos) ⟨nx, rt, bk, ct⟩ σ H := by
  refine toS (ps_setLc (i := l) (y := y0) (py := py) (own := [(x, i), (y, j)]) (g := gTup X.K 2 (gCons (gName i) (gCons (gName j) gNil))) (tt := tYes) (te := inBlk m N (relS scope sc) k elt) h.calm (by rw [h.nn]; exact h.nd) (by rw [h.nn]; exact nl.ix) (by rw [h.ss]; exact nl.loc) (sw_true (by rw [h.ss]; exact hk) (by rw [h.ss]; exact nl.loc) hl ha) (pi_enum (h.gl hgl) (by rw [h.mm]; exact hm) (pa_cons cE pa_nil hst) hst) (by rw [h.nn, h.ss]; exact blkOk_by ok) (fun s H C cl fp => pg_tup (blk_at h s H C cl fp).calm (pgs_cons (pg_nl (blk_at h s H C cl fp) n1) (pgs_cons (pg_nl (blk_at h s H C cl fp) n2) pgs_nil (by with_unfolding_all rfl)) (by with_unfolding_all rfl)) (by with_unfolding_all rfl) (by with_unfolding_all rfl)) (fun _ _ _ _ _ => pts_nil) (fun s H C cl fp => blk_pe h s H C cl fp) hs) ?_
  refine wE.mono q fun v H1 ⟨a, xs, ea, hl, go⟩ => ⟨a, xs, by rw [ea], by rw [h.kk]; exact hl, fun D hD => ?_⟩
  obtain ⟨Pv, p0, st, turn, fin⟩ := go D hD
  refine lc_it (walk_enum (K := X.K) (a := a) (xs := xs)) (g := gTup X.K 2 (gCons (gName i) (gCons (gName j) gNil))) (tt := tYes) (te := inBlk m N (relS scope sc) k elt) (vs := [i, j]) (σ := σ) Pv p0 (fun t H ht hp => by rw [h.kk]; exact st t H ht hp) (fun t z H H' ht hp yy => ?_) fin
  obtain ⟨T, u, w, rfl, hT, rfl, hu, hw⟩ := yy
  have eu : V.int (t : Nat) = u := Option.some.inj hu
  rw [← eu]
  refine ⟨T, [.int t, w], rfl, SqT.of upd_same, rfl, .int t, [w], rfl, w, [], rfl, rfl, ?_⟩
  rw [set2_wipe]
  refine ⟨wipe2, ?_⟩
  unfold tYes
  exact iteT fun X' hX' => turn t w T H hw hp hT X' hX'
end
end Vf
set_option maxRecDepth 100000
set_option maxHeartbeats 4000000
/-! Peq: a tuple of numbers, and any object: are they equal; in, not in a list of such tuples. Own work. -/
namespace Vf
open PySem PySem.Spec PyProof.Rows L2 LamX
theorem int_dec (i : Int) (tk : Tok) (l : Addr) (es : Array DictEntry) (ep : Nat) (dd : Option Addr) (sl : Array (Option Value)) :
    Meets (Builtin.«int.__eq__» ⟨[.int i tk, .ref l], []⟩) (fun _ R s => s.heap.get? l = some { cls := .type "dict", dict := dd, data := .dict es ep, slots := sl } ∧ R (.ok (.ret .notImplemented)) s) :=
  .of_wp fun prog w A R s q => by
    obtain ⟨hp, g, d, t, os⟩ := s
    obtain ⟨at1, q⟩ := q
    have f1 := F.sub_dict_int
    wp_walk using wpAny_loadPart' at1, wpAny_load at1
    exact ⟨_, rfl, q⟩
theorem tup_dec (b : Addr) (items : Array Value) (n : Nat) (dd2 : Option Addr) (sl2 : Array (Option Value)) (l : Addr) (es : Array DictEntry) (ep : Nat) (dd : Option Addr) (sl : Array (Option Value)) :
    Meets (Builtin.«tuple.__eq__» ⟨[.ref b, .ref l], []⟩) (fun _ R s => s.heap.get? b = some { cls := .type "tuple", dict := dd2, data := .seq items n, slots := sl2 } ∧ s.heap.get? l = some { cls := .type "dict", dict := dd, data := .dict es ep, slots := sl } ∧ R (.ok (.ret .notImplemented)) s) :=
  .of_wp fun prog w A R s q => by
    obtain ⟨hp, g, d, t, os⟩ := s
    obtain ⟨at1, at2, q⟩ := q
    have f1 := F.sub_dict_tuple
    wp_walk using wpAny_loadPart' at1, wpAny_load at1, wpAny_loadPart' at2, wpAny_load at2
    exact ⟨_, rfl, q⟩
theorem dict_decI (l : Addr) (es : Array DictEntry) (ep : Nat) (dd : Option Addr) (sl : Array (Option Value)) (i : Int) (tk : Tok) :
    Meets (Builtin.«dict.__eq__» ⟨[.ref l, .int i tk], []⟩) (fun _ R s => s.heap.get? l = some { cls := .type "dict", dict := dd, data := .dict es ep, slots := sl } ∧ R (.ok (.ret .notImplemented)) s) :=
  .of_wp fun prog w A R s q => by
    obtain ⟨hp, g, d, t, os⟩ := s
    obtain ⟨at1, q⟩ := q
    have f1 := F.sub_int_dict
    wp_walk using wpAny_loadPart' at1, wpAny_load at1
    exact ⟨_, rfl, q⟩
theorem dict_decT (l : Addr) (es : Array DictEntry) (ep : Nat) (dd : Option Addr) (sl : Array (Option Value)) (b : Addr) (items : Array Value) (n : Nat) (dd2 : Option Addr) (sl2 : Array (Option Value)) :
    Meets (Builtin.«dict.__eq__» ⟨[.ref l, .ref b], []⟩) (fun _ R s => s.heap.get? l = some { cls := .type "dict", dict := dd, data := .dict es ep, slots := sl } ∧ s.heap.get? b = some { cls := .type "tuple", dict := dd2, data := .seq items n, slots := sl2 } ∧ R (.ok (.ret .notImplemented)) s) :=
  .of_wp fun prog w A R s q => by
    obtain ⟨hp, g, d, t, os⟩ := s
    obtain ⟨at1, at2, q⟩ := q
    have f1 := F.sub_tuple_dict
    wp_walk using wpAny_loadPart' at1, wpAny_load at1, wpAny_loadPart' at2, wpAny_load at2
    exact ⟨_, rfl, q⟩
section
variable {A : Around} {s : Shared} {l b : Addr} {es : Array DictEntry} {ep : Nat} {dd dd2 : Option Addr} {sl sl2 : Array (Option Value)} {items : Array Value} {n : Nat}
theorem eqAt_int_dict (i : Int) (tk : Tok) (ho : s.heap.get? l = some { cls := .type "dict", dict := dd, data := .dict es ep, slots := sl }) (hu : A.units < cLine) : SeqAt.EqAt A s (.int i tk) (.ref l) false := fun prog w E Q q => by
  have rc : SeqAt.RcAt A s (.int i tk) (.ref l) false := fun prog w E Q q =>
    SeqAt.rc_eq_decline_or (k := false) (typeIs_int s i tk) ⟨_, ho, rfl⟩ (by decide) F.sub_dict_int F.slot_int_eq F.slot_dict_eq_refl
      (fun _ hq => call_meets F.slot_int_eq (typeIs_int s i tk) F.entry_int_eq (F.args_int_eq_2 _ _) (int_dec i tk l es ep dd sl) ⟨ho, hq⟩)
      (fun _ hq => call_meets F.slot_dict_eq_refl ⟨_, ho, rfl⟩ F.entry_dict_eq (F.args_dict_eq_2 _ _) (dict_decI l es ep dd sl i tk) ⟨ho, hq⟩)
      (fun _ hq => wpAny_of_eq (rfl : isSame (.int i tk) (.ref l) = pure false) hq) (.inr hu) q
  unfold eqBool
  refine wpAny_holding ?_
  refine wpAny_ite_split (fun e => absurd (eq_of_beq e) nofun) (fun _ => ?_)
  exact wpAny_bind (rc prog w E _ (wpAny_truthy_bool q))
theorem eqAt_tup_dict (hb : s.heap.get? b = some { cls := .type "tuple", dict := dd2, data := .seq items n, slots := sl2 }) (ho : s.heap.get? l = some { cls := .type "dict", dict := dd, data := .dict es ep, slots := sl }) (hu : A.units < cLine) : SeqAt.EqAt A s (.ref b) (.ref l) false := by
  have ne : b ≠ l := fun e => by
    rw [e, ho] at hb
    exact absurd (congrArg Obj.cls (Option.some.inj hb)) (by simp)
  refine SeqAt.EqAt.of_refs ne fun prog w E Q q => ?_
  exact SeqAt.rc_eq_decline_or (k := false) ⟨_, hb, rfl⟩ ⟨_, ho, rfl⟩ (by decide) F.sub_dict_tuple F.slot_tuple_eq F.slot_dict_eq_refl
      (fun _ hq => call_meets F.slot_tuple_eq ⟨_, hb, rfl⟩ F.entry_tuple_eq (F.args_tuple_eq_2 _ _) (tup_dec b items n dd2 sl2 l es ep dd sl) ⟨hb, ho, hq⟩)
      (fun _ hq => call_meets F.slot_dict_eq_refl ⟨_, ho, rfl⟩ F.entry_dict_eq (F.args_dict_eq_2 _ _) (dict_decT l es ep dd sl b items n dd2 sl2) ⟨ho, hb, hq⟩)
      (fun _ hq => SeqAt.wpAny_isSame_ref_other' ne hb ho (by simp) hq) (.inr hu) q
end
/-- a number and any object -/
def eqI (i : Int) : PyData → Bool
  | .int k => i == k
  | .bool c => i == if c = true then 1 else 0
  | _ => false
/-- numbers and objects, one by one -/
def eqIs : List Int → List PyData → Bool
  | [], [] => true
  | i :: js, d :: ds => eqI i d && eqIs js ds
  | _, _ => false
/-- a tuple of numbers and any object -/
def eqP (js : List Int) : PyData → Bool
  | .tuple ds => eqIs js ds
  | _ => false
theorem eqIs_range : ∀ (js : List Int) (ds : List PyData), eqIs js ds = ((List.range (min js.length ds.length)).all (fun j => eqI (js.getD j 0) (ds.getD j .none)) && js.length == ds.length)
  | [], [] => rfl
  | [], _ :: _ => by simp [eqIs]
  | _ :: _, [] => by simp [eqIs]
  | i :: js, d :: ds => by
    rw [eqIs, eqIs_range js ds, List.length_cons, List.length_cons, Nat.succ_min_succ, List.range_succ_eq_map, List.all_cons, List.all_map]
    have e : (js.length + 1 == ds.length + 1) = (js.length == ds.length) := by
      rw [Bool.eq_iff_iff, beq_iff_eq, beq_iff_eq]; omega
    rw [e, Bool.and_assoc]
    rfl
section
variable {X : Cx} {pins : List (Addr × Obj)} {σ : L2.St} {H : Hp} {s : Shared} {A : Addr → Prop} {v : V} {d : PyData} {u : Value} {A0 : Around}
theorem ob_eqI (I : Inv X pins σ H s) (o : Ob X.K A H v d) (r : L2.RelV v u) (hu : A0.units < cLine) (i : Int) (tk : Tok) : SeqAt.EqAt A0 s (.int i tk) u (eqI i d) := by
  cases o with
  | non => cases r; exact SeqAt.EqAt.int_none i tk
  | bl b => cases r; exact SeqAt.EqAt.int_bool i tk b
  | int k => obtain ⟨t, rfl⟩ := r; exact SeqAt.EqAt.int_int i tk k t
  | str y _ => obtain ⟨t, rfl⟩ := r; exact SeqAt.EqAt.int_str i tk y t
  | lst _ hs _ _ => cases r; obtain ⟨its, _, pl, _⟩ := I.list hs; exact SeqAt.EqAt.int_list i tk pl.isList hu
  | tup hs _ => cases r; obtain ⟨its, _, pl, _⟩ := I.tuple hs; exact SeqAt.EqAt.int_tuple i tk pl hu
  | dct _ e =>
    cases r
    obtain ⟨dd, es, ep, sl, h1⟩ := dct_at I e
    exact eqAt_int_dict i tk h1 hu
theorem eqIs_self : ∀ (js : List Int), eqIs js (js.map .int) = true
  | [] => rfl
  | j :: js => by rw [List.map_cons, eqIs, eqIs_self js]; simp [eqI]
theorem ob_ints : ∀ {js : List Int} {ds : List PyData}, ObAll X.K A H (js.map V.int) ds → ds = js.map .int
  | [], _, .nil => rfl
  | j :: js, _, .cons h r => by
    cases h
    rw [ob_ints r]; rfl
theorem paired_length {α β : Type} {F : α → β → Prop} {as : List α} {bs : List β} (p : Paired F as bs) : as.length = bs.length := by
  induction p with
  | nil => rfl
  | cons _ _ ih => simp [ih]
theorem paired_get {α β : Type} {F : α → β → Prop} {as : List α} {bs : List β} (p : Paired F as bs) : ∀ (j : Nat) (h1 : j < as.length) (h2 : j < bs.length), F as[j] bs[j] := by
  induction p with
  | nil => intro j h1; simp at h1
  | cons h _ ih =>
    intro j h1 h2
    cases j with
    | zero => exact h
    | succ j => exact ih j (by simpa using h1) (by simpa using h2)
theorem rel_int {x : V} {i : Int} {u : Value} (r : L2.RelV (.int i) u) (r2 : L2.RelV x u) : x = .int i := by
  obtain ⟨t, rfl⟩ := r
  cases x with
  | int k => obtain ⟨t', e⟩ := r2; cases e; rfl
  | str z => obtain ⟨t', e⟩ := r2; cases e
  | byt z => obtain ⟨t', e⟩ := r2; cases e
  | flt z => obtain ⟨t', e⟩ := r2; cases e
  | _ => cases r2
theorem rel_ints : ∀ {js : List Int} {its : List Value} {xs : List V}, Vals (js.map V.int) its → Vals xs its → xs = js.map V.int
  | [], _, _, .nil, .nil => rfl
  | j :: js, _, _, .cons a r, .cons b r2 => by rw [rel_int a b, rel_ints r r2]; rfl
theorem ob_eqP (I : Inv X pins σ H s) {b : Addr} {js : List Int} (hb : H b = some (.tup (js.map V.int))) (o : Ob X.K A H v d) (r : L2.RelV v u) (hu : A0.units + 1 < cLine) : SeqAt.EqAt A0 s (.ref b) u (eqP js d) := by
  obtain ⟨its, rv, pb, _⟩ := I.tuple (SqT.of hb)
  have hu0 : A0.units < cLine := by omega
  cases o with
  | non => cases r; exact SeqAt.EqAt.tuple_none pb hu0
  | bl c => cases r; exact SeqAt.EqAt.tuple_bool c pb hu0
  | int k => obtain ⟨t, rfl⟩ := r; exact SeqAt.EqAt.tuple_int k t pb hu0
  | str y _ => obtain ⟨t, rfl⟩ := r; exact SeqAt.EqAt.tuple_str y t pb hu0
  | lst _ hs _ _ => cases r; obtain ⟨its2, _, pl, _⟩ := I.list hs; exact SeqAt.EqAt.tuple_list pb pl.isList hu0
  | @tup a xs ds hs da =>
    cases r
    obtain ⟨its2, rv2, pl, _⟩ := I.tuple hs
    have l1 := paired_length rv
    have l2 := paired_length rv2
    have l3 := da.length
    rw [List.length_map] at l1
    by_cases c : b = a
    · subst c
      obtain ⟨o1, e1, _, n1, e2⟩ := pb
      obtain ⟨o2, e3, _, n2, e4⟩ := pl
      rw [e1] at e3
      cases e3
      rw [e2] at e4
      have ei : its = its2 := by
        have z := (Data.seq.inj e4).1
        exact congrArg Array.toList z
      have ex : xs = js.map V.int := rel_ints rv (ei ▸ rv2)
      rw [ex] at da
      have ed := ob_ints da
      show SeqAt.EqAt A0 s _ _ (eqIs js ds)
      rw [ed, eqIs_self]
      exact SeqAt.EqAt.same _
    · have key := SeqAt.RcAt.tuples (A := A0) (e := fun j => eqI (js.getD j 0) (ds.getD j .none)) pb pl hu0 (fun j h1 h2 => by
        have h1' : j < its.length := by simpa using h1
        have h2' : j < its2.length := by simpa using h2
        have hx : xs[j]? = some xs[j] := List.getElem?_eq_getElem (by omega)
        obtain ⟨dj, hdj, oj⟩ := da.getV hx
        have r1 := paired_get rv j (by rw [List.length_map]; omega) h1'
        have r2 := paired_get rv2 j (by omega) h2'
        rw [List.getElem_map] at r1
        obtain ⟨t, et⟩ := r1
        have e1 : js.getD j 0 = js[j] := by rw [List.getD_eq_getElem?_getD, List.getElem?_eq_getElem (by omega)]; rfl
        have e2 : ds.getD j .none = dj := by rw [List.getD_eq_getElem?_getD, hdj]; rfl
        rw [e1, e2]
        have z := ob_eqI I oj r2 (A0 := A0.in1) (by show A0.units + 1 < cLine; omega) js[j] t
        simpa [et] using z)
      refine SeqAt.EqAt.of_refs c ?_
      show SeqAt.RcAt A0 s _ _ (eqIs js ds)
      rw [eqIs_range]
      have e1 : its.toArray.size = js.length := by rw [List.size_toArray]; omega
      have e2 : its2.toArray.size = ds.length := by rw [List.size_toArray]; omega
      rw [e1, e2] at key
      exact key
  | dct _ e =>
    cases r
    obtain ⟨dd, es, ep, sl, h1⟩ := dct_at I e
    obtain ⟨ob, e1, e2, n, e3⟩ := pb
    obtain ⟨c, dd2, dat, sl2⟩ := ob
    simp only at e2 e3
    subst e2 e3
    exact eqAt_tup_dict e1 h1 hu0
end
section
variable {m : Md} {N : List Str} {sc : Scope} {k : Nat} {X : Cx} {H : Hp} {Q : VK} {A : Addr → Prop} {v : V} {d : PyData}
/-- what stands in a list of tuples of numbers -/
abbrev TupsAt (H : Hp) (xs : List V) (gs : List (List Int)) : Prop := Paired (fun x js => ∃ b, x = V.ref b ∧ H b = some (.tup (js.map V.int))) xs gs
def ofInt : V → Int
  | .int i => i
  | _ => 0
theorem map_ofInt : ∀ js : List Int, (js.map V.int).map ofInt = js
  | [] => rfl
  | j :: js => by rw [List.map_cons, List.map_cons, map_ofInt js]; rfl
/-- what a tuple in the store and d are -/
def eqV (H : Hp) (d : PyData) : Value → Bool
  | .ref b => match H b with
    | some (.tup xs) => eqP (xs.map ofInt) d
    | _ => false
  | _ => false
theorem eqV_at {b : Addr} {js : List Int} (hb : H b = some (.tup (js.map V.int))) : eqV H d (.ref b) = eqP js d := by
  show (match H b with | some (.tup xs) => eqP (xs.map ofInt) d | _ => false) = _
  rw [hb]
  show eqP ((js.map V.int).map ofInt) d = _
  rw [map_ofInt]
theorem eqV_any : ∀ {xs : List V} {gs : List (List Int)} {its : List Value}, TupsAt H xs gs → Vals xs its → its.any (eqV H d) = gs.any fun js => eqP js d := by
  intro xs gs its h
  induction h generalizing its with
  | nil => intro r; cases r; rfl
  | cons h _ ih =>
    intro r
    cases r with
    | cons r1 r2 =>
      obtain ⟨b, rfl, hb⟩ := h
      cases r1
      rw [List.any_cons, List.any_cons, ih r2, eqV_at hb]
theorem tups_mem : ∀ {xs : List V} {gs : List (List Int)} {its : List Value}, TupsAt H xs gs → Vals xs its → ∀ y ∈ its, ∃ (b : Addr) (js : List Int), y = .ref b ∧ H b = some (.tup (js.map V.int)) := by
  intro xs gs its h
  induction h generalizing its with
  | nil => intro r y hy; cases r; cases hy
  | cons h _ ih =>
    intro r y hy
    cases r with
    | cons r1 r2 =>
      rcases List.mem_cons.1 hy with e | e
      · obtain ⟨b, rfl, hb⟩ := h
        cases r1
        exact ⟨b, _, e, hb⟩
      · exact ih r2 y e
/-- v not in xs, xs a list of tuples of numbers, v any object -/
theorem g_notInTups (h : At m N sc k X) {l : Addr} {xs : List V} {gs : List (List Int)} (o : Ob m.K A H v d) (hl : SqL m.K H l xs) (hx : TupsAt H xs gs) (q : Q (.bl (!gs.any fun js => eqP js d)) H) : gOp X (compareOp .NotIn) v (.ref l) H Q := fun pins s σ u w I r rz => by
  cases rz
  have hu := h.room.un
  obtain ⟨its, rv, pl, hz⟩ := I.list (by rw [h.kk]; exact hl)
  have o' : Ob X.K A H v d := by rw [h.kk]; exact o
  refine SeqAt.notIn_listAt (eqV H d) pl.isList (fun y hy => ?_) ⟨_, H, I, ?_, q⟩
  · obtain ⟨b, js, rfl, hb⟩ := tups_mem hx rv y (by simpa using hy)
    rw [eqV_at hb]
    exact ob_eqP I hb o' r (by show X.A.units + 1 + 1 < cLine; omega)
  · have e : its.toArray.any (eqV H d) = its.any (eqV H d) := by simp
    rw [e, eqV_any hx rv]
    rfl
end
end Vf
set_option maxRecDepth 100000
set_option maxHeartbeats 4000000
/-! Mdf: min and max of a list of whole numbers with default=None. Own work (genmdf.py). -/
namespace Vf
open PySem PySem.Spec PyProof.Rows L2 LamX
def bst (p : Int → Int → Bool) (ns : List Int) : Option Int := ns.foldl (fun o x => match o with | none => some x | some a => some (if p x a then x else a)) none
theorem bst_snoc {p : Int → Int → Bool} {ns : List Int} {x : Int} : bst p (ns ++ [x]) = some (match bst p ns with | none => x | some a => if p x a then x else a) := by
  unfold bst
  rw [List.foldl_append, List.foldl_cons, List.foldl_nil]
  cases ns.foldl (fun o x => match o with | none => some x | some a => some (if p x a then x else a)) none <;> rfl
theorem bst_some {p : Int → Int → Bool} {ns : List Int} (h : 0 < ns.length) : ∃ a, bst p ns = some a := by
  rcases List.eq_nil_or_concat ns with rfl | ⟨L, x, rfl⟩
  · cases h
  · rw [List.concat_eq_append, bst_snoc]; exact ⟨_, rfl⟩
theorem vals_int_at : ∀ {ns : List Int} {its : List Value}, Vals (ns.map V.int) its → ∀ (i : Nat) (v : Value), its[i]? = some v → ∃ t, v = .int (ns[i]?.getD 0) t
  | [], _, r, i, v, e => by cases r; simp at e
  | n :: ns, _, r, i, v, e => by
    cases r with
    | cons x y =>
      cases i with
      | zero => obtain ⟨t, ht⟩ := x; exact ⟨t, by rw [← Option.some.inj e]; exact ht⟩
      | succ i => exact vals_int_at y i v (by simpa using e)
def optV : Option Int → V
  | none => .non
  | some i => .int i

theorem min_loopD {prog : Program} {w : World} {A : Around} {R : Result → Shared → Prop} {l I S : Addr} {items : Array Value} {ns : List Int} {h0 : Heap} {g0 : _} {d0 : _} {o0 : _} (hh : A.handled = none) (hli : l ≠ I) (hls : l ≠ S) (hSI : S ≠ I)
    (hz : items.size = ns.length) (hv : ∀ (i : Nat) (v : Value), items[i]? = some v → ∃ t, v = .int (ns[i]?.getD 0) t) (hI : h0.get? I = none) (hS : h0.get? S = none)
    (hR : ∀ (h' : Heap) (tk : Nat) (v : Value), (∀ b o, h0.get? b = some o → h'.get? b = some o) → RelV (optV (bst (fun x a => decide (x < a)) ns)) v → R (.ok (.ret v)) { heap := h', gens := g0, drawn := d0, toks := tk, os := o0 }) :
    ∀ (r j : Nat) (h : Heap) (tk : Nat) (cur : Array Value) (c : Nat), ns.length - j = r → j ≤ ns.length → (∀ b o, h0.get? b = some o → h.get? b = some o) → h.IsListIter I l j → h.IsList l items → h.get? S = some (seqObj "list" cur c) →
      ((j = 0 ∧ cur = #[]) ∨ ∃ v, cur = #[v, v] ∧ RelV (optV (bst (fun x a => decide (x < a)) (ns.take j))) v ∧ 0 < j) →
      codeAny (model prog w) A (Code.builtin "min.loop" { pos := [.ref I, .none, .ref S], kw := [("default", .none)] }) R { heap := h, gens := g0, drawn := d0, toks := tk, os := o0 } := by
  have W : Walks prog w A.in1 I [I, l] [I] items.size (fun i v => items[i]? = some v) fun i h => h.IsListIter I l i ∧ h.IsList l items := Walks.list (A := A.in1) (show A.in1.handled = none from hh) I l hli items
  intro r
  induction r with
  | zero =>
    intro j h tk cur c hr hj hk hi hl hs hc
    have ej : j = items.size := by omega
    refine codeAny_builtin F.entry_min_loop ?_
    rw [Around.under_plainId F.plain_min_loop]
    refine wpAny_bind (wpAny_seqItems hs rfl ?_)
    refine wpAny_bind (wpAny_tryCatch (W.done _ _ _ (by rw [← ej]; exact ⟨hi, hl⟩) fun h' tk' k' => ?_))
    have hk' : ∀ b o, h0.get? b = some o → h'.get? b = some o := fun b o e => k' b o (fun m => by rw [List.mem_singleton] at m; rw [m, hI] at e; cases e) (hk b o e)
    have hs' : h'.get? S = some (seqObj "list" cur c) := k' S _ (fun m => hSI (List.mem_singleton.1 m)) hs
    rcases hc with ⟨h1, rfl⟩ | ⟨v, rfl, rv, hp⟩
    · have en : ns = [] := List.length_eq_zero_iff.1 (by omega)
      subst en
      refine wpAny_bind (wpAny_rule ?_)
      exact wpAny_pure (hR h' tk' _ hk' rfl)
    · refine wpAny_bind (wpAny_updateSeq (xs := #[v, v]) (f := fun _ => #[]) hs' rfl ?_ (by rw [sizeLine_eq]; show 2 ≤ _; omega) (by rw [sizeLine_eq]; show 0 ≤ _; omega))
      refine wpAny_bind (wpAny_letGo ?_)
      refine wpAny_pure (hR _ _ _ (fun b o e => ?_) ?_)
      · have hb : b ≠ S := fun z => by rw [z, hS] at e; cases e
        rw [(Heap.SameBut.update _ _ _).2 b hb]
        exact hk' b o e
      · rw [List.take_of_length_le (by omega)] at rv
        exact rv
  | succ r ih =>
    intro j h tk cur c hr hj hk hi hl hs hc
    have hjl : j < items.size := by omega
    refine codeAny_builtin F.entry_min_loop ?_
    rw [Around.under_plainId F.plain_min_loop]
    refine wpAny_bind (wpAny_seqItems hs rfl ?_)
    refine wpAny_bind (wpAny_tryCatch (W.item j _ _ _ hjl ⟨hi, hl⟩ fun v h' tk' pv st' k' => ?_))
    have hk' : ∀ b o, h0.get? b = some o → h'.get? b = some o := fun b o e => k' b o (fun m => by rw [List.mem_singleton] at m; rw [m, hI] at e; cases e) (hk b o e)
    have hs' : h'.get? S = some (seqObj "list" cur c) := k' S _ (fun m => hSI (List.mem_singleton.1 m)) hs
    obtain ⟨t, rfl⟩ := hv j v pv
    have hjn : j < ns.length := by omega
    have ex : ns[j]?.getD 0 = ns[j] := by rw [List.getElem?_eq_getElem hjn]; rfl
    have et : bst (fun x a => decide (x < a)) (ns.take (j + 1)) = some (match bst (fun x a => decide (x < a)) (ns.take j) with | none => ns[j] | some a => if decide (ns[j] < a) then ns[j] else a) := by
      rw [List.take_succ, List.getElem?_eq_getElem hjn]
      exact bst_snoc
    rw [ex] at pv ⊢
    have up : ∀ (g : Array Value → Array Value) (tk : Nat) (cur' : Array Value), g cur = cur' → (∃ v, cur' = #[v, v] ∧ RelV (optV (bst (fun x a => decide (x < a)) (ns.take (j + 1)))) v) → codeAny (model prog w) A (Code.builtin "min.loop" { pos := [.ref I, .none, .ref S], kw := [("default", .none)] }) R { heap := h'.update S (Obj.mapSeq g), gens := g0, drawn := d0, toks := tk, os := o0 } := by
      intro g tk cur' eg hc'
      obtain ⟨v, e, rv⟩ := hc'
      have sb := Heap.SameBut.update h' S (Obj.mapSeq g)
      obtain ⟨oi, i1, i2, i3⟩ := st'.1
      obtain ⟨ol, l1, l2⟩ := st'.2
      exact ih (j + 1) _ tk _ _ (by omega) (by omega) (fun b o e => by
        have hb : b ≠ S := fun z => by rw [z, hS] at e; cases e
        rw [sb.2 b hb]; exact hk' b o e) ⟨oi, by rw [sb.2 I (Ne.symm hSI)]; exact i1, i2, i3⟩ ⟨ol, by rw [sb.2 l hls]; exact l1, l2⟩ (by rw [get?_update_seq hs' g, eg]) (.inr ⟨v, e, rv, by omega⟩)
    rcases hc with ⟨h1, rfl⟩ | ⟨v, rfl, rv, hp⟩
    · refine wpAny_bind (wpAny_pure ?_)
      refine wpAny_bind (wpAny_updateSeq (xs := #[]) (f := fun _ => #[.int ns[j] t, .int ns[j] t]) hs' rfl ?_ (by rw [sizeLine_eq]; show 0 ≤ _; omega) (by rw [sizeLine_eq]; show 2 ≤ _; omega))
      subst h1
      refine wpAny_pure ⟨plainId_quiet F.plain_min_loop _, up _ _ _ rfl ⟨_, rfl, ?_⟩⟩
      rw [et]
      exact ⟨t, rfl⟩
    · obtain ⟨a, ea⟩ := bst_some (p := fun x a => decide (x < a)) (ns := ns.take j) (by rw [List.length_take]; omega)
      rw [ea] at rv et
      obtain ⟨t2, rfl⟩ := rv
      refine wpAny_bind (wpAny_pure ?_)
      refine wpAny_bind (wpAny_tryCatch (wpAny_holding (wpAny_bind ?_)))
      refine (CmpOf.ints_lt (P := fun i v => v = if i = 0 then Value.int ns[j] t else Value.int a t2) (fun i => if i = 0 then ns[j] else a) fun i v e => by by_cases c : i = 0 <;> simp [c] at e ⊢ <;> exact ⟨_, e⟩) 0 1 _ _ _ _ _ (by rfl) (by rfl) ?_
      refine wpAny_bind (wpAny_holding (wpAny_truthy_bool ?_))
      refine wpAny_bind (wpAny_letGo ?_)
      refine wpAny_pure ?_
      have z1 : ((1 : Nat) = 0) = False := by simp
      have z0 : ((0 : Nat) = 0) = True := by simp
      simp only [z0, z1, if_true, if_false]
      by_cases c : ns[j] < a
      · simp only [c, if_true, decide_true]
        refine wpAny_bind (wpAny_updateSeq (xs := #[.int a t2, .int a t2]) (f := fun _ => #[.int ns[j] t, .int ns[j] t]) hs' rfl ?_ (by rw [sizeLine_eq]; show 2 ≤ _; omega) (by rw [sizeLine_eq]; show 2 ≤ _; omega))
        refine wpAny_bind (wpAny_letGo ?_)
        refine wpAny_pure ⟨plainId_quiet F.plain_min_loop _, up _ _ _ rfl ⟨_, rfl, ?_⟩⟩
        rw [et]
        simp only [c, decide_true, if_true]
        exact ⟨t, rfl⟩
      · simp only [c, decide_false, Bool.false_eq_true, if_false]
        refine wpAny_bind (wpAny_letGo ?_)
        refine wpAny_pure ⟨plainId_quiet F.plain_min_loop _, ih (j + 1) _ _ _ _ (by omega) (by omega) hk' st'.1 st'.2 hs' (.inr ⟨_, rfl, ?_, by omega⟩)⟩
        rw [et]
        simp only [c, decide_false]
        exact ⟨t2, rfl⟩
theorem call_minD {prog : Program} {w : World} {A : Around} {E : Value → Shared → Prop} {s : Shared} {Q : Value → Shared → Prop} {l : Addr} {items : Array Value} {ns : List Int} (hh : A.handled = none) (hl : s.heap.IsList l items)
    (hz : items.size = ns.length) (hv : ∀ (i : Nat) (v : Value), items[i]? = some v → ∃ t, v = .int (ns[i]?.getD 0) t)
    (hQ : ∀ (h' : Heap) (tk : Nat) (v : Value), (∀ b o, s.heap.get? b = some o → h'.get? b = some o) → RelV (optV (bst (fun x a => decide (x < a)) ns)) v → Q v { heap := h', gens := s.gens, drawn := s.drawn, toks := tk, os := s.os }) :
    wpAny (model prog w) A (call (.builtin "min") [.ref l] [("default", .none)]) Q E s := by
  obtain ⟨ol, l1, l2⟩ := id hl
  have hlt := Heap.lt_size l1
  refine kmk_tree F.kind_min F.plain_min F.entry_min (by exact (rfl : _ = _)) ?_
  refine wpAny_bind (wpAny_of_eq (a := [none, some Value.none]) (by rfl) ?_)
  refine wpAny_bind (wpAny_pure ?_)
  refine wpAny_bind (wpAny_pyIter_list hl ?_)
  refine wpAny_bind (wpAny_newList ?_)
  have hS : s.heap.get? (s.heap.objs.size + 1) = none := Heap.get?_none_of_le (by omega)
  have hI : s.heap.get? s.heap.objs.size = none := Heap.get?_none_of_le (by omega)
  have eS : (s.heap.push { cls := .type "list_iterator", data := .fields #[.ref l, .int 0 0] }).objs.size = s.heap.objs.size + 1 := size_push' _ _
  refine wpAny_pure ⟨plainId_quiet F.plain_min_loop _, ?_⟩
  rw [eS]
  refine min_loopD hh (l := l) (I := s.heap.objs.size) (S := s.heap.objs.size + 1) (h0 := s.heap) (Nat.ne_of_lt hlt) (Nat.ne_of_lt (Nat.lt_succ_of_lt hlt)) (Nat.succ_ne_self _) hz hv hI hS (fun h' tk v k r => hQ h' tk v k r) ns.length 0 _ _ #[] 0 (by omega) (by omega) ?_ ?_ ?_ ?_ (.inl ⟨rfl, rfl⟩)
  · exact fun b o e => Heap.get?_push_of_some _ (Heap.get?_push_of_some _ e)
  · exact ⟨_, Heap.get?_push_of_some _ (Heap.get?_push_size s.heap rfl), rfl, rfl⟩
  · exact ⟨ol, Heap.get?_push_of_some _ (Heap.get?_push_of_some _ l1), l2⟩
  · rw [← eS]; exact Heap.get?_push_size _ rfl
theorem cr_minD {X : L2.Cx} (hc : X.calm = true) : L2.CallRK X (.builtin "min") ["default"] fun vs zs H Q => ∃ (a : Addr) (ns : List Int), vs = [V.ref a] ∧ zs = [V.non] ∧ SqL X.K H a (ns.map V.int) ∧ Q (optV (bst (fun x a => decide (x < a)) ns)) H := by
  rintro pins s σ H _ _ us ws Q I r r2 ⟨a, ns, rfl, rfl, hs, q⟩
  obtain ⟨its, rv, hl⟩ := I.list hs
  rw [Vals.ref1 r]
  have ew : ws = [.none] := by
    cases r2 with
    | cons x y => cases y; rw [show _ = Value.none from x]
  subst ew
  have rl := rv.length
  refine call_minD (ns := ns) (I.ok.hd hc) (PlainL.isList hl.1) (by rw [List.size_toArray, ← rl, List.length_map]) (fun i v e => ?_) fun h' tk v hk rvv => ⟨_, H, I.kept hk, rvv, q⟩
  exact vals_int_at rv i v (by simpa using e)

theorem max_loopD {prog : Program} {w : World} {A : Around} {R : Result → Shared → Prop} {l I S : Addr} {items : Array Value} {ns : List Int} {h0 : Heap} {g0 : _} {d0 : _} {o0 : _} (hh : A.handled = none) (hli : l ≠ I) (hls : l ≠ S) (hSI : S ≠ I)
    (hz : items.size = ns.length) (hv : ∀ (i : Nat) (v : Value), items[i]? = some v → ∃ t, v = .int (ns[i]?.getD 0) t) (hI : h0.get? I = none) (hS : h0.get? S = none)
    (hR : ∀ (h' : Heap) (tk : Nat) (v : Value), (∀ b o, h0.get? b = some o → h'.get? b = some o) → RelV (optV (bst (fun x a => decide (x > a)) ns)) v → R (.ok (.ret v)) { heap := h', gens := g0, drawn := d0, toks := tk, os := o0 }) :
    ∀ (r j : Nat) (h : Heap) (tk : Nat) (cur : Array Value) (c : Nat), ns.length - j = r → j ≤ ns.length → (∀ b o, h0.get? b = some o → h.get? b = some o) → h.IsListIter I l j → h.IsList l items → h.get? S = some (seqObj "list" cur c) →
      ((j = 0 ∧ cur = #[]) ∨ ∃ v, cur = #[v, v] ∧ RelV (optV (bst (fun x a => decide (x > a)) (ns.take j))) v ∧ 0 < j) →
      codeAny (model prog w) A (Code.builtin "max.loop" { pos := [.ref I, .none, .ref S], kw := [("default", .none)] }) R { heap := h, gens := g0, drawn := d0, toks := tk, os := o0 } := by
  have W : Walks prog w A.in1 I [I, l] [I] items.size (fun i v => items[i]? = some v) fun i h => h.IsListIter I l i ∧ h.IsList l items := Walks.list (A := A.in1) (show A.in1.handled = none from hh) I l hli items
  intro r
  induction r with
  | zero =>
    intro j h tk cur c hr hj hk hi hl hs hc
    have ej : j = items.size := by omega
    refine codeAny_builtin F.entry_max_loop ?_
    rw [Around.under_plainId F.plain_max_loop]
    refine wpAny_bind (wpAny_seqItems hs rfl ?_)
    refine wpAny_bind (wpAny_tryCatch (W.done _ _ _ (by rw [← ej]; exact ⟨hi, hl⟩) fun h' tk' k' => ?_))
    have hk' : ∀ b o, h0.get? b = some o → h'.get? b = some o := fun b o e => k' b o (fun m => by rw [List.mem_singleton] at m; rw [m, hI] at e; cases e) (hk b o e)
    have hs' : h'.get? S = some (seqObj "list" cur c) := k' S _ (fun m => hSI (List.mem_singleton.1 m)) hs
    rcases hc with ⟨h1, rfl⟩ | ⟨v, rfl, rv, hp⟩
    · have en : ns = [] := List.length_eq_zero_iff.1 (by omega)
      subst en
      refine wpAny_bind (wpAny_rule ?_)
      exact wpAny_pure (hR h' tk' _ hk' rfl)
    · refine wpAny_bind (wpAny_updateSeq (xs := #[v, v]) (f := fun _ => #[]) hs' rfl ?_ (by rw [sizeLine_eq]; show 2 ≤ _; omega) (by rw [sizeLine_eq]; show 0 ≤ _; omega))
      refine wpAny_bind (wpAny_letGo ?_)
      refine wpAny_pure (hR _ _ _ (fun b o e => ?_) ?_)
      · have hb : b ≠ S := fun z => by rw [z, hS] at e; cases e
        rw [(Heap.SameBut.update _ _ _).2 b hb]
        exact hk' b o e
      · rw [List.take_of_length_le (by omega)] at rv
        exact rv
  | succ r ih =>
    intro j h tk cur c hr hj hk hi hl hs hc
    have hjl : j < items.size := by omega
    refine codeAny_builtin F.entry_max_loop ?_
    rw [Around.under_plainId F.plain_max_loop]
    refine wpAny_bind (wpAny_seqItems hs rfl ?_)
    refine wpAny_bind (wpAny_tryCatch (W.item j _ _ _ hjl ⟨hi, hl⟩ fun v h' tk' pv st' k' => ?_))
    have hk' : ∀ b o, h0.get? b = some o → h'.get? b = some o := fun b o e => k' b o (fun m => by rw [List.mem_singleton] at m; rw [m, hI] at e; cases e) (hk b o e)
    have hs' : h'.get? S = some (seqObj "list" cur c) := k' S _ (fun m => hSI (List.mem_singleton.1 m)) hs
    obtain ⟨t, rfl⟩ := hv j v pv
    have hjn : j < ns.length := by omega
    have ex : ns[j]?.getD 0 = ns[j] := by rw [List.getElem?_eq_getElem hjn]; rfl
    have et : bst (fun x a => decide (x > a)) (ns.take (j + 1)) = some (match bst (fun x a => decide (x > a)) (ns.take j) with | none => ns[j] | some a => if decide (ns[j] > a) then ns[j] else a) := by
      rw [List.take_succ, List.getElem?_eq_getElem hjn]
      exact bst_snoc
    rw [ex] at pv ⊢
    have up : ∀ (g : Array Value → Array Value) (tk : Nat) (cur' : Array Value), g cur = cur' → (∃ v, cur' = #[v, v] ∧ RelV (optV (bst (fun x a => decide (x > a)) (ns.take (j + 1)))) v) → codeAny (model prog w) A (Code.builtin "max.loop" { pos := [.ref I, .none, .ref S], kw := [("default", .none)] }) R { heap := h'.update S (Obj.mapSeq g), gens := g0, drawn := d0, toks := tk, os := o0 } := by
      intro g tk cur' eg hc'
      obtain ⟨v, e, rv⟩ := hc'
      have sb := Heap.SameBut.update h' S (Obj.mapSeq g)
      obtain ⟨oi, i1, i2, i3⟩ := st'.1
      obtain ⟨ol, l1, l2⟩ := st'.2
      exact ih (j + 1) _ tk _ _ (by omega) (by omega) (fun b o e => by
        have hb : b ≠ S := fun z => by rw [z, hS] at e; cases e
        rw [sb.2 b hb]; exact hk' b o e) ⟨oi, by rw [sb.2 I (Ne.symm hSI)]; exact i1, i2, i3⟩ ⟨ol, by rw [sb.2 l hls]; exact l1, l2⟩ (by rw [get?_update_seq hs' g, eg]) (.inr ⟨v, e, rv, by omega⟩)
    rcases hc with ⟨h1, rfl⟩ | ⟨v, rfl, rv, hp⟩
    · refine wpAny_bind (wpAny_pure ?_)
      refine wpAny_bind (wpAny_updateSeq (xs := #[]) (f := fun _ => #[.int ns[j] t, .int ns[j] t]) hs' rfl ?_ (by rw [sizeLine_eq]; show 0 ≤ _; omega) (by rw [sizeLine_eq]; show 2 ≤ _; omega))
      subst h1
      refine wpAny_pure ⟨plainId_quiet F.plain_max_loop _, up _ _ _ rfl ⟨_, rfl, ?_⟩⟩
      rw [et]
      exact ⟨t, rfl⟩
    · obtain ⟨a, ea⟩ := bst_some (p := fun x a => decide (x > a)) (ns := ns.take j) (by rw [List.length_take]; omega)
      rw [ea] at rv et
      obtain ⟨t2, rfl⟩ := rv
      refine wpAny_bind (wpAny_pure ?_)
      refine wpAny_bind (wpAny_tryCatch (wpAny_holding (wpAny_bind ?_)))
      refine (CmpOf.ints_gt (P := fun i v => v = if i = 0 then Value.int ns[j] t else Value.int a t2) (fun i => if i = 0 then ns[j] else a) fun i v e => by by_cases c : i = 0 <;> simp [c] at e ⊢ <;> exact ⟨_, e⟩) 0 1 _ _ _ _ _ (by rfl) (by rfl) ?_
      refine wpAny_bind (wpAny_holding (wpAny_truthy_bool ?_))
      refine wpAny_bind (wpAny_letGo ?_)
      refine wpAny_pure ?_
      have z1 : ((1 : Nat) = 0) = False := by simp
      have z0 : ((0 : Nat) = 0) = True := by simp
      simp only [z0, z1, if_true, if_false]
      by_cases c : ns[j] > a
      · simp only [c, if_true, decide_true]
        refine wpAny_bind (wpAny_updateSeq (xs := #[.int a t2, .int a t2]) (f := fun _ => #[.int ns[j] t, .int ns[j] t]) hs' rfl ?_ (by rw [sizeLine_eq]; show 2 ≤ _; omega) (by rw [sizeLine_eq]; show 2 ≤ _; omega))
        refine wpAny_bind (wpAny_letGo ?_)
        refine wpAny_pure ⟨plainId_quiet F.plain_max_loop _, up _ _ _ rfl ⟨_, rfl, ?_⟩⟩
        rw [et]
        simp only [c, decide_true, if_true]
        exact ⟨t, rfl⟩
      · simp only [c, decide_false, Bool.false_eq_true, if_false]
        refine wpAny_bind (wpAny_letGo ?_)
        refine wpAny_pure ⟨plainId_quiet F.plain_max_loop _, ih (j + 1) _ _ _ _ (by omega) (by omega) hk' st'.1 st'.2 hs' (.inr ⟨_, rfl, ?_, by omega⟩)⟩
        rw [et]
        simp only [c, decide_false]
        exact ⟨t2, rfl⟩
theorem call_maxD {prog : Program} {w : World} {A : Around} {E : Value → Shared → Prop} {s : Shared} {Q : Value → Shared → Prop} {l : Addr} {items : Array Value} {ns : List Int} (hh : A.handled = none) (hl : s.heap.IsList l items)
    (hz : items.size = ns.length) (hv : ∀ (i : Nat) (v : Value), items[i]? = some v → ∃ t, v = .int (ns[i]?.getD 0) t)
    (hQ : ∀ (h' : Heap) (tk : Nat) (v : Value), (∀ b o, s.heap.get? b = some o → h'.get? b = some o) → RelV (optV (bst (fun x a => decide (x > a)) ns)) v → Q v { heap := h', gens := s.gens, drawn := s.drawn, toks := tk, os := s.os }) :
    wpAny (model prog w) A (call (.builtin "max") [.ref l] [("default", .none)]) Q E s := by
  obtain ⟨ol, l1, l2⟩ := id hl
  have hlt := Heap.lt_size l1
  refine kmk_tree F.kind_max F.plain_max F.entry_max (by exact (rfl : _ = _)) ?_
  refine wpAny_bind (wpAny_of_eq (a := [none, some Value.none]) (by rfl) ?_)
  refine wpAny_bind (wpAny_pure ?_)
  refine wpAny_bind (wpAny_pyIter_list hl ?_)
  refine wpAny_bind (wpAny_newList ?_)
  have hS : s.heap.get? (s.heap.objs.size + 1) = none := Heap.get?_none_of_le (by omega)
  have hI : s.heap.get? s.heap.objs.size = none := Heap.get?_none_of_le (by omega)
  have eS : (s.heap.push { cls := .type "list_iterator", data := .fields #[.ref l, .int 0 0] }).objs.size = s.heap.objs.size + 1 := size_push' _ _
  refine wpAny_pure ⟨plainId_quiet F.plain_max_loop _, ?_⟩
  rw [eS]
  refine max_loopD hh (l := l) (I := s.heap.objs.size) (S := s.heap.objs.size + 1) (h0 := s.heap) (Nat.ne_of_lt hlt) (Nat.ne_of_lt (Nat.lt_succ_of_lt hlt)) (Nat.succ_ne_self _) hz hv hI hS (fun h' tk v k r => hQ h' tk v k r) ns.length 0 _ _ #[] 0 (by omega) (by omega) ?_ ?_ ?_ ?_ (.inl ⟨rfl, rfl⟩)
  · exact fun b o e => Heap.get?_push_of_some _ (Heap.get?_push_of_some _ e)
  · exact ⟨_, Heap.get?_push_of_some _ (Heap.get?_push_size s.heap rfl), rfl, rfl⟩
  · exact ⟨ol, Heap.get?_push_of_some _ (Heap.get?_push_of_some _ l1), l2⟩
  · rw [← eS]; exact Heap.get?_push_size _ rfl
theorem cr_maxD {X : L2.Cx} (hc : X.calm = true) : L2.CallRK X (.builtin "max") ["default"] fun vs zs H Q => ∃ (a : Addr) (ns : List Int), vs = [V.ref a] ∧ zs = [V.non] ∧ SqL X.K H a (ns.map V.int) ∧ Q (optV (bst (fun x a => decide (x > a)) ns)) H := by
  rintro pins s σ H _ _ us ws Q I r r2 ⟨a, ns, rfl, rfl, hs, q⟩
  obtain ⟨its, rv, hl⟩ := I.list hs
  rw [Vals.ref1 r]
  have ew : ws = [.none] := by
    cases r2 with
    | cons x y => cases y; rw [show _ = Value.none from x]
  subst ew
  have rl := rv.length
  refine call_maxD (ns := ns) (I.ok.hd hc) (PlainL.isList hl.1) (by rw [List.size_toArray, ← rl, List.length_map]) (fun i v e => ?_) fun h' tk v hk rvv => ⟨_, H, I.kept hk, rvv, q⟩
  exact vals_int_at rv i v (by simpa using e)

theorem w_minD {m : Md} {N : List Str} {sc : Scope} {k : Nat} {X : Cx} {e d : Expr} {σ : L2.St} {H : Hp} {Q : VK} {p pos kp : Pos} (h : At m N sc k X) (hm : m.mg "min" = none) (hg : sc.names.lookup ("min" : Str) = some .globalImplicit)
    (q : wE X e σ H fun x H1 => wE X d σ H1 fun y H2 => ∃ (a : Addr) (ns : List Int), x = .ref a ∧ y = .non ∧ SqL m.K H2 a (ns.map V.int) ∧ Q (optV (bst (fun x a => decide (x < a)) ns)) H2)
    (hs0 : starEach [e] X.env = (false, eval e X.env) :: starEach [] X.env := by with_unfolding_all rfl) (h3 : backTo pos (starEach [e] X.env) = (false, eval e X.env) :: backTo pos (starEach [] X.env) := by with_unfolding_all rfl) (h4 : (backTo pos (starEach [e] X.env)).any (·.1) = false := by with_unfolding_all rfl) (h5 : (backToKw pos (keywordEach [⟨some "default", d, kp⟩] X.env)).all (·.1.isSome) = true := by with_unfolding_all rfl) (h6 : (backToKw pos (keywordEach [⟨some "default", d, kp⟩] X.env)).any (·.1.isNone) = false := by with_unfolding_all rfl) (h7 : (backToKw pos (keywordEach [⟨some "default", d, kp⟩] X.env)).filterMap (·.1) = [("default" : Str)] := by with_unfolding_all rfl) : wE X (.Call (.Name "min" p) [e] [⟨some "default", d, kp⟩] pos) σ H Q :=
  toE (L2.pe_callBK (cr_minD h.calm) (h.gl hg) (by rw [h.mm]; exact hm) rfl (pa_cons cE pa_nil hs0) (pk_cons cE pk_nil) (by with_unfolding_all decide) (by with_unfolding_all decide) h3 h4 h5 h6 h7)
    (q.mono fun x H1 q1 => q1.mono fun y H2 ⟨a, ns, ex, ey, hs, qq⟩ => ⟨a, ns, by rw [ex], by rw [ey], by rw [h.kk]; exact hs, qq⟩)

theorem w_maxD {m : Md} {N : List Str} {sc : Scope} {k : Nat} {X : Cx} {e d : Expr} {σ : L2.St} {H : Hp} {Q : VK} {p pos kp : Pos} (h : At m N sc k X) (hm : m.mg "max" = none) (hg : sc.names.lookup ("max" : Str) = some .globalImplicit)
    (q : wE X e σ H fun x H1 => wE X d σ H1 fun y H2 => ∃ (a : Addr) (ns : List Int), x = .ref a ∧ y = .non ∧ SqL m.K H2 a (ns.map V.int) ∧ Q (optV (bst (fun x a => decide (x > a)) ns)) H2)
    (hs0 : starEach [e] X.env = (false, eval e X.env) :: starEach [] X.env := by with_unfolding_all rfl) (h3 : backTo pos (starEach [e] X.env) = (false, eval e X.env) :: backTo pos (starEach [] X.env) := by with_unfolding_all rfl) (h4 : (backTo pos (starEach [e] X.env)).any (·.1) = false := by with_unfolding_all rfl) (h5 : (backToKw pos (keywordEach [⟨some "default", d, kp⟩] X.env)).all (·.1.isSome) = true := by with_unfolding_all rfl) (h6 : (backToKw pos (keywordEach [⟨some "default", d, kp⟩] X.env)).any (·.1.isNone) = false := by with_unfolding_all rfl) (h7 : (backToKw pos (keywordEach [⟨some "default", d, kp⟩] X.env)).filterMap (·.1) = [("default" : Str)] := by with_unfolding_all rfl) : wE X (.Call (.Name "max" p) [e] [⟨some "default", d, kp⟩] pos) σ H Q :=
  toE (L2.pe_callBK (cr_maxD h.calm) (h.gl hg) (by rw [h.mm]; exact hm) rfl (pa_cons cE pa_nil hs0) (pk_cons cE pk_nil) (by with_unfolding_all decide) (by with_unfolding_all decide) h3 h4 h5 h6 h7)
    (q.mono fun x H1 q1 => q1.mono fun y H2 ⟨a, ns, ex, ey, hs, qq⟩ => ⟨a, ns, by rw [ex], by rw [ey], by rw [h.kk]; exact hs, qq⟩)
end Vf
set_option maxRecDepth 100000
set_option maxHeartbeats 4000000
/-! Itm: d.items() of a dict whose keys are tuples, in a comprehension (the dict made in its head); comprehensions with three names. Own work. -/
namespace Vf
open PySem PySem.Spec PyProof.Rows L2 LamX
/-- its pairs: the key's own tuple and the value -/
def ItT (d : Addr) (o : Obj) (kvs : List (List Key × V)) : It :=
  ⟨fun i G => G d = some (.frz o (.dT kvs)) ∧ i < kvs.length, fun i G z G' => ∃ T ks v q, kvs[i]? = some (ks, v) ∧ z = .ref T ∧ G T = none ∧ G q = some (.tup (ks.map kV)) ∧ G' = upd G T (.tup [.ref q, v]), fun i G => G d = some (.frz o (.dT kvs)) ∧ kvs.length ≤ i⟩
theorem frz_dT {X : Cx} {σ : L2.St} {H : Hp} {pins : List (Addr × Obj)} {s : Shared} {d : Addr} {o : Obj} {kvs : List (List Key × V)} (I : Inv X pins σ H s) (hd : H d = some (.frz o (.dT kvs))) :
    (d == sysModules) = false ∧ s.heap.get? d = some o ∧ o.ExactDict ∧ ∃ (es : Array DictEntry) (ep : Nat), o.data = .dict es ep ∧ es.size = kvs.length ∧ ∀ i ks v, kvs[i]? = some (ks, v) → ∃ (hi : i < es.size) (q : Addr), es[i].key = Value.ref q ∧ H q = some (.tup (ks.map kV)) ∧ L2.RelV v es[i].val := by
  obtain ⟨h0, hz, ha, xs, rel, o2, es, ep, h1, h2, h3, h4, h5⟩ := (show ObjOk X.prog X.w H s.heap d (.frz o (.dT kvs)) from I.hok d _ hd)
  have e : o = o2 := Option.some.inj (h0.symm.trans h1)
  subst e
  have lx := paired_len rel
  have ln : es.size = xs.length := by rw [← Array.length_toList, h4, List.length_map]
  refine ⟨ha, h0, h2, es, ep, h3, by omega, fun i ks v e => ?_⟩
  have hi : i < kvs.length := (List.getElem?_eq_some_iff.1 e).1
  have hx : xs[i]? = some xs[i] := List.getElem?_eq_getElem (by omega)
  obtain ⟨p, hp, r1, r2, r3⟩ := paired_at rel i xs[i] hx
  have ep : p = (ks, v) := Option.some.inj (hp.symm.trans e)
  subst ep
  have he : es[i] = entryOfKey (tupleKind (mixKind X.prog X.w)) xs[i] := by
    have := congrArg (·[i]?) h4
    simp only [Array.getElem?_toList, List.getElem?_map, hx, Option.map_some] at this
    rw [Array.getElem?_eq_getElem (by omega)] at this
    exact Option.some.inj this
  exact ⟨by omega, xs[i].2.1, by rw [he]; rfl, r2, by rw [he]; exact r3⟩
theorem turn_itemsT {P : Program} {w : World} {K : PySem.W.Frag} {d : Addr} {o : Obj} {es : Array DictEntry} {ep : Nat} {kvs : List (List Key × V)} {elts : List Expr} {kk : Nat} {tpos : Pos} (it : Addr) (hod : o.data = .dict es ep) :
    Turn P w K (.Tuple elts kk tpos) (ItT d o kvs) [it] it fun i h => ∃ ok ov, IsItemIter h it d i kvs.length ep ok ov := by
  refine ⟨by simp, fun j g st b hb => ?_, fun j g g2 st kp => ?_, ?_, ?_, ?_⟩
  · obtain rfl : b = it := by simpa using hb
    obtain ⟨ok, ov, e⟩ := st
    exact ⟨_, e, fun v z => by cases z⟩
  · obtain ⟨ok, ov, e⟩ := st
    exact ⟨ok, ov, kp it (by simp) _ e⟩
  · rintro X rfl rfl rfl hc j pins s σ H E I hf st ⟨hd, hj⟩
    obtain ⟨hs, hgd, hx, es', ep', hdt, hsz, hv⟩ := frz_dT I hd
    obtain ⟨rfl, rfl⟩ := dict_ep hod hdt
    obtain ⟨ok, ov, he⟩ := st
    have hkv : kvs[j]? = some (kvs[j].1, kvs[j].2) := List.getElem?_eq_getElem hj
    obtain ⟨hi, q, e1, e2, e3⟩ := hv j _ _ hkv
    have hlt := Heap.lt_size he
    refine DT.nextI (by rw [hsz]; exact he) ⟨o, hgd, hx, hdt⟩ hi fun h' ho hT hz hk => ?_
    refine ⟨_, rfl, ?_⟩
    refine wpAny_letOwnedTupleGo_items ho fun h'' he' sb => ?_
    have hT2 := (sb.2 s.heap.objs.size (Nat.ne_of_gt hlt)).trans hT
    have new : ObjOk X.prog X.w (upd H s.heap.objs.size (.tup [.ref q, kvs[j].2])) h'' s.heap.objs.size (.tup [.ref q, kvs[j].2]) :=
      ⟨by show 2 ≤ sizeLine; rw [sizeLine_eq]; omega, [es'[j].key, es'[j].val], .cons (show L2.RelV (V.ref q) es'[j].key from e1) (.cons e3 .nil), _, hT2, rfl, 0, rfl⟩
    have I1 := I.turnedNew (t' := s.toks) (fun b ob hb e => (sb.2 b (fun z => hb (by rw [z]; exact List.mem_singleton.2 rfl))).trans (hk b ob (fun z => hb (by rw [z]; exact List.mem_singleton.2 rfl)) e)) hf (Nat.le_refl _) new
    refine ⟨.ref s.heap.objs.size, _, I1, rfl, ⟨_, _, _, q, hkv, rfl, HOk.fresh I.hok (Nat.le_refl _), e2, rfl⟩, ⟨_, _, by rw [← hsz]; exact he'⟩, fun b hb => ?_⟩
    obtain rfl : b = it := by simpa using hb
    rw [upd_ne (Nat.ne_of_lt hlt)]
    exact (hf b (by simp)).1
  · rintro X rfl rfl rfl hc j pins s σ H E I hf st ⟨hd, hj⟩
    obtain ⟨f0, f1, f2, f3, f4, f5⟩ := hf it (by simp)
    obtain ⟨hs, hgd, hx, es', ep', hdt, hsz, hv⟩ := frz_dT I hd
    obtain ⟨rfl, rfl⟩ := dict_ep hod hdt
    obtain ⟨ok, ov, he⟩ := st
    exact DT.endI (I.ok.hd hc) (by rw [hsz]; exact he) ⟨o, hgd, hx, hdt⟩ (by omega) fun g eb => ⟨rfl, I.turned (t' := s.toks) (fun b o2 hb e => eb b o2 hb e) f0 f1 f3 f4 f5⟩
  · rintro A j s Q E ⟨ok, ov, e⟩ q
    exact W.kcp_self e q
def iItT (td : TE) : TI := fun σ H R => td σ H fun x H1 => ∃ d kvs, x = .ref d ∧ H1 d = some (.dT kvs) ∧ ∀ o, R (ItT d o kvs) (upd H1 d (.frz o (.dT kvs)))
theorem pi_itemsT {X : Cx} {e : Expr} {td : TE} {apos cpos : Pos} {elts : List Expr} {kk : Nat} {tpos : Pos} (he : PE X e td) (hbase : attributeBase e ("items" : Str) X.env (eval e X.env) = eval e X.env := by with_unfolding_all rfl) (hline : (apos.endLine == cpos.line) = true := by with_unfolding_all rfl) :
    PI X (.Tuple elts kk tpos) (.Call (.Attribute e "items" apos) [] [] cpos) (iItT td) := ⟨fun pins s σ H R I h => by
  refine wpAny_Call_method hbase rfl hline F.plainAttrs_dict F.slot_dict_items F.type_dict_items (thn (he.run pins s σ H _ I h) fun u s1 ⟨x, H1, I1, rx, d, kvs, ex, hd, q⟩ => ?_)
  subst ex
  obtain rfl : u = Value.ref d := rx
  obtain ⟨od, I2⟩ := I1.lock hd trivial
  obtain ⟨hs, hgd, hx, es, ep, hdt, hsz, hv⟩ := frz_dT I2 upd_same
  refine ⟨⟨od, hgd, hx.1⟩, fun a e => ⟨od, by cases e; exact hgd, hx.2.1⟩, ?_⟩
  refine method_meetsIn F.slot_dict_items F.entry_dict_items rfl (PySem.evalArgs_none ⟨rfl, ⟨od, hgd, hx.1⟩, F.args_dict_items_1 (.ref d), _, DT.meetsItems (es := es) (ep := ep) hs, ?_⟩)
  refine ⟨⟨od, hgd, hx, hdt⟩, ?_⟩
  have I3 := I2.kept (t' := s1.toks) fun b ob q => Heap.get?_push_of_some { cls := .type "dict_items", data := .fields #[.ref d] } q
  refine DT.iterI ⟨_, Heap.get?_push_size s1.heap rfl, rfl, rfl⟩ ⟨od, Heap.get?_push_of_some _ hgd, hx, hdt⟩ ?_
  exact pi_one I3 _ (turn_itemsT _ hdt) ⟨_, _, by rw [hsz]; exact Heap.get?_push_size _ rfl⟩ (q od)⟩
theorem walk_itemsT {d : Addr} {o : Obj} {kvs : List (List Key × V)} : Walk (ItT d o kvs) kvs.length (fun G => G d = some (.frz o (.dT kvs))) (fun i G z G' => ∃ T ks v q, kvs[i]? = some (ks, v) ∧ z = .ref T ∧ G T = none ∧ G q = some (.tup (ks.map kV)) ∧ G' = upd G T (.tup [.ref q, v])) :=
  ⟨fun _ _ hi q => ⟨q, hi⟩, fun _ q => ⟨q, Nat.le_refl _⟩, fun _ _ _ _ _ _ y => y⟩
section
variable {m : Md} {N : List Str} {sc scope : Scope} {k k1 i j l : Nat} {X : Cx} {H : Hp} {Q : VK} {e c elt iter : Expr} {σ : L2.St} {pos p1 p2 p3 p4 apos cpos : Pos} {x y z : Str}
/-- [elt for x, y in e.items() if c], the dict with tuples as keys, locked for good -/
theorem w_lcItT (h : At m N sc k X) (ok : blkC N sc scope [(x, i), (y, j)] = true) (n1 : NL N (relS scope sc) i x) (n2 : NL N (relS scope sc) j y)
    (q : wE X e σ H fun v H1 => ∃ (d : Addr) (kvs : List (List Key × V)), v = .ref d ∧ H1 d = some (.dT kvs) ∧ ∀ o D, (upd H1 d (.frz o (.dT kvs))) D = none → ∃ Pv : Nat → Hp → Prop, Pv 0 (upd (upd H1 d (.frz o (.dT kvs))) D (.lst [])) ∧ (∀ t H, t ≤ kvs.length → Pv t H → H d = some (.frz o (.dT kvs))) ∧
      (∀ t ks w b T H, kvs[t]? = some (ks, w) → Pv t H → H b = some (.tup (ks.map kV)) → H T = none → ∀ X', At m N (relS scope sc) k X' → wT X' c ((σ.set i (some (.ref b))).set j (some w)) (upd H T (.tup [.ref b, w])) fun r H3 => if r = true then (∀ X', At m N (relS scope sc) k X' → wE X' elt ((σ.set i (some (.ref b))).set j (some w)) H3 (App D (Pv (t + 1)))) else Pv (t + 1) H3) ∧ ∀ H, Pv kvs.length H → Q (.ref D) H)
    (hbase : attributeBase e ("items" : Str) X.env (eval e X.env) = eval e X.env := by with_unfolding_all rfl) (hline : (apos.endLine == cpos.line) = true := by with_unfolding_all rfl)
    (hs : ∀ x, foldedSetIterable (.Call (.Attribute e "items" apos) [] [] cpos) X.env x = pure x := by with_unfolding_all (intro _; rfl)) : wE X (.ListComp elt [⟨.Tuple [.Name x p1, .Name y p2] k1 p3, .Call (.Attribute e "items" apos) [] [] cpos, [c], 0⟩] scope pos) σ H Q := by
  refine toE (pe_lc (own := [(x, i), (y, j)]) (g := gTup X.K 2 (gCons (gName i) (gCons (gName j) gNil))) (tt := inBlkT m N (relS scope sc) k c) (te := inBlk m N (relS scope sc) k elt) h.calm (by rw [h.nn]; exact h.nd) (pi_itemsT cE hbase hline) (by rw [h.nn, h.ss]; exact blkOk_by ok) (fun s H C cl fp => pg_tup (blk_at h s H C cl fp).calm (pgs_cons (pg_nl (blk_at h s H C cl fp) n1) (pgs_cons (pg_nl (blk_at h s H C cl fp) n2) pgs_nil (by with_unfolding_all rfl)) (by with_unfolding_all rfl)) (by with_unfolding_all rfl) (by with_unfolding_all rfl)) (fun s H C cl fp => pts_one (blk_pt h s H C cl fp)) (fun s H C cl fp => blk_pe h s H C cl fp) hs) ?_
  refine wE.mono q fun v H1 ⟨d, kvs, ea, hd, go⟩ => ⟨d, kvs, ea, hd, fun o D hD => ?_⟩
  obtain ⟨Pv, p0, st, turn, fin⟩ := go o D hD
  refine lc_it walk_itemsT (g := gTup X.K 2 (gCons (gName i) (gCons (gName j) gNil))) (tt := inBlkT m N (relS scope sc) k c) (te := inBlk m N (relS scope sc) k elt) (vs := [i, j]) (σ := σ) Pv p0 st (fun t z G G' ht hp y => ?_) fun G hp => fin G hp
  obtain ⟨T, ks, w, b, hk, rfl, hT, hb, rfl⟩ := y
  refine ⟨T, [.ref b, w], rfl, .inl (.inl upd_same), rfl, .ref b, [w], rfl, w, [], rfl, rfl, ?_⟩
  rw [set2_wipe]
  exact ⟨wipe2, fun X' hX' => turn t ks w b T G hk hp hb hT X' hX'⟩
theorem set3_wipe {u w v : V} : (((wipe σ [i, j, l]).set i (some u)).set j (some w)).set l (some v) = ((σ.set i (some u)).set j (some w)).set l (some v) := by
  refine List.ext_getElem? fun n => ?_
  simp only [wipe, List.foldl_cons, List.foldl_nil, List.getElem?_set, List.length_set]
  by_cases h1 : l = n <;> by_cases h2 : j = n <;> by_cases h3 : i = n <;> simp [h1, h2, h3]
theorem wipe3 {u w v : V} : wipe (((σ.set i (some u)).set j (some w)).set l (some v)) [i, j, l] = wipe σ [i, j, l] := by
  refine List.ext_getElem? fun n => ?_
  simp only [wipe, List.foldl_cons, List.foldl_nil, List.getElem?_set, List.length_set]
  by_cases h1 : l = n <;> by_cases h2 : j = n <;> by_cases h3 : i = n <;> simp [h1, h2, h3]
/-- [elt for x, y, z in xs], xs a list of triples -/
theorem w_lcP3 (h : At m N sc k X) (ok : blkC N sc scope [(x, i), (y, j), (z, l)] = true) (n1 : NL N (relS scope sc) i x) (n2 : NL N (relS scope sc) j y) (n3 : NL N (relS scope sc) l z)
    (q : wE X iter σ H fun v H1 => ∃ (a : Addr) (xs : List V), v = .ref a ∧ SqL m.K H1 a xs ∧ ∀ D, H1 D = none → ∃ Pv : Nat → Hp → Prop, Pv 0 (upd H1 D (.lst [])) ∧ (∀ t H, t ≤ xs.length → Pv t H → SqL m.K H a xs) ∧
      (∀ t z H, xs[t]? = some z → Pv t H → ∃ p u w v, z = .ref p ∧ SqT m.K H p [u, w, v] ∧ ∀ X', At m N (relS scope sc) k X' → wE X' elt (((σ.set i (some u)).set j (some w)).set l (some v)) H (App D (Pv (t + 1)))) ∧ ∀ H, Pv xs.length H → Q (.ref D) H)
    (hs : ∀ x, foldedSetIterable iter X.env x = pure x := by with_unfolding_all (intro _; rfl)) : wE X (.ListComp elt [⟨.Tuple [.Name x p1, .Name y p2, .Name z p4] k1 p3, iter, [], 0⟩] scope pos) σ H Q := by
  refine toE (pe_lc (own := [(x, i), (y, j), (z, l)]) (g := gTup X.K 3 (gCons (gName i) (gCons (gName j) (gCons (gName l) gNil)))) (tt := tYes) (te := inBlk m N (relS scope sc) k elt) h.calm (by rw [h.nn]; exact h.nd) (pi_list cE) (by rw [h.nn, h.ss]; exact blkOk_by ok) (fun s H C cl fp => pg_tup (blk_at h s H C cl fp).calm (pgs_cons (pg_nl (blk_at h s H C cl fp) n1) (pgs_cons (pg_nl (blk_at h s H C cl fp) n2) (pgs_cons (pg_nl (blk_at h s H C cl fp) n3) pgs_nil (by with_unfolding_all rfl)) (by with_unfolding_all rfl)) (by with_unfolding_all rfl)) (by with_unfolding_all rfl) (by with_unfolding_all rfl)) (fun _ _ _ _ _ => pts_nil) (fun s H C cl fp => blk_pe h s H C cl fp) hs) ?_
  refine wE.mono q fun v H1 ⟨a, xs, ea, hl, go⟩ => ⟨a, ea, ⟨xs, by rw [h.kk]; exact hl⟩, fun D hD => ?_⟩
  obtain ⟨Pv, p0, st, turn, fin⟩ := go D hD
  refine lc_list (K := X.K) (a := a) (xs := xs) (g := gTup X.K 3 (gCons (gName i) (gCons (gName j) (gCons (gName l) gNil)))) (tt := tYes) (te := inBlk m N (relS scope sc) k elt) (vs := [i, j, l]) (σ := σ) Pv p0 (fun j H hj hp => by rw [h.kk]; exact st j H hj hp) (fun t z H hz hp => ?_) fin
  obtain ⟨p, u, w, v, rfl, hp2, go2⟩ := turn t z H hz hp
  refine ⟨p, [u, w, v], rfl, by show SqT X.K H p [u, w, v]; rw [h.kk]; exact hp2, rfl, u, [w, v], rfl, w, [v], rfl, v, [], rfl, rfl, ?_⟩
  rw [set3_wipe]
  refine ⟨wipe3, ?_⟩
  unfold tYes
  exact iteT fun X' hX' => go2 X' hX'
end
end Vf
set_option maxRecDepth 100000
set_option maxHeartbeats 4000000
/-! Teq: == and != of lists of tuples whose items are equal at any depth, dicts among them. Own work. -/
namespace Vf
open PySem PySem.Spec PyProof.Rows L2 LamX
section
variable {prog : Program} {w : World}
theorem tup_eq (l b : Addr) (xs ys : Array Value) (n n2 : Nat) (dd dd2 : Option Addr) (sl sl2 : Array (Option Value)) (sz : xs.size = ys.size) :
    MeetsIn prog w (Builtin.«tuple.__eq__» ⟨[.ref l, .ref b], []⟩)
      (fun A R s => s.heap.get? l = some { cls := .type "tuple", dict := dd, data := .seq xs n, slots := sl } ∧ s.heap.get? b = some { cls := .type "tuple", dict := dd2, data := .seq ys n2, slots := sl2 } ∧
        (∀ j (h1 : j < xs.size) (h2 : j < ys.size), SeqAt.EqP prog w A.in1 s xs[j] ys[j] true) ∧ R (.ok (.ret (.bool true))) s) := by
  rintro A R s ⟨hl, hb, he, h⟩
  exact GQ.tuple_eqG l b xs ys n n2 dd dd2 sl sl2 sz (fun _ s' => s' = s) (fun i h1 h2 s' e => by subst e; exact he i h1 h2 _ _ ⟨rfl, rfl⟩) (fun s' e => by subst e; exact h) hl hb rfl
theorem rcP_tuples {A : Around} {s : Shared} {l b : Addr} {xs ys : Array Value} (hl : s.heap.IsTuple l xs) (hb : s.heap.IsTuple b ys) (sz : xs.size = ys.size) (hu : A.units < cLine)
    (he : ∀ j (h1 : j < xs.size) (h2 : j < ys.size), SeqAt.EqP prog w A.in1 s xs[j] ys[j] true) (E Q : Value → Shared → Prop) (h : Q (.bool true) s) : wpAny (model prog w) A (richCompare .Eq (.ref l) (.ref b)) Q E s := by
  obtain ⟨⟨c1, d1, a1, s1⟩, o1, e1, n, f1⟩ := id hl
  obtain ⟨⟨c2, d2, a2, s2⟩, o2, e2, n2, f2⟩ := id hb
  simp only at e1 f1 e2 f2
  subst e1 f1 e2 f2
  have ta : s.TypeIs (.ref l) "tuple" := ⟨_, o1, rfl⟩
  exact wpAny_richCompare_same_room (op := .Eq) ta ⟨_, o2, rfl⟩ F.slot_tuple_eq (call_meetsIn F.slot_tuple_eq ta F.entry_tuple_eq (F.args_tuple_eq_2 _ _) (tup_eq l b xs ys n n2 d1 d2 s1 s2 sz)
    ⟨o1, o2, he, show Value.bool true ≠ Value.notImplemented ∧ Q (.bool true) s from ⟨(fun x => nomatch x), h⟩⟩) hu
end
/-- tuples whose items are equal -/
def TupEq (K : PySem.W.Frag) (H : Hp) (n : Nat) (x y : V) : Prop := ∃ t u zs ws, x = .ref t ∧ y = .ref u ∧ SqT K H t zs ∧ SqT K H u ws ∧ Paired (EqV K H n) zs ws
theorem tupEq_run {X : Cx} {pins : List (Addr × Obj)} {σ : L2.St} {H : Hp} {s : Shared} (I : L2.Inv X pins σ H s) {n : Nat} {A : Around} (hu : A.units + 1 + n < cLine) {x y : V} {v u : Value} (e : TupEq X.K H n x y) (rx : L2.RelV x v) (ry : L2.RelV y u) : SeqAt.EqP X.prog X.w A s v u true := by
  obtain ⟨t, b, zs, ws, rfl, rfl, h1, h2, hp⟩ := e
  cases rx
  cases ry
  by_cases c : t = b
  · subst c
    exact (SeqAt.EqAt.same _).eqP
  · obtain ⟨us, r1, p1, _⟩ := I.tuple h1
    obtain ⟨vs, r2, p2, _⟩ := I.tuple h2
    have sz : us.toArray.size = vs.toArray.size := by
      rw [List.size_toArray, List.size_toArray, ← r1.length, ← r2.length]
      exact Paired.length hp
    refine SeqAt.eqP_refs c (rcP_tuples p1 p2 sz (by omega) fun j h1 h2 => ?_)
    have key := items_run (P := X.prog) (w := X.w) (A := A.in1) (s := s) (F := EqV X.K H n) (fun x y v u e rx ry => eqV_run I n A.in1 (by show A.units + 1 + n < cLine; omega) x y v u e rx ry) hp r1 r2 j (by simpa using h1) (by simpa using h2)
    simpa using key
section
variable {m : Md} {N : List Str} {sc : Scope} {k n : Nat} {X : Cx} {H : Hp} {Q : VK} {a b : Addr} {xs ys : List V}
theorem g_eqTL (h : At m N sc k X) (ha : SqL m.K H a xs) (hb : SqL m.K H b ys) (hn : n ≤ 30) (hp : Paired (TupEq m.K H n) xs ys) (q : Q (.bl true) H) : gOp X (compareOp .Eq) (.ref a) (.ref b) H Q := fun pins s σ v u I rx ry => by
  cases rx
  cases ry
  have hu := h.room.un
  obtain ⟨us, r1, p1, _⟩ := I.list (by rw [h.kk]; exact ha)
  obtain ⟨ws, r2, p2, _⟩ := I.list (by rw [h.kk]; exact hb)
  have sz : us.toArray.size = ws.toArray.size := by
    rw [List.size_toArray, List.size_toArray, ← r1.length, ← r2.length]
    exact Paired.length hp
  have key := SeqAt.rcP_lists (prog := X.prog) (w := X.w) (A := X.A) (e := fun _ => true) p1.isList p2.isList sz (by omega) (fun j h1 h2 => by
    have key := items_run (P := X.prog) (w := X.w) (A := X.A.in1) (s := s) (F := TupEq X.K H n) (fun x y v u e rx ry => tupEq_run I (by show X.A.units + 1 + 1 + n < cLine; omega) e rx ry) (by rw [h.kk]; exact hp) r1 r2 j (by simpa using h1) (by simpa using h2)
    simpa using key)
  rw [show (List.range us.toArray.size).all (fun _ => true) = true from by simp] at key
  exact key _ _ ⟨.bl true, H, I, rfl, q⟩
theorem g_neTL (h : At m N sc k X) (ha : SqL m.K H a xs) (hb : SqL m.K H b ys) (hn : n ≤ 30) (hp : Paired (TupEq m.K H n) xs ys) (q : Q (.bl false) H) : gOp X (compareOp .NotEq) (.ref a) (.ref b) H Q := fun pins s σ v u I rx ry => by
  cases rx
  cases ry
  have hu := h.room.un
  obtain ⟨us, r1, p1, _⟩ := I.list (by rw [h.kk]; exact ha)
  obtain ⟨ws, r2, p2, _⟩ := I.list (by rw [h.kk]; exact hb)
  have sz : us.toArray.size = ws.toArray.size := by
    rw [List.size_toArray, List.size_toArray, ← r1.length, ← r2.length]
    exact Paired.length hp
  refine Vq.ne_lists p1.isList p2.isList sz (by omega) (fun j h1 h2 => ?_) _ _ ⟨.bl false, H, I, rfl, q⟩
  have key := items_run (P := X.prog) (w := X.w) (A := X.A.in1) (s := s) (F := TupEq X.K H n) (fun x y v u e rx ry => tupEq_run I (by show X.A.units + 1 + 1 + n < cLine; omega) e rx ry) (by rw [h.kk]; exact hp) r1 r2 j (by simpa using h1) (by simpa using h2)
  simpa using key
end
end Vf
set_option maxRecDepth 100000
set_option maxHeartbeats 4000000
/-! Dki: [elt for x in d if c], d a dict; key not in d, d locked or not. Own work. -/
namespace Vf
open PySem PySem.Spec PyProof.Rows L2 LamX
section
variable {m : Md} {N : List Str} {sc scope : Scope} {k i : Nat} {X : Cx} {c elt iter : Expr} {σ : L2.St} {H : Hp} {Q : VK} {pos p1 : Pos} {x : Str}
theorem w_lcDki (h : At m N sc k X) (ok : blkC N sc scope [(x, i)] = true) (n : NL N (relS scope sc) i x)
    (q : ∃ (d : Addr) (kvs : List (Key × V)), H d = some (.dK kvs) ∧ ∀ od, wE X iter σ (upd H d (.frz od (.dK kvs))) fun v H1 => v = .ref d ∧ H1 = upd H d (.frz od (.dK kvs)) ∧ ∀ D, H1 D = none → ∃ Pv : Nat → Hp → Prop, Pv 0 (upd H1 D (.lst [])) ∧ (∀ t H, t ≤ kvs.length → Pv t H → H d = some (.frz od (.dK kvs))) ∧
      (∀ t p H, kvs[t]? = some p → Pv t H → ∀ X', At m N (relS scope sc) k X' → wT X' c (σ.set i (some (kV p.1))) H fun b H3 => if b = true then (∀ X', At m N (relS scope sc) k X' → wE X' elt (σ.set i (some (kV p.1))) H3 (App D (Pv (t + 1)))) else Pv (t + 1) H3) ∧ ∀ H, Pv kvs.length H → Q (.ref D) (upd H d (.dK kvs)))
    (hs : ∀ x, foldedSetIterable iter X.env x = pure x := by with_unfolding_all (intro _; rfl)) : wE X (.ListComp elt [⟨.Name x p1, iter, [c], 0⟩] scope pos) σ H Q := by
  refine toE (pe_lock (pe_lc (own := [(x, i)]) (g := gName i) (tt := inBlkT m N (relS scope sc) k c) (te := inBlk m N (relS scope sc) k elt) h.calm (by rw [h.nn]; exact h.nd) (pi_keys cE) (by rw [h.nn, h.ss]; exact blkOk_by ok) (fun s H C cl fp => pg_nl (blk_at h s H C cl fp) n) (fun s H C cl fp => pts_one (blk_pt h s H C cl fp)) (fun s H C cl fp => blk_pe h s H C cl fp) hs)) ?_
  obtain ⟨d, kvs, hd, q⟩ := q
  refine ⟨d, .dK kvs, hd, trivial, fun od => ?_⟩
  refine wE.mono (q od) fun v H1 ⟨ev, eH, go⟩ => ?_
  refine ⟨d, od, ev, .inl ⟨kvs, by rw [eH]; exact upd_same, fun D hD => ?_⟩⟩
  obtain ⟨Pv, p0, st, turn, fin⟩ := go D hD
  refine lc_it walk_keys (g := gName i) (tt := inBlkT m N (relS scope sc) k c) (te := inBlk m N (relS scope sc) k elt) (vs := [i]) (σ := σ) Pv p0 st (fun t z H H' ht hp y => ?_) fun H hp => ⟨st _ _ (Nat.le_refl _) hp, fin H hp⟩
  obtain ⟨rfl, kk, v, hk, rfl⟩ := y
  refine ⟨by rw [wipe1]; simp [wipe, List.set_set], fun X' hX' => ?_⟩
  have t := turn t (kk, v) H' hk hp X' hX'
  rw [set_wipe]
  exact t
theorem g_notInDR (h : At m N sc k X) {d : Addr} {kvs : List (Key × V)} {z : Str} (hd : L2.Rd H d (.dK kvs)) (q : Q (.bl (!(valV kvs (.inr z)).isSome)) H) : gOp X (compareOp .NotIn) (.str z) (.ref d) H Q := by
  intro pins s σ v u I rx ry
  obtain rfl : u = Value.ref d := ry
  have hu := h.hu
  exact d_notIn hu I (.inl ⟨kvs, .inr z, hd, rfl, rfl⟩) rx fun s3 I3 => ⟨.bl _, _, I3, rfl, q⟩
end
end Vf
set_option maxRecDepth 100000
set_option maxHeartbeats 4000000
/-! Eqn: == and != of lists of unlike lengths. Own work. -/
namespace Vq
open PySem PySem.SeqAt
open AutoSeq1 (wpAny_loadPart')
open MeetsSeq MeetsSeq2 MeetsSeq3 SeqRoads2
section
variable {prog : Program} {w : World}
theorem list_neZ (l b : Addr) (xs ys : Array Value) (n n2 : Nat) (dd dd2 : Option Addr) (sl sl2 : Array (Option Value)) (sz : xs.size ≠ ys.size) :
    MeetsIn prog w (Builtin.«list.__ne__» ⟨[.ref l, .ref b], []⟩)
      (fun A R s => s.heap.get? l = some { cls := .type "list", dict := dd, data := .seq xs n, slots := sl } ∧ s.heap.get? b = some { cls := .type "list", dict := dd2, data := .seq ys n2, slots := sl2 } ∧ R (.ok (.ret (.bool true))) s) := by
  rintro A R ⟨hp, g, d, tk, os⟩ ⟨hl, hb, h⟩
  have f3 := AutoSeq1.sub_list_list
  have hne : (xs.size != ys.size) = true := by simpa using sz
  wp_walk using wpAny_loadPart' hl, wpAny_loadPart' hb
  exact h
theorem list_eqZ (l b : Addr) (xs ys : Array Value) (n n2 : Nat) (dd dd2 : Option Addr) (sl sl2 : Array (Option Value)) (sz : xs.size ≠ ys.size) :
    MeetsIn prog w (Builtin.«list.__eq__» ⟨[.ref l, .ref b], []⟩)
      (fun A R s => s.heap.get? l = some { cls := .type "list", dict := dd, data := .seq xs n, slots := sl } ∧ s.heap.get? b = some { cls := .type "list", dict := dd2, data := .seq ys n2, slots := sl2 } ∧ R (.ok (.ret (.bool false))) s) := by
  rintro A R ⟨hp, g, d, tk, os⟩ ⟨hl, hb, h⟩
  have f3 := AutoSeq1.sub_list_list
  have hne : (xs.size != ys.size) = true := by simpa using sz
  wp_walk using wpAny_loadPart' hl, wpAny_loadPart' hb
  exact h
theorem ne_listsZ {A : Around} {s : Shared} {l b : Addr} {xs ys : Array Value} (hl : s.heap.IsList l xs) (hb : s.heap.IsList b ys) (sz : xs.size ≠ ys.size) (hu : A.units < cLine)
    (E Q : Value → Shared → Prop) (h : Q (.bool true) s) : wpAny (model prog w) A (richCompare .NotEq (.ref l) (.ref b)) Q E s := by
  obtain ⟨⟨c1, d1, a1, s1⟩, o1, e1, n, f1⟩ := id hl
  obtain ⟨⟨c2, d2, a2, s2⟩, o2, e2, n2, f2⟩ := id hb
  simp only at e1 f1 e2 f2
  subst e1 f1 e2 f2
  have ta : s.TypeIs (.ref l) "list" := ⟨_, o1, rfl⟩
  exact wpAny_richCompare_same_room (op := .NotEq) ta ⟨_, o2, rfl⟩ F.slot_list_ne (call_meetsIn F.slot_list_ne ta F.entry_list_ne (F.args_list_ne_2 _ _) (list_neZ l b xs ys n n2 d1 d2 s1 s2 sz)
    ⟨o1, o2, show Value.bool true ≠ Value.notImplemented ∧ Q (.bool true) s from ⟨(fun x => nomatch x), h⟩⟩) hu
theorem eq_listsZ {A : Around} {s : Shared} {l b : Addr} {xs ys : Array Value} (hl : s.heap.IsList l xs) (hb : s.heap.IsList b ys) (sz : xs.size ≠ ys.size) (hu : A.units < cLine)
    (E Q : Value → Shared → Prop) (h : Q (.bool false) s) : wpAny (model prog w) A (richCompare .Eq (.ref l) (.ref b)) Q E s := by
  obtain ⟨⟨c1, d1, a1, s1⟩, o1, e1, n, f1⟩ := id hl
  obtain ⟨⟨c2, d2, a2, s2⟩, o2, e2, n2, f2⟩ := id hb
  simp only at e1 f1 e2 f2
  subst e1 f1 e2 f2
  have ta : s.TypeIs (.ref l) "list" := ⟨_, o1, rfl⟩
  exact wpAny_richCompare_same_room (op := .Eq) ta ⟨_, o2, rfl⟩ F.slot_list_eq (call_meetsIn F.slot_list_eq ta F.entry_list_eq (F.args_list_eq_2 _ _) (list_eqZ l b xs ys n n2 d1 d2 s1 s2 sz)
    ⟨o1, o2, show Value.bool false ≠ Value.notImplemented ∧ Q (.bool false) s from ⟨(fun x => nomatch x), h⟩⟩) hu
end
end Vq
namespace Vf
open PySem PySem.Spec PyProof.Rows L2 LamX
section
variable {m : Md} {N : List Str} {sc : Scope} {k : Nat} {X : Cx} {H : Hp} {Q : VK} {a b : Addr} {xs ys : List V}
theorem g_neLZ (h : At m N sc k X) (ha : SqL m.K H a xs) (hb : SqL m.K H b ys) (sz : xs.length ≠ ys.length) (q : Q (.bl true) H) : gOp X (compareOp .NotEq) (.ref a) (.ref b) H Q := fun pins s σ v u I rx ry => by
  cases rx
  cases ry
  have hu := h.room.un
  obtain ⟨us, r1, p1, _⟩ := I.list (by rw [h.kk]; exact ha)
  obtain ⟨ws, r2, p2, _⟩ := I.list (by rw [h.kk]; exact hb)
  exact Vq.ne_listsZ p1.isList p2.isList (by rw [List.size_toArray, List.size_toArray, ← r1.length, ← r2.length]; exact sz) (by omega) _ _ ⟨.bl true, H, I, rfl, q⟩
theorem g_eqLZ (h : At m N sc k X) (ha : SqL m.K H a xs) (hb : SqL m.K H b ys) (sz : xs.length ≠ ys.length) (q : Q (.bl false) H) : gOp X (compareOp .Eq) (.ref a) (.ref b) H Q := fun pins s σ v u I rx ry => by
  cases rx
  cases ry
  have hu := h.room.un
  obtain ⟨us, r1, p1, _⟩ := I.list (by rw [h.kk]; exact ha)
  obtain ⟨ws, r2, p2, _⟩ := I.list (by rw [h.kk]; exact hb)
  exact Vq.eq_listsZ p1.isList p2.isList (by rw [List.size_toArray, List.size_toArray, ← r1.length, ← r2.length]; exact sz) (by omega) _ _ ⟨.bl false, H, I, rfl, q⟩
/-- a list against the empty one -/
theorem g_eqNil (h : At m N sc k X) (ha : SqL m.K H a xs) (hb : SqL m.K H b []) (q : Q (.bl xs.isEmpty) H) : gOp X (compareOp .Eq) (.ref a) (.ref b) H Q := by
  cases xs with
  | nil => exact g_eqTL (n := 0) h ha hb (by omega) .nil q
  | cons x xs => exact g_eqLZ h ha hb (by simp) q
theorem g_neNil (h : At m N sc k X) (ha : SqL m.K H a xs) (hb : SqL m.K H b []) (q : Q (.bl !xs.isEmpty) H) : gOp X (compareOp .NotEq) (.ref a) (.ref b) H Q := by
  cases xs with
  | nil => exact g_neTL (n := 0) h ha hb (by omega) .nil q
  | cons x xs => exact g_neLZ h ha hb (by simp) q
end
end Vf
set_option maxRecDepth 100000
set_option maxHeartbeats 4000000
/-! Zn: zip of any number of lists. Own work. -/
namespace Vf
open PySem PySem.Spec PyProof.Rows L2 LamX
/-- the places of n new objects from k on -/
def refsFrom (k : Nat) : Nat → List Value
  | 0 => []
  | n + 1 => .ref k :: refsFrom (k + 1) n
theorem refsFrom_len : ∀ n k, (refsFrom k n).length = n
  | 0, _ => rfl
  | n + 1, k => by show (refsFrom (k + 1) n).length + 1 = n + 1; rw [refsFrom_len n]
theorem refsFrom_get : ∀ n k j, j < n → (refsFrom k n)[j]? = some (.ref (k + j))
  | 0, _, _, h => by omega
  | n + 1, k, 0, _ => rfl
  | n + 1, k, j + 1, h => by
    show (refsFrom (k + 1) n)[j]? = _
    rw [refsFrom_get n (k + 1) j (by omega), show k + 1 + j = k + (j + 1) from by omega]
theorem wp_iters {prog : Program} {w : World} {A : Around} {E : Value → Shared → Prop} : ∀ (ls : List Addr) (acc : Array Value) (s : Shared) (Q : Array Value → Shared → Prop), (∀ l ∈ ls, ∃ items, s.heap.IsList l items) →
    (∀ h' : Heap, h'.objs.size = s.heap.objs.size + ls.length → (∀ c o, s.heap.get? c = some o → h'.get? c = some o) → (∀ j l, ls[j]? = some l → h'.IsListIter (s.heap.objs.size + j) l 0) →
      Q (acc ++ (refsFrom s.heap.objs.size ls.length).toArray) { heap := h', gens := s.gens, drawn := s.drawn, toks := s.toks, os := s.os }) →
    wpAny (model prog w) A (forIn (ls.map Value.ref) acc fun x its => do
        let y ← holding its.toList (pyIter x)
        pure (ForInStep.yield (its.push y))) Q E s
  | [], acc, s, Q, _, k => by
    simp only [List.map_nil, List.forIn_nil]
    refine wpAny_pure ?_
    have := k s.heap rfl (fun _ _ z => z) (fun j l z => by simp at z)
    simpa [refsFrom] using this
  | l :: ls, acc, s, Q, hl, k => by
    obtain ⟨items, hi⟩ := hl l (by simp)
    simp only [List.map_cons, List.forIn_cons]
    refine wpAny_bind ?_
    refine wpAny_bind (wpAny_holding (wpAny_pyIter_list hi ?_))
    refine wpAny_pure ?_
    have sz := Heap.size_push s.heap { cls := Value.type "list_iterator", data := Data.fields #[Value.ref l, Value.int 0 0] }
    refine wp_iters ls _ _ Q (fun l' hl' => ?_) fun h' hs hk hit => ?_
    · obtain ⟨it', o, h1, h2, h3⟩ := hl l' (by simp [hl'])
      exact ⟨it', o, Heap.get?_push_of_some _ h1, h2, h3⟩
    · simp only [] at hs hk hit
      have := k h' (by rw [hs, sz, List.length_cons]; omega) (fun c o z => hk c o (Heap.get?_push_of_some _ z)) (fun j l' z => by
        cases j with
        | zero =>
          simp only [List.getElem?_cons_zero, Option.some.injEq] at z
          subst z
          exact ⟨_, hk _ _ (Heap.get?_push_size s.heap rfl), rfl, rfl⟩
        | succ j =>
          have := hit j l' (by simpa using z)
          rw [sz] at this
          rw [show s.heap.objs.size + (j + 1) = s.heap.objs.size + 1 + j from by omega]
          exact this)
      simp only [List.length_cons, refsFrom] at this
      simp only [sz]
      have e : (acc.push (Value.ref s.heap.objs.size)) ++ (refsFrom (s.heap.objs.size + 1) ls.length).toArray = acc ++ (Value.ref s.heap.objs.size :: refsFrom (s.heap.objs.size + 1) ls.length).toArray := by
        apply Array.ext'
        simp
      rw [e]
      exact this
/-- a zip of n iterators: its iterators in a tuple, a tuple that it hands out again -/
def ZipOf (h : Heap) (z TI TO : Addr) (its tos : List Value) : Prop := IsZip h z TI TO Value.none ∧ h.get? TI = some { cls := Value.type "tuple", data := Data.seq its.toArray } ∧ h.get? TO = some { cls := Value.type "tuple", data := Data.seq tos.toArray }
theorem zn_new (ls : List Addr) (hs : ls.length < 1000) : Meets (Builtin.«zip.__new__» { pos := Value.type "zip" :: ls.map Value.ref }) fun _ R s =>
    (∀ l ∈ ls, ∃ items, s.heap.IsList l items) ∧ ∀ h' : Heap, h'.objs.size = s.heap.objs.size + ls.length + 3 → (∀ c o, s.heap.get? c = some o → h'.get? c = some o) → (∀ j l, ls[j]? = some l → h'.IsListIter (s.heap.objs.size + j) l 0) →
      ZipOf h' (s.heap.objs.size + ls.length + 2) (s.heap.objs.size + ls.length) (s.heap.objs.size + ls.length + 1) (refsFrom s.heap.objs.size ls.length) (ls.map fun _ => Value.none) →
      R (Except.ok (Flow.ret (Value.ref (s.heap.objs.size + ls.length + 2)))) { heap := h', gens := s.gens, drawn := s.drawn, toks := s.toks, os := s.os } := by
  refine Meets.of_wp fun prog w A R s ⟨hl, k⟩ => ?_
  unfold Builtin.«zip.__new__»
  refine wpAny_bind ?_
  unfold Builtin.SmallTypes.newClass
  simp only [isType, sub_zip, pure_bind, Bool.not_true, Bool.false_eq_true, if_false]
  refine wpAny_pure ?_
  simp only [List.length_nil, gt_iff_lt, Nat.not_lt_zero, if_false]
  refine wpAny_bind ?_
  unfold Builtin.SmallTypes.iterAll
  refine wpAny_bind (wp_iters ls #[] s _ hl fun h' hs' hk hit => ?_)
  refine wpAny_pure ?_
  have lenR : ((#[] : Array Value) ++ (refsFrom s.heap.objs.size ls.length).toArray).toList = refsFrom s.heap.objs.size ls.length := by simp
  rw [lenR]
  refine wpAny_bind (wpAny_newTuple ?_ (by rw [refsFrom_len, sizeLine_eq]; omega))
  refine wpAny_bind (wpAny_newTuple ?_ (by rw [List.length_map, refsFrom_len, sizeLine_eq]; omega))
  refine wpAny_bind ?_
  unfold Builtin.SmallTypes.newRecord newObj newObjAsIs
  simp only []
  rw [if_neg (by show ¬ (5 > sizeLine + 2); rw [sizeLine_eq]; omega)]
  refine wpAny_bind (wpAny_alloc' ?_)
  refine wpAny_pure ?_
  refine wpAny_pure ⟨_, rfl, ?_⟩
  generalize eo1 : ({ cls := Value.type "tuple", data := Data.seq (refsFrom s.heap.objs.size ls.length).toArray } : Obj) = o1
  have em : (refsFrom s.heap.objs.size ls.length).map (fun _ => Value.none) = ls.map fun _ => Value.none := by
    rw [List.map_const', List.map_const', refsFrom_len]
  rw [em]
  generalize eo2 : ({ cls := Value.type "tuple", data := Data.seq (ls.map fun _ => Value.none).toArray } : Obj) = o2
  have z1 := Heap.size_push h' o1
  have z2 := Heap.size_push (h'.push o1) o2
  rw [z1] at z2
  rw [z2, z1, hs']
  generalize eo3 : ({ cls := Value.type "zip", data := Data.fields (Builtin.SmallTypes.ownedTupleFields ++ [Value.bool false, Value.ref (s.heap.objs.size + ls.length), Value.ref (s.heap.objs.size + ls.length + 1)]).toArray } : Obj) = o3
  have z3 := Heap.size_push ((h'.push o1).push o2) o3
  rw [z2, hs'] at z3
  refine k _ (by rw [z3]) (fun c o z => Heap.get?_push_of_some _ (Heap.get?_push_of_some _ (Heap.get?_push_of_some _ (hk c o z)))) (fun j l z => ?_) ⟨?_, ?_, ?_⟩
  · obtain ⟨o, h1, h2⟩ := hit j l z
    exact ⟨o, Heap.get?_push_of_some _ (Heap.get?_push_of_some _ (Heap.get?_push_of_some _ h1)), h2⟩
  · have := Heap.get?_push_size ((h'.push o1).push o2) (o := o3) (by rw [← eo3]; rfl)
    rw [z2, hs'] at this
    rw [show s.heap.objs.size + ls.length + 2 = s.heap.objs.size + ls.length + 1 + 1 from rfl]
    exact this.trans (by rw [← eo3]; rfl)
  · have := Heap.get?_push_size h' (o := o1) (by rw [← eo1]; rfl)
    rw [hs'] at this
    rw [eo1]
    exact Heap.get?_push_of_some _ (Heap.get?_push_of_some _ this)
  · have := Heap.get?_push_size (h'.push o1) (o := o2) (by rw [← eo2]; rfl)
    rw [z1, hs'] at this
    rw [eo2]
    exact Heap.get?_push_of_some _ this
theorem call_zipN {prog : Program} {w : World} {A : Around} {E : Value → Shared → Prop} {s : Shared} {Q : Value → Shared → Prop} (ls : List Addr) (hs : ls.length < 1000) (ck : checkBuiltinCall "zip.__new__" { pos := Value.type "zip" :: ls.map Value.ref } = pure ())
    (hl : ∀ l ∈ ls, ∃ items, s.heap.IsList l items)
    (k : ∀ h' : Heap, h'.objs.size = s.heap.objs.size + ls.length + 3 → (∀ c o, s.heap.get? c = some o → h'.get? c = some o) → (∀ j l, ls[j]? = some l → h'.IsListIter (s.heap.objs.size + j) l 0) →
      ZipOf h' (s.heap.objs.size + ls.length + 2) (s.heap.objs.size + ls.length) (s.heap.objs.size + ls.length + 1) (refsFrom s.heap.objs.size ls.length) (ls.map fun _ => Value.none) →
      Q (Value.ref (s.heap.objs.size + ls.length + 2)) { heap := h', gens := s.gens, drawn := s.drawn, toks := s.toks, os := s.os }) :
    wpAny (model prog w) A (call (Value.type "zip") (ls.map Value.ref)) Q E s := by
  refine callType_new F.called_zip (of_decide_eq_true (id (Eq.refl true))) (by kernel_rfl) ck (fun obj => by kernel_rfl) F.entry_zip_new (zn_new ls hs) ⟨hl, fun h' h1 h2 h3 h4 => ⟨⟨_, h4.1, rfl⟩, k h' h1 h2 h3 h4⟩⟩
/-- a zip that draws: the first k are drawn -/
structure ZDraw (h : Heap) (it0 : Nat) (ls : List Addr) (vs : List Value) (i k : Nat) (tos : List Value) : Prop where
  to_ : h.get? (it0 + ls.length + 1) = some { cls := Value.type "tuple", data := Data.seq tos.toArray }
  tl : tos.length = ls.length
  got : ∀ j, j < k → tos[j]? = vs[j]?
  it1 : ∀ j l, j < k → ls[j]? = some l → h.IsListIter (it0 + j) l (i + 1)
  it2 : ∀ j l, k ≤ j → ls[j]? = some l → h.IsListIter (it0 + j) l i
theorem wp_draws {prog : Program} {w : World} {A : Around} {E : Value → Shared → Prop} {ls : List Addr} {vs : List Value} {it0 i : Nat} (body : Value × Nat → Option PySem.Fin × Unit → Sem (ForInStep (Option PySem.Fin × Unit)))
    (hb : ∀ (k : Nat) (l : Addr) (v : Value) (items : Array Value) (s : Shared) (tos : List Value) (Q : ForInStep (Option PySem.Fin × Unit) → Shared → Prop), k < ls.length → s.heap.IsListIter (it0 + k) l i → s.heap.IsList l items → l < it0 → items[i]? = some v → s.heap.get? (it0 + ls.length + 1) = some { cls := Value.type "tuple", data := Data.seq tos.toArray } → tos.length = ls.length →
      (∀ h' : Heap, h'.objs.size = s.heap.objs.size → h'.IsListIter (it0 + k) l (i + 1) → h'.get? (it0 + ls.length + 1) = some { cls := Value.type "tuple", data := Data.seq (tos.set k v).toArray } → (∀ b, b ≠ it0 + k → b ≠ it0 + ls.length + 1 → h'.get? b = s.heap.get? b) → Q (.yield (none, ())) { heap := h', gens := s.gens, drawn := s.drawn, toks := s.toks, os := s.os }) →
      wpAny (model prog w) A (body (Value.ref (it0 + k), k) (none, ())) Q E s) :
    ∀ (m k : Nat) (s : Shared) (tos : List Value) (Q : Option PySem.Fin × Unit → Shared → Prop), k + m = ls.length → vs.length = ls.length → ZDraw s.heap it0 ls vs i k tos → (∀ (j : Nat) (l : Addr), ls[j]? = some l → ∃ (items : Array Value) (v : Value), s.heap.IsList l items ∧ items[i]? = some v ∧ vs[j]? = some v ∧ l < it0) →
      (∀ h' : Heap, h'.objs.size = s.heap.objs.size → ZDraw h' it0 ls vs i ls.length vs → (∀ b, (b < it0 ∨ it0 + ls.length ≤ b) → b ≠ it0 + ls.length + 1 → h'.get? b = s.heap.get? b) → Q (none, ()) { heap := h', gens := s.gens, drawn := s.drawn, toks := s.toks, os := s.os }) →
      wpAny (model prog w) A (forIn ((refsFrom (it0 + k) m).zipIdx k) (none, ()) body) Q E s
  | 0, k, s, tos, Q, e, ev, d, hl, q => by
    simp only [refsFrom, List.zipIdx_nil, List.forIn_nil]
    refine wpAny_pure ?_
    have ek : k = ls.length := by omega
    subst ek
    have et : tos = vs := List.ext_getElem? fun j => by
      rcases Nat.lt_or_ge j ls.length with z | z
      · exact d.got j z
      · rw [List.getElem?_eq_none (by rw [d.tl]; exact z), List.getElem?_eq_none (by rw [ev]; exact z)]
    subst et
    exact q s.heap rfl d fun _ _ _ => rfl
  | m + 1, k, s, tos, Q, e, ev, d, hl, q => by
    simp only [refsFrom, List.zipIdx_cons, List.forIn_cons]
    have hk : k < ls.length := by omega
    obtain ⟨items, v, h1, h2, h3, h4⟩ := hl k _ (List.getElem?_eq_getElem hk)
    refine wpAny_bind (hb k _ v items s tos _ hk (d.it2 k _ (Nat.le_refl k) (List.getElem?_eq_getElem hk)) h1 h4 h2 d.to_ d.tl fun h' sz hit hto hoth => ?_)
    simp only []
    refine wp_draws body hb m (k + 1) _ (tos.set k v) Q (by omega) ev ⟨hto, by rw [List.length_set, d.tl], fun j hj => ?_, fun j l hj hl' => ?_, fun j l hj hl' => ?_⟩ (fun j l hl' => ?_) fun h2' sz2 d2 ho2 => ?_
    · rcases Nat.lt_or_ge j k with z | z
      · rw [List.getElem?_set_ne (by omega)]; exact d.got j z
      · obtain rfl : j = k := by omega
        rw [List.getElem?_set_self (by rw [d.tl]; exact hk), h3]
    · rcases Nat.lt_or_ge j k with z | z
      · obtain ⟨o, g1, g2⟩ := d.it1 j l z hl'
        exact ⟨o, by show h'.get? _ = _; rw [hoth _ (by omega) (by have := (List.getElem?_eq_some_iff.1 hl').1; omega)]; exact g1, g2⟩
      · obtain rfl : j = k := by omega
        rw [List.getElem?_eq_getElem hk] at hl'
        cases hl'
        exact hit
    · obtain ⟨o, g1, g2⟩ := d.it2 j l (by omega) hl'
      exact ⟨o, by show h'.get? _ = _; rw [hoth _ (by omega) (by have := (List.getElem?_eq_some_iff.1 hl').1; omega)]; exact g1, g2⟩
    · obtain ⟨it', v', ⟨o, g1, g2⟩, r2, r3, r4⟩ := hl j l hl'
      have n1 : l ≠ it0 + k := fun z => by have := Nat.lt_of_lt_of_le r4 (Nat.le_add_right it0 k); rw [← z] at this; exact Nat.lt_irrefl _ this
      have n2 : l ≠ it0 + ls.length + 1 := fun z => by have := Nat.lt_of_lt_of_le r4 (Nat.le_add_right it0 (ls.length + 1)); rw [← Nat.add_assoc, ← z] at this; exact Nat.lt_irrefl _ this
      exact ⟨it', v', ⟨o, by show h'.get? _ = _; rw [hoth _ n1 n2]; exact g1, g2⟩, r2, r3, r4⟩
    · exact q h2' (sz2.trans sz) d2 fun b hb1 hb2 => (ho2 b hb1 hb2).trans (hoth b (by omega) hb2)
theorem zn_next_item {prog : Program} {w : World} {A : Around} {E : Value → Shared → Prop} {s : Shared} {ls : List Addr} {vs tos : List Value} {it0 i : Nat} {Q : Value → Shared → Prop}
    (hz : ZipOf s.heap (it0 + ls.length + 2) (it0 + ls.length) (it0 + ls.length + 1) (refsFrom it0 ls.length) tos) (tl : tos.length = ls.length) (hit : ∀ j l, ls[j]? = some l → s.heap.IsListIter (it0 + j) l i)
    (hl : ∀ (j : Nat) (l : Addr), ls[j]? = some l → ∃ (items : Array Value) (v : Value), s.heap.IsList l items ∧ items[i]? = some v ∧ vs[j]? = some v ∧ l < it0) (h0 : 0 < ls.length) (h1 : ls.length < 1000) (ev : vs.length = ls.length)
    (hQ : ∀ h' : Heap, IsZip h' (it0 + ls.length + 2) (it0 + ls.length) (it0 + ls.length + 1) (rawInt ↑s.heap.objs.size) → h'.get? (it0 + ls.length) = some { cls := Value.type "tuple", data := Data.seq (refsFrom it0 ls.length).toArray } → h'.get? (it0 + ls.length + 1) = some { cls := Value.type "tuple", data := Data.seq vs.toArray } →
      (∀ j l, ls[j]? = some l → h'.IsListIter (it0 + j) l (i + 1)) → h'.get? s.heap.objs.size = some { cls := Value.type "tuple", data := Data.seq vs.toArray } → h'.objs.size = s.heap.objs.size + 1 → (∀ c o, (c < it0 ∨ it0 + ls.length + 3 ≤ c) → s.heap.get? c = some o → h'.get? c = some o) →
      Q (Value.ref s.heap.objs.size) { heap := h', gens := s.gens, drawn := s.drawn, toks := s.toks, os := s.os }) :
    wpAny (model prog w) A (Builtin.«zip.__next__» { pos := [Value.ref (it0 + ls.length + 2)] }) (fun fin s' => ∃ v, fin = Fin.done (Flow.ret v) ∧ Q v s') E s := by
  obtain ⟨hz, hTI, hTO⟩ := hz
  unfold Builtin.«zip.__next__»
  refine wpAny_bind ?_
  unfold slotArgs
  simp only [List.length_nil]
  refine wpAny_pure ?_
  refine wpAny_bind (wpAny_field hz rfl rfl ?_)
  refine wpAny_bind (wpAny_field hz rfl rfl ?_)
  refine wpAny_bind (wpAny_seqItems hTI rfl ?_)
  have ne : (refsFrom it0 ls.length).toArray.isEmpty = false := by
    cases hn : ls.length with
    | zero => omega
    | succ n => simp [refsFrom]
  simp only [ne, Bool.false_eq_true, if_false]
  refine wpAny_bind ?_
  refine id (wpAny_bind (wpAny_field hz rfl rfl (wpAny_pure ?_)))
  simp only [if_true]
  refine wpAny_bind (wpAny_rule ?_)
  refine wpAny_bind (wpAny_field hz rfl rfl ?_)
  refine wpAny_bind (wpAny_setField_rec hz (by simp) fun h2 hz2 sb2 => ?_)
  refine wpAny_bind ?_
  have keep2 : ∀ b, b ≠ it0 + ls.length + 2 → h2.get? b = s.heap.get? b := fun b hb => sb2.2 b hb
  rw [show (refsFrom it0 ls.length).zipIdx = (refsFrom (it0 + 0) ls.length).zipIdx 0 from rfl]
  refine wp_draws (ls := ls) (vs := vs) (it0 := it0) (i := i) _ (fun k l v items s' tos' Q' hk hi hli hlt hv hto htl kk => ?_) ls.length 0 { heap := h2, gens := s.gens, drawn := s.drawn, toks := s.toks, os := s.os } tos _ (by omega) ev ⟨?_, tl, fun j hj => by omega, fun j l hj => by omega, fun j l _ hl' => ?_⟩ (fun j l hl' => ?_) fun h3 sz3 d3 ho3 => ?_
  · refine wpAny_bind (wpAny_onRaise ?_)
    show wpAny (model prog w) A (Builtin.SmallTypes.nextOf (Value.ref (it0 + k)) >>= fun r => pure (some r)) _ _ _
    refine wpAny_bind (wpAny_nextOf_list_item hi hli hv fun g1 gi gs => ?_)
    refine wpAny_pure ?_
    simp only []
    have hto1 : g1.get? (it0 + ls.length + 1) = some { cls := Value.type "tuple", data := Data.seq tos'.toArray } := by
      rw [gs.2 (it0 + ls.length + 1) (show (it0 + ls.length + 1 : Nat) ≠ it0 + k from by omega)]; exact hto
    refine wpAny_bind (wpAny_seqItems hto1 rfl ?_)
    simp only []
    refine wpAny_bind (wpAny_updateSeq hto1 rfl ?_ ?_ ?_)
    · refine wpAny_bind (wpAny_letGo ?_)
      refine wpAny_pure ?_
      refine kk _ (by rw [Heap.size_update]; exact gs.1) ?_ ?_ fun b hb1 hb2 => ?_
      · obtain ⟨o, a1, a2⟩ := gi
        exact ⟨o, Heap.get?_update_of_ne _ (show (it0 + ls.length + 1 : Nat) ≠ it0 + k from by omega) a1, a2⟩
      · refine (Heap.get?_update_self _ hto1 (by rfl)).trans ?_
        simp [Obj.mapSeq]
      · rw [Heap.get?_update_ne _ _ _ _ hb2]; exact gs.2 b hb1
    · rw [List.size_toArray, htl, sizeLine_eq]; omega
    · rw [Array.size_setIfInBounds, List.size_toArray, htl, sizeLine_eq]; omega
  · show h2.get? _ = _
    rw [keep2 _ (by omega)]; exact hTO
  · obtain ⟨o, g1, g2⟩ := hit j l hl'
    exact ⟨o, by show h2.get? _ = _; rw [keep2 _ (by have := (List.getElem?_eq_some_iff.1 hl').1; omega)]; exact g1, g2⟩
  · obtain ⟨it', v', ⟨o, g1, g2⟩, r2, r3, r4⟩ := hl j l hl'
    have n1 : l ≠ it0 + ls.length + 2 := fun z => by have := Nat.lt_of_lt_of_le r4 (Nat.le_add_right it0 (ls.length + 2)); rw [← Nat.add_assoc, ← z] at this; exact Nat.lt_irrefl _ this
    exact ⟨it', v', ⟨o, by show h2.get? _ = _; rw [keep2 _ n1]; exact g1, g2⟩, r2, r3, r4⟩
  · simp only []
    refine wpAny_bind (wpAny_seqItems d3.to_ rfl ?_)
    simp only []
    refine wpAny_bind (wpAny_newTuple ?_ (by rw [ev, sizeLine_eq]; omega))
    have e3 : h3.objs.size = s.heap.objs.size := sz3.trans sb2.1
    simp only [e3]
    refine wpAny_bind ?_
    unfold Builtin.SmallTypes.ownedTupleHandOut
    simp only []
    have nz : (it0 + ls.length + 2 : Nat) ≠ it0 + ls.length + 1 := by omega
    have hz3 : h3.get? (it0 + ls.length + 2) = _ := (ho3 _ (.inr (by omega)) nz).trans hz2
    refine wpAny_bind (wpAny_setField_rec (Heap.get?_push_of_some _ hz3) (by simp) fun h4 hz4 sb4 => ?_)
    refine wpAny_setField_rec hz4 (by simp) fun h5 hz5 sb5 => ?_
    refine wpAny_pure ⟨_, rfl, ?_⟩
    have k5 : ∀ (b : Addr) (o : Obj), b ≠ it0 + ls.length + 2 → h3.get? b = some o → h5.get? b = some o := fun b o hb g => by
      rw [sb5.2 b hb, sb4.2 b hb]; exact Heap.get?_push_of_some _ g
    have hszs : s.heap.objs.size ≠ it0 + ls.length + 2 := fun z => by
      have := Heap.lt_size hz
      rw [z] at this
      exact Nat.lt_irrefl _ this
    refine hQ h5 (hz5.trans (by simp)) ?_ (k5 _ _ (Ne.symm nz) d3.to_) (fun j l hl' => ?_) ?_ ?_ fun c o hc g => ?_
    · refine k5 _ _ (show (it0 + ls.length : Nat) ≠ it0 + ls.length + 2 from by omega) ?_
      rw [ho3 (it0 + ls.length) (.inr (Nat.le_refl _)) (by omega)]
      show h2.get? _ = _
      rw [keep2 _ (by omega)]; exact hTI
    · have hj := (List.getElem?_eq_some_iff.1 hl').1
      obtain ⟨o, a1, a2⟩ := d3.it1 j l hj hl'
      exact ⟨o, k5 _ _ (show (it0 + j : Nat) ≠ it0 + ls.length + 2 from by omega) a1, a2⟩
    · rw [sb5.2 _ hszs, sb4.2 _ hszs, ← e3]
      exact Heap.get?_push_size h3 rfl
    · rw [sb5.1, sb4.1, Heap.size_push, e3]
    · have hcz : c ≠ it0 + ls.length + 2 := by omega
      refine k5 c o hcz ?_
      rw [ho3 c (by omega) (by omega)]
      show h2.get? _ = _
      rw [keep2 c hcz]; exact g
theorem zn_next_end {prog : Program} {w : World} {A : Around} {E : Value → Shared → Prop} {s : Shared} {ls : List Addr} {tos : List Value} {it0 i : Nat} {Q : PySem.Fin → Shared → Prop} {l : Addr} {items : Array Value} (hh : A.handled = none)
    (hz : ZipOf s.heap (it0 + ls.length + 2) (it0 + ls.length) (it0 + ls.length + 1) (refsFrom it0 ls.length) tos) (h0 : 0 < ls.length) (hit : s.heap.IsListIter it0 l i) (hl : s.heap.IsList l items) (he : items[i]? = none)
    (hE : ∀ (h' : Heap) (e : Addr), (∀ c o, (c < it0 ∨ it0 + ls.length + 3 ≤ c) → s.heap.get? c = some o → h'.get? c = some o) → (∃ o, h'.get? e = some o ∧ o.cls = Value.type "StopIteration") → E (Value.ref e) { heap := h', gens := s.gens, drawn := s.drawn, toks := s.toks, os := s.os }) :
    wpAny (model prog w) A (Builtin.«zip.__next__» { pos := [Value.ref (it0 + ls.length + 2)] }) Q E s := by
  obtain ⟨hz, hTI, hTO⟩ := hz
  unfold Builtin.«zip.__next__»
  refine wpAny_bind ?_
  unfold slotArgs
  simp only [List.length_nil]
  refine wpAny_pure ?_
  refine wpAny_bind (wpAny_field hz rfl rfl ?_)
  refine wpAny_bind (wpAny_field hz rfl rfl ?_)
  refine wpAny_bind (wpAny_seqItems hTI rfl ?_)
  have ne : (refsFrom it0 ls.length).toArray.isEmpty = false := by
    cases hn : ls.length with
    | zero => omega
    | succ n => simp [refsFrom]
  simp only [ne, Bool.false_eq_true, if_false]
  refine wpAny_bind ?_
  refine id (wpAny_bind (wpAny_field hz rfl rfl (wpAny_pure ?_)))
  simp only [if_true]
  refine wpAny_bind (wpAny_rule ?_)
  refine wpAny_bind (wpAny_field hz rfl rfl ?_)
  refine wpAny_bind (wpAny_setField_rec hz (by simp) fun h2 hz2 sb2 => ?_)
  refine wpAny_bind ?_
  have keep2 : ∀ b, b ≠ it0 + ls.length + 2 → h2.get? b = s.heap.get? b := fun b hb => sb2.2 b hb
  obtain ⟨n, hn⟩ : ∃ n, ls.length = n + 1 := ⟨ls.length - 1, by omega⟩
  rw [show (refsFrom it0 ls.length).zipIdx = (Value.ref it0, 0) :: (refsFrom (it0 + 1) n).zipIdx 1 from by rw [hn]; rfl]
  simp only [List.forIn_cons]
  refine wpAny_bind ?_
  refine wpAny_bind (wpAny_onRaise ?_)
  show wpAny (model prog w) A (Builtin.SmallTypes.nextOf (Value.ref it0) >>= fun r => pure (some r)) _ _ _
  have it2 : h2.IsListIter it0 l i := by
    obtain ⟨o, g1, g2⟩ := hit
    exact ⟨o, by rw [keep2 _ (by omega)]; exact g1, g2⟩
  have ln : l ≠ it0 + ls.length + 2 := fun z => by
    obtain ⟨o, g1, g2, _⟩ := hl
    rw [z, hz] at g1
    cases g1
    exact absurd (Value.type.inj g2) (by decide)
  have l2 : h2.IsList l items := by
    obtain ⟨o, g1, g2⟩ := hl
    exact ⟨o, by rw [keep2 _ ln]; exact g1, g2⟩
  refine wpAny_bind (wpAny_nextOf_list_end hh it2 l2 he fun h3 e eb hs => ?_)
  have hz3 := eb _ _ (show (it0 + ls.length + 2 : Nat) ≠ it0 from by omega) hz2
  refine wpAny_setField_rec hz3 (by simp) fun h4 hz4 sb4 => ?_
  refine hE h4 e (fun c o hc g => ?_) ?_
  · have hcz : c ≠ it0 + ls.length + 2 := by omega
    rw [sb4.2 c hcz]
    exact eb c o (show (c : Nat) ≠ it0 from by omega) (by show h2.get? c = _; rw [keep2 c hcz]; exact g)
  · obtain ⟨o, g1, g2⟩ := hs
    refine ⟨o, ?_, g2⟩
    rw [sb4.2 e fun z => ?_]
    · exact g1
    · rw [z, hz3] at g1
      cases g1
      exact absurd (Value.type.inj g2) (by decide)
theorem pyNext_zipN_item {prog : Program} {w : World} {A : Around} {E : Value → Shared → Prop} {s : Shared} {ls : List Addr} {vs tos : List Value} {it0 i : Nat} {Q : Option Value → Shared → Prop}
    (hz : ZipOf s.heap (it0 + ls.length + 2) (it0 + ls.length) (it0 + ls.length + 1) (refsFrom it0 ls.length) tos) (tl : tos.length = ls.length) (hit : ∀ j l, ls[j]? = some l → s.heap.IsListIter (it0 + j) l i)
    (hl : ∀ (j : Nat) (l : Addr), ls[j]? = some l → ∃ (items : Array Value) (v : Value), s.heap.IsList l items ∧ items[i]? = some v ∧ vs[j]? = some v ∧ l < it0) (h0 : 0 < ls.length) (h1 : ls.length < 1000) (ev : vs.length = ls.length)
    (hQ : ∀ h' : Heap, IsZip h' (it0 + ls.length + 2) (it0 + ls.length) (it0 + ls.length + 1) (rawInt ↑s.heap.objs.size) → h'.get? (it0 + ls.length) = some { cls := Value.type "tuple", data := Data.seq (refsFrom it0 ls.length).toArray } → h'.get? (it0 + ls.length + 1) = some { cls := Value.type "tuple", data := Data.seq vs.toArray } →
      (∀ j l, ls[j]? = some l → h'.IsListIter (it0 + j) l (i + 1)) → h'.get? s.heap.objs.size = some { cls := Value.type "tuple", data := Data.seq vs.toArray } → h'.objs.size = s.heap.objs.size + 1 → (∀ c o, (c < it0 ∨ it0 + ls.length + 3 ≤ c) → s.heap.get? c = some o → h'.get? c = some o) →
      Q (some (Value.ref s.heap.objs.size)) { heap := h', gens := s.gens, drawn := s.drawn, toks := s.toks, os := s.os }) :
    wpAny (model prog w) A (pyNext (Value.ref (it0 + ls.length + 2))) Q E s := by
  have hT : s.TypeIs (Value.ref (it0 + ls.length + 2)) "zip" := ⟨_, hz.1, rfl⟩
  refine id (wpAny_bind (wpAny_attempt (wpAny_callSpecial?_slot hT F.slot_zip_next (wpAny_call_entry F.slot_zip_next hT F.entry_zip_next (zn_next_item hz tl hit hl h0 h1 ev fun h' a1 a2 a3 a4 a5 a6 a7 => ?_) (F.args_zip_next_1 _)))))
  exact wpAny_pure (hQ h' a1 a2 a3 a4 a5 a6 a7)
theorem pyNext_zipN_end {prog : Program} {w : World} {A : Around} {E : Value → Shared → Prop} {s : Shared} {ls : List Addr} {tos : List Value} {it0 i : Nat} {Q : Option Value → Shared → Prop} {l : Addr} {items : Array Value} (hh : A.handled = none)
    (hz : ZipOf s.heap (it0 + ls.length + 2) (it0 + ls.length) (it0 + ls.length + 1) (refsFrom it0 ls.length) tos) (h0 : 0 < ls.length) (hit : s.heap.IsListIter it0 l i) (hl : s.heap.IsList l items) (he : items[i]? = none)
    (hQ : ∀ (h' : Heap), (∀ c o, (c < it0 ∨ it0 + ls.length + 3 ≤ c) → s.heap.get? c = some o → h'.get? c = some o) → Q none { heap := h', gens := s.gens, drawn := s.drawn, toks := s.toks, os := s.os }) :
    wpAny (model prog w) A (pyNext (Value.ref (it0 + ls.length + 2))) Q E s := by
  have hT : s.TypeIs (Value.ref (it0 + ls.length + 2)) "zip" := ⟨_, hz.1, rfl⟩
  refine id (wpAny_bind (wpAny_attempt (wpAny_callSpecial?_slot hT F.slot_zip_next (wpAny_call_entry F.slot_zip_next hT F.entry_zip_next (zn_next_end hh hz h0 hit hl he fun h' e hk hs => ?_) (F.args_zip_next_1 _)))))
  obtain ⟨o, ho, hc⟩ := hs
  exact wpAny_bind (wpAny_isInstance ⟨o, ho, hc⟩ isSubtype_stop (wpAny_pure (hQ h' hk)))
/-- the walk over a zip of lists -/
def ItzN (K : PySem.W.Frag) (ls : List Addr) : It where
  go i H := ∀ l ∈ ls, ∃ xs x, SqL K H l xs ∧ xs[i]? = some x
  yld i H v H' := ∃ (T : Addr) (ys : List V), v = V.ref T ∧ H T = none ∧ H' = upd H T (.tup ys) ∧ ys.length = ls.length ∧ ∀ (j : Nat) (l : Addr), ls[j]? = some l → ∀ xs, SqL K H l xs → xs[i]? = ys[j]?
  stop i H := ∃ l xs, ls[0]? = some l ∧ SqL K H l xs ∧ xs.length ≤ i
theorem pickN {X : Cx} {pins : List (Addr × Obj)} {σ : L2.St} {H : Hp} {s : Shared} (I : L2.Inv X pins σ H s) {i it0 : Nat} : ∀ ls : List Addr, (∀ l ∈ ls, ∃ xs x, SqL X.K H l xs ∧ xs[i]? = some x) → (∀ l ∈ ls, l < it0) →
    ∃ (ys : List V) (vs : List Value), ys.length = ls.length ∧ vs.length = ls.length ∧ L2.Vals ys vs ∧ (∀ (j : Nat) (l : Addr), ls[j]? = some l → ∀ xs, SqL X.K H l xs → xs[i]? = ys[j]?) ∧
      ∀ (j : Nat) (l : Addr), ls[j]? = some l → ∃ (items : Array Value) (v : Value), s.heap.IsList l items ∧ items[i]? = some v ∧ vs[j]? = some v ∧ l < it0
  | [], _, _ => ⟨[], [], rfl, rfl, .nil, fun j l z => by simp at z, fun j l z => by simp at z⟩
  | l :: ls, h, hlt => by
    obtain ⟨ys, vs, e1, e2, e3, e4, e5⟩ := pickN I ls (fun l' hl' => h l' (by simp [hl'])) fun l' hl' => hlt l' (by simp [hl'])
    obtain ⟨xs, x, hq, hx⟩ := h l (by simp)
    obtain ⟨its, rv, p, _⟩ := Inv.list I hq
    obtain ⟨u, hu, ru⟩ := Vals.get rv hx
    refine ⟨x :: ys, u :: vs, by simp [e1], by simp [e2], .cons ru e3, fun j l' z xs' hq' => ?_, fun j l' z => ?_⟩
    · cases j with
      | zero =>
        simp only [List.getElem?_cons_zero, Option.some.injEq] at z
        subst z
        rw [Inv.list_inj I hq' hq, hx]; rfl
      | succ j => exact e4 j l' (by simpa using z) xs' hq'
    · cases j with
      | zero =>
        simp only [List.getElem?_cons_zero, Option.some.injEq] at z
        subst z
        exact ⟨_, u, PlainL.isList p, by rw [List.getElem?_toArray]; exact hu, rfl, hlt _ (by simp)⟩
      | succ j =>
        obtain ⟨items, v, g1, g2, g3, g4⟩ := e5 j l' (by simpa using z)
        exact ⟨items, v, g1, g2, by simpa using g3, g4⟩
def fpN (it0 n : Nat) : List Addr := (List.range (n + 3)).map fun j => it0 + j
theorem mem_fpN {it0 n b : Nat} : b ∈ fpN it0 n ↔ it0 ≤ b ∧ b < it0 + n + 3 := by
  unfold fpN
  rw [List.mem_map]
  exact ⟨fun ⟨j, h1, h2⟩ => by rw [List.mem_range] at h1; omega, fun ⟨h1, h2⟩ => ⟨b - it0, by rw [List.mem_range]; omega, by omega⟩⟩
theorem in_cases {it0 n b : Nat} (h1 : it0 ≤ b) (h2 : b < it0 + n + 3) : b = it0 + n + 2 ∨ b = it0 + n + 1 ∨ b = it0 + n ∨ ∃ j, j < n ∧ b = it0 + j := by
  rcases Nat.lt_or_ge b (it0 + n) with z | z
  · exact .inr (.inr (.inr ⟨b - it0, by omega, by omega⟩))
  · omega
theorem out_ne {it0 n c : Nat} (h : ¬ (it0 ≤ c ∧ c < it0 + n + 3)) : c ≠ it0 + n + 2 := by omega
theorem out_or {it0 n c : Nat} (h : ¬ (it0 ≤ c ∧ c < it0 + n + 3)) : c < it0 ∨ it0 + n + 3 ≤ c := by omega
theorem turn_zipN {P : Program} {w : World} {K : PySem.W.Frag} {elts : List Expr} {kk : Nat} {tpos : Pos} {ls : List Addr} {it0 : Nat} (h0 : 0 < ls.length) (h1 : ls.length < 1000) (hlt : ∀ l ∈ ls, l < it0) :
    Turn P w K (.Tuple elts kk tpos) (ItzN K ls) (fpN it0 ls.length) (it0 + ls.length + 2) fun i h => ∃ tos, tos.length = ls.length ∧ ZipOf h (it0 + ls.length + 2) (it0 + ls.length) (it0 + ls.length + 1) (refsFrom it0 ls.length) tos ∧ ∀ (j : Nat) (l : Addr), ls[j]? = some l → h.IsListIter (it0 + j) l i where
  mem := mem_fpN.2 ⟨by omega, by omega⟩
  obj i h := by
    rintro ⟨tos, tl, ⟨z1, z2, z3⟩, hit⟩ b hb
    obtain ⟨b1, b2⟩ := mem_fpN.1 hb
    rcases in_cases b1 b2 with e | e | e | ⟨j, hj, e⟩
    · have g : h.get? b = _ := (congrArg h.get? e).trans z1
      exact ⟨_, g, fun v q => nomatch q⟩
    · have g : h.get? b = _ := (congrArg h.get? e).trans z3
      exact ⟨_, g, fun v q => nomatch q⟩
    · have g : h.get? b = _ := (congrArg h.get? e).trans z2
      exact ⟨_, g, fun v q => nomatch q⟩
    · obtain ⟨o, g1, g2, g3⟩ := hit j _ (List.getElem?_eq_getElem hj)
      exact ⟨o, (congrArg h.get? e).trans g1, fun v q => by rw [g3] at q; exact nomatch q⟩
  keep i h h' := by
    rintro ⟨tos, tl, ⟨z1, z2, z3⟩, hit⟩ k
    refine ⟨tos, tl, ⟨k _ (mem_fpN.2 ⟨by omega, by omega⟩) _ z1, k _ (mem_fpN.2 ⟨by omega, by omega⟩) _ z2, k _ (mem_fpN.2 ⟨by omega, by omega⟩) _ z3⟩, fun j l hl => ?_⟩
    have hj := (List.getElem?_eq_some_iff.1 hl).1
    obtain ⟨o, g1, g2⟩ := hit j l hl
    exact ⟨o, k _ (mem_fpN.2 ⟨by omega, by omega⟩) _ g1, g2⟩
  item X hP hw hK hc i pins s σ H E I hf st hg := by
    subst hP; subst hw; subst hK
    obtain ⟨tos, tl, hz, hit⟩ := st
    obtain ⟨ys, vs, e1, e2, e3, e4, e5⟩ := pickN I ls hg hlt
    have hzl := Heap.lt_size hz.1
    refine pyNext_zipN_item hz tl hit e5 h0 h1 e2 fun h' z' TI' TO' hit' hT hsz hk => ⟨_, rfl, ?_⟩
    refine wpAny_letOwnedTupleGo_zip z' fun h2 z2 sb => ?_
    have nT : s.heap.objs.size ≠ it0 + ls.length + 2 := Nat.ne_of_gt hzl
    have hT2 := (sb.2 _ nT).trans hT
    have new : ObjOk X.prog X.w (upd H s.heap.objs.size (.tup ys)) h2 s.heap.objs.size (.tup ys) := ⟨by rw [e1, sizeLine_eq]; omega, vs, e3, _, hT2, rfl, 0, rfl⟩
    have I1 := Inv.turnedNew (ch := fpN it0 ls.length) (t' := s.toks) I (fun c o hb q => ?_) hf (Nat.le_refl _) new
    · refine ⟨V.ref s.heap.objs.size, _, I1, rfl, ⟨_, ys, rfl, HOk.fresh I.hok (Nat.le_refl _), rfl, e1, e4⟩, ⟨vs, e2, ⟨z2, ?_, ?_⟩, fun j l hl => ?_⟩, fun c hcm => ?_⟩
      · exact (sb.2 _ (show (it0 + ls.length : Nat) ≠ it0 + ls.length + 2 from by omega)).trans TI'
      · exact (sb.2 _ (show (it0 + ls.length + 1 : Nat) ≠ it0 + ls.length + 2 from by omega)).trans TO'
      · have hj := (List.getElem?_eq_some_iff.1 hl).1
        obtain ⟨o, g1, g2⟩ := hit' j l hl
        exact ⟨o, (sb.2 _ (show (it0 + j : Nat) ≠ it0 + ls.length + 2 from by omega)).trans g1, g2⟩
      · have hcm' := mem_fpN.1 hcm
        have hlt' : c < s.heap.objs.size := Nat.lt_of_le_of_lt (Nat.le_of_lt_succ hcm'.2) hzl
        rw [upd_ne (Nat.ne_of_lt hlt')]
        exact (hf c hcm).1
    · have hb' : ¬ (it0 ≤ c ∧ c < it0 + ls.length + 3) := fun z => hb (mem_fpN.2 z)
      show h2.get? c = _
      rw [sb.2 c (out_ne hb')]
      exact hk c o (out_or hb') q
  done X hP hw hK hc i pins s σ H E I hf st hg := by
    subst hP; subst hw; subst hK
    obtain ⟨tos, tl, hz, hit⟩ := st
    obtain ⟨l, xs, hl, hq, hle⟩ := hg
    obtain ⟨its, rv, p, _⟩ := Inv.list I hq
    have lv := Vals.length rv
    have hit0 := hit 0 l hl
    rw [Nat.add_zero] at hit0
    refine pyNext_zipN_end (I.ok.hd hc) hz h0 hit0 (PlainL.isList p) (by rw [List.getElem?_toArray]; exact List.getElem?_eq_none (by omega)) fun h' hk => ⟨rfl, Inv.turnedL (ch := fpN it0 ls.length) I (fun c o hb q => hk c o (out_or fun z => hb (mem_fpN.2 z)) q) hf⟩
  self A i s Q E := by
    rintro ⟨tos, _, hz, _⟩ h
    exact wpAny_pyIter_zip hz.1 h
theorem vals_refs : ∀ {ls : List Addr} {us : List Value}, L2.Vals (ls.map V.ref) us → us = ls.map Value.ref
  | [], _, .nil => rfl
  | l :: ls, _, .cons r rr => by rw [vals_refs rr]; cases r; rfl
/-- zip of n lists -/
def iZipN (K : PySem.W.Frag) (n : Nat) (ta : TA) : TI := fun σ H R => ta σ H fun vs H1 => ∃ ls : List Addr, vs = ls.map V.ref ∧ ls.length = n ∧ (∀ l ∈ ls, ∃ xs, SqL K H1 l xs) ∧ R (ItzN K ls) H1
theorem pie_zipN {X : Cx} {pins : List (Addr × Obj)} {σ : L2.St} {H1 : Hp} {s1 : Shared} {R : It → Hp → Prop} {elts : List Expr} {kk : Nat} {tpos : Pos} {ls : List Addr} (I1 : L2.Inv X pins σ H1 s1) (h0 : 0 < ls.length) (h1 : ls.length < 1000) (ck : checkBuiltinCall "zip.__new__" { pos := Value.type "zip" :: ls.map Value.ref } = pure ())
    (hl : ∀ l ∈ ls, ∃ xs, SqL X.K H1 l xs) (r : R (ItzN X.K ls) H1) : wpAny (model X.prog X.w) X.A (call (Value.type "zip") (ls.map Value.ref)) (fun v s2 => wpAny (model X.prog X.w) X.A (pyIter v) (PIE X pins σ (.Tuple elts kk tpos) R) X.xe s2) X.xe s1 := by
  have hp : ∀ l ∈ ls, (∃ items, s1.heap.IsList l items) ∧ l < s1.heap.objs.size := fun l hm => by
    obtain ⟨xs, hq⟩ := hl l hm
    obtain ⟨its, rv, p, _⟩ := Inv.list I1 hq
    exact ⟨⟨_, PlainL.isList p⟩, PlainL.lt p⟩
  refine call_zipN ls h1 ck (fun l hm => (hp l hm).1) fun h' hsz hk hit hz => wpAny_pyIter_zip hz.1 ?_
  exact ⟨_, fpN s1.heap.objs.size ls.length, _, ItzN X.K ls, H1, rfl, Inv.kept I1 hk, turn_zipN h0 h1 fun l hm => (hp l hm).2, ⟨_, by rw [List.length_map], hz, hit⟩, fun b hb => I1.fpOk (mem_fpN.1 hb).1 (HOk.fresh I1.hok (mem_fpN.1 hb).1), r⟩
theorem pi_zipN {X : Cx} {e : Expr} {es : List Expr} {ta : TA} {n : Nat} {p pos tpos : Pos} {elts : List Expr} {kk : Nat} (hg : Gl X "zip") (hm : X.mg "zip" = none) (ha : PA X (e :: es) ta) (h0 : 0 < n) (h1 : n < 1000) (ck : ∀ ls : List Addr, ls.length = n → checkBuiltinCall "zip.__new__" { pos := Value.type "zip" :: ls.map Value.ref } = pure ())
    (hs : starEach (e :: es) X.env = (false, eval e X.env) :: starEach es X.env) (hpl : (backTo pos (starEach es X.env)).any (·.1) = false) : PI X (.Tuple elts kk tpos) (.Call (.Name "zip" p) (e :: es) [] pos) (iZipN X.K n ta) := by
  refine ⟨fun pins s σ H R I h => Call_ (ld_blt I hg hm boot_zip (PyProof.Rows.callWith_type1 (thn (ha.run pos pins s σ H _ I h) fun us s1 z => ?_) hs hpl))⟩
  obtain ⟨vs, H1, I1, r1, ls, rfl, hn, hl, r⟩ := z
  have e := vals_refs r1
  subst e
  exact pie_zipN I1 (by omega) (by omega) (ck ls hn) hl r
/-- the columns of a zip -/
def ColsAt (K : PySem.W.Frag) (H : Hp) (ls : List Addr) (cols : List (List V)) : Prop := ∀ (j : Nat) (l : Addr) (col : List V), ls[j]? = some l → cols[j]? = some col → SqL K H l col
/-- the i-th row of the columns -/
def RowAt (cols : List (List V)) (i : Nat) (ys : List V) : Prop := ys.length = cols.length ∧ ∀ (j : Nat) (col : List V), cols[j]? = some col → col[i]? = ys[j]?
theorem walk_zipN {K : PySem.W.Frag} {ls : List Addr} {cols : List (List V)} {L : Nat} (e : cols.length = ls.length) (h0 : 0 < ls.length) (hL : ∀ col ∈ cols, col.length = L) :
    L2.Walk (ItzN K ls) L (fun H => ColsAt K H ls cols) fun i H v H' => ∃ (T : Addr) (ys : List V), v = V.ref T ∧ H T = none ∧ H' = upd H T (.tup ys) ∧ RowAt cols i ys where
  goes i H hi hc := fun l hl => by
    obtain ⟨j, hj⟩ := List.getElem?_of_mem hl
    have hjl := (List.getElem?_eq_some_iff.1 hj).1
    have hcj : j < cols.length := by omega
    have hlen := hL _ (List.getElem_mem hcj)
    exact ⟨_, (cols[j])[i]'(by omega), hc j l _ hj (List.getElem?_eq_getElem hcj), List.getElem?_eq_getElem (by omega)⟩
  stops H hc := ⟨_, _, List.getElem?_eq_getElem h0, hc 0 _ _ (List.getElem?_eq_getElem h0) (List.getElem?_eq_getElem (by omega)), by rw [hL _ (List.getElem_mem (by omega))]; exact Nat.le_refl _⟩
  yields i H v H' hi hc := by
    rintro ⟨T, ys, e1, e2, e3, e4, e5⟩
    refine ⟨T, ys, e1, e2, e3, e4.trans e.symm, fun j col hcol => ?_⟩
    have hj := (List.getElem?_eq_some_iff.1 hcol).1
    exact e5 j _ (List.getElem?_eq_getElem (by omega)) col (hc j _ col (List.getElem?_eq_getElem (by omega)) hcol)
section
variable {m : Md} {N : List Str} {sc scope : Scope} {i j k n kk : Nat} {X : Cx} {e elt : Expr} {es elts : List Expr} {σ : L2.St} {H : Hp} {Q : VK} {pos p1 p2 tpos po : Pos} {body : List Stmt} {nx : L2.St → Hp → Prop} {rt : VK} {bk ct : L2.St → Hp → Prop} {g : TG}
/-- for t in zip(e, ..), of n lists of one length that stand still -/
theorem s_forZn (h : At m N sc k X) (hg : PG X (.Tuple elts kk tpos) g) (hm : m.mg "zip" = none) (hgl : sc.names.lookup ("zip" : Str) = some .globalImplicit) (h0 : 0 < n) (h1 : n < 1000) (ck : ∀ ls : List Addr, ls.length = n → checkBuiltinCall "zip.__new__" { pos := Value.type "zip" :: ls.map Value.ref } = pure ())
    (q : wA X (e :: es) σ H fun vs H1 => ∃ (ls : List Addr) (cols : List (List V)) (L : Nat), vs = ls.map V.ref ∧ ls.length = n ∧ cols.length = n ∧ ColsAt m.K H1 ls cols ∧ (∀ col ∈ cols, col.length = L) ∧ ∃ Pv : Nat → L2.St → Hp → Prop, Pv 0 σ H1 ∧ (∀ i σ H, Pv i σ H → ColsAt m.K H ls cols) ∧
      (∀ (i : Nat) (ys : List V) (T : Addr) (σ : L2.St) (H : Hp), i < L → RowAt cols i ys → Pv i σ H → H T = none → g (.ref T) σ (upd H T (.tup ys)) fun σ2 H2 => wB X body ⟨Pv (i + 1), rt, nx, Pv (i + 1)⟩ σ2 H2) ∧ ∀ σ H, Pv L σ H → nx σ H)
    (hs : starEach (e :: es) X.env = (false, eval e X.env) :: starEach es X.env := by with_unfolding_all rfl) (hpl : (backTo p2 (starEach es X.env)).any (·.1) = false := by with_unfolding_all rfl)
    (hf : ∀ x, foldedSetIterable (.Call (.Name "zip" p1) (e :: es) [] p2) X.env x = pure x := by with_unfolding_all (intro _; rfl)) : wS X (.For (.Tuple elts kk tpos) (.Call (.Name "zip" p1) (e :: es) [] p2) body [] po) ⟨nx, rt, bk, ct⟩ σ H := by
  refine toS (ps_for h.pass h.calm (pi_zipN (n := n) (h.gl hgl) (by rw [h.mm]; exact hm) (cA (es := e :: es)) h0 h1 ck hs hpl) hg cB hf) ?_
  unfold wA at q ⊢
  refine fun pos pins s I => wpAny_mono (q pos pins s I) (fun v s' z => ?_) fun _ _ z => z
  obtain ⟨vs, H1, I1, r1, ls, cols, L, ev, el, ec, hc, hL, Pv, p0, hq, turn, fin⟩ := z
  refine ⟨vs, H1, I1, r1, ls, ev, el, fun l hl => ?_, for_it (walk_zipN (K := X.K) (ls := ls) (cols := cols) (L := L) (by omega) (by omega) hL) Pv p0 (fun i σ H _ z => by rw [h.kk]; exact hq i σ H z) (fun i x σ H H' hi hp y => ?_) fin⟩
  · obtain ⟨j, hj⟩ := List.getElem?_of_mem hl
    have hjl := (List.getElem?_eq_some_iff.1 hj).1
    exact ⟨_, by rw [h.kk]; exact hc j l _ hj (List.getElem?_eq_getElem (by omega))⟩
  · obtain ⟨T, ys, rfl, e2, rfl, e4⟩ := y
    exact turn i ys T σ H hi e4 hp e2
/-- [elt for t in zip(e, ..)] -/
theorem w_lcZn {own : List (Str × Nat)} (h : At m N sc k X) (hg : ∀ X', At m N (relS scope sc) k X' → PG X' (.Tuple elts kk tpos) g) (hm : m.mg "zip" = none) (hgl : sc.names.lookup ("zip" : Str) = some .globalImplicit) (ok : blkC N sc scope own = true) (h0 : 0 < n) (h1 : n < 1000) (ck : ∀ ls : List Addr, ls.length = n → checkBuiltinCall "zip.__new__" { pos := Value.type "zip" :: ls.map Value.ref } = pure ())
    (q : wA X (e :: es) σ H fun vs H1 => ∃ (ls : List Addr) (cols : List (List V)) (L : Nat), vs = ls.map V.ref ∧ ls.length = n ∧ cols.length = n ∧ ColsAt m.K H1 ls cols ∧ (∀ col ∈ cols, col.length = L) ∧ ∀ D, H1 D = none → ∃ Pv : Nat → Hp → Prop, Pv 0 (upd H1 D (.lst [])) ∧ (∀ i H, i ≤ L → Pv i H → ColsAt m.K H ls cols) ∧
      (∀ (i : Nat) (ys : List V) (T : Addr) (H : Hp), i < L → RowAt cols i ys → Pv i H → H T = none → g (.ref T) (wipe σ (own.map (·.2))) (upd H T (.tup ys)) fun σ2 H2 => wipe σ2 (own.map (·.2)) = wipe σ (own.map (·.2)) ∧ ∀ X', At m N (relS scope sc) k X' → wE X' elt σ2 H2 (App D (Pv (i + 1)))) ∧ ∀ H, Pv L H → Q (.ref D) H)
    (hs : starEach (e :: es) X.env = (false, eval e X.env) :: starEach es X.env := by with_unfolding_all rfl) (hpl : (backTo p2 (starEach es X.env)).any (·.1) = false := by with_unfolding_all rfl)
    (hf : ∀ x, foldedSetIterable (.Call (.Name "zip" p1) (e :: es) [] p2) X.env x = pure x := by with_unfolding_all (intro _; rfl)) : wE X (.ListComp elt [⟨.Tuple elts kk tpos, .Call (.Name "zip" p1) (e :: es) [] p2, [], 0⟩] scope pos) σ H Q := by
  refine toE (pe_lc (own := own) (g := g) (tt := tYes) (te := inBlk m N (relS scope sc) k elt) h.calm (by rw [h.nn]; exact h.nd) (pi_zipN (n := n) (h.gl hgl) (by rw [h.mm]; exact hm) (cA (es := e :: es)) h0 h1 ck hs hpl) (by rw [h.nn, h.ss]; exact blkOk_by ok) (fun s H C cl fp => hg _ (blk_at h s H C cl fp)) (fun _ _ _ _ _ => pts_nil) (fun s H C cl fp => blk_pe h s H C cl fp) hf) ?_
  unfold wA at q ⊢
  refine fun pos pins s I => wpAny_mono (q pos pins s I) (fun v s' z => ?_) fun _ _ z => z
  obtain ⟨vs, H1, I1, r1, ls, cols, L, ev, el, ec, hc, hL, go⟩ := z
  refine ⟨vs, H1, I1, r1, ls, ev, el, fun l hl => ?_, fun D hD => ?_⟩
  · obtain ⟨j, hj⟩ := List.getElem?_of_mem hl
    have hjl := (List.getElem?_eq_some_iff.1 hj).1
    exact ⟨_, by rw [h.kk]; exact hc j l _ hj (List.getElem?_eq_getElem (by omega))⟩
  · obtain ⟨Pv, p0, hq, turn, fin⟩ := go D hD
    refine lc_it (walk_zipN (K := X.K) (ls := ls) (cols := cols) (L := L) (by omega) (by omega) hL) (g := g) (tt := tYes) (te := inBlk m N (relS scope sc) k elt) (vs := own.map (·.2)) (σ := σ) Pv p0 (fun i H hi z => by rw [h.kk]; exact hq i H hi z) (fun i x H H' hi hp y => ?_) fin
    obtain ⟨T, ys, rfl, e2, rfl, e4⟩ := y
    exact turn i ys T H hi e4 hp e2
end
theorem ck2 : ∀ ls : List Addr, ls.length = 2 → checkBuiltinCall "zip.__new__" { pos := Value.type "zip" :: ls.map Value.ref } = pure ()
  | [a, b], _ => F.newCall_zip_2 (.ref a) (.ref b)
theorem ck3 : ∀ ls : List Addr, ls.length = 3 → checkBuiltinCall "zip.__new__" { pos := Value.type "zip" :: ls.map Value.ref } = pure ()
  | [a, b, c], _ => (by kernel_rfl : checkBuiltinCall "zip.__new__" { pos := [Value.type "zip", .ref a, .ref b, .ref c] } = pure ())
theorem RowAt.three {c1 c2 c3 ys : List V} {i : Nat} {x y z : V} (r : RowAt [c1, c2, c3] i ys) (h1 : c1[i]? = some x) (h2 : c2[i]? = some y) (h3 : c3[i]? = some z) : ys = [x, y, z] := by
  obtain ⟨l, r⟩ := r
  refine List.ext_getElem? fun j => ?_
  match j with
  | 0 => exact ((r 0 c1 rfl).symm.trans h1)
  | 1 => exact ((r 1 c2 rfl).symm.trans h2)
  | 2 => exact ((r 2 c3 rfl).symm.trans h3)
  | j + 3 => rw [List.getElem?_eq_none (by rw [l]; simp)]; rfl
theorem ColsAt.three {K : PySem.W.Frag} {H : Hp} {a b c : Addr} {xs ys zs : List V} (h1 : SqL K H a xs) (h2 : SqL K H b ys) (h3 : SqL K H c zs) : ColsAt K H [a, b, c] [xs, ys, zs]
  | 0, _, _, e1, e2 => by cases e1; cases e2; exact h1
  | 1, _, _, e1, e2 => by cases e1; cases e2; exact h2
  | 2, _, _, e1, e2 => by cases e1; cases e2; exact h3
  | j + 3, _, _, e1, _ => by simp at e1
end Vf
set_option maxRecDepth 100000
set_option maxHeartbeats 4000000
/-! Zm: zip of lists where what is handed out is kept by a name. Own work. -/
namespace Vf
open PySem PySem.Spec PyProof.Rows L2 LamX
/-- a zip: what it knows of the tuple that it handed out last -/
abbrev IsZipX (h : Heap) (z TI TO : Addr) (f0 : Value) (f1 : Bool) : Prop :=
  h.get? z = some { cls := Value.type "zip", dict := Option.none, data := Data.fields #[f0, Value.bool f1, Value.bool false, Value.ref TI, Value.ref TO], slots := #[] }
def Known (f0 : Value) : Prop := f0 = Value.none ∨ ∃ T : Addr, f0 = rawInt ((T : Nat) : Int)
theorem wp_alive {M : Model} {A : Around} {E : Value → Shared → Prop} {s : Shared} {a : Addr} {Q : Option Obj → Shared → Prop} (h : Q (s.heap.get? a) s) : wpAny M A (loadIfAlive a) Q E s := fun _ _ _ => h
theorem zm_free {prog : Program} {w : World} {A : Around} {E : Value → Shared → Prop} {s : Shared} {z TI TO : Addr} {f0 : Value} {f1 : Bool} {Q : Bool → Shared → Prop} (hz : IsZipX s.heap z TI TO f0 f1) (hf : Known f0) (k1 : Q true s)
    (k2 : ∀ h' : Heap, IsZipX h' z TI TO f0 true → Heap.SameBut z s.heap h' → Q false { heap := h', gens := s.gens, drawn := s.drawn, toks := s.toks, os := s.os }) : wpAny (model prog w) A (Builtin.SmallTypes.ownedTupleIsFree (.ref z)) Q E s := by
  unfold Builtin.SmallTypes.ownedTupleIsFree
  rcases hf with rfl | ⟨T, rfl⟩
  · exact wpAny_bind (wpAny_field hz rfl rfl (wpAny_pure k1))
  · refine wpAny_bind (wpAny_field hz rfl (x := rawInt ((T : Nat) : Int)) rfl ?_)
    show wpAny _ _ (loadIfAlive (((T : Nat) : Int).toNat) >>= _) _ _ _
    rw [Int.toNat_natCast]
    refine wpAny_bind (wp_alive ?_)
    cases hT : s.heap.get? T with
    | none => exact wpAny_pure k1
    | some oT =>
      simp only [Option.isNone_some, Bool.false_eq_true, if_false]
      refine wpAny_bind (wpAny_field hz rfl (x := .bool f1) rfl ?_)
      cases f1 with
      | true => exact wpAny_ite (by rw [if_neg (by decide)]; exact wpAny_pure (k2 s.heap hz (Heap.SameBut.refl _ _)))
      | false => exact wpAny_ite (by rw [if_pos (by decide)]; exact wpAny_bind (wpAny_setField_rec hz (by simp) fun h₁ hz₁ hs₁ => wpAny_pure (k2 h₁ hz₁ hs₁)))
theorem wp_draws2 {prog : Program} {w : World} {A : Around} {E : Value → Shared → Prop} {ls : List Addr} {vs : List Value} {it0 i : Nat} (body : Value → Option PySem.Fin × Array Value → Sem (ForInStep (Option PySem.Fin × Array Value)))
    (hb : ∀ (k : Nat) (l : Addr) (v : Value) (items acc : Array Value) (s : Shared) (Q : ForInStep (Option PySem.Fin × Array Value) → Shared → Prop), k < ls.length → s.heap.IsListIter (it0 + k) l i → s.heap.IsList l items → items[i]? = some v →
      (∀ h' : Heap, h'.objs.size = s.heap.objs.size → h'.IsListIter (it0 + k) l (i + 1) → (∀ b, b ≠ it0 + k → h'.get? b = s.heap.get? b) → Q (.yield (none, acc.push v)) { heap := h', gens := s.gens, drawn := s.drawn, toks := s.toks, os := s.os }) →
      wpAny (model prog w) A (body (Value.ref (it0 + k)) (none, acc)) Q E s) :
    ∀ (m k : Nat) (s : Shared) (Q : Option PySem.Fin × Array Value → Shared → Prop), k + m = ls.length → vs.length = ls.length → (∀ j l, j < k → ls[j]? = some l → s.heap.IsListIter (it0 + j) l (i + 1)) → (∀ j l, k ≤ j → ls[j]? = some l → s.heap.IsListIter (it0 + j) l i) →
      (∀ (j : Nat) (l : Addr), ls[j]? = some l → ∃ (items : Array Value) (v : Value), s.heap.IsList l items ∧ items[i]? = some v ∧ vs[j]? = some v ∧ l < it0) →
      (∀ h' : Heap, h'.objs.size = s.heap.objs.size → (∀ j l, ls[j]? = some l → h'.IsListIter (it0 + j) l (i + 1)) → (∀ b, (b < it0 ∨ it0 + ls.length ≤ b) → h'.get? b = s.heap.get? b) → Q (none, vs.toArray) { heap := h', gens := s.gens, drawn := s.drawn, toks := s.toks, os := s.os }) →
      wpAny (model prog w) A (forIn (refsFrom (it0 + k) m) (none, (vs.take k).toArray) body) Q E s
  | 0, k, s, Q, e, ev, d1, d2, hl, q => by
    simp only [refsFrom, List.forIn_nil]
    refine wpAny_pure ?_
    have ek : k = ls.length := by omega
    subst ek
    rw [← ev, List.take_length]
    exact q s.heap rfl (fun j l hj => d1 j l (List.getElem?_eq_some_iff.1 hj).1 hj) fun _ _ => rfl
  | m + 1, k, s, Q, e, ev, d1, d2, hl, q => by
    simp only [refsFrom, List.forIn_cons]
    have hk : k < ls.length := by omega
    obtain ⟨items, v, h1, h2, h3, h4⟩ := hl k _ (List.getElem?_eq_getElem hk)
    refine wpAny_bind (hb k _ v items _ s _ hk (d2 k _ (Nat.le_refl k) (List.getElem?_eq_getElem hk)) h1 h2 fun h' sz hit hoth => ?_)
    simp only []
    have ep : (vs.take k).toArray.push v = (vs.take (k + 1)).toArray := by rw [List.take_add_one, h3]; simp
    rw [ep]
    refine wp_draws2 body hb m (k + 1) _ Q (by omega) ev (fun j l hj hl' => ?_) (fun j l hj hl' => ?_) (fun j l hl' => ?_) fun h2' sz2 dd ho2 => ?_
    · rcases Nat.lt_or_ge j k with z | z
      · obtain ⟨o, g1, g2⟩ := d1 j l z hl'
        exact ⟨o, by show h'.get? _ = _; rw [hoth _ (show (it0 + j : Nat) ≠ it0 + k from by omega)]; exact g1, g2⟩
      · obtain rfl : j = k := by omega
        rw [List.getElem?_eq_getElem hk] at hl'
        cases hl'
        exact hit
    · obtain ⟨o, g1, g2⟩ := d2 j l (by omega) hl'
      exact ⟨o, by show h'.get? _ = _; rw [hoth _ (show (it0 + j : Nat) ≠ it0 + k from by omega)]; exact g1, g2⟩
    · obtain ⟨it', v', ⟨o, g1, g2⟩, r2, r3, r4⟩ := hl j l hl'
      have n1 : l ≠ it0 + k := fun z => by have := Nat.lt_of_lt_of_le r4 (Nat.le_add_right it0 k); rw [← z] at this; exact Nat.lt_irrefl _ this
      exact ⟨it', v', ⟨o, by show h'.get? _ = _; rw [hoth _ n1]; exact g1, g2⟩, r2, r3, r4⟩
    · exact q h2' (sz2.trans sz) dd fun b hb1 => (ho2 b hb1).trans (hoth b (by omega))
/-- a zip of n iterators, what it knows of its last tuple being what it may -/
def ZipAny (h : Heap) (z TI TO : Addr) (its : List Value) (n : Nat) : Prop := ∃ (f0 : Value) (f1 : Bool) (tos : List Value), Known f0 ∧ tos.length = n ∧ IsZipX h z TI TO f0 f1 ∧ h.get? TI = some { cls := Value.type "tuple", data := Data.seq its.toArray } ∧ h.get? TO = some { cls := Value.type "tuple", data := Data.seq tos.toArray }
theorem zm_next_item {prog : Program} {w : World} {A : Around} {E : Value → Shared → Prop} {s : Shared} {ls : List Addr} {vs : List Value} {it0 i : Nat} {Q : Value → Shared → Prop}
    (hz : ZipAny s.heap (it0 + ls.length + 2) (it0 + ls.length) (it0 + ls.length + 1) (refsFrom it0 ls.length) ls.length) (hit : ∀ j l, ls[j]? = some l → s.heap.IsListIter (it0 + j) l i)
    (hl : ∀ (j : Nat) (l : Addr), ls[j]? = some l → ∃ (items : Array Value) (v : Value), s.heap.IsList l items ∧ items[i]? = some v ∧ vs[j]? = some v ∧ l < it0) (h0 : 0 < ls.length) (h1 : ls.length < 1000) (ev : vs.length = ls.length)
    (hQ : ∀ h' : Heap, ZipAny h' (it0 + ls.length + 2) (it0 + ls.length) (it0 + ls.length + 1) (refsFrom it0 ls.length) ls.length →
      (∀ j l, ls[j]? = some l → h'.IsListIter (it0 + j) l (i + 1)) → h'.get? s.heap.objs.size = some { cls := Value.type "tuple", data := Data.seq vs.toArray } → h'.objs.size = s.heap.objs.size + 1 → (∀ c o, (c < it0 ∨ it0 + ls.length + 3 ≤ c) → s.heap.get? c = some o → h'.get? c = some o) →
      Q (Value.ref s.heap.objs.size) { heap := h', gens := s.gens, drawn := s.drawn, toks := s.toks, os := s.os }) :
    wpAny (model prog w) A (Builtin.«zip.__next__» { pos := [Value.ref (it0 + ls.length + 2)] }) (fun fin s' => ∃ v, fin = Fin.done (Flow.ret v) ∧ Q v s') E s := by
  obtain ⟨f0, f1, tos, hf, tl, hz, hTI, hTO⟩ := hz
  unfold Builtin.«zip.__next__»
  refine wpAny_bind ?_
  unfold slotArgs
  simp only [List.length_nil]
  refine wpAny_pure ?_
  refine wpAny_bind (wpAny_field hz rfl rfl ?_)
  refine wpAny_bind (wpAny_field hz rfl rfl ?_)
  refine wpAny_bind (wpAny_seqItems hTI rfl ?_)
  have ne : (refsFrom it0 ls.length).toArray.isEmpty = false := by
    cases hn : ls.length with
    | zero => omega
    | succ n => simp [refsFrom]
  simp only [ne, Bool.false_eq_true, if_false]
  have nz : (it0 + ls.length + 2 : Nat) ≠ it0 + ls.length + 1 := by omega
  have hszs : s.heap.objs.size ≠ it0 + ls.length + 2 := fun z => by
    have := Heap.lt_size hz
    rw [z] at this
    exact Nat.lt_irrefl _ this
  refine wpAny_bind (zm_free hz hf ?_ fun g0 hz0 sb0 => ?_)
  · simp only [if_true]
    refine wpAny_bind (wpAny_rule ?_)
    refine wpAny_bind (wpAny_field hz rfl rfl ?_)
    refine wpAny_bind (wpAny_setField_rec hz (by simp) fun h2 hz2 sb2 => ?_)
    refine wpAny_bind ?_
    have keep2 : ∀ b, b ≠ it0 + ls.length + 2 → h2.get? b = s.heap.get? b := fun b hb => sb2.2 b hb
    rw [show (refsFrom it0 ls.length).zipIdx = (refsFrom (it0 + 0) ls.length).zipIdx 0 from rfl]
    refine wp_draws (ls := ls) (vs := vs) (it0 := it0) (i := i) _ (fun k l v items s' tos' Q' hk hi hli hlt hv hto htl kk => ?_) ls.length 0 { heap := h2, gens := s.gens, drawn := s.drawn, toks := s.toks, os := s.os } tos _ (by omega) ev ⟨?_, tl, fun j hj => by omega, fun j l hj => by omega, fun j l _ hl' => ?_⟩ (fun j l hl' => ?_) fun h3 sz3 d3 ho3 => ?_
    · refine wpAny_bind (wpAny_onRaise ?_)
      show wpAny (model prog w) A (Builtin.SmallTypes.nextOf (Value.ref (it0 + k)) >>= fun r => pure (some r)) _ _ _
      refine wpAny_bind (wpAny_nextOf_list_item hi hli hv fun g1 gi gs => ?_)
      refine wpAny_pure ?_
      simp only []
      have hto1 : g1.get? (it0 + ls.length + 1) = some { cls := Value.type "tuple", data := Data.seq tos'.toArray } := by
        rw [gs.2 (it0 + ls.length + 1) (show (it0 + ls.length + 1 : Nat) ≠ it0 + k from by omega)]; exact hto
      refine wpAny_bind (wpAny_seqItems hto1 rfl ?_)
      simp only []
      refine wpAny_bind (wpAny_updateSeq hto1 rfl ?_ ?_ ?_)
      · refine wpAny_bind (wpAny_letGo ?_)
        refine wpAny_pure ?_
        refine kk _ (by rw [Heap.size_update]; exact gs.1) ?_ ?_ fun b hb1 hb2 => ?_
        · obtain ⟨o, a1, a2⟩ := gi
          exact ⟨o, Heap.get?_update_of_ne _ (show (it0 + ls.length + 1 : Nat) ≠ it0 + k from by omega) a1, a2⟩
        · refine (Heap.get?_update_self _ hto1 (by rfl)).trans ?_
          simp [Obj.mapSeq]
        · rw [Heap.get?_update_ne _ _ _ _ hb2]; exact gs.2 b hb1
      · rw [List.size_toArray, htl, sizeLine_eq]; omega
      · rw [Array.size_setIfInBounds, List.size_toArray, htl, sizeLine_eq]; omega
    · show h2.get? _ = _
      rw [keep2 _ (by omega)]; exact hTO
    · obtain ⟨o, g1, g2⟩ := hit j l hl'
      exact ⟨o, by show h2.get? _ = _; rw [keep2 _ (by have := (List.getElem?_eq_some_iff.1 hl').1; omega)]; exact g1, g2⟩
    · obtain ⟨it', v', ⟨o, g1, g2⟩, r2, r3, r4⟩ := hl j l hl'
      have n1 : l ≠ it0 + ls.length + 2 := fun z => by have := Nat.lt_of_lt_of_le r4 (Nat.le_add_right it0 (ls.length + 2)); rw [← Nat.add_assoc, ← z] at this; exact Nat.lt_irrefl _ this
      exact ⟨it', v', ⟨o, by show h2.get? _ = _; rw [keep2 _ n1]; exact g1, g2⟩, r2, r3, r4⟩
    · simp only []
      refine wpAny_bind (wpAny_seqItems d3.to_ rfl ?_)
      simp only []
      refine wpAny_bind (wpAny_newTuple ?_ (by rw [ev, sizeLine_eq]; omega))
      have e3 : h3.objs.size = s.heap.objs.size := sz3.trans sb2.1
      simp only [e3]
      refine wpAny_bind ?_
      unfold Builtin.SmallTypes.ownedTupleHandOut
      simp only []
      have hz3 : h3.get? (it0 + ls.length + 2) = _ := (ho3 _ (.inr (by omega)) nz).trans hz2
      refine wpAny_bind (wpAny_setField_rec (Heap.get?_push_of_some _ hz3) (by simp) fun h4 hz4 sb4 => ?_)
      refine wpAny_setField_rec hz4 (by simp) fun h5 hz5 sb5 => ?_
      refine wpAny_pure ⟨_, rfl, ?_⟩
      have k5 : ∀ (b : Addr) (o : Obj), b ≠ it0 + ls.length + 2 → h3.get? b = some o → h5.get? b = some o := fun b o hb g => by
        rw [sb5.2 b hb, sb4.2 b hb]; exact Heap.get?_push_of_some _ g
      refine hQ h5 ⟨rawInt ((s.heap.objs.size : Nat) : Int), false, vs, .inr ⟨s.heap.objs.size, rfl⟩, ev, hz5.trans (by simp), ?_, k5 _ _ (Ne.symm nz) d3.to_⟩ (fun j l hl' => ?_) ?_ ?_ fun c o hc g => ?_
      · refine k5 _ _ (show (it0 + ls.length : Nat) ≠ it0 + ls.length + 2 from by omega) ?_
        rw [ho3 (it0 + ls.length) (.inr (Nat.le_refl _)) (by omega)]
        show h2.get? _ = _
        rw [keep2 _ (by omega)]; exact hTI
      · have hj := (List.getElem?_eq_some_iff.1 hl').1
        obtain ⟨o, a1, a2⟩ := d3.it1 j l hj hl'
        exact ⟨o, k5 _ _ (show (it0 + j : Nat) ≠ it0 + ls.length + 2 from by omega) a1, a2⟩
      · rw [sb5.2 _ hszs, sb4.2 _ hszs, ← e3]
        exact Heap.get?_push_size h3 rfl
      · rw [sb5.1, sb4.1, Heap.size_push, e3]
      · have hcz : c ≠ it0 + ls.length + 2 := by omega
        refine k5 c o hcz ?_
        rw [ho3 c (by omega) (by omega)]
        show h2.get? _ = _
        rw [keep2 c hcz]; exact g
  · simp only [Bool.false_eq_true, if_false]
    have keep0 : ∀ b, b ≠ it0 + ls.length + 2 → g0.get? b = s.heap.get? b := fun b hb => sb0.2 b hb
    refine wpAny_bind ?_
    rw [← Array.forIn_toList]
    rw [show (refsFrom it0 ls.length).toArray.toList = refsFrom (it0 + 0) ls.length from rfl]
    refine wp_draws2 (ls := ls) (vs := vs) (it0 := it0) (i := i) _ (fun k l v items acc s' Q' hk hi hli hv kk => ?_) ls.length 0 { heap := g0, gens := s.gens, drawn := s.drawn, toks := s.toks, os := s.os } _ (by omega) ev (fun j l hj => by omega) (fun j l _ hl' => ?_) (fun j l hl' => ?_) fun h3 sz3 d3 ho3 => ?_
    · refine wpAny_bind (wpAny_holding ?_)
      show wpAny (model prog w) A (Builtin.SmallTypes.nextOf (Value.ref (it0 + k)) >>= fun r => pure (some r)) _ _ _
      refine wpAny_bind (wpAny_nextOf_list_item hi hli hv fun g1 gi gs => ?_)
      refine wpAny_pure (wpAny_pure ?_)
      exact kk g1 gs.1 gi gs.2
    · obtain ⟨o, g1, g2⟩ := hit j l hl'
      exact ⟨o, by show g0.get? _ = _; rw [keep0 _ (by have := (List.getElem?_eq_some_iff.1 hl').1; omega)]; exact g1, g2⟩
    · obtain ⟨it', v', ⟨o, g1, g2⟩, r2, r3, r4⟩ := hl j l hl'
      have n1 : l ≠ it0 + ls.length + 2 := fun z => by have := Nat.lt_of_lt_of_le r4 (Nat.le_add_right it0 (ls.length + 2)); rw [← Nat.add_assoc, ← z] at this; exact Nat.lt_irrefl _ this
      exact ⟨it', v', ⟨o, by show g0.get? _ = _; rw [keep0 _ n1]; exact g1, g2⟩, r2, r3, r4⟩
    · simp only []
      refine wpAny_bind (wpAny_newTuple ?_ (by show vs.length ≤ sizeLine; rw [ev, sizeLine_eq]; omega))
      have e3 : h3.objs.size = s.heap.objs.size := sz3.trans sb0.1
      simp only [e3]
      refine wpAny_pure ⟨_, rfl, ?_⟩
      have up : ∀ (b : Addr) (o : Obj), h3.get? b = some o → (h3.push { cls := Value.type "tuple", data := Data.seq vs.toArray }).get? b = some o := fun b o g => Heap.get?_push_of_some _ g
      have old : ∀ b, (b < it0 ∨ it0 + ls.length ≤ b) → b ≠ it0 + ls.length + 2 → h3.get? b = s.heap.get? b := fun b hb1 hb2 => (ho3 b hb1).trans (keep0 b hb2)
      refine hQ _ ⟨f0, true, tos, hf, tl, up _ _ ((ho3 _ (.inr (by omega))).trans hz0), up _ _ ((old _ (.inr (Nat.le_refl _)) (by omega)).trans hTI), up _ _ ((old _ (.inr (by omega)) (Ne.symm nz)).trans hTO)⟩ (fun j l hl' => ?_) ?_ ?_ fun c o hc g => ?_
      · obtain ⟨o, a1, a2⟩ := d3 j l hl'
        exact ⟨o, up _ _ a1, a2⟩
      · rw [← e3]
        exact Heap.get?_push_size h3 rfl
      · rw [Heap.size_push, e3]
      · exact up c o ((old c (by omega) (by omega)).trans g)
theorem zm_next_end {prog : Program} {w : World} {A : Around} {E : Value → Shared → Prop} {s : Shared} {ls : List Addr} {it0 i : Nat} {Q : PySem.Fin → Shared → Prop} {l : Addr} {items : Array Value} (hh : A.handled = none)
    (hz : ZipAny s.heap (it0 + ls.length + 2) (it0 + ls.length) (it0 + ls.length + 1) (refsFrom it0 ls.length) ls.length) (h0 : 0 < ls.length) (hit : s.heap.IsListIter it0 l i) (hl : s.heap.IsList l items) (he : items[i]? = none)
    (hE : ∀ (h' : Heap) (e : Addr), (∀ c o, (c < it0 ∨ it0 + ls.length + 3 ≤ c) → s.heap.get? c = some o → h'.get? c = some o) → (∃ o, h'.get? e = some o ∧ o.cls = Value.type "StopIteration") → E (Value.ref e) { heap := h', gens := s.gens, drawn := s.drawn, toks := s.toks, os := s.os }) :
    wpAny (model prog w) A (Builtin.«zip.__next__» { pos := [Value.ref (it0 + ls.length + 2)] }) Q E s := by
  obtain ⟨f0, f1, tos, hf, tl, hz, hTI, hTO⟩ := hz
  unfold Builtin.«zip.__next__»
  refine wpAny_bind ?_
  unfold slotArgs
  simp only [List.length_nil]
  refine wpAny_pure ?_
  refine wpAny_bind (wpAny_field hz rfl rfl ?_)
  refine wpAny_bind (wpAny_field hz rfl rfl ?_)
  refine wpAny_bind (wpAny_seqItems hTI rfl ?_)
  have ne : (refsFrom it0 ls.length).toArray.isEmpty = false := by
    cases hn : ls.length with
    | zero => omega
    | succ n => simp [refsFrom]
  simp only [ne, Bool.false_eq_true, if_false]
  obtain ⟨n, hn⟩ : ∃ n, ls.length = n + 1 := ⟨ls.length - 1, by omega⟩
  have ln : l ≠ it0 + ls.length + 2 := fun z => by
    obtain ⟨o, g1, g2, _⟩ := hl
    rw [z, hz] at g1
    cases g1
    exact absurd (Value.type.inj g2) (by decide)
  have move : ∀ g : Heap, (∀ b, b ≠ it0 + ls.length + 2 → g.get? b = s.heap.get? b) → g.IsListIter it0 l i ∧ g.IsList l items := fun g kp => by
    obtain ⟨o, g1, g2⟩ := hit
    obtain ⟨o', g1', g2'⟩ := hl
    exact ⟨⟨o, by rw [kp _ (show (it0 : Nat) ≠ it0 + ls.length + 2 from by omega)]; exact g1, g2⟩, o', by rw [kp _ ln]; exact g1', g2'⟩
  refine wpAny_bind (zm_free hz hf ?_ fun g0 hz0 sb0 => ?_)
  · simp only [if_true]
    refine wpAny_bind (wpAny_rule ?_)
    refine wpAny_bind (wpAny_field hz rfl rfl ?_)
    refine wpAny_bind (wpAny_setField_rec hz (by simp) fun h2 hz2 sb2 => ?_)
    refine wpAny_bind ?_
    rw [show (refsFrom it0 ls.length).zipIdx = (Value.ref it0, 0) :: (refsFrom (it0 + 1) n).zipIdx 1 from by rw [hn]; rfl]
    simp only [List.forIn_cons]
    refine wpAny_bind ?_
    refine wpAny_bind (wpAny_onRaise ?_)
    show wpAny (model prog w) A (Builtin.SmallTypes.nextOf (Value.ref it0) >>= fun r => pure (some r)) _ _ _
    obtain ⟨it2, l2⟩ := move h2 fun b hb => sb2.2 b hb
    refine wpAny_bind (wpAny_nextOf_list_end hh it2 l2 he fun h3 e eb hs => ?_)
    have hz3 := eb _ _ (show (it0 + ls.length + 2 : Nat) ≠ it0 from by omega) hz2
    refine wpAny_setField_rec hz3 (by simp) fun h4 hz4 sb4 => ?_
    refine hE h4 e (fun c o hc g => ?_) ?_
    · have hcz : c ≠ it0 + ls.length + 2 := by omega
      rw [sb4.2 c hcz]
      exact eb c o (show (c : Nat) ≠ it0 from by omega) (by show h2.get? c = _; rw [sb2.2 c hcz]; exact g)
    · obtain ⟨o, g1, g2⟩ := hs
      refine ⟨o, ?_, g2⟩
      rw [sb4.2 e fun z => ?_]
      · exact g1
      · rw [z, hz3] at g1
        cases g1
        exact absurd (Value.type.inj g2) (by decide)
  · simp only [Bool.false_eq_true, if_false]
    refine wpAny_bind ?_
    rw [← Array.forIn_toList]
    rw [show (refsFrom it0 ls.length).toArray.toList = Value.ref it0 :: refsFrom (it0 + 1) n from by rw [hn]; rfl]
    simp only [List.forIn_cons]
    refine wpAny_bind ?_
    refine wpAny_bind (wpAny_holding ?_)
    show wpAny (model prog w) A (Builtin.SmallTypes.nextOf (Value.ref it0) >>= fun r => pure (some r)) _ _ _
    obtain ⟨it2, l2⟩ := move g0 fun b hb => sb0.2 b hb
    refine wpAny_bind (wpAny_nextOf_list_end hh it2 l2 he fun h3 e eb hs => ?_)
    exact hE h3 e (fun c o hc g => eb c o (show (c : Nat) ≠ it0 from by omega) (by show g0.get? c = _; rw [sb0.2 c (show (c : Nat) ≠ it0 + ls.length + 2 from by omega)]; exact g)) hs
theorem pyNext_zipM_item {prog : Program} {w : World} {A : Around} {E : Value → Shared → Prop} {s : Shared} {ls : List Addr} {vs : List Value} {it0 i : Nat} {Q : Option Value → Shared → Prop}
    (hz : ZipAny s.heap (it0 + ls.length + 2) (it0 + ls.length) (it0 + ls.length + 1) (refsFrom it0 ls.length) ls.length) (hit : ∀ j l, ls[j]? = some l → s.heap.IsListIter (it0 + j) l i)
    (hl : ∀ (j : Nat) (l : Addr), ls[j]? = some l → ∃ (items : Array Value) (v : Value), s.heap.IsList l items ∧ items[i]? = some v ∧ vs[j]? = some v ∧ l < it0) (h0 : 0 < ls.length) (h1 : ls.length < 1000) (ev : vs.length = ls.length)
    (hQ : ∀ h' : Heap, ZipAny h' (it0 + ls.length + 2) (it0 + ls.length) (it0 + ls.length + 1) (refsFrom it0 ls.length) ls.length →
      (∀ j l, ls[j]? = some l → h'.IsListIter (it0 + j) l (i + 1)) → h'.get? s.heap.objs.size = some { cls := Value.type "tuple", data := Data.seq vs.toArray } → h'.objs.size = s.heap.objs.size + 1 → (∀ c o, (c < it0 ∨ it0 + ls.length + 3 ≤ c) → s.heap.get? c = some o → h'.get? c = some o) →
      Q (some (Value.ref s.heap.objs.size)) { heap := h', gens := s.gens, drawn := s.drawn, toks := s.toks, os := s.os }) :
    wpAny (model prog w) A (pyNext (Value.ref (it0 + ls.length + 2))) Q E s := by
  have hT : s.TypeIs (Value.ref (it0 + ls.length + 2)) "zip" := by
    obtain ⟨_, _, _, _, _, e, _⟩ := hz
    exact ⟨_, e, rfl⟩
  refine id (wpAny_bind (wpAny_attempt (wpAny_callSpecial?_slot hT F.slot_zip_next (wpAny_call_entry F.slot_zip_next hT F.entry_zip_next (zm_next_item hz hit hl h0 h1 ev fun h' a1 a4 a5 a6 a7 => ?_) (F.args_zip_next_1 _)))))
  exact wpAny_pure (hQ h' a1 a4 a5 a6 a7)
theorem pyNext_zipM_end {prog : Program} {w : World} {A : Around} {E : Value → Shared → Prop} {s : Shared} {ls : List Addr} {it0 i : Nat} {Q : Option Value → Shared → Prop} {l : Addr} {items : Array Value} (hh : A.handled = none)
    (hz : ZipAny s.heap (it0 + ls.length + 2) (it0 + ls.length) (it0 + ls.length + 1) (refsFrom it0 ls.length) ls.length) (h0 : 0 < ls.length) (hit : s.heap.IsListIter it0 l i) (hl : s.heap.IsList l items) (he : items[i]? = none)
    (hQ : ∀ (h' : Heap), (∀ c o, (c < it0 ∨ it0 + ls.length + 3 ≤ c) → s.heap.get? c = some o → h'.get? c = some o) → Q none { heap := h', gens := s.gens, drawn := s.drawn, toks := s.toks, os := s.os }) :
    wpAny (model prog w) A (pyNext (Value.ref (it0 + ls.length + 2))) Q E s := by
  have hT : s.TypeIs (Value.ref (it0 + ls.length + 2)) "zip" := by
    obtain ⟨_, _, _, _, _, e, _⟩ := hz
    exact ⟨_, e, rfl⟩
  refine id (wpAny_bind (wpAny_attempt (wpAny_callSpecial?_slot hT F.slot_zip_next (wpAny_call_entry F.slot_zip_next hT F.entry_zip_next (zm_next_end hh hz h0 hit hl he fun h' e hk hs => ?_) (F.args_zip_next_1 _)))))
  obtain ⟨o, ho, hc⟩ := hs
  exact wpAny_bind (wpAny_isInstance ⟨o, ho, hc⟩ isSubtype_stop (wpAny_pure (hQ h' hk)))
/-- the turns of a zip whose tuple a name takes -/
theorem turn_zipM {P : Program} {w : World} {K : PySem.W.Frag} {x : Str} {tpos : Pos} {ls : List Addr} {it0 : Nat} (h0 : 0 < ls.length) (h1 : ls.length < 1000) (hlt : ∀ l ∈ ls, l < it0) :
    Turn P w K (.Name x tpos) (ItzN K ls) (fpN it0 ls.length) (it0 + ls.length + 2) fun i h => ZipAny h (it0 + ls.length + 2) (it0 + ls.length) (it0 + ls.length + 1) (refsFrom it0 ls.length) ls.length ∧ ∀ (j : Nat) (l : Addr), ls[j]? = some l → h.IsListIter (it0 + j) l i where
  mem := mem_fpN.2 ⟨by omega, by omega⟩
  obj i h := by
    rintro ⟨⟨f0, f1, tos, hf, tl, z1, z2, z3⟩, hit⟩ b hb
    obtain ⟨b1, b2⟩ := mem_fpN.1 hb
    rcases in_cases b1 b2 with e | e | e | ⟨j, hj, e⟩
    · have g : h.get? b = _ := (congrArg h.get? e).trans z1
      exact ⟨_, g, fun v q => nomatch q⟩
    · have g : h.get? b = _ := (congrArg h.get? e).trans z3
      exact ⟨_, g, fun v q => nomatch q⟩
    · have g : h.get? b = _ := (congrArg h.get? e).trans z2
      exact ⟨_, g, fun v q => nomatch q⟩
    · obtain ⟨o, g1, g2, g3⟩ := hit j _ (List.getElem?_eq_getElem hj)
      exact ⟨o, (congrArg h.get? e).trans g1, fun v q => by rw [g3] at q; exact nomatch q⟩
  keep i h h' := by
    rintro ⟨⟨f0, f1, tos, hf, tl, z1, z2, z3⟩, hit⟩ k
    refine ⟨⟨f0, f1, tos, hf, tl, k _ (mem_fpN.2 ⟨by omega, by omega⟩) _ z1, k _ (mem_fpN.2 ⟨by omega, by omega⟩) _ z2, k _ (mem_fpN.2 ⟨by omega, by omega⟩) _ z3⟩, fun j l hl => ?_⟩
    have hj := (List.getElem?_eq_some_iff.1 hl).1
    obtain ⟨o, g1, g2⟩ := hit j l hl
    exact ⟨o, k _ (mem_fpN.2 ⟨by omega, by omega⟩) _ g1, g2⟩
  item X hP hw hK hc i pins s σ H E I hf st hg := by
    subst hP; subst hw; subst hK
    obtain ⟨hz, hit⟩ := st
    obtain ⟨ys, vs, e1, e2, e3, e4, e5⟩ := pickN I ls hg hlt
    have hzl : it0 + ls.length + 2 < s.heap.objs.size := by
      obtain ⟨_, _, _, _, _, e, _⟩ := hz
      exact Heap.lt_size e
    refine pyNext_zipM_item hz hit e5 h0 h1 e2 fun h' z' hit' hT hsz hk => ⟨_, rfl, ?_⟩
    refine wpAny_pure ?_
    have new : ObjOk X.prog X.w (upd H s.heap.objs.size (.tup ys)) h' s.heap.objs.size (.tup ys) := ⟨by rw [e1, sizeLine_eq]; omega, vs, e3, _, hT, rfl, 0, rfl⟩
    have I1 := Inv.turnedNew (ch := fpN it0 ls.length) (t' := s.toks) I (fun c o hb q => hk c o (out_or fun z => hb (mem_fpN.2 z)) q) hf (Nat.le_refl _) new
    refine ⟨V.ref s.heap.objs.size, _, I1, rfl, ⟨_, ys, rfl, HOk.fresh I.hok (Nat.le_refl _), rfl, e1, e4⟩, ⟨z', hit'⟩, fun c hcm => ?_⟩
    have hcm' := mem_fpN.1 hcm
    have hlt' : c < s.heap.objs.size := Nat.lt_of_le_of_lt (Nat.le_of_lt_succ hcm'.2) hzl
    rw [upd_ne (Nat.ne_of_lt hlt')]
    exact (hf c hcm).1
  done X hP hw hK hc i pins s σ H E I hf st hg := by
    subst hP; subst hw; subst hK
    obtain ⟨hz, hit⟩ := st
    obtain ⟨l, xs, hl, hq, hle⟩ := hg
    obtain ⟨its, rv, p, _⟩ := Inv.list I hq
    have lv := Vals.length rv
    have hit0 := hit 0 l hl
    rw [Nat.add_zero] at hit0
    refine pyNext_zipM_end (I.ok.hd hc) hz h0 hit0 (PlainL.isList p) (by rw [List.getElem?_toArray]; exact List.getElem?_eq_none (by omega)) fun h' hk => ⟨rfl, Inv.turnedL (ch := fpN it0 ls.length) I (fun c o hb q => hk c o (out_or fun z => hb (mem_fpN.2 z)) q) hf⟩
  self A i s Q E := by
    rintro ⟨⟨f0, f1, tos, hf, tl, hz, _⟩, _⟩ h
    have hT : s.TypeIs (Value.ref (it0 + ls.length + 2)) "zip" := ⟨_, hz, rfl⟩
    exact wpAny_pyIter_slot hT F.slot_zip_iter (wpAny_call_entry F.slot_zip_iter hT F.entry_zip_iter (wpAny_pure ⟨_, rfl, "zip", _, hT, F.slot_zip_next.lookup, h⟩) (F.args_zip_iter_1 _))
theorem callS_type {M : Model} {A : Around} {E : Value → Shared → Prop} {s : Shared} {env : Env} {pos p : Pos} {T : String} {e : Expr} {Q : Value → Shared → Prop} (h : wpAny M A (eval e env) (fun v s₁ => PySem.W.StarOf M A E v (fun vs s₂ => wpAny M A (call (.type T) vs) Q E s₂) s₁) E s)
    (he : starEach [.Starred e p] env = [(true, eval e env)]) : wpAny M A (callWith pos (.type T) [] (backTo pos (starEach [.Starred e p] env)) []) Q E s := by
  rw [he]
  refine PySem.W.ks_call (P := fun _ => True) rfl (fun h _ => ⟨.machine, .inr (.inl rfl), PySem.W.Looks.of_pure rfl⟩) (PySem.W.ks_lone (wpAny_mono h (fun v s₁ h1 => ?_) fun _ _ z => z))
  unfold PySem.W.StarOf at h1 ⊢
  exact wpAny_mono h1 (fun b s₂ h2 => ⟨h2.1, wpAny_mono h2.2 (fun vs s₃ h3 => ⟨trivial, h3⟩) fun _ _ z => z⟩) fun _ _ z => z
/-- zip of the lists of a list -/
def iZipS (K : PySem.W.Frag) (n : Nat) (te : TE) : TI := fun σ H R => te σ H fun v H1 => ∃ (a : Addr) (ls : List Addr), v = .ref a ∧ SqL K H1 a (ls.map V.ref) ∧ ls.length = n ∧ (∀ l ∈ ls, ∃ xs, SqL K H1 l xs) ∧ R (ItzN K ls) H1
theorem pi_zipS {X : Cx} {e : Expr} {te : TE} {n : Nat} {p pos tpos spos : Pos} {x : Str} (hg : Gl X "zip") (hm : X.mg "zip" = none) (he : PE X e te) (h0 : 0 < n) (h1 : n < 1000) (ck : ∀ ls : List Addr, ls.length = n → checkBuiltinCall "zip.__new__" { pos := Value.type "zip" :: ls.map Value.ref } = pure ())
    (hs : starEach [.Starred e spos] X.env = [(true, eval e X.env)]) : PI X (.Name x tpos) (.Call (.Name "zip" p) [.Starred e spos] [] pos) (iZipS X.K n te) := by
  refine ⟨fun pins s σ H R I h => Call_ (ld_blt I hg hm boot_zip (callS_type (thn (he.run pins s σ H _ I h) fun v s1 z => ?_) hs))⟩
  obtain ⟨y, H1, I1, ry, a, ls, rfl, hl, hn, hq, r⟩ := z
  obtain rfl : v = Value.ref a := ry
  refine StX.star_lst I1 hl fun us s2 I2 rv => ?_
  have e := vals_refs rv
  subst e
  have hp : ∀ l ∈ ls, (∃ items, s2.heap.IsList l items) ∧ l < s2.heap.objs.size := fun l hm => by
    obtain ⟨xs, hq⟩ := hq l hm
    obtain ⟨its, rv, p, _⟩ := Inv.list I2 hq
    exact ⟨⟨_, PlainL.isList p⟩, PlainL.lt p⟩
  refine call_zipN ls (by omega) (ck ls hn) (fun l hm => (hp l hm).1) fun h' hsz hk hit hz => wpAny_pyIter_zip hz.1 ?_
  exact ⟨_, fpN s2.heap.objs.size ls.length, _, ItzN X.K ls, H1, rfl, Inv.kept I2 hk, turn_zipM (by omega) (by omega) fun l hm => (hp l hm).2, ⟨⟨.none, false, _, .inl rfl, by rw [List.length_map], hz⟩, hit⟩, fun b hb => I2.fpOk (mem_fpN.1 hb).1 (HOk.fresh I2.hok (mem_fpN.1 hb).1), r⟩
section
variable {m : Md} {N : List Str} {sc scope : Scope} {i k n : Nat} {X : Cx} {e elt : Expr} {σ : L2.St} {H : Hp} {Q : VK} {pos p1 p2 tpos spos : Pos} {x : Str}
/-- [elt for x in zip(*e)] -/
theorem w_lcZS (h : At m N sc k X) (hm : m.mg "zip" = none) (hgl : sc.names.lookup ("zip" : Str) = some .globalImplicit) (ok : blkC N sc scope [(x, i)] = true) (nx : NL N (relS scope sc) i x) (h0 : 0 < n) (h1 : n < 1000) (ck : ∀ ls : List Addr, ls.length = n → checkBuiltinCall "zip.__new__" { pos := Value.type "zip" :: ls.map Value.ref } = pure ())
    (q : wE X e σ H fun v H1 => ∃ (a : Addr) (ls : List Addr) (cols : List (List V)) (L : Nat), v = .ref a ∧ SqL m.K H1 a (ls.map V.ref) ∧ ls.length = n ∧ cols.length = n ∧ ColsAt m.K H1 ls cols ∧ (∀ col ∈ cols, col.length = L) ∧ ∀ D, H1 D = none → ∃ Pv : Nat → Hp → Prop, Pv 0 (upd H1 D (.lst [])) ∧ (∀ t H, t ≤ L → Pv t H → ColsAt m.K H ls cols) ∧
      (∀ (t : Nat) (ys : List V) (T : Addr) (H : Hp), t < L → RowAt cols t ys → Pv t H → H T = none → ∀ X', At m N (relS scope sc) k X' → wE X' elt (σ.set i (some (.ref T))) (upd H T (.tup ys)) (App D (Pv (t + 1)))) ∧ ∀ H, Pv L H → Q (.ref D) H)
    (hs : starEach [.Starred e spos] X.env = [(true, eval e X.env)] := by with_unfolding_all rfl)
    (hf : ∀ x, foldedSetIterable (.Call (.Name "zip" p1) [.Starred e spos] [] p2) X.env x = pure x := by with_unfolding_all (intro _; rfl)) : wE X (.ListComp elt [⟨.Name x tpos, .Call (.Name "zip" p1) [.Starred e spos] [] p2, [], 0⟩] scope pos) σ H Q := by
  refine toE (pe_lc (own := [(x, i)]) (g := gName i) (tt := tYes) (te := inBlk m N (relS scope sc) k elt) h.calm (by rw [h.nn]; exact h.nd) (pi_zipS (n := n) (h.gl hgl) (by rw [h.mm]; exact hm) cE h0 h1 ck hs) (by rw [h.nn, h.ss]; exact blkOk_by ok) (fun s H C cl fp => pg_nl (blk_at h s H C cl fp) nx) (fun _ _ _ _ _ => pts_nil) (fun s H C cl fp => blk_pe h s H C cl fp) hf) ?_
  refine wE.mono q fun v H1 ⟨a, ls, cols, L, ev, ha, el, ec, hc, hL, go⟩ => ⟨a, ls, ev, by rw [h.kk]; exact ha, el, fun l hl => ?_, fun D hD => ?_⟩
  · obtain ⟨j, hj⟩ := List.getElem?_of_mem hl
    have hjl := (List.getElem?_eq_some_iff.1 hj).1
    exact ⟨_, by rw [h.kk]; exact hc j l _ hj (List.getElem?_eq_getElem (by omega))⟩
  · obtain ⟨Pv, p0, hq, turn, fin⟩ := go D hD
    refine lc_it (walk_zipN (K := X.K) (ls := ls) (cols := cols) (L := L) (by omega) (by omega) hL) (g := gName i) (tt := tYes) (te := inBlk m N (relS scope sc) k elt) (vs := [i]) (σ := σ) Pv p0 (fun t H ht z => by rw [h.kk]; exact hq t H ht z) (fun t z H H' ht hp y => ?_) fin
    obtain ⟨T, ys, rfl, e2, rfl, e4⟩ := y
    refine ⟨by rw [wipe1]; simp [wipe, List.set_set], ?_⟩
    unfold tYes
    refine iteT fun X' hX' => ?_
    rw [set_wipe]
    exact turn t ys T H ht e4 hp e2 X' hX'
end
end Vf
set_option maxRecDepth 100000
set_option maxHeartbeats 4000000
/-! Zl: list(zip(a, b)) as a value. Own work. -/
namespace Vf
open PySem PySem.Spec PyProof.Rows L2 LamX
theorem zip_no_hint : typeLookup (Value.type "zip") (Str.ofString "__length_hint__") = pure none := by
  rw [typeLookup_type, builtinLookup_eq_fast]
  kernel_rfl
theorem zip_no_len : typeLookup (Value.type "zip") (Str.ofString "__len__") = pure none := by
  rw [typeLookup_type, builtinLookup_eq_fast]
  kernel_rfl
/-- the tuples that a zip has handed out -/
structure ZipG (rows : Nat → List Value) (S : Addr) (h : Heap) (as : List Addr) : Prop where
  rise : as.Pairwise (· < ·)
  above : ∀ a ∈ as, S < a
  pairs : ∀ (j : Nat) (a : Addr), as[j]? = some a → h.get? a = some { cls := Value.type "tuple", data := Data.seq (rows j).toArray }
/-- the columns, as the machine has them -/
def ZipC (h : Heap) (ls : List Addr) (n : Nat) (rows : Nat → List Value) : Prop := (∀ i, i < n → (rows i).length = ls.length) ∧ ∀ (j : Nat) (l : Addr), ls[j]? = some l → ∃ items : Array Value, h.IsList l items ∧ items.size = n ∧ ∀ i, i < n → ∃ v, items[i]? = some v ∧ (rows i)[j]? = some v
theorem zl_loop {prog : Program} {w : World} {A : Around} {s : Shared} {R : Result → Shared → Prop} {ls : List Addr} {n it0 : Nat} {rows : Nat → List Value} {S : Addr} (hh : A.handled = none) (hS0 : it0 + ls.length + 3 ≤ S) (hlt : ∀ l ∈ ls, l < it0) (h0 : 0 < ls.length) (h1 : ls.length < 1000) (hn : n ≤ sizeLine) (res : Value) {h₁ : Heap} (hc : ZipC h₁ ls n rows)
    (hR : ∀ (h' : Heap) (tk : Nat) (acc : Array Value) (c : Nat) (as : List Addr), (∀ b o, b ≠ S → (b < it0 ∨ it0 + ls.length + 3 ≤ b) → h₁.get? b = some o → h'.get? b = some o) → h'.get? S = some { cls := Value.type "list", data := Data.seq acc c } → as.length = n → ZipG rows S h' as → acc.toList = as.map Value.ref →
      R (.ok (.ret res)) { heap := h', gens := s.gens, drawn := s.drawn, toks := tk, os := s.os }) :
    ∀ (k i : Nat) (h : Heap) (tk c : Nat) (acc : Array Value) (as : List Addr), n - i = k → i ≤ n → ZipAny h (it0 + ls.length + 2) (it0 + ls.length) (it0 + ls.length + 1) (refsFrom it0 ls.length) ls.length → (∀ j l, ls[j]? = some l → h.IsListIter (it0 + j) l i) →
      (∀ b o, b ≠ S → (b < it0 ∨ it0 + ls.length + 3 ≤ b) → h₁.get? b = some o → h.get? b = some o) → h.get? S = some { cls := Value.type "list", data := Data.seq acc c } → acc.toList = as.map Value.ref → as.length = i → ZipG rows S h as →
      codeAny (model prog w) A (Code.builtin "list.extend.loop" { pos := [Value.ref S, Value.ref (it0 + ls.length + 2), res] }) R { heap := h, gens := s.gens, drawn := s.drawn, toks := tk, os := s.os } := by
  have lst : ∀ h : Heap, (∀ b o, b ≠ S → (b < it0 ∨ it0 + ls.length + 3 ≤ b) → h₁.get? b = some o → h.get? b = some o) → ∀ (l : Addr) (items : Array Value), l < it0 → h₁.IsList l items → h.IsList l items := fun h k l items hl ⟨o, e1, e2⟩ => ⟨o, k l o (Nat.ne_of_lt (Nat.lt_of_lt_of_le (Nat.lt_of_lt_of_le hl (by omega)) hS0)) (.inl hl) e1, e2⟩
  intro k
  induction k with
  | zero =>
    intro i h tk c acc as hk hi hz hit hkp hS hacc hal hG
    have hin : i = n := by omega
    refine codeAny_builtin F.entry_extend_loop ?_
    rw [Around.under_plainId F.plain_extend_loop]
    unfold Builtin.«list.extend.loop»
    obtain ⟨l, hl⟩ : ∃ l, ls[0]? = some l := ⟨_, List.getElem?_eq_getElem h0⟩
    obtain ⟨items, hI, hsz, _⟩ := hc.2 0 l hl
    have hlm := hlt l (List.mem_of_getElem? hl)
    have hit0 := hit 0 l hl
    refine wpAny_bind (pyNext_zipM_end hh hz h0 hit0 (lst h hkp l items hlm hI) (by rw [Array.getElem?_eq_none (by omega)]) fun h' hk' => ?_)
    refine wpAny_pure ?_
    refine hR h' tk acc c as (fun b o h1 h2 e => hk' b o h2 (hkp b o h1 h2 e)) (hk' S _ (.inr hS0) hS) (by omega) ⟨hG.rise, hG.above, fun j a hj => hk' a _ (.inr (Nat.le_trans hS0 (Nat.le_of_lt (hG.above a (List.mem_of_getElem? hj))))) (hG.pairs j a hj)⟩ hacc
  | succ k ih =>
    intro i h tk c acc as hk hi hz hit hkp hS hacc hal hG
    have hlti : i < n := by omega
    have hsz : acc.size = i := by rw [← Array.length_toList, hacc, List.length_map, hal]
    refine codeAny_builtin F.entry_extend_loop ?_
    rw [Around.under_plainId F.plain_extend_loop]
    unfold Builtin.«list.extend.loop»
    have hSl := Heap.lt_size hS
    refine wpAny_bind (pyNext_zipM_item (vs := rows i) hz hit (fun j l hl => ?_) h0 h1 (hc.1 i hlti) fun h' z1 hit' hT hsz' hk' => ?_)
    · obtain ⟨items, hI, hs, hv⟩ := hc.2 j l hl
      obtain ⟨v, v1, v2⟩ := hv i hlti
      have hlm := hlt l (List.mem_of_getElem? hl)
      exact ⟨items, v, lst h hkp l items hlm hI, v1, v2, hlm⟩
    have hS' := hk' S _ (.inr hS0) hS
    have up : ∀ (b : Addr) (o : Obj), b ≠ S → h'.get? b = some o → (h'.update S (Obj.mapSeq fun x => x.push (Value.ref h.objs.size))).get? b = some o := fun b o hb e => (Heap.get?_update_other h' (Obj.mapSeq fun x => x.push (Value.ref h.objs.size)) (Ne.symm hb)).trans e
    refine wpAny_bind ?_
    refine wpAny_updateSeq hS' rfl ?_ (by rw [hsz]; omega) (by rw [Array.size_push, hsz]; omega)
    refine wpAny_pure ?_
    refine ⟨plainId_quiet F.plain_extend_loop _, ?_⟩
    have nS : ∀ j, j < it0 + ls.length + 3 → j ≠ S := fun j hj z => by omega
    have hz2 : ZipAny (h'.update S (Obj.mapSeq fun x => x.push (Value.ref h.objs.size))) (it0 + ls.length + 2) (it0 + ls.length) (it0 + ls.length + 1) (refsFrom it0 ls.length) ls.length := by
      obtain ⟨f0, f1, tos, hf, tl, y1, y2, y3⟩ := z1
      exact ⟨f0, f1, tos, hf, tl, up _ _ (nS _ (by omega)) y1, up _ _ (nS _ (by omega)) y2, up _ _ (nS _ (by omega)) y3⟩
    refine ih (i + 1) _ tk _ (acc.push (Value.ref h.objs.size)) (as ++ [h.objs.size]) (by omega) hlti hz2 (fun j l hl => ?_) (fun b o h1 h2 e => up b o h1 (hk' b o h2 (hkp b o h1 h2 e))) (Heap.get?_update_self (Obj.mapSeq fun x => x.push (Value.ref h.objs.size)) hS' rfl) ?_ ?_ ⟨?_, ?_, ?_⟩
    · obtain ⟨o, e1, e2⟩ := hit' j l hl
      have := (List.getElem?_eq_some_iff.1 hl).1
      exact ⟨o, up _ _ (nS _ (by omega)) e1, e2⟩
    · rw [Array.toList_push, hacc, List.map_append]; rfl
    · rw [List.length_append, hal]; rfl
    · refine List.pairwise_append.2 ⟨hG.rise, List.pairwise_singleton _ _, fun a ha b hb => ?_⟩
      rw [List.mem_singleton.1 hb]
      obtain ⟨j, hj⟩ := List.getElem?_of_mem ha
      exact Heap.lt_size (hG.pairs j a hj)
    · intro a ha
      rcases List.mem_append.1 ha with ha | ha
      · exact hG.above a ha
      · rw [List.mem_singleton.1 ha]; exact hSl
    · intro j a hj
      by_cases c1 : j < as.length
      · rw [List.getElem?_append_left c1] at hj
        have ab := hG.above a (List.mem_of_getElem? hj)
        exact up _ _ (Nat.ne_of_gt ab) (hk' a _ (.inr (Nat.le_trans hS0 (Nat.le_of_lt ab))) (hG.pairs j a hj))
      · have hjl := (List.getElem?_eq_some_iff.1 hj).1
        rw [List.length_append, List.length_singleton] at hjl
        have e : j = as.length := by omega
        subst e
        rw [List.getElem?_append_right (Nat.le_refl _), Nat.sub_self] at hj
        have ea : h.objs.size = a := by simpa using hj
        subst ea
        rw [hal]
        exact up _ _ (Nat.ne_of_gt hSl) hT
theorem zl_hint {prog : Program} {w : World} {A : Around} {E : Value → Shared → Prop} {s : Shared} {r : Addr} (hT : s.TypeIs (Value.ref r) "zip") {Q : Bool → Shared → Prop} (q : Q true s) : wpAny (model prog w) A (Builtin.List.listLengthHint (Value.ref r)) Q E s := by
  unfold Builtin.List.listLengthHint
  refine wpAny_bind (wpAny_specialOf hT zip_no_len ?_)
  refine wpAny_bind (wpAny_specialOf hT zip_no_hint ?_)
  exact wpAny_pure q
theorem zl_extend {prog : Program} {w : World} {A : Around} {s : Shared} {R : Result → Shared → Prop} {ls : List Addr} {n it0 : Nat} {rows : Nat → List Value} {S : Addr} {tos : List Value} (hh : A.handled = none) (hS0 : it0 + ls.length + 3 ≤ S) (hlt : ∀ l ∈ ls, l < it0) (h0 : 0 < ls.length) (h1 : ls.length < 1000) (hn : n ≤ sizeLine) (res : Value) (c₀ : Nat) (hc : ZipC s.heap ls n rows)
    (hz : ZipOf s.heap (it0 + ls.length + 2) (it0 + ls.length) (it0 + ls.length + 1) (refsFrom it0 ls.length) tos) (tl : tos.length = ls.length) (hit : ∀ j l, ls[j]? = some l → s.heap.IsListIter (it0 + j) l 0) (hS : s.heap.get? S = some { cls := Value.type "list", data := Data.seq #[] c₀ })
    (hR : ∀ (h' : Heap) (tk : Nat) (acc : Array Value) (c : Nat) (as : List Addr), (∀ b o, b ≠ S → (b < it0 ∨ it0 + ls.length + 3 ≤ b) → s.heap.get? b = some o → h'.get? b = some o) → h'.get? S = some { cls := Value.type "list", data := Data.seq acc c } → as.length = n → ZipG rows S h' as → acc.toList = as.map Value.ref →
      R (.ok (.ret res)) { heap := h', gens := s.gens, drawn := s.drawn, toks := tk, os := s.os }) :
    wpAny (model prog w) A.in1 (Builtin.List.listExtendWith (Value.ref S) (Value.ref (it0 + ls.length + 2)) res) (fun fin s' => match fin with | .done f => R (.ok f) s' | .again c' => c'.quiet = true ∧ codeAny (model prog w) A c' R s') (fun e s' => R (.error e) s') s := by
  have hT : s.TypeIs (Value.ref (it0 + ls.length + 2)) "zip" := ⟨_, hz.1, rfl⟩
  have hne : it0 + ls.length + 2 ≠ S := Nat.ne_of_lt (Nat.lt_of_lt_of_le (by omega) hS0)
  unfold Builtin.List.listExtendWith
  refine wpAny_bind (wpAny_typeOf hT ?_)
  have h2 : Builtin.List.listSameRef (Value.ref S) (Value.ref (it0 + ls.length + 2)) = false := by
    rw [Builtin.List.listSameRef.eq_1]
    simpa using Ne.symm hne
  have h3 : (Value.type "zip" == Value.type "list") = false := by decide
  have h4 : (Value.type "zip" == Value.type "tuple") = false := by decide
  simp only [h2, h3, h4, Bool.or_false, Bool.false_eq_true, if_false]
  refine wpAny_bind (wpAny_pyIter_zip hz.1 ?_)
  refine wpAny_bind (wpAny_holding (zl_hint hT ?_))
  simp only [Bool.true_or, if_true]
  refine wpAny_bind (wpAny_rule ?_)
  refine wpAny_bind ?_
  unfold Builtin.List.listTouch
  refine wpAny_bind ?_
  have k0 : ∀ x : Nat, x < it0 + ls.length + 3 → x ≠ S := fun x hx => Nat.ne_of_lt (Nat.lt_of_lt_of_le hx hS0)
  refine wpAny_updateSeq hS rfl ?_ (by rw [List.size_toArray, sizeLine_eq]; simp) (by simp)
  have hS₂ := Heap.get?_update_self (Obj.mapSeq fun x => x.push Value.none) hS rfl
  refine wpAny_updateSeq hS₂ rfl ?_ (by simp [sizeLine_eq]) (by simp)
  have hS₃ := Heap.get?_update_self (Obj.mapSeq fun x => x.pop) hS₂ rfl
  have oth : ∀ (b : Addr) (o : Obj), b ≠ S → s.heap.get? b = some o → ((s.heap.update S (Obj.mapSeq fun x => x.push Value.none)).update S (Obj.mapSeq fun x => x.pop)).get? b = some o := fun b o hb e => (Heap.get?_update_other _ (Obj.mapSeq fun x => x.pop) (Ne.symm hb)).trans ((Heap.get?_update_other s.heap (Obj.mapSeq fun x => x.push Value.none) (Ne.symm hb)).trans e)
  refine wpAny_pure ⟨plainId_quiet F.plain_extend_loop _, ?_⟩
  have zA : ZipAny s.heap (it0 + ls.length + 2) (it0 + ls.length) (it0 + ls.length + 1) (refsFrom it0 ls.length) ls.length := ⟨.none, false, _, .inl rfl, tl, hz⟩
  refine zl_loop hh hS0 hlt h0 h1 hn res (h₁ := s.heap) hc hR n 0 _ _ _ _ [] (by omega) (by omega) ?_ (fun j l hl => ?_) (fun b o h1 _ e => oth b o h1 e) hS₃ rfl rfl ⟨.nil, (fun a ha => nomatch ha), fun j a hj => nomatch hj⟩
  · obtain ⟨f0, f1, tos, hf, tl, y1, y2, y3⟩ := zA
    exact ⟨f0, f1, tos, hf, tl, oth _ _ (k0 _ (by omega)) y1, oth _ _ (k0 _ (by omega)) y2, oth _ _ (k0 _ (by omega)) y3⟩
  · obtain ⟨o, e1, e2⟩ := hit j l hl
    have := (List.getElem?_eq_some_iff.1 hl).1
    exact ⟨o, oth _ _ (k0 _ (by omega)) e1, e2⟩
theorem zl_init {prog : Program} {w : World} {A : Around} {s : Shared} {R : Result → Shared → Prop} {ls : List Addr} {n it0 : Nat} {rows : Nat → List Value} {S : Addr} {tos : List Value} (hh : A.handled = none) (hS0 : it0 + ls.length + 3 ≤ S) (hlt : ∀ l ∈ ls, l < it0) (h0 : 0 < ls.length) (h1 : ls.length < 1000) (hn : n ≤ sizeLine) (hc : ZipC s.heap ls n rows)
    (hz : ZipOf s.heap (it0 + ls.length + 2) (it0 + ls.length) (it0 + ls.length + 1) (refsFrom it0 ls.length) tos) (tl : tos.length = ls.length) (hit : ∀ j l, ls[j]? = some l → s.heap.IsListIter (it0 + j) l 0) (hS : s.heap.get? S = some { cls := Value.type "list", data := Data.seq #[] })
    (hR : ∀ (h' : Heap) (tk : Nat) (acc : Array Value) (c : Nat) (as : List Addr), (∀ b o, b ≠ S → (b < it0 ∨ it0 + ls.length + 3 ≤ b) → s.heap.get? b = some o → h'.get? b = some o) → h'.get? S = some { cls := Value.type "list", data := Data.seq acc c } → as.length = n → ZipG rows S h' as → acc.toList = as.map Value.ref →
      R (.ok (.ret Value.none)) { heap := h', gens := s.gens, drawn := s.drawn, toks := tk, os := s.os }) :
    wpAny (model prog w) A.in1 (Builtin.«list.__init__» { pos := [Value.ref S, Value.ref (it0 + ls.length + 2)] }) (fun fin s' => match fin with | .done f => R (.ok f) s' | .again c' => c'.quiet = true ∧ codeAny (model prog w) A c' R s') (fun e s' => R (.error e) s') s := by
  have k0 : ∀ x : Nat, x < it0 + ls.length + 3 → x ≠ S := fun x hx => Nat.ne_of_lt (Nat.lt_of_lt_of_le hx hS0)
  show wpAny _ _ (do let old ← Builtin.List.listItems (Value.ref S); _) _ _ _
  refine wpAny_bind ?_
  show wpAny _ _ (do let x ← seqItems? (Value.ref S); _) _ _ _
  refine wpAny_bind (wpAny_seqItems hS rfl (wpAny_pure ?_))
  refine wpAny_bind ?_
  refine wpAny_updateSeq hS rfl ?_ (by simp) (by simp)
  have hS₂ := Heap.get?_update_self (Obj.mapSeq fun x => #[]) hS rfl
  have oth : ∀ (b : Addr) (o : Obj), b ≠ S → s.heap.get? b = some o → (s.heap.update S (Obj.mapSeq fun x => #[])).get? b = some o := fun b o hb e => (Heap.get?_update_other s.heap (Obj.mapSeq fun x => #[]) (Ne.symm hb)).trans e
  refine wpAny_bind (wpAny_letGo ?_)
  refine zl_extend hh hS0 hlt h0 h1 hn Value.none _ ⟨hc.1, fun j l hl => ?_⟩ ⟨oth _ _ (k0 _ (by omega)) hz.1, oth _ _ (k0 _ (by omega)) hz.2.1, oth _ _ (k0 _ (by omega)) hz.2.2⟩ tl (fun j l hl => ?_) hS₂ fun h' tk acc c as a1 a2 a3 a4 a5 => hR h' tk acc c as (fun b o h1 h2 e => a1 b o h1 h2 (oth b o h1 e)) a2 a3 a4 a5
  · obtain ⟨items, ⟨o, e1, e2⟩, hs⟩ := hc.2 j l hl
    have hlm := hlt l (List.mem_of_getElem? hl)
    exact ⟨items, ⟨o, oth _ _ (k0 l (Nat.lt_of_lt_of_le hlm (by omega))) e1, e2⟩, hs⟩
  · obtain ⟨o, e1, e2⟩ := hit j l hl
    have := (List.getElem?_eq_some_iff.1 hl).1
    exact ⟨o, oth _ _ (k0 _ (by omega)) e1, e2⟩
/-- list(z), z a zip of lists -/
theorem zl_call {prog : Program} {w : World} {A : Around} {E : Value → Shared → Prop} {s : Shared} {Q : Value → Shared → Prop} {ls : List Addr} {n it0 : Nat} {rows : Nat → List Value} {tos : List Value} (hh : A.handled = none) (hlt : ∀ l ∈ ls, l < it0) (h0 : 0 < ls.length) (h1 : ls.length < 1000) (hn : n ≤ sizeLine) (hc : ZipC s.heap ls n rows)
    (hz : ZipOf s.heap (it0 + ls.length + 2) (it0 + ls.length) (it0 + ls.length + 1) (refsFrom it0 ls.length) tos) (tl : tos.length = ls.length) (hit : ∀ j l, ls[j]? = some l → s.heap.IsListIter (it0 + j) l 0)
    (hQ : ∀ (h' : Heap) (tk : Nat) (acc : Array Value) (c : Nat) (as : List Addr), (∀ b o, (b < it0 ∨ it0 + ls.length + 3 ≤ b) → s.heap.get? b = some o → h'.get? b = some o) → h'.get? s.heap.objs.size = some { cls := Value.type "list", data := Data.seq acc c } → as.length = n → ZipG rows s.heap.objs.size h' as → acc.toList = as.map Value.ref →
      Q (Value.ref s.heap.objs.size) { heap := h', gens := s.gens, drawn := s.drawn, toks := tk, os := s.os }) :
    wpAny (model prog w) A (call (Value.type "list") [Value.ref (it0 + ls.length + 2)]) Q E s := by
  refine callType_codes (Q₁ := fun obj s₁ => obj = Value.ref s.heap.objs.size ∧ s₁ = { heap := s.heap.push { cls := Value.type "list", data := Data.seq #[] }, gens := s.gens, drawn := s.drawn, toks := s.toks, os := s.os }) F.called_list (F.typeCall_list_1 _) F.entry_list_init (code_list_new _ ⟨rfl, rfl⟩) fun obj s₁ h => ?_
  obtain ⟨rfl, rfl⟩ := h
  have hS := Heap.get?_push_size s.heap (o := { cls := Value.type "list", data := Data.seq #[] }) rfl
  have hr := Heap.lt_size hz.1
  have up : ∀ (b : Addr) (o : Obj), s.heap.get? b = some o → (s.heap.push { cls := Value.type "list", data := Data.seq #[] }).get? b = some o := fun b o e => Heap.get?_push_of_some _ e
  refine ⟨⟨_, hS, rfl⟩, F.args_list_init_2 _ _, ?_⟩
  refine zl_init hh (by show it0 + ls.length + 2 + 1 ≤ _; exact hr) hlt h0 h1 hn ⟨hc.1, fun j l hl => ?_⟩ ⟨up _ _ hz.1, up _ _ hz.2.1, up _ _ hz.2.2⟩ tl (fun j l hl => ?_) hS fun h' tk acc c as a1 a2 a3 a4 a5 => ⟨rfl, hQ h' tk acc c as (fun b o h2 e => a1 b o (Nat.ne_of_lt (Heap.lt_size e)) h2 (up b o e)) a2 a3 a4 a5⟩
  · obtain ⟨items, ⟨o, e1, e2⟩, hs⟩ := hc.2 j l hl
    exact ⟨items, ⟨o, up _ _ e1, e2⟩, hs⟩
  · obtain ⟨o, e1, e2⟩ := hit j l hl
    exact ⟨o, up _ _ e1, e2⟩
/-- the first objects of a heap -/
def heapTo (h : Heap) (n : Nat) : Heap := { objs := h.objs.extract 0 n, life := h.life }
theorem heapTo_size {h : Heap} {n : Nat} {o : Obj} (e : h.get? n = some o) : (heapTo h n).objs.size = n := by
  have := Heap.lt_size e
  show (h.objs.extract 0 n).size = n
  rw [Array.size_extract]
  have : n < h.objs.size := this
  omega
theorem heapTo_lt {h : Heap} {n b : Nat} (l : b < n) : (heapTo h n).get? b = h.get? b := by
  unfold Heap.get? heapTo
  have e : (h.objs.extract 0 n)[b]? = h.objs[b]? := by
    by_cases c : b < h.objs.size
    · rw [Array.getElem?_extract, if_pos (by omega)]; simp
    · rw [Array.getElem?_eq_none (by rw [Array.size_extract]; omega), Array.getElem?_eq_none (by omega)]
  simp only [Heap.get?, heapTo, e]
theorem heapTo_le {h : Heap} {n b : Nat} {o : Obj} (e : (heapTo h n).get? b = some o) : h.get? b = some o := by
  by_cases l : b < n
  · rw [← heapTo_lt l]; exact e
  · have := Heap.lt_size e
    have h2 : (heapTo h n).objs.size ≤ n := by
      show (h.objs.extract 0 n).size ≤ n
      rw [Array.size_extract]
      omega
    exact absurd (Nat.lt_of_lt_of_le this h2) l
theorem vals_get {as : List V} {vs : List Value} (r : L2.Vals as vs) : ∀ (i : Nat) (x : V), as[i]? = some x → ∃ v, vs[i]? = some v ∧ L2.RelV x v := by
  induction r with
  | nil => intro i x h; simp at h
  | cons r rr ih =>
    intro i x h
    cases i with
    | zero => cases h; exact ⟨_, rfl, r⟩
    | succ i => exact ih i x (by simpa using h)
theorem paired_of_get {α β : Type} {F : α → β → Prop} : ∀ {as : List α} {bs : List β}, as.length = bs.length → (∀ (i : Nat) (a : α) (b : β), as[i]? = some a → bs[i]? = some b → F a b) → Paired F as bs
  | [], [], _, _ => .nil
  | a :: as, b :: bs, h, k => .cons (k 0 a b rfl rfl) (paired_of_get (by simpa using h) fun i x y hx hy => k (i + 1) x y hx hy)
/-- list(zip(a, b)), a texts or whole numbers -/
def tListZip (ta : TA) (K : PySem.W.Frag) : TE := fun σ H Q => ta σ H fun vs H1 => ∃ (a b : Addr) (kvs : List (Key × V)), vs = [.ref a, .ref b] ∧ SqL K H1 a (kvs.map fun q => kV q.1) ∧ SqL K H1 b (kvs.map fun q => q.2) ∧ kvs.length ≤ sizeLine ∧ ∀ (H' : Hp) (p : Addr) (ts : List Addr), (∀ b o, H1 b = some o → H' b = some o) → H1 p = none → (∀ t ∈ ts, H1 t = none) → p ∉ ts → H' p = some (.lst (ts.map V.ref)) → Paired (fun (t : Addr) (q : Key × V) => H' t = some (.tup [kV q.1, q.2])) ts kvs → Q (.ref p) H'
theorem pe_listZip {X : Cx} {e1 e2 : Expr} {ta : TA} {p zp zpos pos : Pos} (hc : X.calm = true) (ha : PA X [e1, e2] ta) (hg : Gl X (Str.ofString "list")) (hm : X.mg (Str.ofString "list") = none) (hv : bootBuiltins (Str.ofString "list") = some (.type "list")) (hgz : Gl X "zip") (hmz : X.mg "zip" = none)
    (hs : starEach [.Call (.Name "zip" zp) [e1, e2] [] zpos] X.env = (false, eval (.Call (.Name "zip" zp) [e1, e2] [] zpos) X.env) :: starEach [] X.env) (hs2 : starEach [e1, e2] X.env = (false, eval e1 X.env) :: starEach [e2] X.env) (hpl : (backTo zpos (starEach [e2] X.env)).any (·.1) = false) :
    PE X (.Call (.Name "list" p) [.Call (.Name "zip" zp) [e1, e2] [] zpos] [] pos) (tListZip ta X.K) := by
  refine ⟨fun pins s σ H Q I hq => Call_ (ld_blt I hg hm hv (PyProof.Rows.callWith_type1 ?_ hs rfl))⟩
  rw [hs]
  refine Calls.spliced_cons (Call_ (ld_blt I hgz hmz boot_zip (PyProof.Rows.callWith_type1 (thn (ha.run zpos pins s σ H _ I hq) fun us s1 z => ?_) hs2 hpl)))
  obtain ⟨vs, H1, I1, r1, a, b, kvs, rfl, sa, sb, hz, q⟩ := z
  have e := vals_refs (ls := [a, b]) r1
  subst e
  obtain ⟨xa, ra, pa, _⟩ := Inv.list I1 sa
  obtain ⟨xb, rb, pb, _⟩ := Inv.list I1 sb
  have za : xa.length = kvs.length := by rw [← ra.length, List.length_map]
  have zb : xb.length = kvs.length := by rw [← rb.length, List.length_map]
  have hla := PlainL.lt pa
  have hlb := PlainL.lt pb
  refine call_zipN [a, b] (by show 2 < 1000; omega) (ck2 _ rfl) (fun l hm => ?_) fun h' hsz hk hit hz' => ?_
  · rcases List.mem_cons.1 hm with rfl | hm
    · exact ⟨_, pa.isList⟩
    · rw [List.mem_singleton.1 hm]; exact ⟨_, pb.isList⟩
  refine Calls.spliced_nil (zl_call (ls := [a, b]) (it0 := s1.heap.objs.size) (n := kvs.length) (rows := fun i => [(xa[i]?).getD .none, (xb[i]?).getD .none]) (I1.ok.hd hc) (fun l hm => ?_) (by show 0 < 2; omega) (by show 2 < 1000; omega) hz ⟨fun i _ => rfl, fun j l hl => ?_⟩ hz' (by rw [List.length_map]) hit fun h2 tk acc c as hk2 hS hal hG hacc => ?_)
  · rcases List.mem_cons.1 hm with rfl | hm
    · exact hla
    · rw [List.mem_singleton.1 hm]; exact hlb
  · have up : ∀ (l : Addr) (items : Array Value), s1.heap.IsList l items → h'.IsList l items := fun l items ⟨o, e1, e2⟩ => ⟨o, hk _ _ e1, e2⟩
    match j, hl with
    | 0, hl =>
      cases hl
      refine ⟨_, up _ _ pa.isList, by rw [List.size_toArray, za], fun i hi => ⟨xa[i]'(by omega), by simp [show i < xa.length by omega], by simp [List.getElem?_eq_getElem (show i < xa.length by omega)]⟩⟩
    | 1, hl =>
      cases hl
      refine ⟨_, up _ _ pb.isList, by rw [List.size_toArray, zb], fun i hi => ⟨xb[i]'(by omega), by simp [show i < xb.length by omega], by simp [List.getElem?_eq_getElem (show i < xb.length by omega)]⟩⟩
    | j + 2, hl => simp at hl
  · have szm := heapTo_size hS
    have lowz : ∀ (b : Addr) (o : Obj), s1.heap.get? b = some o → (heapTo h2 h'.objs.size).get? b = some o := fun b o e => by
      have hb := Heap.lt_size e
      have hb2 : b < h'.objs.size := by rw [hsz]; exact Nat.lt_of_lt_of_le hb (by omega)
      rw [heapTo_lt hb2]
      exact hk2 b o (.inl hb) (hk b o e)
    have I2 : L2.Inv X pins σ H1 { heap := heapTo h2 h'.objs.size, gens := s1.gens, drawn := s1.drawn, toks := s1.toks, os := s1.os } := Inv.kept I1 lowz
    let vs : List (Key × Value) := (List.range kvs.length).map fun i => (((kvs[i]?).map (·.1)).getD (.inl 0), (xb[i]?).getD .none)
    have lvs : vs.length = kvs.length := by simp [vs]
    have kv : KV kvs vs := by
      refine paired_of_get (by rw [lvs]) fun i p q hp hq => ?_
      have hi := (List.getElem?_eq_some_iff.1 hp).1
      have e : vs[i]? = some (((kvs[i]?).map (·.1)).getD (.inl 0), (xb[i]?).getD .none) := by simp [vs, hi]
      obtain ⟨v, v1, v2⟩ := vals_get rb i p.2 (by rw [List.getElem?_map, hp]; rfl)
      rw [e, hp, v1] at hq
      cases hq
      exact ⟨rfl, v2⟩
    have hG2 : PySem.W.KdxG (L2.mixKind X.prog X.w) vs h'.objs.size h2 as := ⟨hG.rise, hG.above, fun j t hj => by
      have hp := hG.pairs j t hj
      have hi : j < kvs.length := by rw [← hal]; exact (List.getElem?_eq_some_iff.1 hj).1
      obtain ⟨v, v1, v2⟩ := vals_get ra j (kV kvs[j].1) (by rw [List.getElem?_map, List.getElem?_eq_getElem hi]; rfl)
      have e : vs[j]? = some (((kvs[j]?).map (·.1)).getD (.inl 0), (xb[j]?).getD .none) := by simp [vs, hi]
      rw [v1] at hp
      refine ⟨v, kvs[j].1, (xb[j]?).getD .none, by rw [e, List.getElem?_eq_getElem hi]; rfl, ?_, hp⟩
      cases hk3 : kvs[j].1 with
      | inl z => rw [hk3] at v2; obtain ⟨t, rfl⟩ := v2; exact (show Value.isInt z (Value.int z t) = true by simp [Value.isInt])
      | inr z => rw [hk3] at v2; obtain ⟨t, rfl⟩ := v2; exact (show Value.isStrOf z (Value.str z t) = true by simp [Value.isStrOf])⟩
    obtain ⟨H', k1, k2, k3, k4, k5, k6, I3⟩ := LiI.items_laid (tk := tk) (h' := h2) (acc := acc) (c := c) (as := as) I2 hz kv (fun b o e => heapTo_le e) (by show h2.get? (heapTo h2 h'.objs.size).objs.size = _; rw [szm]; exact hS) (by rw [lvs]; exact hal) (by show PySem.W.KdxG _ vs (heapTo h2 h'.objs.size).objs.size h2 as; rw [szm]; exact hG2) hacc
    rw [szm] at k2 k4 k5
    exact ⟨.ref h'.objs.size, H', I3, rfl, q H' _ as k1 k2 k3 k4 k5 k6⟩
section
variable {m : Md} {N : List Str} {sc : Scope} {k : Nat} {X : Cx} {e1 e2 : Expr} {σ : L2.St} {H : Hp} {Q : VK} {p zp zpos pos : Pos}
theorem w_listZip (h : At m N sc k X) (hl : m.mg "list" = none) (hgl : sc.names.lookup ("list" : Str) = some .globalImplicit) (hz : m.mg "zip" = none) (hgz : sc.names.lookup ("zip" : Str) = some .globalImplicit)
    (q : wA X [e1, e2] σ H fun vs H1 => ∃ (a b : Addr) (kvs : List (Key × V)), vs = [.ref a, .ref b] ∧ SqL m.K H1 a (kvs.map fun q => kV q.1) ∧ SqL m.K H1 b (kvs.map fun q => q.2) ∧ kvs.length ≤ sizeLine ∧ ∀ (H' : Hp) (p : Addr) (ts : List Addr), (∀ b o, H1 b = some o → H' b = some o) → H1 p = none → (∀ t ∈ ts, H1 t = none) → p ∉ ts → H' p = some (.lst (ts.map V.ref)) → Paired (fun (t : Addr) (q : Key × V) => H' t = some (.tup [kV q.1, q.2])) ts kvs → Q (.ref p) H')
    (hs : starEach [.Call (.Name "zip" zp) [e1, e2] [] zpos] X.env = (false, eval (.Call (.Name "zip" zp) [e1, e2] [] zpos) X.env) :: starEach [] X.env := by with_unfolding_all rfl) (hs2 : starEach [e1, e2] X.env = (false, eval e1 X.env) :: starEach [e2] X.env := by with_unfolding_all rfl) (hpl : (backTo zpos (starEach [e2] X.env)).any (·.1) = false := by with_unfolding_all rfl) :
    wE X (.Call (.Name "list" p) [.Call (.Name "zip" zp) [e1, e2] [] zpos] [] pos) σ H Q := by
  refine toE (pe_listZip h.calm cA (h.gl hgl) (by rw [h.mm]; exact hl) bt_list (h.gl hgz) (by rw [h.mm]; exact hz) hs hs2 hpl) ?_
  rw [h.kk]
  exact q
end
end Vf
set_option maxRecDepth 100000
set_option maxHeartbeats 4000000
/-! Stx: str of bools, None, lists and tuples. Own work. -/
namespace Vf
open PySem PySem.Spec PyProof.Rows L2 LamX
theorem call_strB {X : Cx} : CallR X (.type "str") (fun xs H Q => ∃ b, xs = [.bl b] ∧ Q (.str (if b = true then Str.ofString "True" else Str.ofString "False")) H) := by
  intro pins s σ H xs us Q I r h
  obtain ⟨b, rfl, q⟩ := h
  obtain ⟨u, rfl, ru⟩ := vals1 r
  cases ru
  exact PySem.P.str_of_bool ⟨.str _, H, I.kept (fun _ _ e => e), ⟨_, rfl⟩, q⟩
theorem call_strD {X : Cx} (hg : X.A.guards = some []) (hu : X.A.units + 64 < cLine) : CallR X (.type "str") (fun xs H Q => ∃ a d, xs = [.ref a] ∧ Dp X.K H (.ref a) d ∧ d.showable = true ∧ d.shown.length ≤ sizeLine ∧ d.depth ≤ 60 ∧ Q (.str d.shown) H) := by
  intro pins s σ H xs us Q I r h
  obtain ⟨a, d, rfl, hd, hs, hl, hdp, q⟩ := h
  obtain ⟨u, rfl, ru⟩ := vals1 r
  have fin : ∀ (h' : Heap) (u' tk : Tok), (∀ b o, s.heap.get? b = some o → h'.get? b = some o) → EP X pins σ Q (.str d.shown u') { s with heap := h', toks := tk } := fun h' u' tk kp => ⟨.str d.shown, H, I.kept kp, ⟨_, rfl⟩, q⟩
  cases hd with
  | lst hsq hda =>
    obtain ⟨as, rd⟩ := Dp.reads I _ _ _ (Dp.lst hsq hda) ru
    cases ru
    exact str_of_reads rd hs (PyData.noDict_hsm (Dp.noDict _ _ (Dp.lst hsq hda))) hg (by omega) (fun _ _ e => e) (fun h' u tk kp => fin h' u tk kp) hl
  | tup hsq hda =>
    obtain ⟨as, rd⟩ := Dp.reads I _ _ _ (Dp.tup hsq hda) ru
    cases ru
    exact str_of_reads rd hs (PyData.noDict_hsm (Dp.noDict _ _ (Dp.tup hsq hda))) hg (by omega) (fun _ _ e => e) (fun h' u tk kp => fin h' u tk kp) hl
section
variable {m : Md} {N : List Str} {sc : Scope} {k : Nat} {X : Cx} {H : Hp} {Q : VK}
theorem g_strB (h : At m N sc k X) {b : Bool} (q : Q (.str (if b = true then Str.ofString "True" else Str.ofString "False")) H) : gCall X (.type "str") [.bl b] H Q := ⟨_, call_strB, b, rfl, q⟩
theorem g_strD (h : At m N sc k X) {a : Addr} {d : PyData} (hd : Dp m.K H (.ref a) d) (h1 : d.showable = true) (h2 : d.shown.length ≤ sizeLine) (h3 : d.depth ≤ 60) (q : Q (.str d.shown) H) : gCall X (.type "str") [.ref a] H Q := ⟨_, call_strD h.gd h.room.units, a, d, rfl, by rw [h.kk]; exact hd, h1, h2, h3, q⟩
end
end Vf
set_option maxRecDepth 100000
set_option maxHeartbeats 4000000
/-! Ntd: x not in t, t a tuple of data. Own work. -/
namespace Vf
open PySem PySem.Spec PyProof.Rows L2 LamX
theorem op_notInTD {X : Cx} (hu : X.A.units + 65 < cLine) : OpR X (compareOp .NotIn) (fun x y H Q => ∃ d ds, Dp X.K H x d ∧ Dp X.K H y (.tuple ds) ∧ SeqAt.shaped d = true ∧ SeqAt.shaped (.tuple ds) = true ∧ Q (.bl (!ds.any fun z => PyData.eqv z d)) H) := by
  intro pins s σ H x y v u Q I rx ry h
  obtain ⟨d, ds, hd, he, sd, se, q⟩ := h
  obtain ⟨as, r1⟩ := Dp.reads I d x v hd rx
  obtain ⟨bs, r2⟩ := Dp.reads I (.tuple ds) y u he ry
  exact SeqAt.notIn_tuple_reads r2 r1 (SeqAt.canLay_of_shaped se) (SeqAt.canLay_of_shaped sd) (PyProof.Rows.room_in_shaped sd hu) ⟨.bl _, H, I, rfl, q⟩
theorem g_notInTD {m : Md} {N : List Str} {sc : Scope} {k : Nat} {X : Cx} {H : Hp} {Q : VK} (h : At m N sc k X) {v w : V} {d : PyData} {ds : List PyData} (hd : Dp m.K H v d) (he : Dp m.K H w (.tuple ds)) (sd : SeqAt.shaped d = true) (se : SeqAt.shaped (.tuple ds) = true) (q : Q (.bl (!ds.any fun z => PyData.eqv z d)) H) : gOp X (compareOp .NotIn) v w H Q :=
  gOp.of (op_notInTD (by have := h.room.un; omega)) ⟨d, ds, by rw [h.kk]; exact hd, by rw [h.kk]; exact he, sd, se, q⟩
end Vf
namespace Vf
open PySem PySem.Spec PyProof.Rows L2 LamX
local macro_rules | `(tactic| walk_at "v") => `(tactic| first
  | ((with_reducible show wE _ _ _ _ _); first
      | with_reducible refine w_int ?_
      | with_reducible refine w_str ?_
      | with_reducible refine w_bl ?_
      | with_reducible refine w_non ?_
      | ((with_reducible refine' w_nl ?h ?n ?s ?q); (case h => with_reducible assumption); (case n => with_reducible assumption); (case s => rfl))
      | ((with_reducible refine' w_nc ?h ?n ?s ?q); (case h => with_reducible assumption); (case n => with_reducible assumption); (case s => rfl))
      | ((with_reducible refine' w_nf ?h ?n ?s ?q); (case h => with_reducible assumption); (case n => with_reducible assumption); (case s => rfl))
      | with_reducible refine g_bin ?_
      | with_reducible refine g_ix ?_
      | with_reducible refine w_lst ?_
      | with_reducible refine w_tup ?_
      | with_reducible refine g_cmp ?_
      | with_reducible refine w_if ?_
      | with_reducible refine w_not ?_
      | with_reducible refine w_and ?_
      | with_reducible refine w_or ?_
      | with_reducible refine w_one ?_
      | with_reducible refine w_neg ?_)
  | ((with_reducible show wA _ _ _ _ _); first
      | with_reducible refine w_nil ?_
      | with_reducible refine w_cons ?_)
  | ((with_reducible show gOp _ _ _ _ _ _); first
      | with_reducible refine g_addI ?_
      | with_reducible refine g_subI ?_
      | with_reducible refine g_gtI ?_
      | with_reducible refine g_ltI ?_
      | with_reducible refine g_leI ?_
      | with_reducible refine g_geI ?_
      | with_reducible refine g_eqI ?_
      | with_reducible refine g_neI ?_
      | with_reducible refine g_isN ?_
      | with_reducible refine g_notN ?_
      | with_reducible refine g_eqS ?_
      | with_reducible refine g_neS ?_)
  | ((with_reducible show wS _ _ _ _ _); first
      | with_reducible refine s_ret ?_
      | with_reducible refine s_if ?_
      | with_reducible refine s_expr ?_
      | ((with_reducible refine' s_nl ?h ?n ?q); (case h => with_reducible assumption); (case n => with_reducible assumption))
      | with_reducible refine s_subL ?_
      | with_reducible refine s_retN ?_)
  | ((with_reducible show wB _ _ _ _ _); first
      | with_reducible refine b_nil ?_
      | with_reducible refine b_one ?_
      | with_reducible refine b_cons ?_)
  | ((with_reducible show wT _ _ _ _ _); first
      | with_reducible refine gt_cmp ?_
      | with_reducible refine t_not ?_
      | with_reducible refine t_and ?_
      | with_reducible refine t_or ?_
      | with_reducible refine gt_tru ?_)
  | ((with_reducible show gTru _ _ _ _); first
      | with_reducible refine g_truB ?_)
  | ((with_reducible show wW _ _ _ _ _); first
      | with_reducible refine k_and ?_
      | with_reducible refine k_or ?_
      | with_reducible refine k_and1 ?_
      | with_reducible refine k_or1 ?_)
  | with_reducible refine ⟨_, rfl, ?_⟩)
local macro_rules | `(tactic| walk_at "e") => `(tactic| first
  | ((with_reducible show wE _ _ _ _ _); first
      | with_reducible refine w_int ?_
      | with_reducible refine w_str ?_
      | with_reducible refine w_bl ?_
      | with_reducible refine w_non ?_
      | ((with_reducible refine' w_nl ?h ?n ?s ?q); (case h => with_reducible assumption); (case n => with_reducible assumption); (case s => rfl))
      | ((with_reducible refine' w_nc ?h ?n ?s ?q); (case h => with_reducible assumption); (case n => with_reducible assumption); (case s => rfl))
      | ((with_reducible refine' w_nf ?h ?n ?s ?q); (case h => with_reducible assumption); (case n => with_reducible assumption); (case s => rfl))
      | with_reducible refine g_bin ?_
      | with_reducible refine g_ix ?_
      | with_reducible refine w_lst ?_
      | with_reducible refine w_tup ?_
      | with_reducible refine g_cmp ?_
      | with_reducible refine w_if ?_
      | with_reducible refine w_not ?_
      | with_reducible refine w_and ?_
      | with_reducible refine w_or ?_
      | with_reducible refine w_one ?_
      | with_reducible refine w_neg ?_)
  | ((with_reducible show wA _ _ _ _ _); first
      | with_reducible refine w_nil ?_
      | with_reducible refine w_cons ?_)
  | ((with_reducible show gOp _ _ _ _ _ _); first
      | with_reducible refine g_addI ?_
      | with_reducible refine g_subI ?_
      | with_reducible refine g_gtI ?_
      | with_reducible refine g_ltI ?_
      | with_reducible refine g_leI ?_
      | with_reducible refine g_geI ?_
      | with_reducible refine g_eqI ?_
      | with_reducible refine g_neI ?_
      | with_reducible refine g_isN ?_
      | with_reducible refine g_notN ?_
      | with_reducible refine g_eqS ?_
      | with_reducible refine g_neS ?_)
  | ((with_reducible show wT _ _ _ _ _); first
      | with_reducible refine gt_cmp ?_
      | with_reducible refine t_not ?_
      | with_reducible refine t_and ?_
      | with_reducible refine t_or ?_
      | with_reducible refine gt_tru ?_)
  | ((with_reducible show gTru _ _ _ _); first
      | with_reducible refine g_truB ?_)
  | ((with_reducible show wW _ _ _ _ _); first
      | with_reducible refine k_and ?_
      | with_reducible refine k_or ?_
      | with_reducible refine k_and1 ?_
      | with_reducible refine k_or1 ?_)
  | with_reducible refine ⟨_, rfl, ?_⟩)
local macro_rules | `(tactic| walk_at "E") => `(tactic| repeat (walk_at "e"))
local macro_rules | `(tactic| walk_at "V") => `(tactic| repeat (walk_at "v"))
local macro_rules | `(tactic| walk_at "B") => `(tactic| first | refine b_cons ?_ | refine b_one ?_)
local macro_rules | `(tactic| walk_at "S") => `(tactic| (simp only [List.length_cons, List.length_nil, List.length_append, List.length_map, sizeLine_eq] <;> omega))
def top (i : Nat) : Stmt := PySem.Challenge.pw_leafwaits_k64_whole_fits_and_clashes.main.body.getD i (.Pass ⟨0, 0, 0, 0⟩)
abbrev st_InvalidCount_init : Stmt := inClass (top 2) 0
abbrev nl_InvalidCount_init : List Str := ["self", "value"]
abbrev ps_InvalidCount_init : List Str := ["self", "value"]
theorem sc_InvalidCount_init : FnScope nl_InvalidCount_init ps_InvalidCount_init (C8.fnScope st_InvalidCount_init) := ⟨rfl, rfl, rfl, by decide +kernel, rfl, by decide +kernel, by decide +kernel⟩
-- 0:self 1:value
theorem nv_InvalidCount_init : NL nl_InvalidCount_init (C8.fnScope st_InvalidCount_init) 0 "self" ∧ NL nl_InvalidCount_init (C8.fnScope st_InvalidCount_init) 1 "value" := ⟨⟨rfl, rfl⟩, ⟨rfl, rfl⟩⟩
abbrev st_InvalidNames_init : Stmt := inClass (top 3) 0
abbrev nl_InvalidNames_init : List Str := ["self", "value"]
abbrev ps_InvalidNames_init : List Str := ["self", "value"]
theorem sc_InvalidNames_init : FnScope nl_InvalidNames_init ps_InvalidNames_init (C8.fnScope st_InvalidNames_init) := ⟨rfl, rfl, rfl, by decide +kernel, rfl, by decide +kernel, by decide +kernel⟩
-- 0:self 1:value
theorem nv_InvalidNames_init : NL nl_InvalidNames_init (C8.fnScope st_InvalidNames_init) 0 "self" ∧ NL nl_InvalidNames_init (C8.fnScope st_InvalidNames_init) 1 "value" := ⟨⟨rfl, rfl⟩, ⟨rfl, rfl⟩⟩
abbrev st_InvalidSights_init : Stmt := inClass (top 4) 0
abbrev nl_InvalidSights_init : List Str := ["self", "value"]
abbrev ps_InvalidSights_init : List Str := ["self", "value"]
theorem sc_InvalidSights_init : FnScope nl_InvalidSights_init ps_InvalidSights_init (C8.fnScope st_InvalidSights_init) := ⟨rfl, rfl, rfl, by decide +kernel, rfl, by decide +kernel, by decide +kernel⟩
-- 0:self 1:value
theorem nv_InvalidSights_init : NL nl_InvalidSights_init (C8.fnScope st_InvalidSights_init) 0 "self" ∧ NL nl_InvalidSights_init (C8.fnScope st_InvalidSights_init) 1 "value" := ⟨⟨rfl, rfl⟩, ⟨rfl, rfl⟩⟩
abbrev st_is_whole : Stmt := top 7
abbrev nl_is_whole : List Str := ["value"]
abbrev ps_is_whole : List Str := ["value"]
theorem sc_is_whole : FnScope nl_is_whole ps_is_whole (C8.fnScope st_is_whole) := ⟨rfl, rfl, rfl, by decide +kernel, rfl, by decide +kernel, by decide +kernel⟩
-- 0:value
theorem nv_is_whole : NL nl_is_whole (C8.fnScope st_is_whole) 0 "value" := ⟨rfl, rfl⟩
abbrev st_is_count : Stmt := top 8
abbrev nl_is_count : List Str := ["value"]
abbrev ps_is_count : List Str := ["value"]
theorem sc_is_count : FnScope nl_is_count ps_is_count (C8.fnScope st_is_count) := ⟨rfl, rfl, rfl, by decide +kernel, rfl, by decide +kernel, by decide +kernel⟩
-- 0:value
theorem nv_is_count : NL nl_is_count (C8.fnScope st_is_count) 0 "value" := ⟨rfl, rfl⟩
abbrev st_is_name : Stmt := top 9
abbrev nl_is_name : List Str := ["value", "sign"]
abbrev ps_is_name : List Str := ["value"]
theorem sc_is_name : FnScope nl_is_name ps_is_name (C8.fnScope st_is_name) := ⟨rfl, rfl, rfl, by decide +kernel, rfl, by decide +kernel, by decide +kernel⟩
-- 0:value
theorem nv_is_name : NL nl_is_name (C8.fnScope st_is_name) 0 "value" := ⟨rfl, rfl⟩
abbrev st_is_hours : Stmt := top 10
abbrev nl_is_hours : List Str := ["value", "names", "key", "hour", "name"]
abbrev ps_is_hours : List Str := ["value", "names"]
theorem sc_is_hours : FnScope nl_is_hours ps_is_hours (C8.fnScope st_is_hours) := ⟨rfl, rfl, rfl, by decide +kernel, rfl, by decide +kernel, by decide +kernel⟩
-- 1:names 0:value*
theorem nv_is_hours : NL nl_is_hours (C8.fnScope st_is_hours) 1 "names" ∧ NC nl_is_hours (C8.fnScope st_is_hours) 0 "value" := ⟨⟨rfl, rfl⟩, ⟨rfl, rfl⟩⟩
abbrev st_is_just_hours : Stmt := top 11
abbrev nl_is_just_hours : List Str := ["value", "names"]
abbrev ps_is_just_hours : List Str := ["value", "names"]
theorem sc_is_just_hours : FnScope nl_is_just_hours ps_is_just_hours (C8.fnScope st_is_just_hours) := ⟨rfl, rfl, rfl, by decide +kernel, rfl, by decide +kernel, by decide +kernel⟩
-- 0:value 1:names
theorem nv_is_just_hours : NL nl_is_just_hours (C8.fnScope st_is_just_hours) 0 "value" ∧ NL nl_is_just_hours (C8.fnScope st_is_just_hours) 1 "names" := ⟨⟨rfl, rfl⟩, ⟨rfl, rfl⟩⟩
abbrev st_is_span : Stmt := top 12
abbrev nl_is_span : List Str := ["value", "end"]
abbrev ps_is_span : List Str := ["value"]
theorem sc_is_span : FnScope nl_is_span ps_is_span (C8.fnScope st_is_span) := ⟨rfl, rfl, rfl, by decide +kernel, rfl, by decide +kernel, by decide +kernel⟩
-- 0:value
theorem nv_is_span : NL nl_is_span (C8.fnScope st_is_span) 0 "value" := ⟨rfl, rfl⟩
abbrev st_need_count_from : Stmt := top 13
abbrev nl_need_count_from : List Str := ["least", "value"]
abbrev ps_need_count_from : List Str := ["least", "value"]
theorem sc_need_count_from : FnScope nl_need_count_from ps_need_count_from (C8.fnScope st_need_count_from) := ⟨rfl, rfl, rfl, by decide +kernel, rfl, by decide +kernel, by decide +kernel⟩
-- 0:least 1:value
theorem nv_need_count_from : NL nl_need_count_from (C8.fnScope st_need_count_from) 0 "least" ∧ NL nl_need_count_from (C8.fnScope st_need_count_from) 1 "value" := ⟨⟨rfl, rfl⟩, ⟨rfl, rfl⟩⟩
abbrev st_need_count_within : Stmt := top 14
abbrev nl_need_count_within : List Str := ["least", "most", "value"]
abbrev ps_need_count_within : List Str := ["least", "most", "value"]
theorem sc_need_count_within : FnScope nl_need_count_within ps_need_count_within (C8.fnScope st_need_count_within) := ⟨rfl, rfl, rfl, by decide +kernel, rfl, by decide +kernel, by decide +kernel⟩
-- 0:least 1:most 2:value
theorem nv_need_count_within : NL nl_need_count_within (C8.fnScope st_need_count_within) 0 "least" ∧ NL nl_need_count_within (C8.fnScope st_need_count_within) 1 "most" ∧ NL nl_need_count_within (C8.fnScope st_need_count_within) 2 "value" := ⟨⟨rfl, rfl⟩, ⟨rfl, rfl⟩, ⟨rfl, rfl⟩⟩
abbrev st_standing_names : Stmt := top 16
abbrev nl_standing_names : List Str := ["sights", "seen", "found", "above", "below", "row", "other", "name"]
abbrev ps_standing_names : List Str := ["sights"]
theorem sc_standing_names : FnScope nl_standing_names ps_standing_names (C8.fnScope st_standing_names) := ⟨rfl, rfl, rfl, by decide +kernel, rfl, by decide +kernel, by decide +kernel⟩
-- 1:seen 2:found 3:above 4:below 0:sights* 5:row* 6:other*
theorem nv_standing_names : NL nl_standing_names (C8.fnScope st_standing_names) 1 "seen" ∧ NL nl_standing_names (C8.fnScope st_standing_names) 2 "found" ∧ NL nl_standing_names (C8.fnScope st_standing_names) 3 "above" ∧ NL nl_standing_names (C8.fnScope st_standing_names) 4 "below" ∧ NC nl_standing_names (C8.fnScope st_standing_names) 0 "sights" ∧ NC nl_standing_names (C8.fnScope st_standing_names) 5 "row" ∧ NC nl_standing_names (C8.fnScope st_standing_names) 6 "other" := ⟨⟨rfl, rfl⟩, ⟨rfl, rfl⟩, ⟨rfl, rfl⟩, ⟨rfl, rfl⟩, ⟨rfl, rfl⟩, ⟨rfl, rfl⟩, ⟨rfl, rfl⟩⟩
abbrev st_x_stands : Stmt := top 17
abbrev nl_x_stands : List Str := ["sights", "name", "row", "other", "longest", "shortest"]
abbrev ps_x_stands : List Str := ["sights", "name", "row", "other"]
theorem sc_x_stands : FnScope nl_x_stands ps_x_stands (C8.fnScope st_x_stands) := ⟨rfl, rfl, rfl, by decide +kernel, rfl, by decide +kernel, by decide +kernel⟩
-- 0:sights 1:name 2:row 3:other 4:longest 5:shortest
theorem nv_x_stands : NL nl_x_stands (C8.fnScope st_x_stands) 0 "sights" ∧ NL nl_x_stands (C8.fnScope st_x_stands) 1 "name" ∧ NL nl_x_stands (C8.fnScope st_x_stands) 2 "row" ∧ NL nl_x_stands (C8.fnScope st_x_stands) 3 "other" ∧ NL nl_x_stands (C8.fnScope st_x_stands) 4 "longest" ∧ NL nl_x_stands (C8.fnScope st_x_stands) 5 "shortest" := ⟨⟨rfl, rfl⟩, ⟨rfl, rfl⟩, ⟨rfl, rfl⟩, ⟨rfl, rfl⟩, ⟨rfl, rfl⟩, ⟨rfl, rfl⟩⟩
abbrev st_x_longest_wait : Stmt := top 18
abbrev nl_x_longest_wait : List Str := ["sights", "name", "row", "hours", "_", "high", "bounds"]
abbrev ps_x_longest_wait : List Str := ["sights", "name", "row"]
theorem sc_x_longest_wait : FnScope nl_x_longest_wait ps_x_longest_wait (C8.fnScope st_x_longest_wait) := ⟨rfl, rfl, rfl, by decide +kernel, rfl, by decide +kernel, by decide +kernel⟩
-- 0:sights 1:name 2:row 3:hours 4:_ 5:high 6:bounds
theorem nv_x_longest_wait : NL nl_x_longest_wait (C8.fnScope st_x_longest_wait) 0 "sights" ∧ NL nl_x_longest_wait (C8.fnScope st_x_longest_wait) 1 "name" ∧ NL nl_x_longest_wait (C8.fnScope st_x_longest_wait) 2 "row" ∧ NL nl_x_longest_wait (C8.fnScope st_x_longest_wait) 3 "hours" ∧ NL nl_x_longest_wait (C8.fnScope st_x_longest_wait) 4 "_" ∧ NL nl_x_longest_wait (C8.fnScope st_x_longest_wait) 5 "high" ∧ NL nl_x_longest_wait (C8.fnScope st_x_longest_wait) 6 "bounds" := ⟨⟨rfl, rfl⟩, ⟨rfl, rfl⟩, ⟨rfl, rfl⟩, ⟨rfl, rfl⟩, ⟨rfl, rfl⟩, ⟨rfl, rfl⟩, ⟨rfl, rfl⟩⟩
abbrev st_x_shortest_wait : Stmt := top 19
abbrev nl_x_shortest_wait : List Str := ["sights", "name", "row", "hours", "low", "_", "bounds"]
abbrev ps_x_shortest_wait : List Str := ["sights", "name", "row"]
theorem sc_x_shortest_wait : FnScope nl_x_shortest_wait ps_x_shortest_wait (C8.fnScope st_x_shortest_wait) := ⟨rfl, rfl, rfl, by decide +kernel, rfl, by decide +kernel, by decide +kernel⟩
-- 0:sights 1:name 2:row 3:hours 4:low 5:_ 6:bounds
theorem nv_x_shortest_wait : NL nl_x_shortest_wait (C8.fnScope st_x_shortest_wait) 0 "sights" ∧ NL nl_x_shortest_wait (C8.fnScope st_x_shortest_wait) 1 "name" ∧ NL nl_x_shortest_wait (C8.fnScope st_x_shortest_wait) 2 "row" ∧ NL nl_x_shortest_wait (C8.fnScope st_x_shortest_wait) 3 "hours" ∧ NL nl_x_shortest_wait (C8.fnScope st_x_shortest_wait) 4 "low" ∧ NL nl_x_shortest_wait (C8.fnScope st_x_shortest_wait) 5 "_" ∧ NL nl_x_shortest_wait (C8.fnScope st_x_shortest_wait) 6 "bounds" := ⟨⟨rfl, rfl⟩, ⟨rfl, rfl⟩, ⟨rfl, rfl⟩, ⟨rfl, rfl⟩, ⟨rfl, rfl⟩, ⟨rfl, rfl⟩, ⟨rfl, rfl⟩⟩
abbrev st_clashes : Stmt := top 20
abbrev nl_clashes : List Str := ["sights", "pair", "names"]
abbrev ps_clashes : List Str := ["sights"]
theorem sc_clashes : FnScope nl_clashes ps_clashes (C8.fnScope st_clashes) := ⟨rfl, rfl, rfl, by decide +kernel, rfl, by decide +kernel, by decide +kernel⟩
-- 0:sights
theorem nv_clashes : NL nl_clashes (C8.fnScope st_clashes) 0 "sights" := ⟨rfl, rfl⟩
abbrev st_Sights_init : Stmt := inClass (top 22) 0
abbrev nl_Sights_init : List Str := ["self", "names", "most", "rows", "row", "hours", "low", "high"]
abbrev ps_Sights_init : List Str := ["self", "names", "most", "rows"]
theorem sc_Sights_init : FnScope nl_Sights_init ps_Sights_init (C8.fnScope st_Sights_init) := ⟨rfl, rfl, rfl, by decide +kernel, rfl, by decide +kernel, by decide +kernel⟩
-- 0:self 2:most 3:rows 1:names*
theorem nv_Sights_init : NL nl_Sights_init (C8.fnScope st_Sights_init) 0 "self" ∧ NL nl_Sights_init (C8.fnScope st_Sights_init) 2 "most" ∧ NL nl_Sights_init (C8.fnScope st_Sights_init) 3 "rows" ∧ NC nl_Sights_init (C8.fnScope st_Sights_init) 1 "names" := ⟨⟨rfl, rfl⟩, ⟨rfl, rfl⟩, ⟨rfl, rfl⟩, ⟨rfl, rfl⟩⟩
abbrev st_Sights_names : Stmt := inClass (top 22) 1
abbrev nl_Sights_names : List Str := ["self"]
abbrev ps_Sights_names : List Str := ["self"]
theorem sc_Sights_names : FnScope nl_Sights_names ps_Sights_names (C8.fnScope st_Sights_names) := ⟨rfl, rfl, rfl, by decide +kernel, rfl, by decide +kernel, by decide +kernel⟩
-- 0:self
theorem nv_Sights_names : NL nl_Sights_names (C8.fnScope st_Sights_names) 0 "self" := ⟨rfl, rfl⟩
abbrev st_Sights_most : Stmt := inClass (top 22) 2
abbrev nl_Sights_most : List Str := ["self"]
abbrev ps_Sights_most : List Str := ["self"]
theorem sc_Sights_most : FnScope nl_Sights_most ps_Sights_most (C8.fnScope st_Sights_most) := ⟨rfl, rfl, rfl, by decide +kernel, rfl, by decide +kernel, by decide +kernel⟩
-- 0:self
theorem nv_Sights_most : NL nl_Sights_most (C8.fnScope st_Sights_most) 0 "self" := ⟨rfl, rfl⟩
abbrev st_Sights_rows : Stmt := inClass (top 22) 3
abbrev nl_Sights_rows : List Str := ["self", "hours", "low", "high"]
abbrev ps_Sights_rows : List Str := ["self"]
theorem sc_Sights_rows : FnScope nl_Sights_rows ps_Sights_rows (C8.fnScope st_Sights_rows) := ⟨rfl, rfl, rfl, by decide +kernel, rfl, by decide +kernel, by decide +kernel⟩
-- 0:self
theorem nv_Sights_rows : NL nl_Sights_rows (C8.fnScope st_Sights_rows) 0 "self" := ⟨rfl, rfl⟩
abbrev st_Sights_with_row : Stmt := inClass (top 22) 4
abbrev nl_Sights_with_row : List Str := ["self", "row"]
abbrev ps_Sights_with_row : List Str := ["self", "row"]
theorem sc_Sights_with_row : FnScope nl_Sights_with_row ps_Sights_with_row (C8.fnScope st_Sights_with_row) := ⟨rfl, rfl, rfl, by decide +kernel, rfl, by decide +kernel, by decide +kernel⟩
-- 0:self 1:row
theorem nv_Sights_with_row : NL nl_Sights_with_row (C8.fnScope st_Sights_with_row) 0 "self" ∧ NL nl_Sights_with_row (C8.fnScope st_Sights_with_row) 1 "row" := ⟨⟨rfl, rfl⟩, ⟨rfl, rfl⟩⟩
abbrev st_Sights_without : Stmt := inClass (top 22) 5
abbrev nl_Sights_without : List Str := ["self", "at"]
abbrev ps_Sights_without : List Str := ["self", "at"]
theorem sc_Sights_without : FnScope nl_Sights_without ps_Sights_without (C8.fnScope st_Sights_without) := ⟨rfl, rfl, rfl, by decide +kernel, rfl, by decide +kernel, by decide +kernel⟩
-- 0:self 1:at
theorem nv_Sights_without : NL nl_Sights_without (C8.fnScope st_Sights_without) 0 "self" ∧ NL nl_Sights_without (C8.fnScope st_Sights_without) 1 "at" := ⟨⟨rfl, rfl⟩, ⟨rfl, rfl⟩⟩
abbrev st_Sights_len : Stmt := inClass (top 22) 6
abbrev nl_Sights_len : List Str := ["self"]
abbrev ps_Sights_len : List Str := ["self"]
theorem sc_Sights_len : FnScope nl_Sights_len ps_Sights_len (C8.fnScope st_Sights_len) := ⟨rfl, rfl, rfl, by decide +kernel, rfl, by decide +kernel, by decide +kernel⟩
-- 0:self
theorem nv_Sights_len : NL nl_Sights_len (C8.fnScope st_Sights_len) 0 "self" := ⟨rfl, rfl⟩
abbrev st_Sights_eq : Stmt := inClass (top 22) 7
abbrev nl_Sights_eq : List Str := ["self", "other"]
abbrev ps_Sights_eq : List Str := ["self", "other"]
theorem sc_Sights_eq : FnScope nl_Sights_eq ps_Sights_eq (C8.fnScope st_Sights_eq) := ⟨rfl, rfl, rfl, by decide +kernel, rfl, by decide +kernel, by decide +kernel⟩
-- 0:self 1:other
theorem nv_Sights_eq : NL nl_Sights_eq (C8.fnScope st_Sights_eq) 0 "self" ∧ NL nl_Sights_eq (C8.fnScope st_Sights_eq) 1 "other" := ⟨⟨rfl, rfl⟩, ⟨rfl, rfl⟩⟩
abbrev st_x_is_ascending : Stmt := top 23
abbrev nl_x_is_ascending : List Str := ["value", "name", "at"]
abbrev ps_x_is_ascending : List Str := ["value"]
theorem sc_x_is_ascending : FnScope nl_x_is_ascending ps_x_is_ascending (C8.fnScope st_x_is_ascending) := ⟨rfl, rfl, rfl, by decide +kernel, rfl, by decide +kernel, by decide +kernel⟩
-- 0:value*
theorem nv_x_is_ascending : NC nl_x_is_ascending (C8.fnScope st_x_is_ascending) 0 "value" := ⟨rfl, rfl⟩
abbrev st_x_need_most : Stmt := top 24
abbrev nl_x_need_most : List Str := ["value"]
abbrev ps_x_need_most : List Str := ["value"]
theorem sc_x_need_most : FnScope nl_x_need_most ps_x_need_most (C8.fnScope st_x_need_most) := ⟨rfl, rfl, rfl, by decide +kernel, rfl, by decide +kernel, by decide +kernel⟩
-- 0:value
theorem nv_x_need_most : NL nl_x_need_most (C8.fnScope st_x_need_most) 0 "value" := ⟨rfl, rfl⟩
abbrev st_x_is_seen_row : Stmt := top 25
abbrev nl_x_is_seen_row : List Str := ["value", "names"]
abbrev ps_x_is_seen_row : List Str := ["value", "names"]
theorem sc_x_is_seen_row : FnScope nl_x_is_seen_row ps_x_is_seen_row (C8.fnScope st_x_is_seen_row) := ⟨rfl, rfl, rfl, by decide +kernel, rfl, by decide +kernel, by decide +kernel⟩
-- 0:value 1:names
theorem nv_x_is_seen_row : NL nl_x_is_seen_row (C8.fnScope st_x_is_seen_row) 0 "value" ∧ NL nl_x_is_seen_row (C8.fnScope st_x_is_seen_row) 1 "names" := ⟨⟨rfl, rfl⟩, ⟨rfl, rfl⟩⟩
abbrev st_need_sights : Stmt := top 26
abbrev nl_need_sights : List Str := ["value"]
abbrev ps_need_sights : List Str := ["value"]
theorem sc_need_sights : FnScope nl_need_sights ps_need_sights (C8.fnScope st_need_sights) := ⟨rfl, rfl, rfl, by decide +kernel, rfl, by decide +kernel, by decide +kernel⟩
-- 0:value
theorem nv_need_sights : NL nl_need_sights (C8.fnScope st_need_sights) 0 "value" := ⟨rfl, rfl⟩
abbrev st_fits : Stmt := top 27
abbrev nl_fits : List Str := ["sights"]
abbrev ps_fits : List Str := ["sights"]
theorem sc_fits : FnScope nl_fits ps_fits (C8.fnScope st_fits) := ⟨rfl, rfl, rfl, by decide +kernel, rfl, by decide +kernel, by decide +kernel⟩
-- 0:sights
theorem nv_fits : NL nl_fits (C8.fnScope st_fits) 0 "sights" := ⟨rfl, rfl⟩
abbrev st_clash : Stmt := top 28
abbrev nl_clash : List Str := ["sights", "found"]
abbrev ps_clash : List Str := ["sights"]
theorem sc_clash : FnScope nl_clash ps_clash (C8.fnScope st_clash) := ⟨rfl, rfl, rfl, by decide +kernel, rfl, by decide +kernel, by decide +kernel⟩
-- 0:sights 1:found
theorem nv_clash : NL nl_clash (C8.fnScope st_clash) 0 "sights" ∧ NL nl_clash (C8.fnScope st_clash) 1 "found" := ⟨⟨rfl, rfl⟩, ⟨rfl, rfl⟩⟩
abbrev st_check_clash : Stmt := top 29
abbrev nl_check_clash : List Str := ["sights", "value", "at"]
abbrev ps_check_clash : List Str := ["sights", "value"]
theorem sc_check_clash : FnScope nl_check_clash ps_check_clash (C8.fnScope st_check_clash) := ⟨rfl, rfl, rfl, by decide +kernel, rfl, by decide +kernel, by decide +kernel⟩
-- 0:sights 1:value
theorem nv_check_clash : NL nl_check_clash (C8.fnScope st_check_clash) 0 "sights" ∧ NL nl_check_clash (C8.fnScope st_check_clash) 1 "value" := ⟨⟨rfl, rfl⟩, ⟨rfl, rfl⟩⟩
abbrev st_purse : Stmt := top 31
abbrev nl_purse : List Str := ["_law_script", "_law_at", "_law_seed"]
abbrev ps_purse : List Str := ["_law_script", "_law_at"]
theorem sc_purse : FnScope nl_purse ps_purse (C8.fnScope st_purse) := ⟨rfl, rfl, rfl, by decide +kernel, rfl, by decide +kernel, by decide +kernel⟩
-- 0:_law_script 1:_law_at 2:_law_seed
theorem nv_purse : NL nl_purse (C8.fnScope st_purse) 0 "_law_script" ∧ NL nl_purse (C8.fnScope st_purse) 1 "_law_at" ∧ NL nl_purse (C8.fnScope st_purse) 2 "_law_seed" := ⟨⟨rfl, rfl⟩, ⟨rfl, rfl⟩, ⟨rfl, rfl⟩⟩
abbrev st_mixed : Stmt := top 32
abbrev nl_mixed : List Str := ["_law_seed", "_law_turn", "_law_at", "_law_mixed_here"]
abbrev ps_mixed : List Str := ["_law_seed", "_law_turn", "_law_at"]
theorem sc_mixed : FnScope nl_mixed ps_mixed (C8.fnScope st_mixed) := ⟨rfl, rfl, rfl, by decide +kernel, rfl, by decide +kernel, by decide +kernel⟩
-- 0:_law_seed 1:_law_turn 2:_law_at 3:_law_mixed_here
theorem nv_mixed : NL nl_mixed (C8.fnScope st_mixed) 0 "_law_seed" ∧ NL nl_mixed (C8.fnScope st_mixed) 1 "_law_turn" ∧ NL nl_mixed (C8.fnScope st_mixed) 2 "_law_at" ∧ NL nl_mixed (C8.fnScope st_mixed) 3 "_law_mixed_here" := ⟨⟨rfl, rfl⟩, ⟨rfl, rfl⟩, ⟨rfl, rfl⟩, ⟨rfl, rfl⟩⟩
abbrev st_draw : Stmt := top 33
abbrev nl_draw : List Str := ["_law_purse_here", "_law_many", "_law_drawn", "_law_found", "_law_piece"]
abbrev ps_draw : List Str := ["_law_purse_here", "_law_many"]
theorem sc_draw : FnScope nl_draw ps_draw (C8.fnScope st_draw) := ⟨rfl, rfl, rfl, by decide +kernel, rfl, by decide +kernel, by decide +kernel⟩
-- 0:_law_purse_here 1:_law_many 2:_law_drawn 3:_law_found 4:_law_piece
theorem nv_draw : NL nl_draw (C8.fnScope st_draw) 0 "_law_purse_here" ∧ NL nl_draw (C8.fnScope st_draw) 1 "_law_many" ∧ NL nl_draw (C8.fnScope st_draw) 2 "_law_drawn" ∧ NL nl_draw (C8.fnScope st_draw) 3 "_law_found" ∧ NL nl_draw (C8.fnScope st_draw) 4 "_law_piece" := ⟨⟨rfl, rfl⟩, ⟨rfl, rfl⟩, ⟨rfl, rfl⟩, ⟨rfl, rfl⟩, ⟨rfl, rfl⟩⟩
abbrev st_purses : Stmt := top 34
abbrev nl_purses : List Str := ["_law_script", "_law_few", "_law_at"]
abbrev ps_purses : List Str := ["_law_script", "_law_few"]
theorem sc_purses : FnScope nl_purses ps_purses (C8.fnScope st_purses) := ⟨rfl, rfl, rfl, by decide +kernel, rfl, by decide +kernel, by decide +kernel⟩
-- 1:_law_few 0:_law_script*
theorem nv_purses : NL nl_purses (C8.fnScope st_purses) 1 "_law_few" ∧ NC nl_purses (C8.fnScope st_purses) 0 "_law_script" := ⟨⟨rfl, rfl⟩, ⟨rfl, rfl⟩⟩
abbrev st_one_of : Stmt := top 35
abbrev nl_one_of : List Str := ["_law_purse_here", "_law_some"]
abbrev ps_one_of : List Str := ["_law_purse_here", "_law_some"]
theorem sc_one_of : FnScope nl_one_of ps_one_of (C8.fnScope st_one_of) := ⟨rfl, rfl, rfl, by decide +kernel, rfl, by decide +kernel, by decide +kernel⟩
-- 0:_law_purse_here 1:_law_some
theorem nv_one_of : NL nl_one_of (C8.fnScope st_one_of) 0 "_law_purse_here" ∧ NL nl_one_of (C8.fnScope st_one_of) 1 "_law_some" := ⟨⟨rfl, rfl⟩, ⟨rfl, rfl⟩⟩
abbrev st_shuffled : Stmt := top 36
abbrev nl_shuffled : List Str := ["_law_purse_here", "_law_some", "_law_found", "_law_item"]
abbrev ps_shuffled : List Str := ["_law_purse_here", "_law_some"]
theorem sc_shuffled : FnScope nl_shuffled ps_shuffled (C8.fnScope st_shuffled) := ⟨rfl, rfl, rfl, by decide +kernel, rfl, by decide +kernel, by decide +kernel⟩
-- 0:_law_purse_here 1:_law_some 2:_law_found 3:_law_item
theorem nv_shuffled : NL nl_shuffled (C8.fnScope st_shuffled) 0 "_law_purse_here" ∧ NL nl_shuffled (C8.fnScope st_shuffled) 1 "_law_some" ∧ NL nl_shuffled (C8.fnScope st_shuffled) 2 "_law_found" ∧ NL nl_shuffled (C8.fnScope st_shuffled) 3 "_law_item" := ⟨⟨rfl, rfl⟩, ⟨rfl, rfl⟩, ⟨rfl, rfl⟩, ⟨rfl, rfl⟩⟩
abbrev st_word : Stmt := top 37
abbrev nl_word : List Str := ["_law_purse_here", "_law_found", "_law_turn"]
abbrev ps_word : List Str := ["_law_purse_here"]
theorem sc_word : FnScope nl_word ps_word (C8.fnScope st_word) := ⟨rfl, rfl, rfl, by decide +kernel, rfl, by decide +kernel, by decide +kernel⟩
-- 0:_law_purse_here 1:_law_found 2:_law_turn
theorem nv_word : NL nl_word (C8.fnScope st_word) 0 "_law_purse_here" ∧ NL nl_word (C8.fnScope st_word) 1 "_law_found" ∧ NL nl_word (C8.fnScope st_word) 2 "_law_turn" := ⟨⟨rfl, rfl⟩, ⟨rfl, rfl⟩, ⟨rfl, rfl⟩⟩
abbrev st_names : Stmt := top 38
abbrev nl_names : List Str := ["_law_purse_here", "_law_many", "_law_fresh", "_law_some", "_law_word_here"]
abbrev ps_names : List Str := ["_law_purse_here", "_law_many"]
theorem sc_names : FnScope nl_names ps_names (C8.fnScope st_names) := ⟨rfl, rfl, rfl, by decide +kernel, rfl, by decide +kernel, by decide +kernel⟩
-- 0:_law_purse_here 1:_law_many 2:_law_fresh 3:_law_some*
theorem nv_names : NL nl_names (C8.fnScope st_names) 0 "_law_purse_here" ∧ NL nl_names (C8.fnScope st_names) 1 "_law_many" ∧ NL nl_names (C8.fnScope st_names) 2 "_law_fresh" ∧ NC nl_names (C8.fnScope st_names) 3 "_law_some" := ⟨⟨rfl, rfl⟩, ⟨rfl, rfl⟩, ⟨rfl, rfl⟩, ⟨rfl, rfl⟩⟩
abbrev st_within : Stmt := top 39
abbrev nl_within : List Str := ["_law_one", "_law_other", "_law_key"]
abbrev ps_within : List Str := ["_law_one", "_law_other"]
theorem sc_within : FnScope nl_within ps_within (C8.fnScope st_within) := ⟨rfl, rfl, rfl, by decide +kernel, rfl, by decide +kernel, by decide +kernel⟩
-- 0:_law_one* 1:_law_other*
theorem nv_within : NC nl_within (C8.fnScope st_within) 0 "_law_one" ∧ NC nl_within (C8.fnScope st_within) 1 "_law_other" := ⟨⟨rfl, rfl⟩, ⟨rfl, rfl⟩⟩
abbrev st_row_hour : Stmt := top 40
abbrev nl_row_hour : List Str := ["_law_row", "_law_hours", "_law_key"]
abbrev ps_row_hour : List Str := ["_law_row", "_law_hours"]
theorem sc_row_hour : FnScope nl_row_hour ps_row_hour (C8.fnScope st_row_hour) := ⟨rfl, rfl, rfl, by decide +kernel, rfl, by decide +kernel, by decide +kernel⟩
-- 0:_law_row* 1:_law_hours*
theorem nv_row_hour : NC nl_row_hour (C8.fnScope st_row_hour) 0 "_law_row" ∧ NC nl_row_hour (C8.fnScope st_row_hour) 1 "_law_hours" := ⟨⟨rfl, rfl⟩, ⟨rfl, rfl⟩⟩
abbrev st_spot : Stmt := top 41
abbrev nl_spot : List Str := ["_law_purse_here"]
abbrev ps_spot : List Str := ["_law_purse_here"]
theorem sc_spot : FnScope nl_spot ps_spot (C8.fnScope st_spot) := ⟨rfl, rfl, rfl, by decide +kernel, rfl, by decide +kernel, by decide +kernel⟩
-- 0:_law_purse_here
theorem nv_spot : NL nl_spot (C8.fnScope st_spot) 0 "_law_purse_here" := ⟨rfl, rfl⟩
abbrev st_hidden : Stmt := top 42
abbrev nl_hidden : List Str := ["_law_purse_here", "_law_names_here", "_law_most", "_law_found", "_law_turn", "_law_some", "_law_waits", "_law_far", "_law_name"]
abbrev ps_hidden : List Str := ["_law_purse_here", "_law_names_here", "_law_most"]
theorem sc_hidden : FnScope nl_hidden ps_hidden (C8.fnScope st_hidden) := ⟨rfl, rfl, rfl, by decide +kernel, rfl, by decide +kernel, by decide +kernel⟩
-- 1:_law_names_here 3:_law_found 4:_law_turn 5:_law_some 6:_law_waits 0:_law_purse_here* 2:_law_most* 7:_law_far*
theorem nv_hidden : NL nl_hidden (C8.fnScope st_hidden) 1 "_law_names_here" ∧ NL nl_hidden (C8.fnScope st_hidden) 3 "_law_found" ∧ NL nl_hidden (C8.fnScope st_hidden) 4 "_law_turn" ∧ NL nl_hidden (C8.fnScope st_hidden) 5 "_law_some" ∧ NL nl_hidden (C8.fnScope st_hidden) 6 "_law_waits" ∧ NC nl_hidden (C8.fnScope st_hidden) 0 "_law_purse_here" ∧ NC nl_hidden (C8.fnScope st_hidden) 2 "_law_most" ∧ NC nl_hidden (C8.fnScope st_hidden) 7 "_law_far" := ⟨⟨rfl, rfl⟩, ⟨rfl, rfl⟩, ⟨rfl, rfl⟩, ⟨rfl, rfl⟩, ⟨rfl, rfl⟩, ⟨rfl, rfl⟩, ⟨rfl, rfl⟩, ⟨rfl, rfl⟩⟩
abbrev st_first_told : Stmt := top 43
abbrev nl_first_told : List Str := ["_law_lots", "_law_hours", "_law_row"]
abbrev ps_first_told : List Str := ["_law_lots", "_law_hours"]
theorem sc_first_told : FnScope nl_first_told ps_first_told (C8.fnScope st_first_told) := ⟨rfl, rfl, rfl, by decide +kernel, rfl, by decide +kernel, by decide +kernel⟩
-- 0:_law_lots 1:_law_hours*
theorem nv_first_told : NL nl_first_told (C8.fnScope st_first_told) 0 "_law_lots" ∧ NC nl_first_told (C8.fnScope st_first_told) 1 "_law_hours" := ⟨⟨rfl, rfl⟩, ⟨rfl, rfl⟩⟩
abbrev st_sight : Stmt := top 44
abbrev nl_sight : List Str := ["_law_purse_here", "_law_names_here", "_law_hidden_here", "_law_base", "_law_hours", "_law_hour", "_law_low", "_law_high", "_law_name"]
abbrev ps_sight : List Str := ["_law_purse_here", "_law_names_here", "_law_hidden_here", "_law_base"]
theorem sc_sight : FnScope nl_sight ps_sight (C8.fnScope st_sight) := ⟨rfl, rfl, rfl, by decide +kernel, rfl, by decide +kernel, by decide +kernel⟩
-- 1:_law_names_here 2:_law_hidden_here 4:_law_hours 5:_law_hour 6:_law_low 7:_law_high 0:_law_purse_here* 3:_law_base*
theorem nv_sight : NL nl_sight (C8.fnScope st_sight) 1 "_law_names_here" ∧ NL nl_sight (C8.fnScope st_sight) 2 "_law_hidden_here" ∧ NL nl_sight (C8.fnScope st_sight) 4 "_law_hours" ∧ NL nl_sight (C8.fnScope st_sight) 5 "_law_hour" ∧ NL nl_sight (C8.fnScope st_sight) 6 "_law_low" ∧ NL nl_sight (C8.fnScope st_sight) 7 "_law_high" ∧ NC nl_sight (C8.fnScope st_sight) 0 "_law_purse_here" ∧ NC nl_sight (C8.fnScope st_sight) 3 "_law_base" := ⟨⟨rfl, rfl⟩, ⟨rfl, rfl⟩, ⟨rfl, rfl⟩, ⟨rfl, rfl⟩, ⟨rfl, rfl⟩, ⟨rfl, rfl⟩, ⟨rfl, rfl⟩, ⟨rfl, rfl⟩⟩
abbrev st_seen : Stmt := top 45
abbrev nl_seen : List Str := ["_law_purse_here", "_law_names_here", "_law_most", "_law_many", "_law_hidden_here", "_law_found", "_law_turn", "_law_base"]
abbrev ps_seen : List Str := ["_law_purse_here", "_law_names_here", "_law_most", "_law_many"]
theorem sc_seen : FnScope nl_seen ps_seen (C8.fnScope st_seen) := ⟨rfl, rfl, rfl, by decide +kernel, rfl, by decide +kernel, by decide +kernel⟩
-- 0:_law_purse_here 1:_law_names_here 2:_law_most 3:_law_many 4:_law_hidden_here 5:_law_found 6:_law_turn 7:_law_base
theorem nv_seen : NL nl_seen (C8.fnScope st_seen) 0 "_law_purse_here" ∧ NL nl_seen (C8.fnScope st_seen) 1 "_law_names_here" ∧ NL nl_seen (C8.fnScope st_seen) 2 "_law_most" ∧ NL nl_seen (C8.fnScope st_seen) 3 "_law_many" ∧ NL nl_seen (C8.fnScope st_seen) 4 "_law_hidden_here" ∧ NL nl_seen (C8.fnScope st_seen) 5 "_law_found" ∧ NL nl_seen (C8.fnScope st_seen) 6 "_law_turn" ∧ NL nl_seen (C8.fnScope st_seen) 7 "_law_base" := ⟨⟨rfl, rfl⟩, ⟨rfl, rfl⟩, ⟨rfl, rfl⟩, ⟨rfl, rfl⟩, ⟨rfl, rfl⟩, ⟨rfl, rfl⟩, ⟨rfl, rfl⟩, ⟨rfl, rfl⟩⟩
abbrev st_copied : Stmt := top 46
abbrev nl_copied : List Str := ["_law_seen_here", "_law_hours", "_law_low", "_law_high"]
abbrev ps_copied : List Str := ["_law_seen_here"]
theorem sc_copied : FnScope nl_copied ps_copied (C8.fnScope st_copied) := ⟨rfl, rfl, rfl, by decide +kernel, rfl, by decide +kernel, by decide +kernel⟩
-- 0:_law_seen_here
theorem nv_copied : NL nl_copied (C8.fnScope st_copied) 0 "_law_seen_here" := ⟨rfl, rfl⟩
abbrev st_bounds : Stmt := top 47
abbrev nl_bounds : List Str := ["_law_most", "_law_sight_here", "_law_name", "_law_hours", "_law_low", "_law_high", "_law_bottom", "_law_top"]
abbrev ps_bounds : List Str := ["_law_most", "_law_sight_here", "_law_name"]
theorem sc_bounds : FnScope nl_bounds ps_bounds (C8.fnScope st_bounds) := ⟨rfl, rfl, rfl, by decide +kernel, rfl, by decide +kernel, by decide +kernel⟩
-- 0:_law_most 1:_law_sight_here 2:_law_name 3:_law_hours 4:_law_low 5:_law_high 6:_law_bottom 7:_law_top
theorem nv_bounds : NL nl_bounds (C8.fnScope st_bounds) 0 "_law_most" ∧ NL nl_bounds (C8.fnScope st_bounds) 1 "_law_sight_here" ∧ NL nl_bounds (C8.fnScope st_bounds) 2 "_law_name" ∧ NL nl_bounds (C8.fnScope st_bounds) 3 "_law_hours" ∧ NL nl_bounds (C8.fnScope st_bounds) 4 "_law_low" ∧ NL nl_bounds (C8.fnScope st_bounds) 5 "_law_high" ∧ NL nl_bounds (C8.fnScope st_bounds) 6 "_law_bottom" ∧ NL nl_bounds (C8.fnScope st_bounds) 7 "_law_top" := ⟨⟨rfl, rfl⟩, ⟨rfl, rfl⟩, ⟨rfl, rfl⟩, ⟨rfl, rfl⟩, ⟨rfl, rfl⟩, ⟨rfl, rfl⟩, ⟨rfl, rfl⟩, ⟨rfl, rfl⟩⟩
abbrev st_standing : Stmt := top 48
abbrev nl_standing : List Str := ["_law_names_here", "_law_most", "_law_near", "_law_far", "_law_found", "_law_name", "_law_bottom", "_law_top"]
abbrev ps_standing : List Str := ["_law_names_here", "_law_most", "_law_near", "_law_far"]
theorem sc_standing : FnScope nl_standing ps_standing (C8.fnScope st_standing) := ⟨rfl, rfl, rfl, by decide +kernel, rfl, by decide +kernel, by decide +kernel⟩
-- 0:_law_names_here 1:_law_most 2:_law_near 3:_law_far 4:_law_found 5:_law_name 6:_law_bottom 7:_law_top
theorem nv_standing : NL nl_standing (C8.fnScope st_standing) 0 "_law_names_here" ∧ NL nl_standing (C8.fnScope st_standing) 1 "_law_most" ∧ NL nl_standing (C8.fnScope st_standing) 2 "_law_near" ∧ NL nl_standing (C8.fnScope st_standing) 3 "_law_far" ∧ NL nl_standing (C8.fnScope st_standing) 4 "_law_found" ∧ NL nl_standing (C8.fnScope st_standing) 5 "_law_name" ∧ NL nl_standing (C8.fnScope st_standing) 6 "_law_bottom" ∧ NL nl_standing (C8.fnScope st_standing) 7 "_law_top" := ⟨⟨rfl, rfl⟩, ⟨rfl, rfl⟩, ⟨rfl, rfl⟩, ⟨rfl, rfl⟩, ⟨rfl, rfl⟩, ⟨rfl, rfl⟩, ⟨rfl, rfl⟩, ⟨rfl, rfl⟩⟩
abbrev st_pairs : Stmt := top 49
abbrev nl_pairs : List Str := ["_law_names_here", "_law_most", "_law_seen_here", "_law_found", "_law_one", "_law_other"]
abbrev ps_pairs : List Str := ["_law_names_here", "_law_most", "_law_seen_here"]
theorem sc_pairs : FnScope nl_pairs ps_pairs (C8.fnScope st_pairs) := ⟨rfl, rfl, rfl, by decide +kernel, rfl, by decide +kernel, by decide +kernel⟩
-- 0:_law_names_here 1:_law_most 2:_law_seen_here 3:_law_found 4:_law_one 5:_law_other
theorem nv_pairs : NL nl_pairs (C8.fnScope st_pairs) 0 "_law_names_here" ∧ NL nl_pairs (C8.fnScope st_pairs) 1 "_law_most" ∧ NL nl_pairs (C8.fnScope st_pairs) 2 "_law_seen_here" ∧ NL nl_pairs (C8.fnScope st_pairs) 3 "_law_found" ∧ NL nl_pairs (C8.fnScope st_pairs) 4 "_law_one" ∧ NL nl_pairs (C8.fnScope st_pairs) 5 "_law_other" := ⟨⟨rfl, rfl⟩, ⟨rfl, rfl⟩, ⟨rfl, rfl⟩, ⟨rfl, rfl⟩, ⟨rfl, rfl⟩, ⟨rfl, rfl⟩⟩
abbrev st_every : Stmt := top 50
abbrev nl_every : List Str := ["_law_names_here", "_law_most", "_law_lots", "_law_found", "_law_some", "_law_wait", "_law_row", "_law_other", "_law_one"]
abbrev ps_every : List Str := ["_law_names_here", "_law_most"]
theorem sc_every : FnScope nl_every ps_every (C8.fnScope st_every) := ⟨rfl, rfl, rfl, by decide +kernel, rfl, by decide +kernel, by decide +kernel⟩
-- 1:_law_most 2:_law_lots 3:_law_found 4:_law_some 0:_law_names_here* 5:_law_wait* 6:_law_row*
theorem nv_every : NL nl_every (C8.fnScope st_every) 1 "_law_most" ∧ NL nl_every (C8.fnScope st_every) 2 "_law_lots" ∧ NL nl_every (C8.fnScope st_every) 3 "_law_found" ∧ NL nl_every (C8.fnScope st_every) 4 "_law_some" ∧ NC nl_every (C8.fnScope st_every) 0 "_law_names_here" ∧ NC nl_every (C8.fnScope st_every) 5 "_law_wait" ∧ NC nl_every (C8.fnScope st_every) 6 "_law_row" := ⟨⟨rfl, rfl⟩, ⟨rfl, rfl⟩, ⟨rfl, rfl⟩, ⟨rfl, rfl⟩, ⟨rfl, rfl⟩, ⟨rfl, rfl⟩, ⟨rfl, rfl⟩⟩
abbrev st_suits : Stmt := top 51
abbrev nl_suits : List Str := ["_law_lots", "_law_seen_here", "_law_hours", "_law_low", "_law_high", "_law_hour"]
abbrev ps_suits : List Str := ["_law_lots", "_law_seen_here"]
theorem sc_suits : FnScope nl_suits ps_suits (C8.fnScope st_suits) := ⟨rfl, rfl, rfl, by decide +kernel, rfl, by decide +kernel, by decide +kernel⟩
-- 0:_law_lots 1:_law_seen_here 2:_law_hours 3:_law_low 4:_law_high 5:_law_hour
theorem nv_suits : NL nl_suits (C8.fnScope st_suits) 0 "_law_lots" ∧ NL nl_suits (C8.fnScope st_suits) 1 "_law_seen_here" ∧ NL nl_suits (C8.fnScope st_suits) 2 "_law_hours" ∧ NL nl_suits (C8.fnScope st_suits) 3 "_law_low" ∧ NL nl_suits (C8.fnScope st_suits) 4 "_law_high" ∧ NL nl_suits (C8.fnScope st_suits) 5 "_law_hour" := ⟨⟨rfl, rfl⟩, ⟨rfl, rfl⟩, ⟨rfl, rfl⟩, ⟨rfl, rfl⟩, ⟨rfl, rfl⟩, ⟨rfl, rfl⟩⟩
abbrev st_grown_right : Stmt := top 52
abbrev nl_grown_right : List Str := ["_law_sights", "_law_names_here", "_law_most", "_law_seen_here", "_law_grown", "_law_at", "_law_handed", "_law_less"]
abbrev ps_grown_right : List Str := ["_law_sights", "_law_names_here", "_law_most", "_law_seen_here"]
theorem sc_grown_right : FnScope nl_grown_right ps_grown_right (C8.fnScope st_grown_right) := ⟨rfl, rfl, rfl, by decide +kernel, rfl, by decide +kernel, by decide +kernel⟩
-- 0:_law_sights 1:_law_names_here 2:_law_most 3:_law_seen_here 4:_law_grown 5:_law_at 6:_law_handed 7:_law_less
theorem nv_grown_right : NL nl_grown_right (C8.fnScope st_grown_right) 0 "_law_sights" ∧ NL nl_grown_right (C8.fnScope st_grown_right) 1 "_law_names_here" ∧ NL nl_grown_right (C8.fnScope st_grown_right) 2 "_law_most" ∧ NL nl_grown_right (C8.fnScope st_grown_right) 3 "_law_seen_here" ∧ NL nl_grown_right (C8.fnScope st_grown_right) 4 "_law_grown" ∧ NL nl_grown_right (C8.fnScope st_grown_right) 5 "_law_at" ∧ NL nl_grown_right (C8.fnScope st_grown_right) 6 "_law_handed" ∧ NL nl_grown_right (C8.fnScope st_grown_right) 7 "_law_less" := ⟨⟨rfl, rfl⟩, ⟨rfl, rfl⟩, ⟨rfl, rfl⟩, ⟨rfl, rfl⟩, ⟨rfl, rfl⟩, ⟨rfl, rfl⟩, ⟨rfl, rfl⟩, ⟨rfl, rfl⟩⟩
abbrev st_judged_right : Stmt := top 53
abbrev nl_judged_right : List Str := ["_law_sights", "_law_names_here", "_law_most", "_law_seen_here", "_law_bad", "_law_told", "_law_one", "_law_other", "_law_odd", "_law_thing", "_law_pair"]
abbrev ps_judged_right : List Str := ["_law_sights", "_law_names_here", "_law_most", "_law_seen_here"]
theorem sc_judged_right : FnScope nl_judged_right ps_judged_right (C8.fnScope st_judged_right) := ⟨rfl, rfl, rfl, by decide +kernel, rfl, by decide +kernel, by decide +kernel⟩
-- 0:_law_sights 1:_law_names_here 2:_law_most 3:_law_seen_here 4:_law_bad 5:_law_told 6:_law_one 7:_law_other 8:_law_odd 9:_law_thing
theorem nv_judged_right : NL nl_judged_right (C8.fnScope st_judged_right) 0 "_law_sights" ∧ NL nl_judged_right (C8.fnScope st_judged_right) 1 "_law_names_here" ∧ NL nl_judged_right (C8.fnScope st_judged_right) 2 "_law_most" ∧ NL nl_judged_right (C8.fnScope st_judged_right) 3 "_law_seen_here" ∧ NL nl_judged_right (C8.fnScope st_judged_right) 4 "_law_bad" ∧ NL nl_judged_right (C8.fnScope st_judged_right) 5 "_law_told" ∧ NL nl_judged_right (C8.fnScope st_judged_right) 6 "_law_one" ∧ NL nl_judged_right (C8.fnScope st_judged_right) 7 "_law_other" ∧ NL nl_judged_right (C8.fnScope st_judged_right) 8 "_law_odd" ∧ NL nl_judged_right (C8.fnScope st_judged_right) 9 "_law_thing" := ⟨⟨rfl, rfl⟩, ⟨rfl, rfl⟩, ⟨rfl, rfl⟩, ⟨rfl, rfl⟩, ⟨rfl, rfl⟩, ⟨rfl, rfl⟩, ⟨rfl, rfl⟩, ⟨rfl, rfl⟩, ⟨rfl, rfl⟩, ⟨rfl, rfl⟩⟩
abbrev st_law : Stmt := top 54
abbrev nl_law : List Str := ["_law_script", "_law_purse_here", "_law_names_here", "_law_most", "_law_kept", "_law_sights", "_law_good", "_law_wide", "_law_told", "_law_crowd", "_law_seen_here", "_law_spots", "_law_lots", "_law_at", "_law_one"]
abbrev ps_law : List Str := ["_law_script"]
theorem sc_law : FnScope nl_law ps_law (C8.fnScope st_law) := ⟨rfl, rfl, rfl, by decide +kernel, rfl, by decide +kernel, by decide +kernel⟩
-- 0:_law_script 1:_law_purse_here 2:_law_names_here 3:_law_most 4:_law_kept 5:_law_sights 6:_law_good 7:_law_wide 8:_law_told 9:_law_crowd 10:_law_seen_here* 11:_law_spots*
theorem nv_law : NL nl_law (C8.fnScope st_law) 0 "_law_script" ∧ NL nl_law (C8.fnScope st_law) 1 "_law_purse_here" ∧ NL nl_law (C8.fnScope st_law) 2 "_law_names_here" ∧ NL nl_law (C8.fnScope st_law) 3 "_law_most" ∧ NL nl_law (C8.fnScope st_law) 4 "_law_kept" ∧ NL nl_law (C8.fnScope st_law) 5 "_law_sights" ∧ NL nl_law (C8.fnScope st_law) 6 "_law_good" ∧ NL nl_law (C8.fnScope st_law) 7 "_law_wide" ∧ NL nl_law (C8.fnScope st_law) 8 "_law_told" ∧ NL nl_law (C8.fnScope st_law) 9 "_law_crowd" ∧ NC nl_law (C8.fnScope st_law) 10 "_law_seen_here" ∧ NC nl_law (C8.fnScope st_law) 11 "_law_spots" := ⟨⟨rfl, rfl⟩, ⟨rfl, rfl⟩, ⟨rfl, rfl⟩, ⟨rfl, rfl⟩, ⟨rfl, rfl⟩, ⟨rfl, rfl⟩, ⟨rfl, rfl⟩, ⟨rfl, rfl⟩, ⟨rfl, rfl⟩, ⟨rfl, rfl⟩, ⟨rfl, rfl⟩, ⟨rfl, rfl⟩⟩
/-! ### the law's purse -/
/-- a purse at p that has been drawn from at most n times -/
def Purse (H : Hp) (p : Addr) (n : Nat) : Prop := ∃ a b c d : Int, H p = some (.lst [.int a, .int b, .int c, .int d]) ∧ 0 ≤ a ∧ a.natAbs < 2 ^ 1600 ∧ (0 ≤ b ∧ b < 2147483629) ∧ (0 ≤ c ∧ c ≤ n) ∧ (0 ≤ d ∧ d < 1000)
def sp_mixed : Sp := fun vs H Q _ => ∃ s t a : Int, vs = [.int s, .int t, .int a] ∧ (0 ≤ s ∧ s < 2147483629) ∧ (0 ≤ t ∧ t < 2 ^ 40) ∧ (0 ≤ a ∧ a < 1000) ∧ ∀ r : Int, 0 ≤ r → r < 2147483587 → Q (.int r) H
theorem c_mixed {m : Md} {f : Addr} {fd : FuncData} (F : C8.Def m.K m.mg "_law_mixed" st_mixed f fd) (b : L2.Binds m.K fd ps_mixed []) : Cal m 1 "_law_mixed" sp_mixed := by
  refine cal_of F b sc_mixed (fun vs H Q E h => by obtain ⟨_, _, _, rfl, _⟩ := h; rfl) fun X vs H Q E hA h => ?_
  obtain ⟨s, t, a, rfl, hs, ht, ha, k⟩ := h
  obtain ⟨n0, n1, n2, n3⟩ := nv_mixed
  walk_at "B"
  walk_at "V"
  refine g_mulI (.inl (by omega)) ?_
  walk_at "V"
  refine g_mulI (.inl (by omega)) ?_
  walk_at "V"
  refine g_mulI (.inl (by omega)) ?_
  walk_at "V"
  refine g_mulI (.inl (by omega)) ?_
  walk_at "V"
  refine g_modB (by omega) fun r1 h1 h1' => ?_
  walk_at "V"
  refine g_mulI (.inl (by omega)) ?_
  walk_at "V"
  refine g_modB (by omega) fun r2 h2 h2' => ?_
  walk_at "V"
  refine g_mulI (.inl (by omega)) ?_
  walk_at "V"
  refine g_modB (by omega) fun r3 h3 h3' => ?_
  exact k r3 h3 h3'
/-- the purse at p alone has changed: it was drawn from at most j times -/
structure Drew (m : Md) (p : Addr) (n j : Nat) (H H' : Hp) : Prop where
  grow : GrowX m.T (· = p) H H'
  purse : Purse H' p (n + j)
theorem Purse.mono {H : Hp} {p : Addr} {n j : Nat} (h : Purse H p n) (l : n ≤ j) : Purse H p j := by
  obtain ⟨a, b, c, d, h1, h2, h3, h4, h5, h6⟩ := h
  exact ⟨a, b, c, d, h1, h2, h3, h4, ⟨h5.1, by omega⟩, h6⟩
theorem Drew.trans {m : Md} {p : Addr} {n i j : Nat} {H H1 H2 : Hp} (a : Drew m p n i H H1) (b : Drew m p (n + i) j H1 H2) : Drew m p n (i + j) H H2 := ⟨a.grow.trans b.grow, by rw [← Nat.add_assoc]; exact b.purse⟩
theorem Drew.mono {m : Md} {p : Addr} {n i j : Nat} {H H1 : Hp} (a : Drew m p n i H H1) (l : i ≤ j) : Drew m p n j H H1 := ⟨a.grow, a.purse.mono (by omega)⟩
theorem Purse.new {m : Md} {H H' : Hp} {p : Addr} {n : Nat} (h : Purse H p n) (g : Grow m.T H H') : Purse H' p n := by
  obtain ⟨a, b, c, d, h1, r⟩ := h
  exact ⟨a, b, c, d, g.ext _ _ (fun z => z) h1 (fun _ z => by cases z), r⟩
theorem Purse.drew {m : Md} {H H' : Hp} {p : Addr} {n : Nat} (h : Purse H p n) (g : Grow m.T H H') : Drew m p n 0 H H' := ⟨g.to, h.new g⟩
def sp_draw (m : Md) : Sp := fun vs H Q _ => ∃ (p : Addr) (n : Nat) (z : Int), vs = [.ref p, .int z] ∧ Purse H p n ∧ n ≤ 2 ^ 39 ∧ 0 < z ∧ z < 2 ^ 200 ∧
  ∀ (r : Int) (H' : Hp), 0 ≤ r → r < z → Drew m p n 8 H H' → Q (.int r) H'
theorem Purse.at_ {H : Hp} {p : Addr} {n : Nat} (h : Purse H p n) : ∃ xs, H p = some (.lst xs) := ⟨_, h.choose_spec.choose_spec.choose_spec.choose_spec.1⟩
theorem Purse.x {m : Md} {S : Addr → Prop} {H H' : Hp} {p : Addr} {n : Nat} (h : Purse H p n) (g : GrowX m.T S H H') (hs : ¬ S p) : Purse H' p n := by
  obtain ⟨a, b, c, d, h1, r⟩ := h
  exact ⟨a, b, c, d, g.ext _ _ hs h1 (fun _ z => by cases z), r⟩
theorem Drew.pre {m : Md} {H H1 H2 : Hp} {p : Addr} {n j : Nat} (g : Grow m.T H H1) (d : Drew m p n j H1 H2) : Drew m p n j H H2 := ⟨g.to.trans d.grow, d.purse⟩
theorem Drew.post {m : Md} {H H1 H2 : Hp} {p : Addr} {n j : Nat} (d : Drew m p n j H H1) (g : Grow m.T H1 H2) : Drew m p n j H H2 := ⟨d.grow.trans g.to, d.purse.new g⟩
theorem c_draw {m : Md} {f : Addr} {fd : FuncData} (F : C8.Def m.K m.mg "_law_draw" st_draw f fd) (b : L2.Binds m.K fd ps_draw []) (hr : m.mg "range" = none) (M : Cal m 1 "_law_mixed" sp_mixed) : Cal m 2 "_law_draw" (sp_draw m) := by
  refine cal_of F b sc_draw (fun vs H Q E h => by obtain ⟨_, _, _, rfl, _⟩ := h; rfl) fun X vs H Q E hA h => ?_
  obtain ⟨p, n, mm, rfl, ⟨a, bb, c, d, hp, ha, ha2, hb, hc, hd⟩, hn, hm, hm2, k⟩ := h
  obtain ⟨n0, n1, n2, n3, n4⟩ := nv_draw
  walk_at "B"
  walk_at "V"
  refine g_ixL hA (SqL.of hp) (atI_at (j := 0) rfl) ?_
  walk_at "V"
  refine ite2 (fun h0 => ?_) fun h0 => ?_
  · simp only [decide_eq_true_eq] at h0
    walk_at "V"
    refine g_ixL hA (SqL.of hp) (atI_at (j := 0) rfl) ?_
    walk_at "V"
    refine g_modB hm fun r h1 h2 => ?_
    walk_at "V"
    refine g_ixL hA (SqL.of hp) (atI_at (j := 0) rfl) ?_
    walk_at "V"
    refine g_divW (wide_div (b := 200) hm (by omega) (by omega) (by omega)) ?_
    walk_at "V"
    refine ⟨p, _, _, 0, rfl, rfl, hp, rfl, ?_⟩
    walk_at "V"
    refine k r _ h1 h2 ⟨GrowX.set rfl hp (fun _ z => by cases z) (fun _ z => by unfold CodeO at z; cases z) (fun _ z => by cases z) (fun _ _ z => by cases z), a / mm, bb, c, d, by rw [upd_same]; rfl, Int.ediv_nonneg ha (by omega), ?_, hb, by omega, hd⟩
    have q1 : 0 ≤ a / mm := Int.ediv_nonneg ha (by omega)
    have q2 : a / mm ≤ a := Int.ediv_le_self _ ha
    omega
  · walk_at "V"
    have hbits : Builtin.Int.intBits mm ≤ 200 := PyProof.Rows.intBits_le (by omega)
    refine s_forR hA (pg_nl hA n4) hr rfl ?_
    walk_at "V"
    refine g_bits ?_
    walk_at "V"
    refine g_divI (by omega) ?_
    walk_at "V"
    have e : (0 : Int) ≤ (Builtin.Int.intBits mm : Int) / 28 ∧ (Builtin.Int.intBits mm : Int) / 28 ≤ 7 := by omega
    refine ⟨by omega, by omega, fun i σ H' => ∃ c' g : Int, σ = [some (.ref p), some (.int mm), none, some (.int g), σ.getD 4 none] ∧ H' = upd H p (.lst [.int a, .int bb, .int c', .int d]) ∧ 0 ≤ g ∧ 0 ≤ c' ∧ c' ≤ n + i, ?_, ?_, ?_⟩
    · refine ⟨c, 0, rfl, ?_, by omega, by omega, by omega⟩
      funext q
      by_cases z : q = p
      · rw [z, upd_same, hp]
      · rw [upd_ne z]
    · rintro i σ H' hi ⟨c', g, es, rfl, g0, c0, c1⟩
      rw [es]
      walk_at "B"
      walk_at "V"
      refine g_ixL hA (SqL.of upd_same) (atI_at (j := 2) rfl) ?_
      walk_at "V"
      refine ⟨p, _, _, 2, rfl, rfl, upd_same, rfl, ?_⟩
      rw [upd_upd]
      walk_at "V"
      refine g_mulI (.inr (by omega)) ?_
      walk_at "V"
      refine w_call hA M (by omega) rfl ?_
      walk_at "V"
      refine g_ixL hA (SqL.of upd_same) (atI_at (j := 1) rfl) ?_
      walk_at "V"
      refine g_ixL hA (SqL.of upd_same) (atI_at (j := 2) rfl) ?_
      walk_at "V"
      refine g_ixL hA (SqL.of upd_same) (atI_at (j := 3) rfl) ?_
      walk_at "V"
      refine ⟨bb, c' + 1, d, rfl, hb, by omega, by omega, fun r r0 r1 => ?_⟩
      walk_at "V"
      exact ⟨c' + 1, g * 2147483587 + r, rfl, rfl, by omega, by omega, by omega⟩
    · rintro σ H' ⟨c', g, es, rfl, g0, c0, c1⟩
      rw [es]
      walk_at "B"
      walk_at "V"
      refine g_modB hm fun r r0 r1 => ?_
      refine k r _ r0 r1 ⟨GrowX.set rfl hp (fun _ z => by cases z) (fun _ z => by unfold CodeO at z; cases z) (fun _ z => by cases z) (fun _ _ z => by cases z), a, bb, c', d, upd_same, ha, ha2, hb, by omega, hd⟩
def sp_purse (m : Md) : Sp := fun vs H Q _ => ∃ (a : Addr) (ns : List Int) (i : Int), vs = [.ref a, .int i] ∧ SqL m.K H a (ns.map V.int) ∧ 0 ≤ i ∧ i < 1000 ∧ ∀ p H', Grow m.T H H' → New H p → Purse H' p 0 → Q (.ref p) H'
theorem big_mod (z : Int) : 0 ≤ z % ((10 : Int) ^ (60 : Int).toNat) ^ (8 : Int).toNat ∧ (z % ((10 : Int) ^ (60 : Int).toNat) ^ (8 : Int).toNat).natAbs < 2 ^ 1600 := by
  have hp : (0 : Int) < ((10 : Int) ^ (60 : Int).toNat) ^ (8 : Int).toNat := by decide +kernel
  have h1 := Int.emod_nonneg z (show ((10 : Int) ^ (60 : Int).toNat) ^ (8 : Int).toNat ≠ 0 by omega)
  have h2 := Int.emod_lt_of_pos z hp
  have h3 : ((10 : Int) ^ (60 : Int).toNat) ^ (8 : Int).toNat < 2 ^ 1600 := by decide +kernel
  refine ⟨h1, ?_⟩
  have h4 : z % ((10 : Int) ^ (60 : Int).toNat) ^ (8 : Int).toNat < 2 ^ 1600 := Int.lt_trans h2 h3
  omega
theorem c_purse {m : Md} {f : Addr} {fd : FuncData} (F : C8.Def m.K m.mg "_law_purse" st_purse f fd) (b : L2.Binds m.K fd ps_purse []) (hsum : m.mg "sum" = none) (hmax : m.mg "max" = none) : Cal m 1 "_law_purse" (sp_purse m) := by
  refine cal_of F b sc_purse (fun vs H Q E h => by obtain ⟨_, _, _, rfl, _⟩ := h; rfl) fun X vs H Q E hA h => ?_
  obtain ⟨a, ns, i, rfl, hs, hi, hi2, k⟩ := h
  obtain ⟨n0, n1, n2⟩ := nv_purse
  walk_at "B"
  walk_at "V"
  refine g_blt hA hsum rfl bt_sum ?_
  walk_at "V"
  refine w_slice hA ?_
  walk_at "V"
  refine ⟨a, _, rfl, hs, fun p hp => ?_⟩
  walk_at "V"
  obtain ⟨ys, ey, _⟩ := cutV_map V.int ns (some i) (some (i + 1))
  refine g_sum (ns := ys) hA (SqL.of (by rw [← ey]; exact upd_same)) ?_
  generalize ys.sum = z
  walk_at "V"
  refine g_blt hA hmax rfl bt_max ?_
  walk_at "V"
  refine g_powI ⟨by omega, by omega, by omega⟩ ?_
  walk_at "V"
  refine g_max2 hA ?_
  walk_at "V"
  refine g_powI ⟨by omega, by omega, by omega⟩ ?_
  walk_at "V"
  refine g_powW (by omega) (by have := PyProof.Rows.intBits_le (show ((10 : Int) ^ (60 : Int).toNat).natAbs < 2 ^ 200 by decide +kernel); omega) ?_
  walk_at "V"
  refine g_modI (by decide +kernel) ?_
  walk_at "V"
  refine g_modB (by omega) fun r h1 h2 => ?_
  walk_at "V"
  refine ⟨by show 4 ≤ sizeLine; decide, fun d hd => ?_⟩
  obtain ⟨g1, g2⟩ := big_mod (if 0 > z - 10 ^ (18 : Int).toNat then 0 else z - 10 ^ (18 : Int).toNat)
  refine k d _ ((Grow.new hp).trans (Grow.new hd)) (NdefX.upd_none hd) ⟨_, r, 0, i, upd_same, g1, g2, ⟨h1, h2⟩, by omega, ⟨hi, hi2⟩⟩
def sp_one_of (m : Md) : Sp := fun vs H Q _ => ∃ (p : Addr) (n : Nat) (a : Addr) (xs : List V), vs = [.ref p, .ref a] ∧ Purse H p n ∧ n ≤ 2 ^ 39 ∧ SqL m.K H a xs ∧ a ≠ p ∧ 0 < xs.length ∧ xs.length < 1000000 ∧
  ∀ (j : Nat) (v : V) (H' : Hp), xs[j]? = some v → Drew m p n 8 H H' → Q v H'
theorem c_one_of {m : Md} {f : Addr} {fd : FuncData} (F : C8.Def m.K m.mg "_law_one_of" st_one_of f fd) (b : L2.Binds m.K fd ps_one_of []) (hlen : m.mg "len" = none) (D : Cal m 2 "_law_draw" (sp_draw m)) : Cal m 3 "_law_one_of" (sp_one_of m) := by
  refine cal_of F b sc_one_of (fun vs H Q E h => by obtain ⟨_, _, _, _, rfl, _⟩ := h; rfl) fun X vs H Q E hA h => ?_
  obtain ⟨p, n, a, xs, rfl, hp, hn, hs, hne, hl, hl2, k⟩ := h
  obtain ⟨n0, n1⟩ := nv_one_of
  walk_at "B"
  walk_at "V"
  refine w_call hA D (by omega) rfl ?_
  walk_at "V"
  refine g_blt hA hlen rfl bt_len ?_
  walk_at "V"
  refine g_lenL hA hs ?_
  walk_at "V"
  refine ⟨p, n, _, rfl, hp, hn, by omega, by omega, fun r H' r0 r1 dr => ?_⟩
  walk_at "V"
  have hr : (r.toNat : Int) = r := by omega
  rw [← hr]
  refine g_ixL hA (dr.grow.seqL hs hne) (atI_at (List.getElem?_eq_getElem (show r.toNat < xs.length by omega))) ?_
  exact k r.toNat _ H' (List.getElem?_eq_getElem (by omega)) dr
def sp_word (m : Md) : Sp := fun vs H Q _ => ∃ (p : Addr) (n : Nat), vs = [.ref p] ∧ Purse H p n ∧ n ≤ 2 ^ 38 ∧ ∀ (z : Str) (H' : Hp), IsName z → Drew m p n 72 H H' → Q (.str z) H'
theorem abc_at (r : Nat) (h : r < 26) : (("abcdefghijklmnopqrstuvwxyz" : Str).cps.toList)[r]? = some (97 + r) := by
  have e : ("abcdefghijklmnopqrstuvwxyz" : Str).cps.toList = (List.range 26).map (97 + ·) := by decide +kernel
  rw [e, List.getElem?_map, List.getElem?_range h]
  rfl
theorem c_word {m : Md} {f : Addr} {fd : FuncData} (F : C8.Def m.K m.mg "_law_word" st_word f fd) (b : L2.Binds m.K fd ps_word []) (hr : m.mg "range" = none) (D : Cal m 2 "_law_draw" (sp_draw m)) : Cal m 3 "_law_word" (sp_word m) := by
  refine cal_of F b sc_word (fun vs H Q E h => by obtain ⟨_, _, rfl, _⟩ := h; rfl) fun X vs H Q E hA h => ?_
  obtain ⟨p, n, rfl, hp, hn, k⟩ := h
  obtain ⟨n0, n1, n2⟩ := nv_word
  walk_at "B"
  walk_at "V"
  refine s_forR hA (pg_nl hA n2) hr rfl ?_
  walk_at "V"
  refine w_call hA D (by omega) rfl ?_
  walk_at "V"
  refine ⟨p, n, _, rfl, hp, by omega, by omega, by omega, fun r H1 r0 r1 d1 => ?_⟩
  walk_at "V"
  refine ⟨by omega, by omega, fun i σ H' => ∃ z : Str, σ = [some (.ref p), some (.str z), σ.getD 2 none] ∧ Drew m p n (8 + 8 * i) H H' ∧ z.length = i ∧ ∀ c ∈ z.cps.toList, 97 ≤ c ∧ c ≤ 122, ?_, ?_, ?_⟩
  · exact ⟨"", rfl, d1, rfl, fun c hc => by rw [show ("" : Str).cps.toList = [] from by decide +kernel] at hc; cases hc⟩
  · rintro i σ H' hi ⟨z, es, dr, zl, zc⟩
    rw [es]
    walk_at "B"
    walk_at "V"
    refine w_call hA D (by omega) rfl ?_
    walk_at "V"
    refine ⟨p, _, _, rfl, dr.purse, by omega, by omega, by omega, fun r2 H2 q0 q1 d2 => ?_⟩
    have hr2 : (r2.toNat : Int) = r2 := by omega
    rw [← hr2]
    refine g_ixS (by decide) (atI_at (abc_at r2.toNat (by omega))) ?_
    refine g_addS (by rw [zl]; show i + 1 ≤ sizeLine; rw [sizeLine_eq]; omega) ?_
    walk_at "V"
    refine ⟨(dr.trans d2), ?_, fun c hc => ?_⟩
    · rw [Str.length_append, zl]; rfl
    · rcases List.mem_append.1 ((show (z ++ (⟨#[97 + r2.toNat]⟩ : Str)).cps.toList = z.cps.toList ++ [97 + r2.toNat] from by show (z.cps ++ #[97 + r2.toNat]).toList = _; simp) ▸ hc) with h | h
      · exact zc c h
      · have := List.mem_singleton.1 h; omega
  · rintro σ H' ⟨z, es, dr, zl, zc⟩
    rw [es]
    walk_at "B"
    walk_at "V"
    exact k z H' ⟨by omega, by omega, zc⟩ (dr.mono (by omega))
/-- the purses of a list: apart, all new, each fresh -/
structure Purses (m : Md) (H H' : Hp) (r : Addr) (ps : List Addr) : Prop where
  grow : Grow m.T H H'
  isn : New H r
  seq : SqL m.K H' r (ps.map V.ref)
  nd : (r :: ps).Nodup
  new : ∀ p ∈ ps, New H p
  purse : ∀ p ∈ ps, Purse H' p 0
def sp_purses (m : Md) : Sp := fun vs H Q _ => ∃ (a : Addr) (ns : List Int) (few : Int), vs = [.ref a, .int few] ∧ SqL m.K H a (ns.map V.int) ∧ ns.length < 1000 ∧ 0 ≤ few ∧ few < 1000 ∧
  ∀ r ps H', Purses m H H' r ps → (ps.length : Int) = max 1 (min few ns.length) → Q (.ref r) H'
theorem c_purses {m : Md} {f : Addr} {fd : FuncData} (F : C8.Def m.K m.mg "_law_purses" st_purses f fd) (b : L2.Binds m.K fd ps_purses []) (hr : m.mg "range" = none) (hmax : m.mg "max" = none) (hmin : m.mg "min" = none) (hlen : m.mg "len" = none) (D1 : Cal m 1 "_law_purse" (sp_purse m)) : Cal m 2 "_law_purses" (sp_purses m) := by
  refine cal_of F b sc_purses (fun vs H Q E h => by obtain ⟨_, _, _, rfl, _⟩ := h; rfl) fun X vs H Q E hA h => ?_
  obtain ⟨a, ns, few, rfl, hs, hn, hf, hf2, k⟩ := h
  obtain ⟨n1, n0⟩ := nv_purses
  walk_at "B"
  walk_at "V"
  refine w_lcR hA hr rfl (by decide +kernel) (i := 2) ⟨rfl, rfl⟩ ?_
  refine g_blt hA hmax rfl bt_max ?_
  walk_at "V"
  refine g_blt hA hmin rfl bt_min ?_
  walk_at "V"
  refine g_blt hA hlen rfl bt_len ?_
  walk_at "V"
  refine g_lenL hA hs ?_
  walk_at "V"
  refine g_min2 hA ?_
  walk_at "V"
  refine g_max2 hA ?_
  rw [List.length_map]
  have e : (if (if (ns.length : Int) < few then (ns.length : Int) else few) > 1 then (if (ns.length : Int) < few then (ns.length : Int) else few) else 1) = max 1 (min few ns.length) := by omega
  rw [e]
  walk_at "V"
  refine ⟨by omega, by omega, fun D hD => ⟨fun i H' => ∃ ps : List Addr, ps.length = i ∧ Purses m H H' D ps ∧ H' D = some (.lst (ps.map V.ref)), ?_, ?_, ?_⟩⟩
  · exact ⟨[], rfl, ⟨Grow.new hD, hD, SqL.of upd_same, by simp, by simp, by simp⟩, upd_same⟩
  · rintro j H' hj ⟨ps, el, P, hl⟩ X' hX'
    have c0 := nc_of hX' 0 "_law_script"
    have c2 := nl_of hX' 2 "_law_at"
    refine w_call hX' D1 (by omega) rfl ?_
    walk_at "V"
    refine ⟨a, ns, j, rfl, P.grow.seqL hs (fun z => z), by omega, by omega, fun p H2 g np pp => ?_⟩
    have hD2 := g.extN D _ hl (fun _ z => by cases z)
    have hne : D ≠ p := (New.ne np hl).symm
    refine ⟨_, hD2, by rw [List.length_map, sizeLine_eq]; omega, ps ++ [p], by simp [el], ?_, by rw [upd_same]; simp⟩
    have gX := GrowX.lst (T := m.T) (ys := ps.map V.ref ++ [V.ref p]) hD2
    have gr := P.grow.intoNew (g.to.trans gX) (fun c z => by rw [z]; exact P.isn)
    refine ⟨gr, P.isn, by rw [List.map_append]; exact SqL.of upd_same, ?_, ?_, ?_⟩
    · have := P.nd
      have hp : p ∉ ps := fun z => by
        obtain ⟨_, e⟩ := (P.purse p z).at_
        rw [np] at e; cases e
      rw [List.nodup_cons] at this ⊢
      refine ⟨fun z => ?_, List.nodup_append.2 ⟨this.2, by simp, fun x hx y hy => ?_⟩⟩
      · rcases List.mem_append.1 z with z | z
        · exact this.1 z
        · exact hne (List.mem_singleton.1 z)
      · rw [List.mem_singleton.1 hy]; exact fun z => hp (z ▸ hx)
    · intro x hx
      rcases List.mem_append.1 hx with z | z
      · exact P.new x z
      · rw [List.mem_singleton.1 z]; exact P.grow.keep _ np
    · intro x hx
      rcases List.mem_append.1 hx with z | z
      · have nx : x ≠ D := fun w => (List.nodup_cons.1 P.nd).1 (w ▸ z)
        exact ((P.purse x z).new g).x gX nx
      · rw [List.mem_singleton.1 z]; exact pp.x gX hne.symm
  · rintro H' ⟨ps, el, P, hl⟩
    exact k D ps H' P (by omega)
def sp_shuffled (m : Md) : Sp := fun vs H Q _ => ∃ (p : Addr) (n : Nat) (a : Addr) (xs : List V), vs = [.ref p, .ref a] ∧ Purse H p n ∧ n ≤ 2 ^ 38 ∧ SqL m.K H a xs ∧ a ≠ p ∧ xs.length < 1000 ∧
  ∀ (r : Addr) (ys : List V) (H' : Hp), ys.Perm xs → Drew m p n (8 * xs.length) H H' → New H r → H' r = some (.lst ys) → Q (.ref r) H'
theorem c_shuffled {m : Md} {f : Addr} {fd : FuncData} (F : C8.Def m.K m.mg "_law_shuffled" st_shuffled f fd) (b : L2.Binds m.K fd ps_shuffled []) (hlen : m.mg "len" = none) (D : Cal m 2 "_law_draw" (sp_draw m)) : Cal m 3 "_law_shuffled" (sp_shuffled m) := by
  refine cal_of F b sc_shuffled (fun vs H Q E h => by obtain ⟨_, _, _, _, rfl, _⟩ := h; rfl) fun X vs H Q E hA h => ?_
  obtain ⟨p, n, a, xs, rfl, hp, hn, hs, hne, hl, k⟩ := h
  obtain ⟨n0, n1, n2, n3⟩ := nv_shuffled
  walk_at "B"
  walk_at "V"
  refine ⟨by decide, fun r hr => ?_⟩
  walk_at "V"
  refine s_forL hA (pg_nl hA n3) ?_
  walk_at "V"
  have hrp : r ≠ p := fun z => by obtain ⟨_, e⟩ := hp.at_; rw [← z, hr] at e; cases e
  refine ⟨a, xs, rfl, GrowX.seqL (Grow.new (T := m.T) hr) hs (fun z => z), fun i σ H' => ∃ ys, σ = [some (.ref p), some (.ref a), some (.ref r), σ.getD 3 none] ∧ ys.Perm (xs.take i) ∧ Drew m p n (8 * i) H H' ∧ H' r = some (.lst ys), ?_, ?_, ?_, ?_⟩
  · exact ⟨[], rfl, by simp, ⟨(Grow.new hr).to, hp.new (Grow.new (T := m.T) hr)⟩, upd_same⟩
  · rintro i σ H' hi ⟨ys, es, pm, dr, hy⟩
    exact dr.grow.seqL hs hne
  · rintro i x σ H' hx ⟨ys, es, pm, dr, hy⟩
    have hi : i < xs.length := (List.getElem?_eq_some_iff.1 hx).1
    have hyl : ys.length = i := by rw [pm.length_eq, List.length_take]; omega
    rw [es]
    walk_at "B"
    walk_at "V"
    refine g_insert ?_
    walk_at "V"
    refine ⟨tyL hy, ?_⟩
    walk_at "V"
    refine w_call hA D (by omega) rfl ?_
    walk_at "V"
    refine g_blt hA hlen rfl bt_len ?_
    walk_at "V"
    refine g_lenL hA (SqL.of hy) ?_
    walk_at "V"
    refine ⟨p, _, _, rfl, dr.purse, by omega, by omega, by omega, fun z H2 z0 z1 d2 => ?_⟩
    walk_at "V"
    have hy2 : H2 r = some (.lst ys) := d2.grow.ext _ _ hrp hy (fun _ z => by cases z)
    refine ⟨r, ys, z, x, rfl, rfl, hy2, by rw [sizeLine_eq]; omega, z0, by omega, ?_⟩
    walk_at "V"
    refine ⟨_, rfl, ?_, ?_, upd_same⟩
    · have e1 : xs.take (i + 1) = xs.take i ++ [x] := by rw [List.take_add_one, hx]; rfl
      rw [e1, List.append_assoc]
      show (ys.take z.toNat ++ (x :: ys.drop z.toNat)).Perm _
      refine (List.perm_middle).trans ?_
      rw [List.take_append_drop]
      exact (List.Perm.cons x pm).trans (List.perm_append_singleton x _).symm
    · have g := GrowX.lst (T := m.T) (ys := ys.take z.toNat ++ [x] ++ ys.drop z.toNat) hy2
      have d3 := dr.trans d2
      exact ⟨d3.grow.into g fun c w => .inl (by rw [w]; exact hr), d3.purse.x g (fun w => hrp w.symm)⟩
  · rintro σ H' ⟨ys, es, pm, dr, hy⟩
    rw [es]
    walk_at "B"
    walk_at "V"
    rw [List.take_length] at pm
    exact k r ys H' pm dr hr hy
/-- the names of this law: different ones, each a name; as many as asked for, but at most 8 -/
structure Names (zs : List Str) : Prop where
  nd : zs.Nodup
  isn : ∀ z ∈ zs, IsName z
def eight : List Str := ["ann", "a", "ab", "b", "first", "of", "end", "zzzzzzzz"]
theorem eight_ok : Names eight := by
  refine ⟨by decide +kernel, ?_⟩
  unfold eight IsName
  decide +kernel
theorem inV_str (z : Str) (zs : List Str) : inV (.str z) (zs.map V.str) = decide (z ∈ zs) := by
  unfold inV
  rw [List.any_map, Bool.eq_iff_iff, List.any_eq_true, decide_eq_true_eq]
  constructor
  · rintro ⟨y, hy, e⟩
    have : y = z := by simpa [L2.eqV] using e
    exact this ▸ hy
  · exact fun h => ⟨z, h, by simp [L2.eqV]⟩
theorem perm_str {ys : List V} {zs : List Str} (h : ys.Perm (zs.map V.str)) : ∃ ws : List Str, ys = ws.map V.str ∧ ws.Perm zs := by
  refine ⟨ys.map fun v => match v with | .str z => z | _ => "", ?_, ?_⟩
  · rw [List.map_map]
    refine (List.map_id ys).symm.trans (List.map_congr_left fun v hv => ?_)
    obtain ⟨z, _, e⟩ := List.mem_map.1 (h.mem_iff.1 hv)
    rw [← e]; rfl
  · have := h.map fun v => match v with | .str z => z | _ => ("" : Str)
    rw [List.map_map] at this
    refine this.trans ?_
    rw [show (fun v => match v with | .str z => z | _ => ("" : Str)) ∘ V.str = id from rfl, List.map_id]
theorem cut_to {xs : List V} {k : Nat} (h : (k : Int) < 1000000) : cutV xs none (some (k : Int)) = xs.take k := by
  unfold cutV
  rw [HT.sIx_none, HT.sIx_nat, List.drop_zero, Nat.sub_zero]
  exact PySem.W.kmk_take_min _ _
def sp_names (m : Md) : Sp := fun vs H Q _ => ∃ (p : Addr) (n : Nat) (k : Nat), vs = [.ref p, .int k] ∧ Purse H p n ∧ n ≤ 2 ^ 37 ∧ k ≤ 8 ∧
  ∀ (r : Addr) (zs : List Str) (H' : Hp), Names zs → zs.length = k → Drew m p n 160 H H' → New H r → H' r = some (.lst (zs.map V.str)) → Q (.ref r) H'
theorem c_names {m : Md} {f : Addr} {fd : FuncData} (F : C8.Def m.K m.mg "_law_names" st_names f fd) (b : L2.Binds m.K fd ps_names []) (W : Cal m 3 "_law_word" (sp_word m)) (S : Cal m 3 "_law_shuffled" (sp_shuffled m)) : Cal m 4 "_law_names" (sp_names m) := by
  refine cal_ofM F b sc_names (fun vs H Q E h => by obtain ⟨_, _, _, rfl, _⟩ := h; rfl) fun X vs H Q E hA hM h => ?_
  obtain ⟨p, n, k0, rfl, hp, hn, hk, k⟩ := h
  obtain ⟨n0, n1, n2, n3⟩ := nv_names
  walk_at "B"
  refine s_two hA (pg_nc hA n3 hM.fn) (pg_nl hA n2) ?_
  walk_at "V"
  refine ⟨by decide, fun l hl => ?_⟩
  have g1 := Grow.new (T := m.T) (o := .lst (eight.map V.str)) hl
  walk_at "V"
  refine w_call hA W (by omega) rfl ?_
  walk_at "V"
  refine ⟨p, n, rfl, hp.new g1, by omega, fun z H2 hz d2 => ?_⟩
  walk_at "V"
  refine ⟨by walk_at "S", fun q hq => ⟨q, _, _, rfl, SqT.of upd_same, ?_⟩⟩
  have g3 := Grow.new (T := m.T) (o := .tup [.ref l, .str z]) hq
  generalize eH3 : upd H2 q (.tup [.ref l, .str z]) = H3 at g3 ⊢
  have d3 : Drew m p n 72 H H3 := (Drew.pre g1 d2).post g3
  have hl3 : H3 l = some (.lst (eight.map V.str)) := g3.ext _ _ (fun z => z) (d2.grow.ext _ _ (fun w => by rw [w] at hl; obtain ⟨_, e⟩ := hp.at_; rw [hl] at e; cases e) upd_same (fun _ z => by cases z)) (fun _ z => by cases z)
  walk_at "B"
  walk_at "V"
  refine w_sliceTo hA ?_
  refine w_call hA S (by omega) rfl ?_
  walk_at "V"
  refine w_lcLi hA (by decide +kernel) (i := 4) ⟨rfl, rfl⟩ ?_
  walk_at "V"
  refine ⟨by walk_at "S", fun q1 hq1 => ⟨q1, _, rfl, SqL.of upd_same, fun D hD => ?_⟩⟩
  have hDq : D ≠ q1 := New.ne hD upd_same
  have hD3 : New H3 D := by rw [upd_ne hDq] at hD; exact hD
  refine ⟨fun j H' => Grow m.T H3 H' ∧ H' D = some (.lst ((if j = 0 ∨ z ∈ eight then [] else [z]).map V.str)) ∧ H' q1 = some (.lst [.str z]), ?_, ?_, ?_, ?_⟩
  · exact ⟨(Grow.new hq1).trans (Grow.new hD), upd_same, by rw [upd_ne hDq.symm]; exact upd_same⟩
  · rintro j H' _ ⟨_, _, h1⟩
    exact SqL.of h1
  · rintro j x H' hx ⟨g, hd, h1⟩ X' hX'
    have hj : j = 0 := by
      have := (List.getElem?_eq_some_iff.1 hx).1
      simp at this; exact this
    subst hj
    cases hx
    have c3 := nc_of hX' 3 "_law_some"
    have c4 := nl_of hX' 4 "_law_word_here"
    walk_at "V"
    refine g_notInF hX' (.inl (GrowX.seqL g (SqL.of hl3) (fun w => w))) rfl (by decide +kernel) ?_
    have e0 : inV (V.str z) (eight.map V.str) = decide (z ∈ eight) := inV_str z eight
    rw [e0]
    walk_at "V"
    refine ite2 (fun h0 => ?_) fun h0 => ?_
    · intro X2 hX2
      have c4 := nl_of hX2 4 "_law_word_here"
      walk_at "V"
      have hd0 : H' D = some (.lst []) := by simpa using hd
      refine ⟨_, hd0, by walk_at "S", g.intoNew (GrowX.lst hd0) (fun c w => by rw [w]; exact hD3), ?_, ?_⟩
      · have : z ∉ eight := by simpa using h0
        rw [upd_same, if_neg (by simp [this])]; rfl
      · rw [upd_ne hDq.symm]; exact h1
    · have : z ∈ eight := by simpa using h0
      exact ⟨g, by rw [if_pos (.inr this)]; simpa using hd, h1⟩
  · rintro H4 ⟨g4, hd, h1⟩
    generalize ht : (if [V.str z].length = 0 ∨ z ∈ eight then [] else [z] : List Str) = tl at hd
    have hN : Names (eight ++ tl) ∧ tl.length ≤ 1 := by
      have e8 := eight_ok
      rw [← ht]
      by_cases w : z ∈ eight
      · rw [if_pos (.inr w), List.append_nil]; exact ⟨e8, by decide⟩
      · rw [if_neg (by simp [w])]
        refine ⟨⟨List.nodup_append.2 ⟨e8.nd, by simp, fun x hx y hy => ?_⟩, fun x hx => ?_⟩, Nat.le_refl 1⟩
        · rw [List.mem_singleton.1 hy]; exact fun e => w (e ▸ hx)
        · rcases List.mem_append.1 hx with h | h
          · exact e8.isn x h
          · rw [List.mem_singleton.1 h]; exact hz
    have h8 : eight.length = 8 := rfl
    refine g_cat (g4.extN l _ hl3 (fun _ w => by cases w)) hd ?_ ?_
    · rw [List.length_map, List.length_map, sizeLine_eq]; omega
    intro r hr
    rw [← List.map_append]
    generalize hzs : eight ++ tl = zs at hN
    have hzl : 8 ≤ zs.length ∧ zs.length ≤ 9 := by rw [← hzs, List.length_append]; omega
    have d4 := (d3.post g4).post (Grow.new (o := .lst (zs.map V.str)) hr)
    walk_at "V"
    have hrp : r ≠ p := fun w => by obtain ⟨_, e⟩ := (d3.post g4).purse.at_; rw [← w, hr] at e; cases e
    refine ⟨p, _, _, _, rfl, d4.purse, by omega, SqL.of upd_same, hrp, by rw [List.length_map]; omega, ?_⟩
    intro r2 ys H5 pm d5 nr2 hy
    obtain ⟨ws, e1, pw⟩ : ∃ ws : List Str, ys = ws.map V.str ∧ ws.Perm zs := perm_str pm
    subst e1
    walk_at "V"
    refine ⟨r2, _, rfl, SqL.of hy, fun q9 hq9 => ?_⟩
    have : cutV (ws.map V.str) none (some (k0 : Int)) = (ws.take k0).map V.str := by
      rw [cut_to (by omega), List.map_take]
    rw [this]
    have d6 := (d4.trans d5).post (Grow.new (o := .lst ((ws.take k0).map V.str)) hq9)
    refine k q9 (ws.take k0) _ ⟨(hN.1.nd.perm pw.symm).sublist (List.take_sublist _ _), fun x hx => hN.1.isn x (pw.mem_iff.1 (List.mem_of_mem_take hx))⟩ ?_ (d6.mono ?_) ?_ upd_same
    · rw [List.length_take, pw.length_eq]; omega
    · rw [List.length_map]; omega
    · exact (d4.trans d5).grow.keep _ hq9
def sp_is_whole (m : Md) : Sp := fun vs H Q _ => ∃ (v : V) (d : PyData) (A : Addr → Prop), vs = [v] ∧ Ob m.K A H v d ∧ Q (.bl (isWh d)) H
theorem c_is_whole {m : Md} {f : Addr} {fd : FuncData} (F : C8.Def m.K m.mg "is_whole" st_is_whole f fd) (b : L2.Binds m.K fd ps_is_whole []) (hi : m.mg "isinstance" = none) (h1 : m.mg "int" = none) (h2 : m.mg "bool" = none) : Cal m 1 "is_whole" (sp_is_whole m) := by
  refine cal_of F b sc_is_whole (fun vs H Q E h => by obtain ⟨_, _, _, rfl, _⟩ := h; rfl) fun X vs H Q E hA h => ?_
  obtain ⟨v, d, A, rfl, o, k⟩ := h
  have n0 := nv_is_whole
  walk_at "B"
  walk_at "V"
  refine g_blt hA hi rfl bt_isinstance ?_
  walk_at "V"
  refine w_tyn hA h1 rfl bt_int ?_
  walk_at "V"
  refine g_isi hA (.ty "int") o.ty (kit_ty (kit_all "int" (by decide) d)) ?_
  walk_at "V"
  rw [isWh_eq] at k
  refine ite2 (fun h0 => ?_) fun h0 => ?_
  · walk_at "V"
    refine g_blt hA hi rfl bt_isinstance ?_
    walk_at "V"
    refine w_tyn hA h2 rfl bt_bool ?_
    walk_at "V"
    refine g_isi hA (.ty "bool") o.ty (kit_ty (kit_all "bool" (by decide) d)) ?_
    walk_at "V"
    rw [h0] at k
    simpa using k
  · have e : isIn "int" d = false := by simpa using h0
    rw [e] at k
    exact k
theorem le_chr (c d : Nat) : (!decide ([d] < [c])) = decide (c ≤ d) := by
  rw [Bool.eq_iff_iff]
  simp [List.cons_lt_cons_iff]
def sp_is_name (m : Md) : Sp := fun vs H Q _ => ∃ (v : V) (d : PyData) (A : Addr → Prop), vs = [v] ∧ Ob m.K A H v d ∧ ∀ H', Grow m.T H H' → Q (.bl (isNm d)) H'
theorem c_is_name {m : Md} {f : Addr} {fd : FuncData} (F : C8.Def m.K m.mg "is_name" st_is_name f fd) (b : L2.Binds m.K fd ps_is_name []) (hi : m.mg "isinstance" = none) (h1 : m.mg "str" = none) (hlen : m.mg "len" = none) (hall : m.mg "all" = none) {tk : Tok} (hL : m.mg "LONGEST_NAME" = some (.int 8 tk)) : Cal m 1 "is_name" (sp_is_name m) := by
  refine cal_of F b sc_is_name (fun vs H Q E h => by obtain ⟨_, _, _, rfl, _⟩ := h; rfl) fun X vs H Q E hA h => ?_
  obtain ⟨v, d, A, rfl, o, k⟩ := h
  have n0 := nv_is_name
  walk_at "B"
  walk_at "V"
  refine g_blt hA hi rfl bt_isinstance ?_
  walk_at "V"
  refine w_tyn hA h1 rfl bt_str ?_
  walk_at "V"
  refine g_isi hA (.ty "str") o.ty (kit_ty (kit_all "str" (by decide) d)) ?_
  walk_at "V"
  refine ite2 (fun h0 => ?_) fun h0 => ?_
  · walk_at "V"
    have e : isNm d = false := by cases d <;> first | rfl | simp [isIn, tyD] at h0
    rw [e] at k
    refine iteT ?_
    walk_at "V"
    exact k H GrowX.refl
  · obtain ⟨z, rfl⟩ : ∃ z, d = .str z := by
      cases d <;> first | exact ⟨_, rfl⟩ | simp [isIn, tyD] at h0
    obtain ⟨zl, rfl⟩ : z.length ≤ sizeLine ∧ v = .str z := by cases o with | str _ l => exact ⟨l, rfl⟩
    walk_at "V"
    refine t_chain ?_
    walk_at "V"
    refine g_blt hA hlen rfl bt_len ?_
    walk_at "V"
    refine g_lenS zl ?_
    walk_at "V"
    refine ite2 (fun h2 => ?_) fun h2 => ?_
    · refine w_glb (v := .int 8) hA hL ⟨_, rfl⟩ rfl ?_
      walk_at "V"
      refine ite2 (fun h3 => ?_) fun h3 => ?_
      · walk_at "V"
        have e : isNm (.str z) = false := by simp [isNm, nmB] at h3 ⊢; omega
        rw [e] at k
        exact k H GrowX.refl
      · refine b_nil ?_
        walk_at "B"
        walk_at "V"
        refine g_blt hA hall rfl bt_all ?_
        refine w_cons (w_lcS hA (by decide +kernel) (i := 1) ⟨rfl, rfl⟩ ?_)
        walk_at "V"
        refine fun D hD => ⟨fun j H' => Grow m.T H H' ∧ H' D = some (.lst (((z.cps.toList.take j).map fun c => decide (97 ≤ c) && decide (c ≤ 122)).map V.bl)), ?_, ?_, ?_⟩
        · exact ⟨Grow.new hD, upd_same⟩
        · rintro j c H' hc ⟨g, hv⟩ X' hX'
          have c1 := nl_of hX' 1 "sign"
          refine w_chain ?_
          walk_at "V"
          refine g_leT ?_
          rw [show ("a" : Str).cps.toList = [97] from by decide +kernel, show (⟨#[c]⟩ : Str).cps.toList = [c] from rfl, le_chr]
          walk_at "V"
          have eD : ∀ r : Bool, (decide (97 ≤ c) && decide (c ≤ 122)) = r → App D (fun H' => Grow m.T H H' ∧ H' D = some (.lst (((z.cps.toList.take (j + 1)).map fun c => decide (97 ≤ c) && decide (c ≤ 122)).map V.bl))) (.bl r) H' := by
            intro r er
            have hz9 : z.cps.size ≤ 8 := by
              have : z.length ≤ 8 := by simp at h3; omega
              exact this
            have ht : z.cps.toList[j]? = some c := by rw [Array.getElem?_toList]; exact hc
            refine ⟨_, hv, by rw [List.length_map, List.length_map, List.length_take, sizeLine_eq, Array.length_toList]; omega, g.intoNew (GrowX.lst hv) (fun _ w => by rw [w]; exact hD), ?_⟩
            rw [upd_same, List.take_add_one, ht, ← er]
            simp
          refine ite2 (fun h4 => ?_) fun h4 => ?_
          · walk_at "V"
            refine g_leT ?_
            rw [show ("z" : Str).cps.toList = [122] from by decide +kernel, show (⟨#[c]⟩ : Str).cps.toList = [c] from rfl, le_chr]
            exact eD _ (by rw [h4]; rfl)
          · exact eD false (by simp at h4 ⊢; omega)
        · rintro H' ⟨g, hv⟩
          walk_at "V"
          refine g_all hA (SqL.of hv) ?_
          have e : isNm (.str z) = (List.map (fun c => decide (97 ≤ c) && decide (c ≤ 122)) (List.take z.cps.size z.cps.toList)).all id := by
            have a1 : 1 ≤ z.length := by simp at h2; omega
            have a2 : z.length ≤ 8 := by simp at h3; omega
            rw [← Array.length_toList, List.take_length, List.all_map]
            simp [isNm, nmB, a1, a2]
          rw [e] at k
          exact k H' g
    · walk_at "V"
      refine iteT ?_
      walk_at "V"
      have e : isNm (.str z) = false := by simp [isNm, nmB] at h2 ⊢; omega
      rw [e] at k
      exact k H GrowX.refl
/-! V1: hours, counts, spans -/
/-- what a dict of hours says of a name -/
def hrs (kz : List (Str × Int)) (z : Str) : Int := (kz.lookup z).getD 0
/-- the dict of hours, as the heap knows it -/
def hrK (kz : List (Str × Int)) : List (Key × V) := kz.map fun p => (Sum.inr p.1, .int p.2)
theorem hrK_keys (kz : List (Str × Int)) : (hrK kz).map (·.1) = (kz.map (·.1)).map Sum.inr := by simp [hrK]
theorem hrK_val : ∀ (kz : List (Str × Int)) (z : Str), valV (hrK kz) (.inr z) = (kz.lookup z).map V.int
  | [], _ => rfl
  | p :: kz, z => by
    have ih := hrK_val kz z
    obtain ⟨y, i⟩ := p
    by_cases c : y = z
    · subst c
      simp [hrK, valV, List.lookup]
    · have c1 : (z == y) = false := by simpa using fun e : z = y => c e.symm
      have c2 : (Sum.inr y : Key) ≠ .inr z := fun e => c (by injection e)
      have e : valV (hrK ((y, i) :: kz)) (.inr z) = valV (hrK kz) (.inr z) := by
        unfold valV hrK
        rw [List.map_cons, List.find?_cons_of_neg (by simpa using c2)]
      rw [e, ih, List.lookup_cons, c1]
theorem hrK_get {kz : List (Str × Int)} {j : Nat} {p : Key × V} (h : (hrK kz)[j]? = some p) : ∃ q, kz[j]? = some q ∧ p = (.inr q.1, .int q.2) := by
  rw [hrK, List.getElem?_map] at h
  obtain ⟨q, h1, h2⟩ := Option.map_eq_some_iff.1 h
  exact ⟨q, h1, h2.symm⟩
theorem hrK_len (kz : List (Str × Int)) : (hrK kz).length = kz.length := List.length_map _
theorem name_nm {z : Str} (h : IsName z) : isNm (.str z) = true := nmB_iff.2 h
theorem name_short {z : Str} (h : IsName z) : z.length ≤ sizeLine := by have := h.2.1; rw [sizeLine_eq]; omega
/-- what is asked of hours: none, or a dict of names and numbers -/
def sp_is_hours (m : Md) : Sp := fun vs H Q _ => ∃ (v : V) (l : Addr) (zs : List Str), vs = [v, .ref l] ∧ SqL m.K H l (zs.map V.str) ∧ zs.length < 1000 ∧
  ((v = .non ∧ ∀ H', Grow m.T H H' → Q (.bl false) H') ∨ ∃ (d : Addr) (kz : List (Str × Int)), v = .ref d ∧ H d = some (.dK (hrK kz)) ∧ (∀ p ∈ kz, IsName p.1) ∧ kz.length < 1000 ∧ ∀ H', Grow m.T H H' → Q (.bl (zs.all fun z => (kz.lookup z).isSome)) H')
theorem c_is_hours {m : Md} {f : Addr} {fd : FuncData} (F : C8.Def m.K m.mg "is_hours" st_is_hours f fd) (b : L2.Binds m.K fd ps_is_hours []) (hi : m.mg "isinstance" = none) (hd : m.mg "dict" = none) (hall : m.mg "all" = none) (Nm : Cal m 1 "is_name" (sp_is_name m)) (Wh : Cal m 1 "is_whole" (sp_is_whole m)) : Cal m 2 "is_hours" (sp_is_hours m) := by
  refine cal_of F b sc_is_hours (fun vs H Q E h => by obtain ⟨_, _, _, rfl, _⟩ := h; rfl) fun X vs H Q E hA h => ?_
  obtain ⟨v, l, zs, rfl, hl, lz, h⟩ := h
  obtain ⟨n1, n0⟩ := nv_is_hours
  walk_at "B"
  walk_at "V"
  refine g_blt hA hi rfl bt_isinstance ?_
  walk_at "V"
  refine w_tyn hA hd rfl bt_dict ?_
  walk_at "V"
  rcases h with ⟨rfl, q⟩ | ⟨d, kz, rfl, hk, nm, lk, q⟩
  · refine g_isi hA (.ty "dict") (.base .non) (kit_ty (kit_all "dict" (by decide) .none)) ?_
    walk_at "V"
    refine iteT ?_
    walk_at "V"
    first
      | exact q H GrowX.refl
      | (refine iteT ?_; walk_at "V"; exact q H GrowX.refl)
  · refine g_isi hA (.ty "dict") (.base (.dK hk)) (kit_ty (kit_all "dict" (by decide) (.dict []))) ?_
    walk_at "V"
    refine iteF ?_
    walk_at "V"
    refine g_blt hA hall rfl bt_all ?_
    refine w_cons (w_lcDk hA (by decide +kernel) (i := 2) ⟨rfl, rfl⟩ ?_)
    refine ⟨d, hrK kz, hk, fun od => ?_⟩
    walk_at "V"
    refine ⟨rfl, rfl, fun D hD => ?_⟩
    refine ⟨fun t H' => Grow m.T (upd H d (.frz od (.dK (hrK kz)))) H' ∧ H' D = some (.lst ((List.replicate t true).map V.bl)), ⟨Grow.new hD, upd_same⟩, fun t H' _ hp => hp.1.frz _ _ _ upd_same, ?_, ?_⟩
    · rintro t p H' hp ⟨g, hv⟩ X' hX'
      obtain ⟨z, hz, rfl⟩ := hrK_get hp
      have c1 := nl_of hX' 2 "key"
      have hn := nm z (List.mem_of_getElem? hz)
      have htl := (List.getElem?_eq_some_iff.1 hz).1
      refine w_call hX' Nm (by omega) rfl ?_
      walk_at "V"
      refine ⟨.str z.1, .str z.1, Any, rfl, .str _ (name_short hn), fun H5 g5 => ?_⟩
      have hv5 := g5.extN _ _ hv (fun _ w => by cases w)
      refine ⟨_, hv5, by rw [List.length_map, List.length_replicate, sizeLine_eq]; omega, Grow.intoNew (g.trans g5) (GrowX.lst hv5) (fun _ w => by rw [w]; exact hD), ?_⟩
      rw [upd_same, name_nm hn, List.replicate_succ']
      simp
    · rintro H' ⟨g, hv⟩
      obtain ⟨g1, fz⟩ := Grow.unlock hk g
      rw [hrK_len] at hv
      have hDd : D ≠ d := fun z => by rw [z, upd_same] at hD; cases hD
      walk_at "V"
      have hv1 : (upd H' d (.dK (hrK kz))) D = some (.lst ((List.replicate kz.length true).map V.bl)) := by rw [upd_ne hDd]; exact hv
      refine g_all hA (SqL.of hv1) ?_
      rw [show (List.replicate kz.length true).all id = true from by simp]
      generalize hH2 : upd H' d (.dK (hrK kz)) = H2 at g1 ⊢
      have hk2 : H2 d = some (.dK (hrK kz)) := by rw [← hH2]; exact upd_same
      clear hH2 hv1
      walk_at "V"
      refine iteF (b_nil ?_)
      walk_at "B"
      walk_at "V"
      refine g_blt hA hall rfl bt_all ?_
      refine w_cons (w_lcDv hA (by decide +kernel) (i := 3) ⟨rfl, rfl⟩ ?_)
      refine ⟨d, hrK kz, hk2, fun od2 => ?_⟩
      walk_at "V"
      refine ⟨rfl, rfl, fun D2 hD2 => ?_⟩
      refine ⟨fun t H' => Grow m.T (upd H2 d (.frz od2 (.dK (hrK kz)))) H' ∧ H' D2 = some (.lst ((List.replicate t true).map V.bl)), ⟨Grow.new hD2, upd_same⟩, fun t H' _ hp => hp.1.frz _ _ _ upd_same, ?_, ?_⟩
      · rintro t p H' hp ⟨g, hv⟩ X' hX'
        obtain ⟨z, hz, rfl⟩ := hrK_get hp
        have c1 := nl_of hX' 3 "hour"
        have htl := (List.getElem?_eq_some_iff.1 hz).1
        refine w_call hX' Wh (by omega) rfl ?_
        walk_at "V"
        refine ⟨.int z.2, .int z.2, Any, rfl, .int _, ?_⟩
        refine ⟨_, hv, by rw [List.length_map, List.length_replicate, sizeLine_eq]; omega, Grow.intoNew g (GrowX.lst hv) (fun _ w => by rw [w]; exact hD2), ?_⟩
        rw [upd_same, List.replicate_succ']
        simp [isWh]
      · rintro H3 ⟨g, hv⟩
        obtain ⟨g2, fz⟩ := Grow.unlock hk2 g
        rw [hrK_len] at hv
        have hDd2 : D2 ≠ d := fun z => by rw [z, upd_same] at hD2; cases hD2
        walk_at "V"
        have hv1 : (upd H3 d (.dK (hrK kz))) D2 = some (.lst ((List.replicate kz.length true).map V.bl)) := by rw [upd_ne hDd2]; exact hv
        refine g_all hA (SqL.of hv1) ?_
        rw [show (List.replicate kz.length true).all id = true from by simp]
        generalize hH4 : upd H3 d (.dK (hrK kz)) = H4 at g2 ⊢
        have hk4 : H4 d = some (.dK (hrK kz)) := by rw [← hH4]; exact upd_same
        clear hH4 hv1
        have g12 := g1.trans g2
        walk_at "V"
        refine iteT ?_
        walk_at "V"
        refine g_blt hA hall rfl bt_all ?_
        refine w_cons (w_lcL hA (by decide +kernel) (i := 4) ⟨rfl, rfl⟩ ?_)
        walk_at "V"
        refine ⟨l, _, rfl, GrowX.seqL g12 hl fun z => z, fun D4 hD4 => ⟨fun t H' => Grow m.T H4 H' ∧ H' D4 = some (.lst (((zs.take t).map fun z => (kz.lookup z).isSome).map V.bl)), ⟨Grow.new hD4, upd_same⟩, fun t H' _ hp => GrowX.seqL (g12.trans hp.1) hl fun z => z, ?_, ?_⟩⟩
        · rintro t x H' hx ⟨g, hv⟩ X' hX'
          rw [List.getElem?_map] at hx
          obtain ⟨z, hz, rfl⟩ := Option.map_eq_some_iff.1 hx
          have c1 := nl_of hX' 4 "name"
          have c0 := nc_of hX' 0 "value"
          have htl := (List.getElem?_eq_some_iff.1 hz).1
          walk_at "V"
          refine g_inD hX' (g.extN _ _ hk4 (fun _ w => by cases w)) ?_
          rw [hrK_val]
          refine ⟨_, hv, by rw [List.length_map, List.length_map, List.length_take, sizeLine_eq]; omega, Grow.intoNew g (GrowX.lst hv) (fun _ w => by rw [w]; exact hD4), ?_⟩
          rw [upd_same, List.take_add_one, hz]
          simp
        · rintro H5 ⟨g, hv⟩
          rw [List.length_map, List.take_length] at hv
          walk_at "V"
          refine g_all hA (SqL.of hv) ?_
          rw [List.all_map]
          exact q H5 (g12.trans g)

/-- a whole number from 0 -/
def isCt : PyData → Bool
  | .int i => decide (0 ≤ i)
  | _ => false
def sp_is_count (m : Md) : Sp := fun vs H Q _ => ∃ (v : V) (d : PyData) (A : Addr → Prop), vs = [v] ∧ Ob m.K A H v d ∧ Q (.bl (isCt d)) H
theorem c_is_count {m : Md} {f : Addr} {fd : FuncData} (F : C8.Def m.K m.mg "is_count" st_is_count f fd) (b : L2.Binds m.K fd ps_is_count []) (Wh : Cal m 1 "is_whole" (sp_is_whole m)) : Cal m 2 "is_count" (sp_is_count m) := by
  refine cal_of F b sc_is_count (fun vs H Q E h => by obtain ⟨_, _, _, rfl, _⟩ := h; rfl) fun X vs H Q E hA h => ?_
  obtain ⟨v, d, A, rfl, o, k⟩ := h
  have n0 := nv_is_count
  walk_at "B"
  walk_at "V"
  refine w_call hA Wh (by omega) rfl ?_
  walk_at "V"
  refine ⟨v, d, A, rfl, o, ?_⟩
  walk_at "V"
  cases o with
  | int i =>
    refine iteT ?_
    walk_at "V"
    exact k
  | _ => exact iteF k

section
variable {m : Md} {N : List Str} {sc : Scope} {k : Nat} {X : Cx} {a b c e o : Expr} {σ : L2.St} {H : Hp} {Q : VK} {pos p2 : Pos}
/-- e[lo:] of a tuple, not the whole of it -/
theorem w_sliceFromT {lo : Expr} (h : At m N sc k X) (q : wE X e σ H fun x H1 => wE X lo σ H1 fun u H3 => ∃ j : Int, u = .int j ∧ ∃ (a : Addr) (xs : List V), x = .ref a ∧ SqT m.K H3 a xs ∧ HT.sIx xs.length 0 (some j) ≠ 0 ∧ ∀ p, H3 p = none → Q (.ref p) (upd H3 p (.tup (cutV xs (some j) none)))) :
    wE X (.Subscript e (.Slice (some lo) none none p2) pos) σ H Q := by
  refine toE (pe_slice sl_tup cE (po_some cE) po_none) ?_
  refine wE.mono q fun x H1 q1 => ?_
  show wE X lo σ H1 _
  exact wE.mono q1 fun u H3 ⟨j, ej, a, xs, ea, hs, hn, q3⟩ => ⟨j, ej, a, xs, ea, by rw [h.kk]; exact hs, fun z => hn z.1, q3⟩
end
/-- a row of a table of sights: hours, the least, the most -/
abbrev Rw := List (Str × Int) × Option Int × Option Int
def spanOk (s : Option Int × Option Int) : Prop := ∀ a b, s.1 = some a → s.2 = some b → a ≤ b
/-- such a row, its dict at a place of A -/
def RowA (A : Addr → Prop) (H : Hp) (v : V) (r : Rw) : Prop := ∃ T d, v = .ref T ∧ H T = some (.tup [.ref d, optV r.2.1, optV r.2.2]) ∧ A d ∧ H d = some (.dK (hrK r.1))
structure RowOk (zs : List Str) (r : Rw) : Prop where
  nd : (r.1.map (·.1)).Nodup
  nm : ∀ p ∈ r.1, IsName p.1
  len : r.1.length = zs.length
  all : ∀ z ∈ zs, (r.1.lookup z).isSome = true
  sp : spanOk r.2
theorem RowA.mono {A B : Addr → Prop} {H : Hp} {v : V} {r : Rw} (h : RowA A H v r) (k : ∀ a, A a → B a) : RowA B H v r := by
  obtain ⟨T, d, e, t, a, hd⟩ := h
  exact ⟨T, d, e, t, k d a, hd⟩
theorem RowA.grow {A : Addr → Prop} {T : List (Addr × Str)} {S : Addr → Prop} {H H' : Hp} {v : V} {r : Rw} (h : RowA A H v r) (g : GrowX T S H H') (n : ∀ a, A a → ¬ S a) : RowA A H' v r := by
  obtain ⟨T, d, e, t, a, hd⟩ := h
  exact ⟨T, d, e, g.tup _ _ t, a, g.ext _ _ (n d a) hd (fun _ z => by cases z)⟩
theorem optV_flat {o : Option Int} : flatV (optV o) = true := by cases o <;> rfl
theorem ob_optV {K : PySem.W.Frag} {A : Addr → Prop} {H : Hp} (o : Option Int) : ∃ d, Ob K A H (optV o) d ∧ isWh d = o.isSome ∧ (optV o = .non ↔ o = none) := by
  cases o with
  | none => exact ⟨_, .non, rfl, by simp [optV]⟩
  | some i => exact ⟨_, .int i, rfl, by simp [optV]⟩
/-- is_just_hours(value, names), of a row's hours -/
def sp_is_just (m : Md) : Sp := fun vs H Q _ => ∃ (d l : Addr) (zs : List Str) (r : Rw), vs = [.ref d, .ref l] ∧ SqL m.K H l (zs.map V.str) ∧ zs.length < 1000 ∧ H d = some (.dK (hrK r.1)) ∧ RowOk zs r ∧ ∀ H', Grow m.T H H' → Q (.bl true) H'
theorem c_is_just_hours {m : Md} {f : Addr} {fd : FuncData} (F : C8.Def m.K m.mg "is_just_hours" st_is_just_hours f fd) (b : L2.Binds m.K fd ps_is_just_hours []) (hlen : m.mg "len" = none) (Hs : Cal m 2 "is_hours" (sp_is_hours m)) : Cal m 3 "is_just_hours" (sp_is_just m) := by
  refine cal_of F b sc_is_just_hours (fun vs H Q E h => by obtain ⟨_, _, _, _, rfl, _⟩ := h; rfl) fun X vs H Q E hA h => ?_
  obtain ⟨d, l, zs, r, rfl, hl, lz, hd, ok, q⟩ := h
  obtain ⟨n0, n1⟩ := nv_is_just_hours
  have al : (zs.all fun z => (r.1.lookup z).isSome) = true := List.all_eq_true.2 ok.all
  walk_at "B"
  walk_at "V"
  refine w_call hA Hs (by omega) rfl ?_
  walk_at "V"
  refine ⟨.ref d, l, zs, rfl, hl, lz, .inr ⟨d, r.1, rfl, hd, ok.nm, by have := ok.len; omega, fun H' g => ?_⟩⟩
  rw [al]
  have hd' := g.extN _ _ hd (fun _ z => by cases z)
  have hl' := g.seqL hl (fun z => z)
  walk_at "V"
  refine iteT ?_
  walk_at "V"
  refine g_blt hA hlen rfl bt_len ?_
  walk_at "V"
  refine ⟨_, L2.call_lenD, d, hrK r.1, rfl, hd', ?_⟩
  walk_at "V"
  refine g_blt hA hlen rfl bt_len ?_
  walk_at "V"
  refine g_lenL hA hl' ?_
  walk_at "V"
  rw [hrK_len, List.length_map, ok.len, decide_eq_true rfl]
  exact q H' g
/-- is_span(value), of a pair of bounds -/
def sp_is_span (m : Md) : Sp := fun vs H Q _ => ∃ (t : Addr) (s : Option Int × Option Int), vs = [.ref t] ∧ H t = some (.tup [optV s.1, optV s.2]) ∧ spanOk s ∧ ∀ H', Grow m.T H H' → Q (.bl true) H'
theorem c_is_span {m : Md} {f : Addr} {fd : FuncData} (F : C8.Def m.K m.mg "is_span" st_is_span f fd) (b : L2.Binds m.K fd ps_is_span []) (hi : m.mg "isinstance" = none) (h1 : m.mg "tuple" = none) (hlen : m.mg "len" = none) (hall : m.mg "all" = none) (Wh : Cal m 1 "is_whole" (sp_is_whole m)) : Cal m 2 "is_span" (sp_is_span m) := by
  refine cal_of F b sc_is_span (fun vs H Q E h => by obtain ⟨_, _, rfl, _⟩ := h; rfl) fun X vs H Q E hA h => ?_
  obtain ⟨t, s, rfl, ht, ok, q⟩ := h
  have n0 := nv_is_span
  have st : SqT m.K H t [optV s.1, optV s.2] := .inl (.inl ht)
  walk_at "B"
  walk_at "V"
  refine g_blt hA hi rfl bt_isinstance ?_
  walk_at "V"
  refine w_tyn hA h1 rfl bt_tuple ?_
  walk_at "V"
  obtain ⟨d1, o1, w1, _⟩ := ob_optV (K := m.K) (A := Any) (H := H) s.1
  obtain ⟨d2, o2, w2, _⟩ := ob_optV (K := m.K) (A := Any) (H := H) s.2
  have ot : Ob m.K Any H (.ref t) (.tuple [d1, d2]) := .tup st (.cons o1 (.cons o2 .nil))
  refine g_isi hA (.ty "tuple") ot.ty (kit_ty (kit_all "tuple" (by decide) (.tuple [d1, d2]))) ?_
  walk_at "V"
  refine iteF ?_
  walk_at "V"
  refine g_blt hA hlen rfl bt_len ?_
  walk_at "V"
  refine g_lenT hA st ?_
  walk_at "V"
  refine iteF (b_nil ?_)
  walk_at "B"
  walk_at "V"
  refine g_blt hA hall rfl bt_all ?_
  refine w_cons (w_lcT hA (by decide +kernel) (i := 1) ⟨rfl, rfl⟩ ?_)
  walk_at "V"
  refine ⟨t, _, rfl, st, fun D hD => ?_⟩
  refine ⟨fun j H' => Grow m.T H H' ∧ H' D = some (.lst ((List.replicate j true).map V.bl)), ⟨Grow.new hD, upd_same⟩, fun j H' _ hp => hp.1.seqT st, ?_, ?_⟩
  · rintro j x H' hx ⟨g, hv⟩ X' hX'
    have c1 := nl_of hX' 1 "end"
    have hj : j < 2 := (List.getElem?_eq_some_iff.1 hx).1
    have hxo : ∃ o : Option Int, x = optV o := by
      match j, hj with
      | 0, _ => exact ⟨s.1, (Option.some.inj hx).symm⟩
      | 1, _ => exact ⟨s.2, (Option.some.inj hx).symm⟩
    obtain ⟨o, rfl⟩ := hxo
    have fin : App D (fun H' => Grow m.T H H' ∧ H' D = some (.lst ((List.replicate (j + 1) true).map V.bl))) (.bl true) H' := by
      refine ⟨_, hv, by rw [List.length_map, List.length_replicate, sizeLine_eq]; omega, Grow.intoNew g (GrowX.lst hv) (fun _ w => by rw [w]; exact hD), ?_⟩
      rw [upd_same, List.replicate_succ']
      simp
    walk_at "V"
    cases o with
    | none =>
      refine iteT ?_
      exact fin
    | some i =>
      refine iteF ?_
      walk_at "V"
      refine w_call hX' Wh (by omega) rfl ?_
      walk_at "V"
      exact ⟨.int i, .int i, Any, rfl, .int i, fin⟩
  · rintro H' ⟨g, hv⟩
    walk_at "V"
    refine g_all hA (SqL.of hv) ?_
    rw [show (List.replicate [optV s.1, optV s.2].length true).all id = true from by simp]
    walk_at "V"
    refine iteF (b_nil ?_)
    have ht' := g.tup _ _ ht
    walk_at "B"
    walk_at "V"
    refine g_inF hA (.inr (.inl (.inl ht'))) rfl (by simp [optV_flat]) ?_
    obtain ⟨lo, hi⟩ := s
    walk_at "V"
    match lo, hi with
    | none, _ => exact iteT (q H' g)
    | some a, none => exact iteT (q H' g)
    | some a, some c =>
      refine iteF ?_
      have st' : SqT m.K H' t [.int a, .int c] := .inl (.inl ht')
      walk_at "V"
      refine g_ixT hA st' (i := 0) rfl ?_
      walk_at "V"
      refine g_ixT hA st' (i := 1) rfl ?_
      walk_at "V"
      rw [decide_eq_true (ok a c rfl rfl)]
      exact q H' g

/-- need_count_from(least, value), need_count_within(least, most, value), where they let pass -/
def sp_ncf (m : Md) : Sp := fun vs H Q _ => ∃ (lo i : Int), vs = [.int lo, .int i] ∧ 0 ≤ i ∧ lo ≤ i ∧ Q .non H
theorem c_need_count_from {m : Md} {f : Addr} {fd : FuncData} (F : C8.Def m.K m.mg "need_count_from" st_need_count_from f fd) (b : L2.Binds m.K fd ps_need_count_from []) (Ct : Cal m 2 "is_count" (sp_is_count m)) : Cal m 3 "need_count_from" (sp_ncf m) := by
  refine cal_of F b sc_need_count_from (fun vs H Q E h => by obtain ⟨_, _, rfl, _⟩ := h; rfl) fun X vs H Q E hA h => ?_
  obtain ⟨lo, i, rfl, h0, h1, q⟩ := h
  obtain ⟨n0, n1⟩ := nv_need_count_from
  walk_at "B"
  walk_at "V"
  refine w_call hA Ct (by omega) rfl ?_
  walk_at "V"
  refine ⟨.int i, .int i, Any, rfl, .int i, ?_⟩
  rw [show isCt (.int i) = true from decide_eq_true h0]
  walk_at "V"
  refine iteF ?_
  walk_at "V"
  rw [decide_eq_false (by omega)]
  exact iteF (b_nil (b_nil q))
def sp_ncw (m : Md) : Sp := fun vs H Q _ => ∃ (lo hi i : Int), vs = [.int lo, .int hi, .int i] ∧ 0 ≤ i ∧ lo ≤ i ∧ i ≤ hi ∧ Q .non H
theorem c_need_count_within {m : Md} {f : Addr} {fd : FuncData} (F : C8.Def m.K m.mg "need_count_within" st_need_count_within f fd) (b : L2.Binds m.K fd ps_need_count_within []) (Cf : Cal m 3 "need_count_from" (sp_ncf m)) : Cal m 4 "need_count_within" (sp_ncw m) := by
  refine cal_of F b sc_need_count_within (fun vs H Q E h => by obtain ⟨_, _, _, rfl, _⟩ := h; rfl) fun X vs H Q E hA h => ?_
  obtain ⟨lo, hi, i, rfl, h0, h1, h2, q⟩ := h
  obtain ⟨n0, n1, n2⟩ := nv_need_count_within
  walk_at "B"
  walk_at "V"
  refine w_call hA Cf (by omega) rfl ?_
  walk_at "V"
  refine ⟨lo, i, rfl, h0, h1, ?_⟩
  walk_at "B"
  walk_at "V"
  rw [decide_eq_false (by omega)]
  exact iteF (b_nil (b_nil q))
/-- _is_seen_row(value, names) -/
def sp_seen_row (m : Md) : Sp := fun vs H Q _ => ∃ (v : V) (l : Addr) (zs : List Str) (r : Rw), vs = [v, .ref l] ∧ SqL m.K H l (zs.map V.str) ∧ zs.length < 1000 ∧ RowA Any H v r ∧ RowOk zs r ∧ ∀ H', Grow m.T H H' → Q (.bl true) H'
theorem c_x_is_seen_row {m : Md} {f : Addr} {fd : FuncData} (F : C8.Def m.K m.mg "_is_seen_row" st_x_is_seen_row f fd) (b : L2.Binds m.K fd ps_x_is_seen_row []) (hi : m.mg "isinstance" = none) (h1 : m.mg "tuple" = none) (hlen : m.mg "len" = none) (Ju : Cal m 3 "is_just_hours" (sp_is_just m)) (Spn : Cal m 2 "is_span" (sp_is_span m)) : Cal m 4 "_is_seen_row" (sp_seen_row m) := by
  refine cal_of F b sc_x_is_seen_row (fun vs H Q E h => by obtain ⟨_, _, _, _, rfl, _⟩ := h; rfl) fun X vs H Q E hA h => ?_
  obtain ⟨v, l, zs, r, rfl, hl, lz, ⟨t, d, rfl, ht, -, hd⟩, ok, q⟩ := h
  obtain ⟨n0, n1⟩ := nv_x_is_seen_row
  have st : SqT m.K H t [.ref d, optV r.2.1, optV r.2.2] := .inl (.inl ht)
  obtain ⟨d1, o1, w1, _⟩ := ob_optV (K := m.K) (A := Any) (H := H) r.2.1
  obtain ⟨d2, o2, w2, _⟩ := ob_optV (K := m.K) (A := Any) (H := H) r.2.2
  have ot : Ob m.K Any H (.ref t) (.tuple [.dict [], d1, d2]) := .tup st (.cons (.dct trivial hd) (.cons o1 (.cons o2 .nil)))
  walk_at "B"
  walk_at "V"
  refine g_blt hA hi rfl bt_isinstance ?_
  walk_at "V"
  refine w_tyn hA h1 rfl bt_tuple ?_
  walk_at "V"
  refine g_isi hA (.ty "tuple") ot.ty (kit_ty (kit_all "tuple" (by decide) (.tuple [.dict [], d1, d2]))) ?_
  walk_at "V"
  refine iteT ?_
  walk_at "V"
  refine g_blt hA hlen rfl bt_len ?_
  walk_at "V"
  refine g_lenT hA st ?_
  walk_at "V"
  refine iteT ?_
  walk_at "V"
  refine w_call hA Ju (by omega) rfl ?_
  walk_at "V"
  refine g_ixT hA st (i := 0) rfl ?_
  walk_at "V"
  refine ⟨d, l, zs, r, rfl, hl, lz, hd, ok, fun H1 g1 => ?_⟩
  have ht1 := g1.tup _ _ ht
  walk_at "V"
  refine iteT ?_
  walk_at "V"
  refine w_call hA Spn (by omega) rfl ?_
  refine w_cons (w_sliceFromT hA ?_)
  walk_at "V"
  refine ⟨t, _, rfl, .inl (.inl ht1), by show HT.sIx 3 0 (some 1) ≠ 0; decide, fun p hp => ?_⟩
  walk_at "V"
  refine ⟨p, r.2, rfl, upd_same, ok.sp, fun H2 g2 => ?_⟩
  exact q H2 ((g1.trans (Grow.new hp)).trans g2)
/-! V2: names in order, most -/
theorem g_truL {m : Md} {N : List Str} {sc : Scope} {k : Nat} {X : Cx} {a : Addr} {xs : List V} {H : Hp} {QB : Bool → Hp → Prop} (h : At m N sc k X) (hs : SqL m.K H a xs) (q : QB (!xs.isEmpty) H) : gTru X (.ref a) H QB := ⟨_, .inl ⟨xs, by rw [h.kk]; exact hs, rfl⟩, q⟩
structure NamesOk (zs : List Str) : Prop where
  nm : ∀ z ∈ zs, IsName z
  asc : zs.Pairwise (fun a b => a.cps.toList < b.cps.toList)
  ne : zs ≠ []
  len : zs.length < 1000
theorem NamesOk.nd {zs : List Str} (h : NamesOk zs) : zs.Nodup := h.asc.imp fun {a b} l e => by rw [e] at l; exact List.lt_irrefl _ l
def sp_ascg (m : Md) : Sp := fun vs H Q _ => ∃ (a : Addr) (zs : List Str), vs = [.ref a] ∧ SqL m.K H a (zs.map V.str) ∧ NamesOk zs ∧ ∀ H', Grow m.T H H' → Q (.bl true) H'
theorem c_x_is_ascending {m : Md} {f : Addr} {fd : FuncData} (F : C8.Def m.K m.mg "_is_ascending" st_x_is_ascending f fd) (b : L2.Binds m.K fd ps_x_is_ascending []) (hi : m.mg "isinstance" = none) (hl : m.mg "list" = none) (hn : m.mg "len" = none) (ha : m.mg "all" = none) (hr : m.mg "range" = none) (Nm : Cal m 1 "is_name" (sp_is_name m)) : Cal m 2 "_is_ascending" (sp_ascg m) := by
  refine cal_of F b sc_x_is_ascending (fun vs H Q E h => by obtain ⟨_, _, rfl, _⟩ := h; rfl) fun X vs H Q E hA h => ?_
  obtain ⟨a, zs, rfl, hs, ok, q⟩ := h
  have n0 := nv_x_is_ascending
  walk_at "B"
  walk_at "V"
  refine g_blt hA hi rfl bt_isinstance ?_
  walk_at "V"
  refine w_tyn hA hl rfl bt_list ?_
  walk_at "V"
  refine g_isi hA (.ty "list") (tyx_lst hs) (kit_ty (kit_all "list" (by decide) (.list []))) ?_
  walk_at "V"
  refine iteF ?_
  walk_at "V"
  refine g_truL hA hs ?_
  have e0 : (!(zs.map V.str).isEmpty) = true := by
    cases hz : zs with
    | nil => exact absurd hz ok.ne
    | cons _ _ => rfl
  rw [e0]
  refine iteF ?_
  walk_at "V"
  refine g_blt hA ha rfl bt_all ?_
  refine w_cons (w_lcL hA (by decide +kernel) (i := 1) ⟨rfl, rfl⟩ ?_)
  walk_at "V"
  refine ⟨a, _, rfl, hs, fun D hD => ?_⟩
  refine ⟨fun j H' => Grow m.T H H' ∧ H' D = some (.lst ((List.replicate j true).map V.bl)), ⟨Grow.new hD, upd_same⟩, ?_, ?_, ?_⟩
  · rintro j H' _ ⟨g, _⟩
    exact GrowX.seqL g hs fun z => z
  · rintro j x H' hx ⟨g, hd⟩ X' hX'
    have c1 := nl_of hX' 1 "name"
    rw [List.getElem?_map] at hx
    obtain ⟨c, hcj, rfl⟩ := Option.map_eq_some_iff.1 hx
    have hj : j < zs.length := (List.getElem?_eq_some_iff.1 hcj).1
    have hz := ok.len
    have hn := ok.nm c (List.mem_of_getElem? hcj)
    refine w_call hX' Nm (by omega) rfl ?_
    walk_at "V"
    refine ⟨.str c, .str c, Any, rfl, .str _ (name_short hn), fun H5 g5 => ?_⟩
    have hv5 := g5.extN _ _ hd (fun _ w => by cases w)
    rw [name_nm hn]
    refine ⟨_, hv5, by rw [List.length_map, List.length_replicate, sizeLine_eq]; omega, Grow.intoNew (g.trans g5) (GrowX.lst hv5) (fun _ w => by rw [w]; exact hD), ?_⟩
    rw [upd_same, List.replicate_succ', List.map_append]; rfl
  · rintro H1 ⟨g1, hd⟩
    walk_at "V"
    refine g_all hA (SqL.of hd) ?_
    have e : ∀ n, (List.replicate n true).all id = true := fun n => by simp
    rw [e]
    walk_at "V"
    refine iteF (b_nil ?_)
    walk_at "B"
    walk_at "V"
    refine g_blt hA ha rfl bt_all ?_
    refine w_cons (w_lcR2 hA hr rfl (by decide +kernel) (i := 2) ⟨rfl, rfl⟩ ?_)
    walk_at "V"
    refine g_blt hA hn rfl bt_len ?_
    walk_at "V"
    have hs1 := GrowX.seqL g1 hs fun z => z
    refine g_lenL hA hs1 ?_
    rw [List.length_map]
    walk_at "V"
    refine ⟨1, zs.length, rfl, by have := ok.len; omega, fun D2 hD2 => ?_⟩
    refine ⟨fun j H' => Grow m.T H1 H' ∧ H' D2 = some (.lst ((List.replicate j true).map V.bl)), ⟨Grow.new hD2, upd_same⟩, ?_, ?_⟩
    · rintro j H' hj ⟨g, hd⟩ X' hX'
      have c0 := nc_of hX' 0 "value"
      have c2 := nl_of hX' 2 "at"
      have hz := ok.len
      have hj1 : j + 1 < zs.length := by omega
      have hsj := GrowX.seqL g hs1 fun z => z
      walk_at "V"
      rw [show (1 + (j : Int) - 1) = (j : Nat) from by omega]
      refine g_ixL hX' hsj (atI_at (by rw [List.getElem?_map, List.getElem?_eq_getElem (show j < zs.length by omega)]; rfl)) ?_
      walk_at "V"
      rw [show (1 + (j : Int)) = ((j + 1 : Nat) : Int) from by omega]
      refine g_ixL hX' hsj (atI_at (by rw [List.getElem?_map, List.getElem?_eq_getElem hj1]; rfl)) ?_
      refine gOp.of op_lt_str ⟨_, _, rfl, rfl, ?_⟩
      rw [decide_eq_true (List.pairwise_iff_getElem.1 ok.asc j (j + 1) (by omega) hj1 (by omega))]
      refine ⟨_, hd, by rw [List.length_map, List.length_replicate, sizeLine_eq]; omega, Grow.intoNew g (GrowX.lst hd) fun c w => by rw [w]; exact hD2, ?_⟩
      rw [upd_same, List.replicate_succ', List.map_append]; rfl
    · rintro H2 ⟨g2, hd2⟩
      walk_at "V"
      refine g_all hA (SqL.of hd2) ?_
      rw [e]
      exact q H2 (g1.trans g2)
/-- _need_most(value) -/
def mostOk (o : Option Int) : Prop := ∀ i, o = some i → 0 ≤ i
def sp_need_most (m : Md) : Sp := fun vs H Q _ => ∃ o : Option Int, vs = [optV o] ∧ mostOk o ∧ Q .non H
theorem c_x_need_most {m : Md} {f : Addr} {fd : FuncData} (F : C8.Def m.K m.mg "_need_most" st_x_need_most f fd) (b : L2.Binds m.K fd ps_x_need_most []) (Ct : Cal m 2 "is_count" (sp_is_count m)) : Cal m 3 "_need_most" (sp_need_most m) := by
  refine cal_of F b sc_x_need_most (fun vs H Q E h => by obtain ⟨_, rfl, _⟩ := h; rfl) fun X vs H Q E hA h => ?_
  obtain ⟨o, rfl, ok, q⟩ := h
  have n0 := nv_x_need_most
  walk_at "B"
  walk_at "V"
  cases o with
  | none => exact iteF (b_nil (b_nil q))
  | some i =>
    refine iteT ?_
    walk_at "V"
    refine w_call hA Ct (by omega) rfl ?_
    walk_at "V"
    refine ⟨.int i, .int i, Any, rfl, .int i, ?_⟩
    rw [show isCt (.int i) = true from decide_eq_true (ok i rfl)]
    walk_at "V"
    exact iteF (b_nil (b_nil q))
/-! V3: rows copied; the class of sights: how one is made -/
theorem Paired.get2 {α β : Type} {F : α → β → Prop} {as : List α} {bs : List β} (p : Paired F as bs) : ∀ (j : Nat) (a : α), as[j]? = some a → ∃ b, bs[j]? = some b ∧ F a b := by
  induction p with
  | nil => intro j a e; simp at e
  | cons h _ ih =>
    intro j a e
    cases j with
    | zero => rw [← Option.some.inj e]; exact ⟨_, rfl, h⟩
    | succ j => obtain ⟨b, h1, h2⟩ := ih j a (by simpa using e); exact ⟨b, by simpa using h1, h2⟩
theorem Paired.snoc {α β : Type} {F : α → β → Prop} {as : List α} {bs : List β} {a : α} {b : β} (p : Paired F as bs) (h : F a b) : Paired F (as ++ [a]) (bs ++ [b]) := by
  induction p with
  | nil => exact .cons h .nil
  | cons x _ ih => exact .cons x ih
theorem Paired.imp2 {α β : Type} {F G : α → β → Prop} {as : List α} {bs : List β} (p : Paired F as bs) (h : ∀ a b, F a b → G a b) : Paired G as bs := by
  induction p with
  | nil => exact .nil
  | cons x _ ih => exact .cons (h _ _ x) ih
abbrev RowsA (A : Addr → Prop) (H : Hp) (vs : List V) (rs : List Rw) : Prop := Paired (RowA A H) vs rs
theorem RowsA.grow {A : Addr → Prop} {T : List (Addr × Str)} {S : Addr → Prop} {H H' : Hp} {vs : List V} {rs : List Rw} (h : RowsA A H vs rs) (g : GrowX T S H H') (n : ∀ a, A a → ¬ S a) : RowsA A H' vs rs := Paired.imp2 h fun _ _ z => z.grow g n
section
variable {m : Md} {N : List Str} {sc scope : Scope} {k k1 kk i j l : Nat} {X : Cx} {H : Hp} {Q : VK} {iter : Expr} {σ : L2.St} {pos p1 p2 p3 p4 p5 p6 p7 p8 p9 p10 : Pos} {x y z : Str}
/-- [(dict(x), y, z) for x, y, z in rows] -/
theorem w_copy (h : At m N sc k X) (hd : m.mg "dict" = none) (ok : blkC N sc scope [(x, i), (y, j), (z, l)] = true) (n1 : NL N (relS scope sc) i x) (n2 : NL N (relS scope sc) j y) (n3 : NL N (relS scope sc) l z)
    (q : wE X iter σ H fun v H1 => ∃ (a : Addr) (vs : List V) (rs : List Rw), v = .ref a ∧ SqL m.K H1 a vs ∧ RowsA Any H1 vs rs ∧ rs.length < 10000 ∧ ∀ (D : Addr) (H2 : Hp) (ws : List V), Grow m.T H1 H2 → H1 D = none → H2 D = some (.lst ws) → RowsA (New H1) H2 ws rs → Q (.ref D) H2)
    (hgl : (relS scope sc).names.lookup ("dict" : Str) = some .globalImplicit := by with_unfolding_all rfl)
    (hu : ∀ u w v : V, (((σ.set i (some u)).set j (some w)).set l (some v))[i]? = some (some u) ∧ (((σ.set i (some u)).set j (some w)).set l (some v))[j]? = some (some w) ∧ (((σ.set i (some u)).set j (some w)).set l (some v))[l]? = some (some v) := by exact fun _ _ _ => ⟨rfl, rfl, rfl⟩)
    (hx : (x == ("__debug__" : Str)) = false ∧ (x == ("__classdict__" : Str)) = false ∧ (y == ("__debug__" : Str)) = false ∧ (y == ("__classdict__" : Str)) = false ∧ (z == ("__debug__" : Str)) = false ∧ (z == ("__classdict__" : Str)) = false := by with_unfolding_all decide)
    (hs : ∀ x, foldedSetIterable iter X.env x = pure x := by with_unfolding_all (intro _; rfl)) :
    wE X (.ListComp (.Tuple [.Call (.Name "dict" p5) [.Name x p6] [] p7, .Name y p8, .Name z p9] kk p10) [⟨.Tuple [.Name x p1, .Name y p2, .Name z p4] k1 p3, iter, [], 0⟩] scope pos) σ H Q := by
  refine w_lcP3 h ok n1 n2 n3 ?_ hs
  refine wE.mono q fun v H1 ⟨a, vs, rs, ea, hl, hr, hz, fin⟩ => ?_
  refine ⟨a, vs, ea, hl, fun D hD => ?_⟩
  have lv := paired_len hr
  refine ⟨fun t H2 => Grow m.T H1 H2 ∧ ∃ ws, H2 D = some (.lst ws) ∧ ws.length = t ∧ RowsA (New H1) H2 ws (rs.take t), ⟨Grow.new hD, [], upd_same, rfl, .nil⟩, fun t H2 _ hp => hp.1.seqL hl (fun z => z), ?_, ?_⟩
  · rintro t v H2 hv ⟨g, ws, hw, lw, pw⟩
    obtain ⟨r, hr1, T, d, rfl, hT, -, hdd⟩ := Paired.get2 hr t v hv
    have ht : t < rs.length := (List.getElem?_eq_some_iff.1 hr1).1
    refine ⟨T, .ref d, optV r.2.1, optV r.2.2, rfl, .inl (.inl (g.tup _ _ hT)), fun X' hX' => ?_⟩
    obtain ⟨u1, u2, u3⟩ := hu (.ref d) (optV r.2.1) (optV r.2.2)
    refine w_tup (w_cons (g_typ hX' hd hgl bt_dict ?_))
    refine w_cons (w_nl hX' n1 u1 ?_ hx.1 hx.2.1)
    refine w_nil (g_dictD hX' (g.extN _ _ hdd (fun _ z => by cases z)) fun p hp => ?_)
    refine w_cons (w_nl hX' n2 u2 ?_ hx.2.2.1 hx.2.2.2.1)
    refine w_cons (w_nl hX' n3 u3 ?_ hx.2.2.2.2.1 hx.2.2.2.2.2)
    refine w_nil ⟨by walk_at "S", fun p2 hp2 => ?_⟩
    have gp := Grow.new (T := m.T) (o := .dK (hrK r.1)) hp
    have gp2 := Grow.new (T := m.T) (o := .tup [.ref p, optV r.2.1, optV r.2.2]) hp2
    have g3 := (g.trans gp).trans gp2
    have hpp2 : p ≠ p2 := fun z => by rw [← z, upd_same] at hp2; cases hp2
    have hw3 := Grow.extN (gp.trans gp2) _ _ hw (fun _ z => by cases z)
    have r3 : RowA (New H1) (upd (upd H2 p (.dK (hrK r.1))) p2 (.tup [.ref p, optV r.2.1, optV r.2.2])) (.ref p2) r :=
      ⟨p2, p, rfl, upd_same, g.keep _ hp, by rw [upd_ne hpp2]; exact upd_same⟩
    refine ⟨ws, hw3, by have := sizeLine_eq; omega, Grow.intoNew g3 (GrowX.lst hw3) (fun c z => by rw [z]; exact hD), ws ++ [.ref p2], upd_same, by simp [lw], ?_⟩
    rw [List.take_succ, hr1]
    have gl : GrowX m.T (· = D) _ (upd (upd (upd H2 p (.dK (hrK r.1))) p2 (.tup [.ref p, optV r.2.1, optV r.2.2])) D (.lst (ws ++ [.ref p2]))) := GrowX.lst hw3
    have nD : ∀ (v : V) (r : Rw) (G : Hp), RowA (New H1) G v r → (∃ us, G D = some (.lst us)) → RowA (fun a => New H1 a ∧ a ≠ D) G v r := by
      rintro v r G ⟨T, d, e, hT, hn, hd⟩ ⟨us, hu⟩
      exact ⟨T, d, e, hT, ⟨hn, fun z => by rw [z, hu] at hd; cases hd⟩, hd⟩
    refine Paired.imp2 (Paired.snoc (Paired.imp2 pw fun v r z => ?_) ?_) fun v r z => z
    · exact ((nD v r _ (z.grow (gp.trans gp2) (fun _ _ z => z)) ⟨_, hw3⟩).grow gl (fun a z => z.2)).mono fun a z => z.1
    · exact ((nD _ r _ r3 ⟨_, hw3⟩).grow gl (fun a z => z.2)).mono fun a z => z.1
  · rintro H2 ⟨g, ws, hw, lw, pw⟩
    rw [List.take_of_length_le (by omega)] at pw
    exact fin D H2 ws g hD hw pw
end
/-! V4: the class of sights: __init__, making one -/
structure SgC (m : Md) (C : Addr) : Prop where
  cl : Cls m.K C
  n1 : NoAttr m.K C "_names"
  n2 : NoAttr m.K C "_most"
  n3 : NoAttr m.K C "_rows"
  gS : m.mg "Sights" = some (.ref C)
/-- sights at i: names, most, rows, what may change of it in A -/
def SgAt (C : Addr) (A : Addr → Prop) (H : Hp) (i : Addr) (zs : List Str) (mo : Option Int) (rs : List Rw) : Prop :=
  ∃ (dx la lr : Addr) (vs : List V), H i = some (.ins C dx [("_names", .ref la), ("_most", optV mo), ("_rows", .ref lr)]) ∧ H la = some (.lst (zs.map V.str)) ∧ A la ∧ H lr = some (.lst vs) ∧ A lr ∧ RowsA A H vs rs
structure SgOk (zs : List Str) (mo : Option Int) (rs : List Rw) : Prop where
  nm : NamesOk zs
  mo : mostOk mo
  rw : ∀ r ∈ rs, RowOk zs r
  len : rs.length < 1000
theorem SgAt.grow {C : Addr} {A : Addr → Prop} {T : List (Addr × Str)} {S : Addr → Prop} {H H' : Hp} {i : Addr} {zs : List Str} {mo : Option Int} {rs : List Rw} (h : SgAt C A H i zs mo rs) (g : GrowX T S H H') (n : ∀ a, A a → ¬ S a) (ni : ¬ S i) : SgAt C A H' i zs mo rs := by
  obtain ⟨dx, la, lr, vs, h1, h2, h3, h4, h5, h6⟩ := h
  exact ⟨dx, la, lr, vs, g.ext _ _ ni h1 (fun _ z => by cases z), g.ext _ _ (n _ h3) h2 (fun _ z => by cases z), h3, g.ext _ _ (n _ h5) h4 (fun _ z => by cases z), h5, h6.grow g n⟩
theorem SgAt.mono {C : Addr} {A B : Addr → Prop} {H : Hp} {i : Addr} {zs : List Str} {mo : Option Int} {rs : List Rw} (h : SgAt C A H i zs mo rs) (k : ∀ a, A a → B a) : SgAt C B H i zs mo rs := by
  obtain ⟨dx, la, lr, vs, h1, h2, h3, h4, h5, h6⟩ := h
  exact ⟨dx, la, lr, vs, h1, h2, k _ h3, h4, k _ h5, Paired.imp2 h6 fun _ _ z => z.mono k⟩
def sp_sginit (m : Md) (C : Addr) : Sp := fun vs H Q _ => ∃ (i dx a l : Addr) (zs : List Str) (mo : Option Int) (us : List V) (rs : List Rw), vs = [.ref i, .ref a, optV mo, .ref l] ∧ H i = some (.ins C dx []) ∧ SqL m.K H a (zs.map V.str) ∧ a ≠ i ∧ SqL m.K H l us ∧ l ≠ i ∧ RowsA Any H us rs ∧ SgOk zs mo rs ∧
  ∀ (H' : Hp), GrowX m.T (· = i) H H' → SgAt C (New H) H' i zs mo rs → Q .non H'
theorem f_sginit {m : Md} {C f : Addr} {fd : FuncData} (R : SgC m C) (hi : m.mg "isinstance" = none) (hl : m.mg "list" = none) (hall : m.mg "all" = none) (hd : m.mg "dict" = none) (F : C8.Fun m.K "__init__" "Sights.__init__" st_Sights_init f fd) (As : Cal m 2 "_is_ascending" (sp_ascg m)) (Mo : Cal m 3 "_need_most" (sp_need_most m)) (Se : Cal m 4 "_is_seen_row" (sp_seen_row m)) : FnG m C8.CX0 5 f fd ps_Sights_init (sp_sginit m C) := by
  refine fnG_of F sc_Sights_init (fun vs H Q E h => by obtain ⟨_, _, _, _, _, _, _, _, rfl, _⟩ := h; rfl) fun X vs H Q E hA hM h => ?_
  obtain ⟨i, dx, a, l, zs, mo, us, rs, rfl, h1, ha, hai, hs, hli, hr, ok, k⟩ := h
  obtain ⟨n0, n2, n3, n1⟩ := nv_Sights_init
  have lus := paired_len hr
  have lrs := ok.len
  walk_at "B"
  walk_at "V"
  refine w_call hA As (by omega) rfl ?_
  walk_at "V"
  refine ⟨a, zs, rfl, ha, ok.nm, fun H1 g1 => ?_⟩
  have ha1 := g1.seqL ha (fun z => z)
  walk_at "V"
  refine iteF (b_nil ?_)
  walk_at "B"
  walk_at "V"
  refine w_call hA Mo (by omega) rfl ?_
  walk_at "V"
  refine ⟨mo, rfl, ok.mo, ?_⟩
  walk_at "B"
  walk_at "V"
  refine g_blt hA hi rfl bt_isinstance ?_
  walk_at "V"
  refine w_tyn hA hl rfl bt_list ?_
  have hs1 := g1.seqL hs (fun z => z)
  walk_at "V"
  refine g_isi hA (.ty "list") (tyx_lst hs1) (kit_ty (kit_all "list" (by decide) (.list []))) ?_
  walk_at "V"
  refine iteF ?_
  walk_at "V"
  refine g_blt hA hall rfl bt_all ?_
  refine w_cons (w_lcL hA (by decide +kernel) (i := 4) ⟨rfl, rfl⟩ ?_)
  walk_at "V"
  refine ⟨l, us, rfl, hs1, fun D hD => ?_⟩
  have hr1 := RowsA.grow hr g1 (fun _ _ z => z)
  refine ⟨fun j H' => Grow m.T H1 H' ∧ H' D = some (.lst ((List.replicate j true).map V.bl)), ⟨Grow.new hD, upd_same⟩, fun j H' _ hp => hp.1.seqL hs1 (fun z => z), ?_, ?_⟩
  · rintro j x H' hx ⟨g, hv⟩ X' hX'
    have c1 := nc_of hX' 1 "names"
    have c4 := nl_of hX' 4 "row"
    obtain ⟨r, hr2, rx⟩ := Paired.get2 hr1 j x hx
    have hj : j < rs.length := (List.getElem?_eq_some_iff.1 hr2).1
    refine w_call hX' Se (by omega) rfl ?_
    walk_at "V"
    refine ⟨x, a, zs, r, rfl, g.seqL ha1 (fun z => z), ok.nm.len, rx.grow g (fun _ _ z => z), ok.rw r (List.mem_of_getElem? hr2), fun H5 g5 => ?_⟩
    have hv5 := g5.extN _ _ hv (fun _ w => by cases w)
    refine ⟨_, hv5, by rw [List.length_map, List.length_replicate, sizeLine_eq]; omega, Grow.intoNew (g.trans g5) (GrowX.lst hv5) (fun _ w => by rw [w]; exact hD), ?_⟩
    rw [upd_same, List.replicate_succ', List.map_append]; rfl
  · rintro H2 ⟨g2, hv⟩
    walk_at "V"
    refine g_all hA (SqL.of hv) ?_
    rw [show (List.replicate us.length true).all id = true from by simp]
    walk_at "V"
    refine iteF (b_nil ?_)
    have h12 := g1.trans g2
    have hi2 := Grow.extN h12 _ _ h1 (fun _ z => by cases z)
    walk_at "B"
    refine s_fld hA R.cl R.n1 ?_
    refine g_typ hA hl rfl bt_list ?_
    walk_at "V"
    refine g_listOf hA (.inl (h12.seqL ha (fun z => z))) fun la hla => ?_
    have gl := Grow.new (T := m.T) (o := .lst (zs.map V.str)) hla
    have hi3 := gl.extN _ _ hi2 (fun _ z => by cases z)
    walk_at "V"
    refine ⟨i, dx, [], rfl, hi3, by decide, ?_⟩
    have hlai : la ≠ i := fun w => by rw [w, hi2] at hla; cases hla
    have gY : GrowX m.T (· = i) _ (upd (upd H2 la (.lst (zs.map V.str))) i (.ins C dx (putF "_names" (.ref la) []))) := GrowX.set rfl hi3 (fun _ z => by cases z) (fun _ z => by unfold CodeO at z; cases z) (fun _ z => by cases z) (fun _ _ z => by cases z)
    have hi4 : (upd (upd H2 la (.lst (zs.map V.str))) i (.ins C dx (putF "_names" (.ref la) []))) i = some (.ins C dx [("_names", .ref la)]) := upd_same
    have hla4 : (upd (upd H2 la (.lst (zs.map V.str))) i (.ins C dx (putF "_names" (.ref la) []))) la = some (.lst (zs.map V.str)) := by rw [upd_ne hlai]; exact upd_same
    have g4 : GrowX m.T (· = i) H _ := (Grow.to (h12.trans gl)).trans gY
    have nla : New H la := h12.keep _ hla
    generalize upd (upd H2 la (.lst (zs.map V.str))) i (.ins C dx (putF "_names" (.ref la) [])) = H4 at *
    walk_at "B"
    refine s_fld hA R.cl R.n2 ?_
    walk_at "V"
    refine ⟨i, dx, _, rfl, hi4, by show 1 < 1000; decide, ?_⟩
    have gZ : GrowX m.T (· = i) H4 (upd H4 i (.ins C dx (putF "_most" (optV mo) [("_names", .ref la)]))) := GrowX.set rfl hi4 (fun _ z => by cases z) (fun _ z => by unfold CodeO at z; cases z) (fun _ z => by cases z) (fun _ _ z => by cases z)
    have hi5 : (upd H4 i (.ins C dx (putF "_most" (optV mo) [("_names", .ref la)]))) i = some (.ins C dx [("_names", .ref la), ("_most", optV mo)]) := upd_same
    have hla5 : (upd H4 i (.ins C dx (putF "_most" (optV mo) [("_names", .ref la)]))) la = some (.lst (zs.map V.str)) := by rw [upd_ne hlai]; exact hla4
    have g5 := g4.trans gZ
    generalize upd H4 i (.ins C dx (putF "_most" (optV mo) [("_names", .ref la)])) = H5 at *
    refine b_one ?_
    refine s_fld hA R.cl R.n3 ?_
    refine w_copy hA hd (by decide +kernel) (i := 5) (j := 6) (l := 7) ⟨rfl, rfl⟩ ⟨rfl, rfl⟩ ⟨rfl, rfl⟩ ?_
    walk_at "V"
    have nI : ∀ (v : V) (r : Rw), RowA Any H v r → RowA (fun a => a ≠ i) H v r := by
      rintro v r ⟨T, d, e, hT, -, hd⟩
      exact ⟨T, d, e, hT, (fun z => by rw [z, h1] at hd; cases hd), hd⟩
    have hr5 := Paired.imp2 (RowsA.grow (Paired.imp2 hr nI) g5 (fun _ z => z)) fun v r z => z.mono (B := Any) fun _ _ => trivial
    refine ⟨l, us, rs, rfl, g5.seqL hs hli, hr5, by omega, fun lr H6 ws g6 hlr hlr6 hw6 => ?_⟩
    have hi6 := g6.extN _ _ hi5 (fun _ z => by cases z)
    have hla6 := g6.extN _ _ hla5 (fun _ z => by cases z)
    have hlri : lr ≠ i := fun w => by rw [w, hi5] at hlr; cases hlr
    walk_at "V"
    refine ⟨i, dx, _, rfl, hi6, by show 2 < 1000; decide, ?_⟩
    have gW : GrowX m.T (· = i) H6 (upd H6 i (.ins C dx (putF "_rows" (.ref lr) [("_names", .ref la), ("_most", optV mo)]))) := GrowX.set rfl hi6 (fun _ z => by cases z) (fun _ z => by unfold CodeO at z; cases z) (fun _ z => by cases z) (fun _ _ z => by cases z)
    have gF := (g5.trans (Grow.to g6)).trans gW
    refine k _ gF ⟨dx, la, lr, ws, upd_same, by rw [upd_ne hlai]; exact hla6, nla, by rw [upd_ne hlri]; exact hlr6, g5.keep _ hlr, ?_⟩
    have nJ : ∀ (v : V) (r : Rw), RowA (New H5) H6 v r → RowA (fun a => New H a ∧ a ≠ i) H6 v r := by
      rintro v r ⟨T, d, e, hT, hn, hd⟩
      exact ⟨T, d, e, hT, ⟨g5.keep _ hn, (fun z => by rw [z, hi6] at hd; cases hd)⟩, hd⟩
    exact Paired.imp2 (RowsA.grow (Paired.imp2 hw6 nJ) gW (fun _ z => z.2)) fun v r z => z.mono fun _ z => z.1
/-! V5: sights: making one, names(), most(), rows(), == -/
theorem valV_mem : ∀ {kz : List (Str × Int)}, (kz.map (·.1)).Nodup → ∀ p ∈ hrK kz, valV (hrK kz) p.1 = some p.2
  | [], _, _, hp => by cases hp
  | (y, i) :: kz, nd, p, hp => by
    rw [List.map_cons, List.nodup_cons] at nd
    rw [hrK, List.map_cons, List.mem_cons] at hp
    rcases hp with rfl | hp
    · simp [hrK, valV]
    · obtain ⟨q, hq, rfl⟩ := List.mem_map.1 hp
      have ne : y ≠ q.1 := fun e => nd.1 (by rw [e]; exact List.mem_map.2 ⟨q, hq, rfl⟩)
      have ih := valV_mem nd.2 (Sum.inr q.1, .int q.2) hp
      have c2 : (Sum.inr y : Key) ≠ .inr q.1 := fun e => ne (by injection e)
      unfold valV hrK at ih ⊢
      rw [List.map_cons, List.find?_cons_of_neg (by simpa using c2)]
      exact ih
theorem row_eq {K : PySem.W.Frag} {A B : Addr → Prop} {H : Hp} {v w : V} {r : Rw} (h1 : RowA A H v r) (h2 : RowA B H w r) (nd : (r.1.map (·.1)).Nodup) : TupEq K H 2 v w := by
  obtain ⟨T, d, rfl, t1, -, d1⟩ := h1
  obtain ⟨U, e, rfl, t2, -, d2⟩ := h2
  have fl : ∀ o : Option Int, EqV K H 2 (optV o) (optV o) := fun o => .inl ⟨rfl, by cases o <;> rfl⟩
  refine ⟨T, U, _, _, rfl, rfl, .inl (.inl t1), .inl (.inl t2), .cons (.inr (.inr (.inr ⟨d, e, _, _, rfl, rfl, d1, d2, rfl, fun p hp => ⟨p.2, valV_mem nd p hp, ?_⟩⟩))) (.cons (fl _) (.cons (fl _) .nil))⟩
  obtain ⟨q, _, rfl⟩ := List.mem_map.1 hp
  exact .inl ⟨rfl, rfl⟩
theorem rows_eq {K : PySem.W.Frag} {A B : Addr → Prop} {H : Hp} : ∀ {rs : List Rw} {vs ws : List V}, RowsA A H vs rs → RowsA B H ws rs → (∀ r ∈ rs, (r.1.map (·.1)).Nodup) → Paired (TupEq K H 2) vs ws
  | [], _, _, h1, h2, _ => by cases h1; cases h2; exact .nil
  | r :: rs, _, _, h1, h2, nd => by
    cases h1 with | cons a b => cases h2 with | cons c d =>
    exact .cons (row_eq a c (nd r (by simp))) (rows_eq b d fun q hq => nd q (List.mem_cons_of_mem _ hq))
theorem paired_self {α : Type} {F : α → α → Prop} : ∀ {xs : List α}, (∀ z ∈ xs, F z z) → Paired F xs xs
  | [], _ => .nil
  | x :: xs, h => .cons (h x (by simp)) (paired_self fun z hz => h z (List.mem_cons_of_mem _ hz))
theorem g_eqO {X : Cx} {o : Option Int} {H : Hp} {Q : VK} (q : Q (.bl true) H) : gOp X (compareOp .Eq) (optV o) (optV o) H Q := by
  cases o with
  | none => exact gOp.of op_eq ⟨rfl, by simpa [optV] using q⟩
  | some i => exact gOp.of op_eq ⟨rfl, by simpa [optV] using q⟩
section
variable {m : Md} {N : List Str} {sc : Scope} {j k : Nat} {X : Cx} {e1 e2 e3 : Expr} {σ : L2.St} {H : Hp} {Q : VK} {C : Addr} {pos p : Pos}
/-- Sights(e1, e2, e3) -/
theorem w_sights (h : At m N sc k X) (Mk : MakX m C8.CX0 j "Sights" C (sp_sginit m C) []) (hk : j + 1 ≤ k) (hg : sc.names.lookup ("Sights" : Str) = some .globalImplicit)
    (q : wA X [e1, e2, e3] σ H fun vs H1 => ∃ (a l : Addr) (zs : List Str) (mo : Option Int) (us : List V) (rs : List Rw), vs = [.ref a, optV mo, .ref l] ∧ SqL m.K H1 a (zs.map V.str) ∧ H1 a ≠ none ∧ SqL m.K H1 l us ∧ H1 l ≠ none ∧ RowsA Any H1 us rs ∧ SgOk zs mo rs ∧ ∀ (i : Addr) (H2 : Hp), Grow m.T H1 H2 → New H1 i → SgAt C (New H1) H2 i zs mo rs → Q (.ref i) H2)
    (he : starEach (e1 :: [e2, e3]) X.env = (false, eval e1 X.env) :: starEach [e2, e3] X.env := by with_unfolding_all rfl) (hpl : (backTo pos (starEach [e2, e3] X.env)).any (·.1) = false := by with_unfolding_all rfl) : wE X (.Call (.Name "Sights" p) [e1, e2, e3] [] pos) σ H Q := by
  refine w_makX (E := C8.E0) h Mk hk hg (fun pins H s e s' I c => C8.pass0 pins σ H s e s' I c) ?_ (by with_unfolding_all decide) he hpl
  unfold wA at q ⊢
  refine fun pos pins s I => wpAny_mono (q pos pins s I) (fun v s' z => ?_) fun _ _ z => z
  obtain ⟨vs, H1, I1, r1, a, l, zs, mo, us, rs, ev, hs, ha, hl, hll, hr, ok, k⟩ := z
  refine ⟨vs, H1, I1, r1, fun i dx hi hdx hne => ?_⟩
  subst ev
  have g0 : Grow m.T H1 (upd (upd H1 dx (.own i)) i (.ins C dx [])) := (Grow.new hdx).trans (Grow.new (by rw [upd_ne (Ne.symm hne)]; exact hi))
  refine ⟨i, dx, a, l, zs, mo, us, rs, rfl, upd_same, g0.seqL hs (fun z => z), fun w => ha (by rw [w]; exact hi), g0.seqL hl (fun z => z), fun w => hll (by rw [w]; exact hi), RowsA.grow hr g0 (fun _ _ z => z), ok, fun H' g st => ⟨rfl, ?_⟩⟩
  exact k i H' (Grow.intoNew g0 g fun c z => by rw [z]; exact hi) hi (st.mono fun a z => g0.keep _ z)
end
def sp_sgnames (m : Md) (C : Addr) : Sp := fun vs H Q _ => ∃ (i : Addr) (zs : List Str) (mo : Option Int) (rs : List Rw), vs = [.ref i] ∧ SgAt C Any H i zs mo rs ∧ ∀ (r : Addr) (H' : Hp), Grow m.T H H' → New H r → H' r = some (.lst (zs.map V.str)) → Q (.ref r) H'
theorem m_names {m : Md} {C f : Addr} {fd : FuncData} (R : SgC m C) (hl : m.mg "list" = none) (F : C8.Fun m.K "names" "Sights.names" st_Sights_names f fd) (b : L2.Binds m.K fd ps_Sights_names []) (me : Meth m.K C "names" f) : MetX m C8.CX0 1 C "names" (sp_sgnames m C) [] := by
  refine ⟨f, fd, ps_Sights_names, [], fnG_of F sc_Sights_names (fun vs H Q E h => by obtain ⟨_, _, _, _, rfl, _⟩ := h; rfl) fun X vs H Q E hA hM h => ?_, R.cl, me, b, .nil⟩
  obtain ⟨i, zs, mo, rs, rfl, ⟨dx, la, lr, vs, h1, h2, -, h4, -, h6⟩, k⟩ := h
  have n0 := nv_Sights_names
  walk_at "B"
  walk_at "V"
  refine g_typ hA hl rfl bt_list ?_
  refine w_cons (w_fld hA R.cl R.n1 ?_)
  walk_at "V"
  refine ⟨i, dx, _, _, rfl, h1, rfl, ?_⟩
  walk_at "V"
  refine g_listOf hA (.inl (SqL.of h2)) fun r hr => ?_
  exact k r _ (Grow.new hr) hr upd_same
def sp_sgmost (m : Md) (C : Addr) : Sp := fun vs H Q _ => ∃ (i : Addr) (zs : List Str) (mo : Option Int) (rs : List Rw), vs = [.ref i] ∧ SgAt C Any H i zs mo rs ∧ Q (optV mo) H
theorem m_most {m : Md} {C f : Addr} {fd : FuncData} (R : SgC m C) (F : C8.Fun m.K "most" "Sights.most" st_Sights_most f fd) (b : L2.Binds m.K fd ps_Sights_most []) (me : Meth m.K C "most" f) : MetX m C8.CX0 1 C "most" (sp_sgmost m C) [] := by
  refine ⟨f, fd, ps_Sights_most, [], fnG_of F sc_Sights_most (fun vs H Q E h => by obtain ⟨_, _, _, _, rfl, _⟩ := h; rfl) fun X vs H Q E hA hM h => ?_, R.cl, me, b, .nil⟩
  obtain ⟨i, zs, mo, rs, rfl, ⟨dx, la, lr, vs, h1, h2, -, h4, -, h6⟩, k⟩ := h
  have n0 := nv_Sights_most
  walk_at "B"
  walk_at "V"
  refine w_fld hA R.cl R.n2 ?_
  walk_at "V"
  exact ⟨i, dx, _, _, rfl, h1, rfl, k⟩
def sp_sgrows (m : Md) (C : Addr) : Sp := fun vs H Q _ => ∃ (i : Addr) (zs : List Str) (mo : Option Int) (rs : List Rw), vs = [.ref i] ∧ SgAt C Any H i zs mo rs ∧ rs.length < 1000 ∧ ∀ (D : Addr) (H' : Hp) (ws : List V), Grow m.T H H' → New H D → H' D = some (.lst ws) → RowsA (New H) H' ws rs → Q (.ref D) H'
theorem m_rows {m : Md} {C f : Addr} {fd : FuncData} (R : SgC m C) (hd : m.mg "dict" = none) (F : C8.Fun m.K "rows" "Sights.rows" st_Sights_rows f fd) (b : L2.Binds m.K fd ps_Sights_rows []) (me : Meth m.K C "rows" f) : MetX m C8.CX0 1 C "rows" (sp_sgrows m C) [] := by
  refine ⟨f, fd, ps_Sights_rows, [], fnG_of F sc_Sights_rows (fun vs H Q E h => by obtain ⟨_, _, _, _, rfl, _⟩ := h; rfl) fun X vs H Q E hA hM h => ?_, R.cl, me, b, .nil⟩
  obtain ⟨i, zs, mo, rs, rfl, ⟨dx, la, lr, vs, h1, h2, -, h4, -, h6⟩, hz, k⟩ := h
  have n0 := nv_Sights_rows
  walk_at "B"
  walk_at "V"
  refine w_copy hA hd (by decide +kernel) (i := 1) (j := 2) (l := 3) ⟨rfl, rfl⟩ ⟨rfl, rfl⟩ ⟨rfl, rfl⟩ ?_
  refine w_fld hA R.cl R.n3 ?_
  walk_at "V"
  refine ⟨i, dx, _, _, rfl, h1, rfl, ?_⟩
  exact ⟨lr, vs, rs, rfl, SqL.of h4, h6, by omega, fun D H2 ws g hD hw pw => k D H2 ws g hD hw pw⟩
/-- == of two that are alike -/
def sp_sgeq (m : Md) (C : Addr) : Sp := fun vs H Q _ => ∃ (i j : Addr) (zs : List Str) (mo : Option Int) (rs : List Rw), vs = [.ref i, .ref j] ∧ SgAt C Any H i zs mo rs ∧ SgAt C Any H j zs mo rs ∧ SgOk zs mo rs ∧ Q (.bl true) H
theorem m_sgeq {m : Md} {C f : Addr} {fd : FuncData} (R : SgC m C) (hi : m.mg "isinstance" = none) (F : C8.Fun m.K "__eq__" "Sights.__eq__" st_Sights_eq f fd) (b : L2.Binds m.K fd ps_Sights_eq []) (me : Meth m.K C "__eq__" f)
    (ty : ∀ (H : Hp) (i dx : Addr) (fs : List (Str × V)), H i = some (.ins C dx fs) → TyX m.K H (.ref i) (.ref C)) (own : PySem.W.kitOne m.K (.ref C) (.ref C) = some true) : MetX m C8.CX0 1 C "__eq__" (sp_sgeq m C) [] := by
  refine ⟨f, fd, ps_Sights_eq, [], fnG_of F sc_Sights_eq (fun vs H Q E h => by obtain ⟨_, _, _, _, _, rfl, _⟩ := h; rfl) fun X vs H Q E hA hM h => ?_, R.cl, me, b, .nil⟩
  obtain ⟨i, j, zs, mo, rs, rfl, ⟨dx, la, lr, vs, h1, h2, -, h4, -, h6⟩, ⟨dx', la', lr', vs', h1', h2', -, h4', -, h6'⟩, ok, k⟩ := h
  obtain ⟨n0, n1⟩ := nv_Sights_eq
  walk_at "B"
  walk_at "V"
  refine g_blt hA hi rfl bt_isinstance ?_
  walk_at "V"
  refine w_glb (v := .ref C) hA R.gS rfl rfl ?_
  walk_at "V"
  refine g_isi hA (.own C) (ty H j dx' _ h1') own ?_
  walk_at "V"
  refine iteF (b_nil ?_)
  walk_at "B"
  walk_at "V"
  refine w_fld hA R.cl R.n1 ?_
  walk_at "V"
  refine ⟨i, dx, _, _, rfl, h1, rfl, ?_⟩
  refine w_fld hA R.cl R.n1 ?_
  walk_at "V"
  refine ⟨j, dx', _, _, rfl, h1', rfl, ?_⟩
  refine gOp.of (op_eqV hA.room.units) ⟨1, by omega, .inl ⟨la, la', _, _, rfl, rfl, SqL.of h2, SqL.of h2', paired_self fun z hz => ?_⟩, ?_⟩
  · obtain ⟨q, _, rfl⟩ := List.mem_map.1 hz
    exact .inl ⟨rfl, rfl⟩
  walk_at "V"
  refine iteT ?_
  walk_at "V"
  refine w_fld hA R.cl R.n2 ?_
  walk_at "V"
  refine ⟨i, dx, _, _, rfl, h1, rfl, ?_⟩
  refine w_fld hA R.cl R.n2 ?_
  walk_at "V"
  refine ⟨j, dx', _, _, rfl, h1', rfl, ?_⟩
  refine g_eqO ?_
  walk_at "V"
  refine iteT ?_
  walk_at "V"
  refine w_fld hA R.cl R.n3 ?_
  walk_at "V"
  refine ⟨i, dx, _, _, rfl, h1, rfl, ?_⟩
  refine w_fld hA R.cl R.n3 ?_
  walk_at "V"
  refine ⟨j, dx', _, _, rfl, h1', rfl, ?_⟩
  exact g_eqTL hA (SqL.of h4) (SqL.of h4') (n := 2) (by omega) (rows_eq h6 h6' fun r hr => (ok.rw r hr).nd) k
/-! V6: with_row, without, need_sights -/
def sp_wrow (m : Md) (C : Addr) : Sp := fun vs H Q _ => ∃ (i : Addr) (v : V) (zs : List Str) (mo : Option Int) (rs : List Rw) (r : Rw), vs = [.ref i, v] ∧ SgAt C Any H i zs mo rs ∧ RowA Any H v r ∧ SgOk zs mo (rs ++ [r]) ∧ ∀ (i2 : Addr) (H' : Hp), Grow m.T H H' → New H i2 → SgAt C (New H) H' i2 zs mo (rs ++ [r]) → Q (.ref i2) H'
theorem m_with_row {m : Md} {C f : Addr} {fd : FuncData} (R : SgC m C) (F : C8.Fun m.K "with_row" "Sights.with_row" st_Sights_with_row f fd) (b : L2.Binds m.K fd ps_Sights_with_row []) (me : Meth m.K C "with_row" f) (Se : Cal m 4 "_is_seen_row" (sp_seen_row m)) (Mk : MakX m C8.CX0 5 "Sights" C (sp_sginit m C) []) : MetX m C8.CX0 7 C "with_row" (sp_wrow m C) [] := by
  refine ⟨f, fd, ps_Sights_with_row, [], fnG_of F sc_Sights_with_row (fun vs H Q E h => by obtain ⟨_, _, _, _, _, _, rfl, _⟩ := h; rfl) fun X vs H Q E hA hM h => ?_, R.cl, me, b, .nil⟩
  obtain ⟨i, v, zs, mo, rs, r, rfl, ⟨dx, la, lr, us, h1, h2, -, h4, -, h6⟩, hv, ok, k⟩ := h
  obtain ⟨n0, n1⟩ := nv_Sights_with_row
  have lu := paired_len h6
  have lz := ok.len
  rw [List.length_append] at lz
  walk_at "B"
  walk_at "V"
  refine w_call hA Se (by omega) rfl ?_
  walk_at "V"
  refine w_fld hA R.cl R.n1 ?_
  walk_at "V"
  refine ⟨i, dx, _, _, rfl, h1, rfl, ?_⟩
  walk_at "V"
  refine ⟨v, la, zs, r, rfl, SqL.of h2, ok.nm.len, hv, ok.rw r (by simp), fun H1 g1 => ?_⟩
  walk_at "V"
  refine iteF (b_nil ?_)
  have h1' := g1.extN _ _ h1 (fun _ z => by cases z)
  have h2' := g1.extN _ _ h2 (fun _ z => by cases z)
  have h4' := g1.extN _ _ h4 (fun _ z => by cases z)
  walk_at "B"
  walk_at "V"
  refine w_sights hA Mk (by omega) rfl ?_
  refine w_cons (w_fld hA R.cl R.n1 ?_)
  walk_at "V"
  refine ⟨i, dx, _, _, rfl, h1', rfl, ?_⟩
  refine w_cons (w_fld hA R.cl R.n2 ?_)
  walk_at "V"
  refine ⟨i, dx, _, _, rfl, h1', rfl, ?_⟩
  walk_at "V"
  refine w_fld hA R.cl R.n3 ?_
  walk_at "V"
  refine ⟨i, dx, _, _, rfl, h1', rfl, ?_⟩
  walk_at "V"
  refine ⟨by walk_at "S", fun l1 hl1 => ?_⟩
  have hl1r : lr ≠ l1 := fun z => by rw [← z, h4'] at hl1; cases hl1
  refine g_cat (by rw [upd_ne hl1r]; exact h4') upd_same (by rw [lu, sizeLine_eq]; show rs.length + 1 ≤ _; omega) fun l2 hl2 => ?_
  have ga := Grow.new (T := m.T) (o := .lst [v]) hl1
  have gb := Grow.new (T := m.T) (o := .lst (us ++ [v])) hl2
  have gg := (g1.trans ga).trans gb
  refine w_nil ⟨la, l2, zs, mo, us ++ [v], rs ++ [r], rfl, SqL.of (Grow.extN (ga.trans gb) _ _ h2' (fun _ z => by cases z)), ?_, SqL.of upd_same, by rw [upd_same]; simp, Paired.snoc (RowsA.grow h6 gg (fun _ _ z => z)) (hv.grow gg (fun _ _ z => z)), ok, fun i2 H2 g2 ni st => ?_⟩
  · rw [Grow.extN (ga.trans gb) _ _ h2' (fun _ z => by cases z)]; simp
  · exact k i2 H2 (gg.trans g2) (gg.keep _ ni) (st.mono fun a z => gg.keep _ z)
def sp_wout (m : Md) (C : Addr) : Sp := fun vs H Q _ => ∃ (i : Addr) (n : Nat) (zs : List Str) (mo : Option Int) (rs : List Rw), vs = [.ref i, .int n] ∧ n < rs.length ∧ SgAt C Any H i zs mo rs ∧ SgOk zs mo rs ∧ ∀ (i2 : Addr) (H' : Hp), Grow m.T H H' → New H i2 → SgAt C (New H) H' i2 zs mo (rs.take n ++ rs.drop (n + 1)) → Q (.ref i2) H'
theorem Paired.take2 {α β : Type} {F : α → β → Prop} : ∀ {as : List α} {bs : List β} (n : Nat), Paired F as bs → Paired F (as.take n) (bs.take n)
  | _, _, 0, _ => by simp; exact .nil
  | _, _, n + 1, .nil => by simp; exact .nil
  | _, _, n + 1, .cons a r => .cons a (Paired.take2 n r)
theorem Paired.drop2 {α β : Type} {F : α → β → Prop} : ∀ {as : List α} {bs : List β} (n : Nat), Paired F as bs → Paired F (as.drop n) (bs.drop n)
  | _, _, 0, h => h
  | _, _, n + 1, .nil => by simp; exact .nil
  | _, _, n + 1, .cons _ r => Paired.drop2 n r
theorem Paired.app2 {α β : Type} {F : α → β → Prop} : ∀ {as cs : List α} {bs ds : List β}, Paired F as bs → Paired F cs ds → Paired F (as ++ cs) (bs ++ ds)
  | _, _, _, _, .nil, s => s
  | _, _, _, _, .cons a r, s => .cons a (Paired.app2 r s)
theorem cutV_to {xs : List V} {n : Nat} (h : n ≤ xs.length) : cutV xs none (some (n : Int)) = xs.take n := by
  unfold cutV
  rw [HT.sIx_none, List.drop_zero, Nat.sub_zero]
  congr 1
  unfold HT.sIx
  dsimp only
  rw [if_neg (by omega)]
  omega
theorem cutV_from {xs : List V} {n : Nat} (h : n ≤ xs.length) : cutV xs (some (n : Int)) none = xs.drop n := by
  unfold cutV
  rw [HT.sIx_none, show HT.sIx xs.length 0 (some (n : Int)) = n from by unfold HT.sIx; dsimp only; rw [if_neg (by omega)]; omega]
  rw [List.take_of_length_le (by rw [List.length_drop]; omega)]
theorem m_without {m : Md} {C f : Addr} {fd : FuncData} (R : SgC m C) (hlen : m.mg "len" = none) (F : C8.Fun m.K "without" "Sights.without" st_Sights_without f fd) (b : L2.Binds m.K fd ps_Sights_without []) (me : Meth m.K C "without" f) (Cw : Cal m 4 "need_count_within" (sp_ncw m)) (Mk : MakX m C8.CX0 5 "Sights" C (sp_sginit m C) []) : MetX m C8.CX0 7 C "without" (sp_wout m C) [] := by
  refine ⟨f, fd, ps_Sights_without, [], fnG_of F sc_Sights_without (fun vs H Q E h => by obtain ⟨_, _, _, _, _, rfl, _⟩ := h; rfl) fun X vs H Q E hA hM h => ?_, R.cl, me, b, .nil⟩
  obtain ⟨i, n, zs, mo, rs, rfl, hn, ⟨dx, la, lr, us, h1, h2, -, h4, -, h6⟩, ok, k⟩ := h
  obtain ⟨n0, n1⟩ := nv_Sights_without
  have lu := paired_len h6
  have lz := ok.len
  walk_at "B"
  walk_at "V"
  refine w_call hA Cw (by omega) rfl ?_
  walk_at "V"
  refine g_blt hA hlen rfl bt_len ?_
  refine w_cons (w_fld hA R.cl R.n3 ?_)
  walk_at "V"
  refine ⟨i, dx, _, _, rfl, h1, rfl, ?_⟩
  walk_at "V"
  refine g_lenL hA (SqL.of h4) ?_
  walk_at "V"
  refine ⟨0, _, n, rfl, by omega, by omega, by omega, ?_⟩
  walk_at "B"
  walk_at "V"
  refine w_sights hA Mk (by omega) rfl ?_
  refine w_cons (w_fld hA R.cl R.n1 ?_)
  walk_at "V"
  refine ⟨i, dx, _, _, rfl, h1, rfl, ?_⟩
  refine w_cons (w_fld hA R.cl R.n2 ?_)
  walk_at "V"
  refine ⟨i, dx, _, _, rfl, h1, rfl, ?_⟩
  walk_at "V"
  refine w_sliceTo hA ?_
  refine w_fld hA R.cl R.n3 ?_
  walk_at "V"
  refine ⟨i, dx, _, _, rfl, h1, rfl, ?_⟩
  walk_at "V"
  refine ⟨lr, us, rfl, SqL.of h4, fun l1 hl1 => ?_⟩
  rw [cutV_to (by omega)]
  have ga := Grow.new (T := m.T) (o := .lst (us.take n)) hl1
  have h1a := ga.extN _ _ h1 (fun _ z => by cases z)
  have h4a := ga.extN _ _ h4 (fun _ z => by cases z)
  refine w_sliceFrom hA ?_
  refine w_fld hA R.cl R.n3 ?_
  walk_at "V"
  refine ⟨i, dx, _, _, rfl, h1a, rfl, ?_⟩
  walk_at "V"
  refine ⟨lr, us, rfl, SqL.of h4a, fun l2 hl2 => ?_⟩
  rw [show ((n : Int) + 1) = ((n + 1 : Nat) : Int) from by omega, cutV_from (by omega)]
  have gb := Grow.new (T := m.T) (o := .lst (us.drop (n + 1))) hl2
  refine g_cat (gb.extN _ _ upd_same (fun _ z => by cases z)) upd_same (by rw [List.length_take, List.length_drop, sizeLine_eq]; omega) fun l3 hl3 => ?_
  have gc := Grow.new (T := m.T) (o := .lst (us.take n ++ us.drop (n + 1))) hl3
  have gg := (ga.trans gb).trans gc
  have hla := Grow.extN gg _ _ h2 (fun _ z => by cases z)
  have ok2 : SgOk zs mo (rs.take n ++ rs.drop (n + 1)) := ⟨ok.nm, ok.mo, fun r hr => ok.rw r (by
    rcases List.mem_append.1 hr with h | h
    · exact List.mem_of_mem_take h
    · exact List.mem_of_mem_drop h), by rw [List.length_append, List.length_take, List.length_drop]; omega⟩
  refine w_nil ⟨la, l3, zs, mo, _, _, rfl, SqL.of hla, by rw [hla]; simp, SqL.of upd_same, by rw [upd_same]; simp, RowsA.grow (Paired.app2 (Paired.take2 n h6) (Paired.drop2 (n + 1) h6)) gg (fun _ _ z => z), ok2, fun i2 H2 g2 ni st => ?_⟩
  exact k i2 H2 (gg.trans g2) (gg.keep _ ni) (st.mono fun a z => gg.keep _ z)
/-- need_sights(value) -/
def sp_nsights (m : Md) (C : Addr) : Sp := fun vs H Q _ => ∃ (i dx : Addr) (fs : List (Str × V)), vs = [.ref i] ∧ H i = some (.ins C dx fs) ∧ Q .non H
theorem c_need_sights {m : Md} {C f : Addr} {fd : FuncData} (R : SgC m C) (hi : m.mg "isinstance" = none) (F : C8.Def m.K m.mg "need_sights" st_need_sights f fd) (b : L2.Binds m.K fd ps_need_sights [])
    (ty : ∀ (H : Hp) (i dx : Addr) (fs : List (Str × V)), H i = some (.ins C dx fs) → TyX m.K H (.ref i) (.ref C)) (own : PySem.W.kitOne m.K (.ref C) (.ref C) = some true) : Cal m 1 "need_sights" (sp_nsights m C) := by
  refine cal_of F b sc_need_sights (fun vs H Q E h => by obtain ⟨_, _, _, rfl, _⟩ := h; rfl) fun X vs H Q E hA h => ?_
  obtain ⟨i, dx, fs, rfl, h1, q⟩ := h
  have n0 := nv_need_sights
  walk_at "B"
  walk_at "V"
  refine g_blt hA hi rfl bt_isinstance ?_
  walk_at "V"
  refine w_glb (v := .ref C) hA R.gS rfl rfl ?_
  walk_at "V"
  refine g_isi hA (.own C) (ty H i dx _ h1) own ?_
  walk_at "V"
  exact iteF (b_nil (b_nil q))
/-! V7: the longest and the shortest wait, who stands -/
theorem s_three {m : Md} {N : List Str} {sc : Scope} {i j l k : Nat} {X : Cx} {t1 t2 t3 e : Expr} {σ : L2.St} {H : Hp} {nx : L2.St → Hp → Prop} {rt : VK} {bk ct : L2.St → Hp → Prop} {k1 : Nat} {p3 pos : Pos} (h : At m N sc k X) (hg1 : PG X t1 (gName i)) (hg2 : PG X t2 (gName j)) (hg3 : PG X t3 (gName l))
    (q : wE X e σ H fun v H1 => ∃ (p : Addr) (v1 v2 v3 : V), v = .ref p ∧ SqT m.K H1 p [v1, v2, v3] ∧ nx (((σ.set i (some v1)).set j (some v2)).set l (some v3)) H1)
    (hw : ∀ env : Env, swappedStores [.Tuple [t1, t2, t3] k1 p3] e { env with scope := sc } = pure none := by with_unfolding_all (intro _; rfl))
    (hs : swapsWithSole [.Tuple [t1, t2, t3] k1 p3] e pos.line X.env = pure false := by with_unfolding_all rfl)
    (hz : (assignEach [t1, t2, t3] X.env).map (·.2) = assign t1 X.env :: (assignEach [t2, t3] X.env).map (·.2) := by with_unfolding_all rfl) (hz2 : (assignEach [t2, t3] X.env).map (·.2) = assign t2 X.env :: (assignEach [t3] X.env).map (·.2) := by with_unfolding_all rfl)
    (hz3 : (assignEach [t3] X.env).map (·.2) = assign t3 X.env :: (assignEach [] X.env).map (·.2) := by with_unfolding_all rfl)
    (hn : (assignEach [t1, t2, t3] X.env).length = 3 := by with_unfolding_all rfl) (hst : (assignEach [t1, t2, t3] X.env).findIdx? (·.1) = none := by with_unfolding_all rfl)
    (ho : (assignEach [.Tuple [t1, t2, t3] k1 p3] X.env).map (·.2) = [assign (.Tuple [t1, t2, t3] k1 p3) X.env] := by with_unfolding_all rfl) : wS X (.Assign [.Tuple [t1, t2, t3] k1 p3] e pos) ⟨nx, rt, bk, ct⟩ σ H := by
  refine toS (ps_asg cE (pg_tup h.calm (pgs_cons hg1 (pgs_cons hg2 (pgs_cons hg3 pgs_nil hz3) hz2) hz) hn hst) hs (by have := hw X.env; rw [env_sc h.ss] at this; exact this) ho) ?_
  exact wE.mono q fun v H1 ⟨p, v1, v2, v3, ev, hp, q1⟩ => ⟨p, [v1, v2, v3], ev, by rw [h.kk]; exact hp, rfl, v1, [v2, v3], rfl, v2, [v3], rfl, v3, [], rfl, rfl, q1⟩
def longW (mo : Option Int) (r : Rw) (z : Str) : Option Int := bst (fun x a => decide (x < a)) ((match r.2.2 with | none => [] | some h => [h - hrs r.1 z]) ++ (match mo with | none => [] | some q => [q]))
def shortW (mo : Option Int) (r : Rw) (z : Str) : Option Int := bst (fun x a => decide (x > a)) ((match r.2.1 with | none => [] | some h => [h - hrs r.1 z]) ++ (match mo with | none => [] | some _ => [0]))
def standB (mo : Option Int) (near far : Rw) (z : Str) : Bool := match longW mo near z, shortW mo far z with
  | some a, some b => decide (b ≤ a)
  | _, _ => true
def sp_lwait (m : Md) (C : Addr) (W : Option Int → Rw → Str → Option Int) : Sp := fun vs H Q _ => ∃ (i : Addr) (v : V) (z : Str) (zs : List Str) (mo : Option Int) (rs : List Rw) (r : Rw), vs = [.ref i, .str z, v] ∧ SgAt C Any H i zs mo rs ∧ RowA Any H v r ∧ (r.1.lookup z).isSome = true ∧ ∀ H', Grow m.T H H' → Q (optV (W mo r z)) H'
theorem hrs_get {kz : List (Str × Int)} {z : Str} (h : (kz.lookup z).isSome = true) : valV (hrK kz) (.inr z) = some (.int (hrs kz z)) := by
  obtain ⟨i, hi⟩ := Option.isSome_iff_exists.1 h
  rw [hrK_val, hrs, hi]; rfl
theorem c_x_longest_wait {m : Md} {C f : Addr} {fd : FuncData} (R : SgC m C) (hmin : m.mg "min" = none) (F : C8.Def m.K m.mg "_longest_wait" st_x_longest_wait f fd) (b : L2.Binds m.K fd ps_x_longest_wait []) (Mo : MetX m C8.CX0 1 C "most" (sp_sgmost m C) []) : Cal m 2 "_longest_wait" (sp_lwait m C longW) := by
  refine cal_of F b sc_x_longest_wait (fun vs H Q E h => by obtain ⟨_, _, _, _, _, _, _, rfl, _⟩ := h; rfl) fun X vs H Q E hA h => ?_
  obtain ⟨i, v, z, zs, mo, rs, r, rfl, st, ⟨T, d, rfl, hT, -, hd⟩, hz, k⟩ := h
  obtain ⟨n0, n1, n2, n3, n4, n5, n6⟩ := nv_x_longest_wait
  obtain ⟨kz, lo, hi⟩ := r
  walk_at "B"
  refine s_three hA (pg_nl hA n3) (pg_nl hA n4) (pg_nl hA n5) ?_
  walk_at "V"
  refine ⟨T, _, _, _, rfl, .inl (.inl hT), ?_⟩
  walk_at "B"
  have ge : ∀ H', Grow m.T H H' → ∃ dx fs, H' i = some (.ins C dx fs) ∧ fs.lookup ("most" : Str) = none := fun H' g => by
    obtain ⟨dx, la, lr, vs, h1, _⟩ := st.grow g (fun _ _ z => z) (fun z => z)
    exact ⟨dx, _, h1, rfl⟩
  refine s_nl hA n6 ?_
  refine wE.mono (Q := fun v H1 => ∃ p, v = .ref p ∧ Grow m.T H H1 ∧ H1 p = some (.lst ((match hi with | none => [] | some h => [h - hrs kz z]).map V.int))) ?_ ?_
  · walk_at "V"
    cases hi with
    | none =>
      refine iteT ?_
      walk_at "V"
      exact ⟨by walk_at "S", fun p hp => ⟨p, rfl, Grow.new hp, upd_same⟩⟩
    | some h =>
      refine iteF ?_
      walk_at "V"
      refine g_ixD hA (.inl ⟨_, .inr z, .inl hd, rfl, (hrs_get hz).symm⟩) ?_
      refine g_subI (i := h) ?_
      walk_at "V"
      exact ⟨by walk_at "S", fun p hp => ⟨p, rfl, Grow.new hp, upd_same⟩⟩
  · rintro v H1 ⟨p, rfl, g1, hp⟩
    walk_at "B"
    walk_at "V"
    refine w_minD hA hmin rfl ?_
    walk_at "V"
    have st1 := st.grow g1 (fun _ _ z => z) (fun z => z)
    obtain ⟨dx, fs, hi1, hf1⟩ := ge H1 g1
    refine w_met0 (E := C8.E0) hA Mo (by omega) C8.pass0 ?_
    walk_at "V"
    refine ⟨i, dx, fs, rfl, hi1, hf1, i, zs, mo, rs, rfl, st1, ?_⟩
    walk_at "V"
    have ln : (match hi with | none => [] | some h => [h - hrs kz z] : List Int).length ≤ 1 := by cases hi <;> simp
    have kk : ∀ H', Grow m.T H H' → Q (optV (longW mo (kz, lo, hi) z)) H' := k
    unfold longW at kk
    cases mo with
    | none =>
      refine iteT ?_
      walk_at "V"
      refine ⟨by walk_at "S", fun p2 hp2 => ?_⟩
      have g2 := Grow.new (T := m.T) (o := .lst []) hp2
      have hpp : p ≠ p2 := fun w => by rw [← w, hp] at hp2; cases hp2
      refine g_cat (g2.extN _ _ hp (fun _ z => by cases z)) upd_same (by rw [List.length_map, sizeLine_eq]; show _ + 0 ≤ _; omega) fun p3 hp3 => ?_
      walk_at "V"
      refine ⟨p3, _, rfl, rfl, SqL.of (by rw [upd_same, List.append_nil]), ?_⟩
      rw [List.append_nil] at kk
      exact kk _ ((g1.trans g2).trans (Grow.new hp3))
    | some q =>
      refine iteF ?_
      walk_at "V"
      refine w_met0 (E := C8.E0) hA Mo (by omega) C8.pass0 ?_
      walk_at "V"
      refine ⟨i, dx, fs, rfl, hi1, hf1, i, zs, some q, rs, rfl, st1, ?_⟩
      walk_at "V"
      refine ⟨by walk_at "S", fun p2 hp2 => ?_⟩
      have g2 := Grow.new (T := m.T) (o := .lst [.int q]) hp2
      refine g_cat (g2.extN _ _ hp (fun _ z => by cases z)) upd_same (by rw [List.length_map, sizeLine_eq]; show _ + 1 ≤ _; omega) fun p3 hp3 => ?_
      walk_at "V"
      refine ⟨p3, _, rfl, rfl, SqL.of (by rw [upd_same]; exact congrArg (fun l => some (HO.lst l)) (List.map_append (f := V.int) (l₂ := [q])).symm), ?_⟩
      exact kk _ ((g1.trans g2).trans (Grow.new hp3))
theorem c_x_shortest_wait {m : Md} {C f : Addr} {fd : FuncData} (R : SgC m C) (hmax : m.mg "max" = none) (F : C8.Def m.K m.mg "_shortest_wait" st_x_shortest_wait f fd) (b : L2.Binds m.K fd ps_x_shortest_wait []) (Mo : MetX m C8.CX0 1 C "most" (sp_sgmost m C) []) : Cal m 2 "_shortest_wait" (sp_lwait m C shortW) := by
  refine cal_of F b sc_x_shortest_wait (fun vs H Q E h => by obtain ⟨_, _, _, _, _, _, _, rfl, _⟩ := h; rfl) fun X vs H Q E hA h => ?_
  obtain ⟨i, v, z, zs, mo, rs, r, rfl, st, ⟨T, d, rfl, hT, -, hd⟩, hz, k⟩ := h
  obtain ⟨n0, n1, n2, n3, n4, n5, n6⟩ := nv_x_shortest_wait
  obtain ⟨kz, lo, hi⟩ := r
  walk_at "B"
  refine s_three hA (pg_nl hA n3) (pg_nl hA n4) (pg_nl hA n5) ?_
  walk_at "V"
  refine ⟨T, _, _, _, rfl, .inl (.inl hT), ?_⟩
  walk_at "B"
  have ge : ∀ H', Grow m.T H H' → ∃ dx fs, H' i = some (.ins C dx fs) ∧ fs.lookup ("most" : Str) = none := fun H' g => by
    obtain ⟨dx, la, lr, vs, h1, _⟩ := st.grow g (fun _ _ z => z) (fun z => z)
    exact ⟨dx, _, h1, rfl⟩
  refine s_nl hA n6 ?_
  refine wE.mono (Q := fun v H1 => ∃ p, v = .ref p ∧ Grow m.T H H1 ∧ H1 p = some (.lst ((match lo with | none => [] | some h => [h - hrs kz z]).map V.int))) ?_ ?_
  · walk_at "V"
    cases lo with
    | none =>
      refine iteT ?_
      walk_at "V"
      exact ⟨by walk_at "S", fun p hp => ⟨p, rfl, Grow.new hp, upd_same⟩⟩
    | some h =>
      refine iteF ?_
      walk_at "V"
      refine g_ixD hA (.inl ⟨_, .inr z, .inl hd, rfl, (hrs_get hz).symm⟩) ?_
      refine g_subI (i := h) ?_
      walk_at "V"
      exact ⟨by walk_at "S", fun p hp => ⟨p, rfl, Grow.new hp, upd_same⟩⟩
  · rintro v H1 ⟨p, rfl, g1, hp⟩
    walk_at "B"
    walk_at "V"
    refine w_maxD hA hmax rfl ?_
    walk_at "V"
    have st1 := st.grow g1 (fun _ _ z => z) (fun z => z)
    obtain ⟨dx, fs, hi1, hf1⟩ := ge H1 g1
    refine w_met0 (E := C8.E0) hA Mo (by omega) C8.pass0 ?_
    walk_at "V"
    refine ⟨i, dx, fs, rfl, hi1, hf1, i, zs, mo, rs, rfl, st1, ?_⟩
    walk_at "V"
    have ln : (match lo with | none => [] | some h => [h - hrs kz z] : List Int).length ≤ 1 := by cases lo <;> simp
    have kk : ∀ H', Grow m.T H H' → Q (optV (shortW mo (kz, lo, hi) z)) H' := k
    unfold shortW at kk
    cases mo with
    | none =>
      refine iteT ?_
      walk_at "V"
      refine ⟨by walk_at "S", fun p2 hp2 => ?_⟩
      have g2 := Grow.new (T := m.T) (o := .lst []) hp2
      have hpp : p ≠ p2 := fun w => by rw [← w, hp] at hp2; cases hp2
      refine g_cat (g2.extN _ _ hp (fun _ z => by cases z)) upd_same (by rw [List.length_map, sizeLine_eq]; show _ + 0 ≤ _; omega) fun p3 hp3 => ?_
      walk_at "V"
      refine ⟨p3, _, rfl, rfl, SqL.of (by rw [upd_same, List.append_nil]), ?_⟩
      rw [List.append_nil] at kk
      exact kk _ ((g1.trans g2).trans (Grow.new hp3))
    | some q =>
      refine iteF ?_
      walk_at "V"
      refine ⟨by walk_at "S", fun p2 hp2 => ?_⟩
      have g2 := Grow.new (T := m.T) (o := .lst [.int 0]) hp2
      refine g_cat (g2.extN _ _ hp (fun _ z => by cases z)) upd_same (by rw [List.length_map, sizeLine_eq]; show _ + 1 ≤ _; omega) fun p3 hp3 => ?_
      walk_at "V"
      refine ⟨p3, _, rfl, rfl, SqL.of (by rw [upd_same]; exact congrArg (fun l => some (HO.lst l)) (List.map_append (f := V.int) (l₂ := [0])).symm), ?_⟩
      exact kk _ ((g1.trans g2).trans (Grow.new hp3))

def sp_stands (m : Md) (C : Addr) : Sp := fun vs H Q _ => ∃ (i : Addr) (v w : V) (z : Str) (zs : List Str) (mo : Option Int) (rs : List Rw) (r o : Rw), vs = [.ref i, .str z, v, w] ∧ SgAt C Any H i zs mo rs ∧ RowA Any H v r ∧ RowA Any H w o ∧ (r.1.lookup z).isSome = true ∧ (o.1.lookup z).isSome = true ∧ ∀ H', Grow m.T H H' → Q (.bl (standB mo r o z)) H'
theorem c_x_stands {m : Md} {C f : Addr} {fd : FuncData} (F : C8.Def m.K m.mg "_stands" st_x_stands f fd) (b : L2.Binds m.K fd ps_x_stands []) (Lo : Cal m 2 "_longest_wait" (sp_lwait m C longW)) (Sh : Cal m 2 "_shortest_wait" (sp_lwait m C shortW)) : Cal m 3 "_stands" (sp_stands m C) := by
  refine cal_of F b sc_x_stands (fun vs H Q E h => by obtain ⟨_, _, _, _, _, _, _, _, _, rfl, _⟩ := h; rfl) fun X vs H Q E hA h => ?_
  obtain ⟨i, v, w, z, zs, mo, rs, r, o, rfl, st, hv, hw, z1, z2, k⟩ := h
  obtain ⟨n0, n1, n2, n3, n4, n5⟩ := nv_x_stands
  walk_at "B"
  walk_at "V"
  refine w_call hA Lo (by omega) rfl ?_
  walk_at "V"
  refine ⟨i, v, z, zs, mo, rs, r, rfl, st, hv, z1, fun H1 g1 => ?_⟩
  walk_at "B"
  walk_at "V"
  refine w_call hA Sh (by omega) rfl ?_
  walk_at "V"
  refine ⟨i, w, z, zs, mo, rs, o, rfl, st.grow g1 (fun _ _ z => z) (fun z => z), hw.grow g1 (fun _ _ z => z), z2, fun H2 g2 => ?_⟩
  have kk := k H2 (g1.trans g2)
  unfold standB at kk
  walk_at "B"
  walk_at "V"
  cases h1 : longW mo r z with
  | none => rw [h1] at kk; exact iteT kk
  | some a =>
    refine iteF ?_
    walk_at "V"
    cases h2 : shortW mo o z with
    | none => rw [h1, h2] at kk; exact iteT kk
    | some c =>
      rw [h1, h2] at kk
      refine iteF ?_
      walk_at "V"
      exact g_leI (i := c) (j := a) kk
/-! V8: standing_names -/
theorem Paired.concat {α β : Type} {F : α → β → Prop} {as : List α} {bs : List β} {a : α} {b : β} (p : Paired F as bs) (h : F a b) : Paired F (as ++ [a]) (bs ++ [b]) := Paired.snoc p h
/-- the pairs of places, in order: t whole rows of n, then u of the next -/
def prs (n t u : Nat) : List (Nat × Nat) := (List.range t).flatMap (fun a => (List.range n).map fun b => (a, b)) ++ (List.range u).map fun b => (t, b)
theorem prs_next (n t u : Nat) : prs n t (u + 1) = prs n t u ++ [(t, u)] := by unfold prs; rw [List.range_succ, List.map_append, ← List.append_assoc]; rfl
theorem prs_row (n t : Nat) : prs n (t + 1) 0 = prs n t n := by unfold prs; rw [List.range_succ, List.flatMap_append]; simp
theorem prs_mem {n t u : Nat} {p : Nat × Nat} (h : p ∈ prs n t u) : p.1 < t ∨ p.1 = t ∧ p.2 < u := by
  unfold prs at h
  rcases List.mem_append.1 h with h | h
  · obtain ⟨a, ha, hb⟩ := List.mem_flatMap.1 h
    obtain ⟨b, _, rfl⟩ := List.mem_map.1 hb
    exact .inl (List.mem_range.1 ha)
  · obtain ⟨b, hb, rfl⟩ := List.mem_map.1 h
    exact .inr ⟨rfl, List.mem_range.1 hb⟩
theorem prs_len (n t u : Nat) : (prs n t u).length = t * n + u := by
  unfold prs
  rw [List.length_append, List.length_map, List.length_range, List.length_flatMap]
  simp [List.map_const']
/-- who stands between two rows -/
def std (zs : List Str) (mo : Option Int) (rs : List Rw) (p : Nat × Nat) : List Str := zs.filter (standB mo (rs.getD p.1 ([], none, none)) (rs.getD p.2 ([], none, none)))
/-- an entry of standing_names -/
def Ent (zs : List Str) (mo : Option Int) (rs : List Rw) (H : Hp) (e : List Key × V) (p : Nat × Nat) : Prop := e.1 = [.inl (p.1 : Int), .inl (p.2 : Int)] ∧ ∃ l, e.2 = .ref l ∧ H l = some (.lst ((std zs mo rs p).map V.str))
theorem Ent.grow {zs : List Str} {mo : Option Int} {rs : List Rw} {T : List (Addr × Str)} {S : Addr → Prop} {H H' : Hp} {e : List Key × V} {p : Nat × Nat} (h : Ent zs mo rs H e p) (g : GrowX T S H H') (n : ∀ a xs, H a = some (.lst xs) → ¬ S a) : Ent zs mo rs H' e p := by
  obtain ⟨h1, l, h2, h3⟩ := h
  exact ⟨h1, l, h2, g.ext _ _ (n l _ h3) h3 (fun _ z => by cases z)⟩
theorem ents_new {zs : List Str} {mo : Option Int} {rs : List Rw} {H : Hp} {n t u : Nat} {kvs : List (List Key × V)} {v : V} (h : Paired (Ent zs mo rs H) kvs (prs n t u)) : putK kvs [.inl (t : Int), .inl (u : Int)] v = kvs ++ [([.inl (t : Int), .inl (u : Int)], v)] := by
  unfold putK
  rw [if_neg]
  intro c
  obtain ⟨kv, hk, e⟩ := List.any_eq_true.1 c
  obtain ⟨j, hj⟩ := List.mem_iff_getElem?.1 hk
  obtain ⟨p, hp, e1, _⟩ := Paired.get2 h j kv hj
  have hm := prs_mem (List.mem_of_getElem? hp)
  rw [decide_eq_true_eq] at e
  rw [e1] at e
  have e2 : (p.1 : Int) = t := by injection e with a _; injection a
  have e3 : (p.2 : Int) = u := by injection e with _ b; injection b with b _; injection b
  omega
def SInv (m : Md) (H : Hp) (S D : Addr) (ws : List V) (zs : List Str) (mo : Option Int) (rs : List Rw) (t u : Nat) (H' : Hp) : Prop := Grow m.T H H' ∧ H' S = some (.lst ws) ∧ RowsA Any H' ws rs ∧ ∃ kvs, H' D = some (.dT kvs) ∧ Paired (Ent zs mo rs H') kvs (prs rs.length t u)
theorem SInv.grow {m : Md} {H : Hp} {S D : Addr} {ws : List V} {zs : List Str} {mo : Option Int} {rs : List Rw} {t u : Nat} {H' H'' : Hp} (h : SInv m H S D ws zs mo rs t u H') (g : Grow m.T H' H'') : SInv m H S D ws zs mo rs t u H'' := by
  obtain ⟨h1, h2, h3, kvs, h4, h5⟩ := h
  exact ⟨h1.trans g, g.extN _ _ h2 (fun _ z => by cases z), h3.grow g (fun _ _ z => z), kvs, g.extN _ _ h4 (fun _ z => by cases z), Paired.imp2 h5 fun _ _ e => e.grow g fun _ _ _ z => z⟩
def sp_snames (m : Md) (C : Addr) : Sp := fun vs H Q _ => ∃ (i : Addr) (zs : List Str) (mo : Option Int) (rs : List Rw), vs = [.ref i] ∧ SgAt C Any H i zs mo rs ∧ SgOk zs mo rs ∧ rs.length ≤ 60 ∧ ∀ (D : Addr) (H' : Hp) (kvs : List (List Key × V)), Grow m.T H H' → New H D → H' D = some (.dT kvs) → Paired (Ent zs mo rs H') kvs (prs rs.length rs.length 0) → Q (.ref D) H'
theorem c_standing_names {m : Md} {C f : Addr} {fd : FuncData} (R : SgC m C) (hen : m.mg "enumerate" = none) (F : C8.Def m.K m.mg "standing_names" st_standing_names f fd) (b : L2.Binds m.K fd ps_standing_names []) (Na : MetX m C8.CX0 1 C "names" (sp_sgnames m C) []) (Ro : MetX m C8.CX0 1 C "rows" (sp_sgrows m C) []) (Sd : Cal m 3 "_stands" (sp_stands m C)) : Cal m 4 "standing_names" (sp_snames m C) := by
  refine cal_ofM F b sc_standing_names (fun vs H Q E h => by obtain ⟨_, _, _, _, rfl, _⟩ := h; rfl) fun X vs H Q E hA hM h => ?_
  obtain ⟨i, zs, mo, rs, rfl, st, ok, hz, k⟩ := h
  replace hA : At m nl_standing_names (C8.fnScope st_standing_names) 3 X := hA
  obtain ⟨n1, n2, n3, n4, n0, n5, n6⟩ := nv_standing_names
  have ge : ∀ H', Grow m.T H H' → ∃ dx fs, H' i = some (.ins C dx fs) ∧ fs.lookup ("rows" : Str) = none ∧ fs.lookup ("names" : Str) = none := fun H' g => by
    obtain ⟨dx, la, lr, vs, h1, _⟩ := st.grow g (fun _ _ z => z) (fun z => z)
    exact ⟨dx, _, h1, rfl, rfl⟩
  walk_at "B"
  refine s_nl hA n1 ?_
  refine w_met0 (E := C8.E0) hA Ro (by omega) C8.pass0 ?_
  walk_at "V"
  obtain ⟨dx, fs, hi0, hf0, -⟩ := ge H GrowX.refl
  refine ⟨i, dx, fs, rfl, hi0, hf0, i, zs, mo, rs, rfl, st, ok.len, fun S H1 ws g1 nS hS hw => ?_⟩
  have lw := paired_len hw
  walk_at "B"
  refine s_nl hA n2 (toE pe_dnewT fun D hD => ?_)
  have nD : New H D := g1.keep _ hD
  have gD := Grow.new (T := m.T) (o := .dT []) hD
  have hSD : S ≠ D := fun z => by rw [← z, hS] at hD; cases hD
  walk_at "B"
  refine s_forEn hA (pg_tup hA.calm (pgs_cons (pg_nl hA n3) (pgs_cons (pg_nc hA n5 hM.fn) pgs_nil (by with_unfolding_all rfl)) (by with_unfolding_all rfl)) (by with_unfolding_all rfl) (by with_unfolding_all rfl)) hen rfl ?_
  walk_at "V"
  have hr1 : RowsA Any H1 ws rs := Paired.imp2 hw fun v r z => z.mono fun _ _ => trivial
  have i0 : SInv m H S D ws zs mo rs 0 0 (upd H1 D (.dT [])) := by
    have hr2 : RowsA Any (upd H1 D (.dT [])) ws rs := RowsA.grow hr1 gD (fun _ _ z => z)
    exact ⟨g1.trans gD, by rw [upd_ne hSD]; exact hS, hr2, [], upd_same, .nil⟩
  refine ⟨S, ws, rfl, SqL.of i0.2.1, fun t σ H' => (∃ u3 u4 u5 u6 u7, σ = [some (.ref i), some (.ref S), some (.ref D), u3, u4, u5, u6, u7]) ∧ SInv m H S D ws zs mo rs t 0 H', ⟨⟨_, _, _, _, _, rfl⟩, i0⟩, fun t σ H' _ hp => SqL.of hp.2.2.1, ?_, ?_⟩
  · rintro t z T σ H' hzt ⟨⟨u3, u4, u5, u6, u7, rfl⟩, iv⟩ hT
    have ivT := iv.grow (Grow.new (o := .tup [.int (t : Nat), z]) hT)
    refine ⟨T, [.int (t : Nat), z], rfl, .inl (.inl upd_same), rfl, .int (t : Nat), [z], rfl, z, [], rfl, rfl, ?_⟩
    generalize upd H' T (.tup [.int (t : Nat), z]) = H2 at ivT ⊢
    have htl : t < rs.length := by have := (List.getElem?_eq_some_iff.1 hzt).1; omega
    have hrt : rs[t]? = some rs[t] := List.getElem?_eq_getElem htl
    refine b_one ?_
    refine s_forEn hA (pg_tup hA.calm (pgs_cons (pg_nl hA n4) (pgs_cons (pg_nc hA n6 hM.fn) pgs_nil (by with_unfolding_all rfl)) (by with_unfolding_all rfl)) (by with_unfolding_all rfl) (by with_unfolding_all rfl)) hen rfl ?_
    walk_at "V"
    refine ⟨S, ws, rfl, SqL.of ivT.2.1, fun u σ H' => (∃ u4 u6 u7, σ = [some (.ref i), some (.ref S), some (.ref D), some (.int (t : Nat)), u4, some z, u6, u7]) ∧ SInv m H S D ws zs mo rs t u H', ⟨⟨_, _, _, rfl⟩, ivT⟩, fun u σ H' _ hp => SqL.of hp.2.2.1, ?_, ?_⟩
    · rintro u y T2 σ H3 hyu ⟨⟨v4, v6, v7, rfl⟩, iv3⟩ hT2
      have iv4 := iv3.grow (Grow.new (o := .tup [.int (u : Nat), y]) hT2)
      refine ⟨T2, [.int (u : Nat), y], rfl, .inl (.inl upd_same), rfl, .int (u : Nat), [y], rfl, y, [], rfl, rfl, ?_⟩
      generalize upd H3 T2 (.tup [.int (u : Nat), y]) = H4 at iv4 ⊢
      have hul : u < rs.length := by have := (List.getElem?_eq_some_iff.1 hyu).1; omega
      have hru : rs[u]? = some rs[u] := List.getElem?_eq_getElem hul
      refine b_one ?_
      refine s_dput hA ?_
      refine w_lcLi hA (by decide +kernel) (i := 7) ⟨rfl, rfl⟩ ?_
      refine w_met0 (E := C8.E0) hA Na (by omega) C8.pass0 ?_
      walk_at "V"
      obtain ⟨dx, fs, hi4, -, hf4⟩ := ge H4 iv4.1
      refine ⟨i, dx, fs, rfl, hi4, hf4, i, zs, mo, rs, rfl, st.grow iv4.1 (fun _ _ z => z) (fun z => z), fun N H5 g5 nN hN => ?_⟩
      refine ⟨N, _, rfl, SqL.of hN, fun L hL => ?_⟩
      have hNL : N ≠ L := fun z => by rw [← z, hN] at hL; cases hL
      refine ⟨fun j H' => Grow m.T H5 H' ∧ H' L = some (.lst (((zs.take j).filter (standB mo rs[t] rs[u])).map V.str)), ⟨Grow.new hL, upd_same⟩, fun j H' _ hp => SqL.of (hp.1.extN _ _ hN (fun _ z => by cases z)), ?_, ?_⟩
      · rintro j x H6 hx ⟨g6, h6⟩ X' hX'
        have c0 := nc_of hX' 0 "sights"
        have c5 := nc_of hX' 5 "row"
        have c6 := nc_of hX' 6 "other"
        have c7 := nl_of hX' 7 "name"
        rw [List.getElem?_map] at hx
        obtain ⟨q, hq, rfl⟩ := Option.map_eq_some_iff.1 hx
        have hjl : j < zs.length := (List.getElem?_eq_some_iff.1 hq).1
        have hzl := ok.nm.len
        have iv6 := (iv4.grow g5).grow g6
        have mq := List.mem_of_getElem? hq
        walk_at "V"
        refine w_call hX' Sd (by omega) rfl ?_
        walk_at "V"
        obtain ⟨r1, e1, ra1⟩ := Paired.get2 iv6.2.2.1 t z hzt
        obtain ⟨r2, e2, ra2⟩ := Paired.get2 iv6.2.2.1 u y hyu
        have er1 : rs[t] = r1 := Option.some.inj (hrt.symm.trans e1)
        have er2 : rs[u] = r2 := Option.some.inj (hru.symm.trans e2)
        refine ⟨i, z, y, q, zs, mo, rs, r1, r2, rfl, st.grow iv6.1 (fun _ _ z => z) (fun z => z), ra1, ra2, (ok.rw r1 (List.mem_of_getElem? e1)).all q mq, (ok.rw r2 (List.mem_of_getElem? e2)).all q mq, fun H7 g7 => ?_⟩
        have h7 := g7.extN _ _ h6 (fun _ z => by cases z)
        have tk : zs.take (j + 1) = zs.take j ++ [q] := by rw [List.take_succ, hq]; rfl
        rw [← er1, ← er2]
        walk_at "V"
        refine ite2 (fun hb => ?_) fun hb => ?_
        · intro X2 hX2
          have d7 := nl_of hX2 7 "name"
          walk_at "V"
          refine ⟨_, h7, ?_, Grow.intoNew (g6.trans g7) (GrowX.lst h7) (fun _ w => by rw [w]; exact hL), ?_⟩
          · rw [List.length_map, sizeLine_eq]
            have := List.length_filter_le (standB mo rs[t] rs[u]) (zs.take j)
            rw [List.length_take] at this
            omega
          · rw [upd_same, tk, List.filter_append, List.map_append, List.filter_cons_of_pos hb]; rfl
        · refine ⟨g6.trans g7, ?_⟩
          rw [h7, tk, List.filter_append, List.filter_cons_of_neg hb]; simp
      · rintro H6 ⟨g6, h6⟩
        rw [List.take_of_length_le (by rw [List.length_map]; exact Nat.le_refl _)] at h6
        have iv6 := (iv4.grow g5).grow g6
        walk_at "V"
        refine ⟨by walk_at "S", fun p hp => ?_⟩
        have gp := Grow.new (T := m.T) (o := .tup [.int (t : Nat), .int (u : Nat)]) hp
        have iv7 := iv6.grow gp
        have h7 := gp.extN _ _ h6 (fun _ z => by cases z)
        obtain ⟨i1, i2, i3, kvs, i4, i5⟩ := id iv7
        have lk := paired_len i5
        rw [prs_len] at lk
        have hmul : t * rs.length ≤ 60 * 60 := Nat.mul_le_mul (by omega) hz
        refine ⟨D, _, rfl, .inr ⟨kvs, [.inl (t : Int), .inl (u : Int)], p, i4, rfl, upd_same, by rw [lk, sizeLine_eq]; omega, rfl⟩, ?_⟩
        rw [ents_new i5]
        generalize upd H6 p (.tup [.int (t : Nat), .int (u : Nat)]) = H8 at *
        have gs : GrowX m.T (· = D) H8 (upd H8 D (.dT (kvs ++ [([.inl (t : Int), .inl (u : Int)], .ref L)]))) := GrowX.set rfl i4 (fun _ z => by cases z) (fun _ z => by unfold CodeO at z; cases z) (fun _ z => by cases z) (fun _ _ z => by cases z)
        have nr : ∀ (v : V) (r : Rw), RowA Any H8 v r → RowA (fun a => a ≠ D) H8 v r := by
          rintro v r ⟨T, d, e, hT, -, hd⟩
          exact ⟨T, d, e, hT, (fun z => by rw [z, i4] at hd; cases hd), hd⟩
        refine ⟨⟨_, _, _, rfl⟩, Grow.intoNew i1 gs (fun c z => by rw [z]; exact nD), by rw [upd_ne hSD]; exact i2, Paired.imp2 (RowsA.grow (Paired.imp2 i3 nr) gs (fun _ z => z)) fun v r z => z.mono fun _ _ => trivial, _, upd_same, ?_⟩
        rw [prs_next]
        have nl : ∀ a xs, H8 a = some (.lst xs) → ¬ a = D := fun a xs e z => by rw [z, i4] at e; cases e
        refine Paired.snoc (Paired.imp2 i5 fun _ _ e => e.grow gs nl) ⟨rfl, L, rfl, ?_⟩
        rw [upd_ne (nl L _ h7), h7]
        unfold std
        rw [List.getD_eq_getElem?_getD, List.getD_eq_getElem?_getD, hrt, hru]
        rfl
    · rintro σ H3 ⟨⟨v4, v6, v7, rfl⟩, iv3⟩
      refine ⟨⟨_, _, _, _, _, rfl⟩, ?_⟩
      rw [lw] at iv3
      have := prs_row rs.length t
      unfold SInv at iv3 ⊢
      rw [this]
      exact iv3
  · rintro σ H' ⟨⟨u3, u4, u5, u6, u7, rfl⟩, iv⟩
    walk_at "B"
    walk_at "V"
    obtain ⟨j1, j2, j3, kvs, j4, j5⟩ := iv
    rw [lw] at j5
    exact k D H' kvs j1 nD j4 j5
/-! V9: clashes, clash, fits -/
def clP (zs : List Str) (mo : Option Int) (rs : List Rw) : List (Nat × Nat) := (prs rs.length rs.length 0).filter fun p => (std zs mo rs p).isEmpty
def PairR (H : Hp) (x : V) (p : Nat × Nat) : Prop := ∃ b, x = .ref b ∧ H b = some (.tup [.int (p.1 : Nat), .int (p.2 : Nat)])
theorem PairR.grow {T : List (Addr × Str)} {S : Addr → Prop} {H H' : Hp} {x : V} {p : Nat × Nat} (h : PairR H x p) (g : GrowX T S H H') : PairR H' x p := by
  obtain ⟨b, e, hb⟩ := h
  exact ⟨b, e, g.tup _ _ hb⟩
def sp_clashes (m : Md) (C : Addr) : Sp := fun vs H Q _ => ∃ (i : Addr) (zs : List Str) (mo : Option Int) (rs : List Rw), vs = [.ref i] ∧ SgAt C Any H i zs mo rs ∧ SgOk zs mo rs ∧ rs.length ≤ 60 ∧ ∀ (L : Addr) (H' : Hp) (xs : List V), Grow m.T H H' → New H L → H' L = some (.lst xs) → Paired (PairR H') xs (clP zs mo rs) → Q (.ref L) H'
theorem c_clashes {m : Md} {C f : Addr} {fd : FuncData} (F : C8.Def m.K m.mg "clashes" st_clashes f fd) (b : L2.Binds m.K fd ps_clashes []) (Sn : Cal m 4 "standing_names" (sp_snames m C)) : Cal m 5 "clashes" (sp_clashes m C) := by
  refine cal_of F b sc_clashes (fun vs H Q E h => by obtain ⟨_, _, _, _, rfl, _⟩ := h; rfl) fun X vs H Q E hA h => ?_
  obtain ⟨i, zs, mo, rs, rfl, st, ok, hz, k⟩ := h
  have n0 := nv_clashes
  walk_at "B"
  walk_at "V"
  refine w_lcItT hA (by decide +kernel) (i := 1) (j := 2) ⟨rfl, rfl⟩ ⟨rfl, rfl⟩ ?_
  refine w_call hA Sn (by omega) rfl ?_
  walk_at "V"
  refine ⟨i, zs, mo, rs, rfl, st, ok, hz, fun d H1 kvs g1 nd hd hk => ⟨d, kvs, rfl, hd, fun od D hD => ?_⟩⟩
  have lk := paired_len hk
  rw [prs_len] at lk
  have hmul : rs.length * rs.length ≤ 60 * 60 := Nat.mul_le_mul hz hz
  have gf : GrowX m.T (· = d) H1 (upd H1 d (.frz od (.dT kvs))) := GrowX.set rfl hd (fun _ z => by cases z) (fun _ z => by unfold CodeO at z; cases z) (fun _ z => by cases z) (fun _ _ z => by cases z)
  have g2 : Grow m.T H (upd H1 d (.frz od (.dT kvs))) := Grow.intoNew g1 gf (fun c z => by rw [z]; exact nd)
  have hd2 : (upd H1 d (.frz od (.dT kvs))) d = some (.frz od (.dT kvs)) := upd_same
  have hk2 : Paired (Ent zs mo rs (upd H1 d (.frz od (.dT kvs)))) kvs (prs rs.length rs.length 0) := Paired.imp2 hk fun _ _ e => e.grow gf fun a xs ea z => by rw [z, hd] at ea; cases ea
  generalize upd H1 d (.frz od (.dT kvs)) = H2 at *
  have hdD : d ≠ D := fun z => by rw [← z, hd2] at hD; cases hD
  refine ⟨fun t H' => Grow m.T H2 H' ∧ ∃ xs, H' D = some (.lst xs) ∧ xs.length ≤ t ∧ Paired (PairR H') xs (((prs rs.length rs.length 0).take t).filter fun p => (std zs mo rs p).isEmpty), ⟨Grow.new hD, [], upd_same, Nat.le_refl _, .nil⟩, fun t H' _ hp => hp.1.extN _ _ hd2 (fun _ z => by cases z), ?_, ?_⟩
  · rintro t ks w b T H' ht ⟨g3, xs, hx, lx, px⟩ hb hT X' hX'
    have c1 := nl_of hX' 1 "pair"
    have c2 := nl_of hX' 2 "names"
    have htl : t < kvs.length := (List.getElem?_eq_some_iff.1 ht).1
    obtain ⟨p, hp, e1, l, e2, hl⟩ := Paired.get2 hk2 t (ks, w) ht
    have e1' : ks = [.inl (p.1 : Int), .inl (p.2 : Int)] := e1
    have e2' : w = .ref l := e2
    subst e1' e2'
    have tk : (prs rs.length rs.length 0).take (t + 1) = (prs rs.length rs.length 0).take t ++ [p] := by rw [List.take_succ, hp]; rfl
    have gT := Grow.new (T := m.T) (o := .tup [.ref b, .ref l]) hT
    have hx3 := gT.extN _ _ hx (fun _ z => by cases z)
    have hb3 := gT.extN _ _ hb (fun _ z => by cases z)
    have hl3 := Grow.extN (g3.trans gT) _ _ hl (fun _ z => by cases z)
    have g4 := g3.trans gT
    have px3 := Paired.imp2 px fun _ _ e => e.grow gT
    generalize upd H' T (.tup [.ref b, .ref l]) = H3 at *
    walk_at "V"
    refine g_truL hX' (SqL.of hl3) ?_
    rw [List.isEmpty_map]
    refine ite2 (fun hb => ?_) fun hb => ?_
    · intro X2 hX2
      have d1 := nl_of hX2 1 "pair"
      have he : (std zs mo rs p).isEmpty = true := by simpa using hb
      walk_at "V"
      refine ⟨xs, hx3, by rw [sizeLine_eq]; omega, Grow.intoNew g4 (GrowX.lst hx3) (fun c z => by rw [z]; exact hD), xs ++ [.ref b], upd_same, by simp; omega, ?_⟩
      rw [tk, List.filter_append, List.filter_cons_of_pos (p := fun p => (std zs mo rs p).isEmpty) he]
      have gl : GrowX m.T (· = D) H3 (upd H3 D (.lst (xs ++ [.ref b]))) := GrowX.lst hx3
      exact Paired.snoc (Paired.imp2 px3 fun _ _ e => e.grow gl) ⟨b, rfl, gl.tup _ _ hb3⟩
    · refine ⟨g4, xs, hx3, by omega, ?_⟩
      rw [tk, List.filter_append, List.filter_cons_of_neg (p := fun p => (std zs mo rs p).isEmpty) (by simpa using hb)]
      simpa using px3
  · rintro H' ⟨g3, xs, hx, lx, px⟩
    rw [List.take_of_length_le (by rw [prs_len, lk]; exact Nat.le_refl _)] at px
    exact k D H' xs (g2.trans g3) (g2.keep _ hD) hx px
def ClashQ (m : Md) (H : Hp) (Q : VK) (ps : List (Nat × Nat)) : Prop := ∀ H', Grow m.T H H' → (ps = [] → Q .non H') ∧ ∀ (p : Nat × Nat) (b : Addr), ps.head? = some p → H' b = some (.tup [.int (p.1 : Nat), .int (p.2 : Nat)]) → Q (.ref b) H'
def sp_clash (m : Md) (C : Addr) : Sp := fun vs H Q _ => ∃ (i : Addr) (zs : List Str) (mo : Option Int) (rs : List Rw), vs = [.ref i] ∧ SgAt C Any H i zs mo rs ∧ SgOk zs mo rs ∧ rs.length ≤ 60 ∧ ClashQ m H Q (clP zs mo rs)
theorem c_clash {m : Md} {C f : Addr} {fd : FuncData} (F : C8.Def m.K m.mg "clash" st_clash f fd) (b : L2.Binds m.K fd ps_clash []) (Ns : Cal m 1 "need_sights" (sp_nsights m C)) (Cl : Cal m 5 "clashes" (sp_clashes m C)) : Cal m 6 "clash" (sp_clash m C) := by
  refine cal_of F b sc_clash (fun vs H Q E h => by obtain ⟨_, _, _, _, rfl, _⟩ := h; rfl) fun X vs H Q E hA h => ?_
  obtain ⟨i, zs, mo, rs, rfl, st, ok, hz, k⟩ := h
  obtain ⟨n0, n1⟩ := nv_clash
  walk_at "B"
  walk_at "V"
  refine w_call hA Ns (by omega) rfl ?_
  walk_at "V"
  obtain ⟨dx, la, lr, vs, h1, _⟩ := id st
  refine ⟨i, dx, _, rfl, h1, ?_⟩
  walk_at "B"
  walk_at "V"
  refine w_call hA Cl (by omega) rfl ?_
  walk_at "V"
  refine ⟨i, zs, mo, rs, rfl, st, ok, hz, fun L H1 xs g1 nL hL px => ?_⟩
  obtain ⟨k1, k2⟩ := k H1 g1
  walk_at "B"
  walk_at "V"
  refine g_truL hA (SqL.of hL) ?_
  cases hc : clP zs mo rs with
  | nil =>
    rw [hc] at px
    cases px
    refine iteF ?_
    walk_at "V"
    exact k1 hc
  | cons p ps =>
    rw [hc] at px
    cases px with | cons a r =>
    obtain ⟨bb, rfl, hbb⟩ := a
    refine iteT ?_
    walk_at "V"
    refine g_ixL hA (SqL.of hL) (atI_at (j := 0) rfl) ?_
    exact k2 p bb (by rw [hc]; rfl) hbb
def sp_fits (m : Md) (C : Addr) : Sp := fun vs H Q _ => ∃ (i : Addr) (zs : List Str) (mo : Option Int) (rs : List Rw), vs = [.ref i] ∧ SgAt C Any H i zs mo rs ∧ SgOk zs mo rs ∧ rs.length ≤ 60 ∧ ∀ H', Grow m.T H H' → Q (.bl (clP zs mo rs).isEmpty) H'
theorem c_fits {m : Md} {C f : Addr} {fd : FuncData} (F : C8.Def m.K m.mg "fits" st_fits f fd) (b : L2.Binds m.K fd ps_fits []) (Cl : Cal m 6 "clash" (sp_clash m C)) : Cal m 7 "fits" (sp_fits m C) := by
  refine cal_of F b sc_fits (fun vs H Q E h => by obtain ⟨_, _, _, _, rfl, _⟩ := h; rfl) fun X vs H Q E hA h => ?_
  obtain ⟨i, zs, mo, rs, rfl, st, ok, hz, k⟩ := h
  have n0 := nv_fits
  walk_at "B"
  walk_at "V"
  refine w_call hA Cl (by omega) rfl ?_
  walk_at "V"
  refine ⟨i, zs, mo, rs, rfl, st, ok, hz, fun H1 g1 => ⟨fun e => ?_, fun p bb e hb => ?_⟩⟩
  · walk_at "V"
    have kk := k H1 g1
    rw [e] at kk
    exact kk
  · walk_at "V"
    have kk := k H1 g1
    cases hc : clP zs mo rs with
    | nil => rw [hc] at e; cases e
    | cons _ _ => rw [hc] at kk; exact kk
/-! VA: check_clash -/
def prD (p : Nat × Nat) : PyData := .tuple [.int (p.1 : Nat), .int (p.2 : Nat)]
/-- what check_clash says of a thing -/
def chk (ps : List (Nat × Nat)) : PyData → Bool
  | .tuple ds => ds.all isCt && (ps.map prD).any fun z => z.eqv (.tuple ds)
  | _ => false
theorem ob_cts {K : PySem.W.Frag} {A : Addr → Prop} {H : Hp} : ∀ {xs : List V} {ds : List PyData}, ObAll K A H xs ds → ds.all isCt = true → DpAll K H xs ds ∧ PyData.canLayAll0 ds = true ∧ PyData.depthAll ds = 0
  | _, _, .nil, _ => ⟨.nil, rfl, rfl⟩
  | _, d :: ds, .cons a r, h => by
    rw [List.all_cons, Bool.and_eq_true] at h
    obtain ⟨h1, h2, h3⟩ := ob_cts r h.2
    cases a with
    | int i => exact ⟨.cons (.int i) h1, by simp [PyData.canLayAll0, PyData.canLay0, h2], by simp [PyData.depthAll, PyData.depth, h3]⟩
    | _ => simp [isCt] at h
theorem pairs_dp {K : PySem.W.Frag} {H : Hp} : ∀ {xs : List V} {ps : List (Nat × Nat)}, Paired (PairR H) xs ps → DpAll K H xs (ps.map prD) ∧ PyData.canLayAll0 (ps.map prD) = true ∧ PyData.depthAll (ps.map prD) ≤ 1
  | _, _, .nil => ⟨.nil, rfl, by simp [PyData.depthAll]⟩
  | _, p :: ps, .cons a r => by
    obtain ⟨h1, h2, h3⟩ := pairs_dp (K := K) r
    obtain ⟨b, rfl, hb⟩ := a
    refine ⟨.cons (.tup (.inl (.inl hb)) (.cons (.int _) (.cons (.int _) .nil))) h1, ?_, ?_⟩
    · simp [PyData.canLayAll0, PyData.canLay0, h2, prD]
    · simp [PyData.depthAll, PyData.depth, prD]; omega
theorem Grow.obX {T : List (Addr × Str)} {K : PySem.W.Frag} {A : Addr → Prop} {H H' : Hp} {v : V} {d : PyData} (g : Grow T H H') (o : Ob K A H v d) : Ob K A H' v d := Ob.mono (fun _ h => h) (fun a xs _ s => GrowX.seqL g s (fun z => z)) (fun a xs s => GrowX.seqT g s) (fun a kvs _ e => g.extN _ _ e (fun _ z => by cases z)) d v o
theorem Grow.obAllX {T : List (Addr × Str)} {K : PySem.W.Frag} {A : Addr → Prop} {H H' : Hp} {vs : List V} {ds : List PyData} (g : Grow T H H') (o : ObAll K A H vs ds) : ObAll K A H' vs ds := ObAll.mono (fun _ h => h) (fun a xs _ s => GrowX.seqL g s (fun z => z)) (fun a xs s => GrowX.seqT g s) (fun a kvs _ e => g.extN _ _ e (fun _ z => by cases z)) ds vs o
def sp_cclash (m : Md) (C : Addr) : Sp := fun vs H Q _ => ∃ (i : Addr) (v : V) (d : PyData) (zs : List Str) (mo : Option Int) (rs : List Rw), vs = [.ref i, v] ∧ SgAt C Any H i zs mo rs ∧ SgOk zs mo rs ∧ rs.length ≤ 60 ∧ Ob m.K Any H v d ∧ (∀ ds, d = .tuple ds → ds.length ≤ 1000) ∧ ∀ H', Grow m.T H H' → Q (.bl (chk (clP zs mo rs) d)) H'
theorem c_check_clash {m : Md} {C f : Addr} {fd : FuncData} (F : C8.Def m.K m.mg "check_clash" st_check_clash f fd) (b : L2.Binds m.K fd ps_check_clash []) (hi : m.mg "isinstance" = none) (h1 : m.mg "tuple" = none) (hall : m.mg "all" = none) (Ns : Cal m 1 "need_sights" (sp_nsights m C)) (Ct : Cal m 2 "is_count" (sp_is_count m)) (Cl : Cal m 5 "clashes" (sp_clashes m C)) : Cal m 6 "check_clash" (sp_cclash m C) := by
  refine cal_of F b sc_check_clash (fun vs H Q E h => by obtain ⟨_, _, _, _, _, _, rfl, _⟩ := h; rfl) fun X vs H Q E hA h => ?_
  obtain ⟨i, v, d, zs, mo, rs, rfl, st, ok, hz, o, hd, q⟩ := h
  obtain ⟨n0, n1⟩ := nv_check_clash
  walk_at "B"
  walk_at "V"
  refine w_call hA Ns (by omega) rfl ?_
  walk_at "V"
  obtain ⟨dx, la, lr, vs, hi1, _⟩ := id st
  refine ⟨i, dx, _, rfl, hi1, ?_⟩
  walk_at "B"
  walk_at "V"
  refine g_blt hA hi rfl bt_isinstance ?_
  walk_at "V"
  refine w_tyn hA h1 rfl bt_tuple ?_
  walk_at "V"
  refine g_isi hA (.ty "tuple") o.ty (kit_ty (kit_all "tuple" (by decide) d)) ?_
  walk_at "V"
  refine ite2 (fun h0 => ?_) fun h0 => ?_
  · have e : chk (clP zs mo rs) d = false := by
      cases d <;> first | rfl | simp [isIn, tyD] at h0
    rw [e] at q
    refine iteT ?_
    walk_at "V"
    exact q H GrowX.refl
  · obtain ⟨ds, rfl⟩ : ∃ ds, d = .tuple ds := by
      cases d <;> first | exact ⟨_, rfl⟩ | simp [isIn, tyD] at h0
    obtain ⟨a, xs, rfl, hs, da⟩ : ∃ a xs, v = .ref a ∧ SqT m.K H a xs ∧ ObAll m.K Any H xs ds := by
      cases o with | tup s r => exact ⟨_, _, rfl, s, r⟩
    have hz2 := hd ds rfl
    have hl := da.length
    walk_at "V"
    refine g_blt hA hall rfl bt_all ?_
    refine w_cons (w_lcT hA (by decide +kernel) (i := 2) ⟨rfl, rfl⟩ ?_)
    walk_at "V"
    refine ⟨a, xs, rfl, hs, fun D hD => ⟨fun j H' => Grow m.T H H' ∧ H' D = some (.lst (((ds.take j).map isCt).map V.bl)), ?_, ?_, ?_, ?_⟩⟩
    · exact ⟨Grow.new hD, upd_same⟩
    · rintro j H' _ ⟨g, _⟩
      exact GrowX.seqT g hs
    · rintro j x H' hx ⟨g, hv⟩ X' hX'
      have c1 := nl_of hX' 2 "at"
      obtain ⟨dj, hdj, oj⟩ := da.getV hx
      refine w_call hX' Ct (by omega) rfl ?_
      walk_at "V"
      refine ⟨x, dj, Any, rfl, Grow.obX g oj, ?_⟩
      have hjl := (List.getElem?_eq_some_iff.1 hx).1
      refine ⟨_, hv, by rw [List.length_map, List.length_map, List.length_take, sizeLine_eq]; omega, Grow.intoNew g (GrowX.lst hv) (fun _ w => by rw [w]; exact hD), ?_⟩
      rw [upd_same, List.take_add_one, hdj]
      simp
    · rintro H1 ⟨g1, hv⟩
      rw [hl, List.take_length] at hv
      walk_at "V"
      refine g_all hA (SqL.of hv) ?_
      have e : (ds.map isCt).all id = ds.all isCt := by rw [List.all_map]; rfl
      rw [e]
      walk_at "V"
      cases hc : ds.all isCt with
      | false =>
        refine iteT ?_
        walk_at "V"
        have kk : Q (.bl (ds.all isCt && ((clP zs mo rs).map prD).any fun z => z.eqv (.tuple ds))) H1 := q H1 g1
        rw [hc, Bool.false_and] at kk
        exact kk
      | true =>
        refine iteF (b_nil ?_)
        obtain ⟨dp, cl, de⟩ := ob_cts da hc
        walk_at "B"
        walk_at "V"
        refine w_call hA Cl (by omega) rfl ?_
        walk_at "V"
        refine ⟨i, zs, mo, rs, rfl, st.grow g1 (fun _ _ z => z) (fun z => z), ok, hz, fun L H2 ys g2 nL hL px => ?_⟩
        obtain ⟨p1, p2, p3⟩ := pairs_dp (K := m.K) px
        have g12 := g1.trans g2
        have dp2 : Dp m.K H2 (.ref a) (.tuple ds) := .tup (g12.seqT hs) ((ob_cts (K := m.K) (A := Any) (H := H2) (Grow.obAllX g12 da) hc).1)
        refine gOp.of (op_inD (by have := hA.room.un; omega)) ⟨.tuple ds, (clP zs mo rs).map prD, by rw [hA.kk]; exact dp2, by rw [hA.kk]; exact .lst (SqL.of hL) p1, ?_, ?_, ?_⟩
        · simp [SeqAt.shaped, PyData.canLay0, PyData.depth, cl, de]
        · simp [SeqAt.shaped, PyData.canLay0, PyData.depth, p2]; omega
        · have kk : Q (.bl (ds.all isCt && ((clP zs mo rs).map prD).any fun z => z.eqv (.tuple ds))) H2 := q H2 g12
          rw [hc, Bool.true_and] at kk
          exact kk
/-! VB: the law's copies of rows, and which row lies within another -/
def sp_lcopied (m : Md) : Sp := fun vs H Q _ => ∃ (a : Addr) (us : List V) (rs : List Rw), vs = [.ref a] ∧ SqL m.K H a us ∧ RowsA Any H us rs ∧ rs.length < 1000 ∧ ∀ (D : Addr) (H' : Hp) (ws : List V), Grow m.T H H' → New H D → H' D = some (.lst ws) → RowsA (New H) H' ws rs → Q (.ref D) H'
theorem c_copied {m : Md} {f : Addr} {fd : FuncData} (F : C8.Def m.K m.mg "_law_copied" st_copied f fd) (b : L2.Binds m.K fd ps_copied []) (hd : m.mg "dict" = none) : Cal m 1 "_law_copied" (sp_lcopied m) := by
  refine cal_of F b sc_copied (fun vs H Q E h => by obtain ⟨_, _, _, rfl, _⟩ := h; rfl) fun X vs H Q E hA h => ?_
  obtain ⟨a, us, rs, rfl, hs, hr, hz, k⟩ := h
  have n0 := nv_copied
  walk_at "B"
  walk_at "V"
  refine w_copy hA hd (by decide +kernel) (i := 1) (j := 2) (l := 3) ⟨rfl, rfl⟩ ⟨rfl, rfl⟩ ⟨rfl, rfl⟩ ?_
  walk_at "V"
  exact ⟨a, us, rs, rfl, hs, hr, by omega, fun D H2 ws g hD hw pw => k D H2 ws g hD hw pw⟩
/-- one lies within the other: each of its keys is there, with no less -/
def withinB (ka kb : List (Str × Int)) : Bool := ka.all fun p => (kb.lookup p.1).isSome && decide (p.2 ≤ hrs kb p.1)
def outs (ka kb : List (Str × Int)) : List Str := (ka.filter fun p => !((kb.lookup p.1).isSome && decide (p.2 ≤ hrs kb p.1))).map (·.1)
theorem outs_nil (ka kb : List (Str × Int)) : PyData.eqv (.list ((outs ka kb).map PyData.str)) (.list []) = withinB ka kb := by
  unfold withinB outs
  cases h : ka.all fun p => (kb.lookup p.1).isSome && decide (p.2 ≤ hrs kb p.1) with
  | true =>
    have e : ka.filter (fun p => !((kb.lookup p.1).isSome && decide (p.2 ≤ hrs kb p.1))) = [] := List.filter_eq_nil_iff.2 fun p hp => by
      rw [List.all_eq_true.1 h p hp]; simp
    rw [e]; rfl
  | false =>
    cases e : ka.filter (fun p => !((kb.lookup p.1).isSome && decide (p.2 ≤ hrs kb p.1))) with
    | nil =>
      have := List.filter_eq_nil_iff.1 e
      have : (ka.all fun p => (kb.lookup p.1).isSome && decide (p.2 ≤ hrs kb p.1)) = true := List.all_eq_true.2 fun p hp => by
        have := this p hp
        simpa using this
      rw [this] at h; cases h
    | cons p ps => rfl
def sp_within (m : Md) : Sp := fun vs H Q _ => ∃ (a b : Addr) (ka kb : List (Str × Int)), vs = [.ref a, .ref b] ∧ a ≠ b ∧ H a = some (.dK (hrK ka)) ∧ H b = some (.dK (hrK kb)) ∧ (ka.map (·.1)).Nodup ∧ (∀ p ∈ ka, IsName p.1) ∧ ka.length < 1000 ∧ ∀ H', Grow m.T H H' → Q (.bl (withinB ka kb)) H'
theorem strs_shaped {zs : List Str} (h : ∀ z ∈ zs, IsName z) : SeqAt.shaped (.list (zs.map PyData.str)) = true := by
  have h1 : PyData.canLayAll0 (zs.map PyData.str) = true := by
    induction zs with
    | nil => rfl
    | cons z zs ih =>
      have e : PyData.strOk z = true := by
        unfold PyData.strOk
        rw [Array.all_eq_true']
        intro c hc
        have := (h z (by simp)).2.2 c (by simpa using hc)
        simp; omega
      simp [PyData.canLayAll0, PyData.canLay0, e, ih fun y hy => h y (by simp [hy])]
  have h2 : PyData.depthAll (zs.map PyData.str) = 0 := by
    clear h h1
    induction zs with
    | nil => rfl
    | cons z zs ih => simp [PyData.depthAll, PyData.depth, ih]
  simp [SeqAt.shaped, PyData.canLay0, h1, PyData.depth, h2]
theorem strs_dpA {K : PySem.W.Frag} {H : Hp} : ∀ ys : List Str, DpAll K H (ys.map V.str) (ys.map PyData.str)
  | [] => .nil
  | y :: ys => .cons (.str y) (strs_dpA ys)
theorem outs_snoc (l : List (Str × Int)) (q : Str × Int) (kb : List (Str × Int)) : outs (l ++ [q]) kb = outs l kb ++ (if (!((kb.lookup q.1).isSome && decide (q.2 ≤ hrs kb q.1))) = true then [q.1] else []) := by
  unfold outs
  rw [List.filter_append, List.map_append]
  by_cases c : (!((kb.lookup q.1).isSome && decide (q.2 ≤ hrs kb q.1))) = true
  · rw [if_pos c, List.filter_cons_of_pos (p := fun p : Str × Int => !((kb.lookup p.1).isSome && decide (p.2 ≤ hrs kb p.1))) c]; rfl
  · rw [if_neg c, List.filter_cons_of_neg (p := fun p : Str × Int => !((kb.lookup p.1).isSome && decide (p.2 ≤ hrs kb p.1))) c]; rfl
theorem c_within {m : Md} {f : Addr} {fd : FuncData} (F : C8.Def m.K m.mg "_law_within" st_within f fd) (b : L2.Binds m.K fd ps_within []) : Cal m 1 "_law_within" (sp_within m) := by
  refine cal_of F b sc_within (fun vs H Q E h => by obtain ⟨_, _, _, _, rfl, _⟩ := h; rfl) fun X vs H Q E hA h => ?_
  obtain ⟨a, c, ka, kb, rfl, ne, ha, hb, nd, nm, lk, k⟩ := h
  obtain ⟨n0, n1⟩ := nv_within
  walk_at "B"
  walk_at "V"
  refine w_lcDki hA (by decide +kernel) (i := 2) ⟨rfl, rfl⟩ ⟨a, hrK ka, ha, fun od => ?_⟩
  have gf : GrowX m.T (· = a) H (upd H a (.frz od (.dK (hrK ka)))) := GrowX.set rfl ha (fun _ z => by cases z) (fun _ z => by unfold CodeO at z; cases z) (fun _ z => by cases z) (fun _ _ z => by cases z)
  walk_at "V"
  refine ⟨rfl, rfl, fun D hD => ?_⟩
  refine ⟨fun t H' => Grow m.T (upd H a (.frz od (.dK (hrK ka)))) H' ∧ H' D = some (.lst ((outs (ka.take t) kb).map V.str)), ⟨Grow.new hD, upd_same⟩, fun t H' _ hp => hp.1.frz _ _ _ upd_same, ?_, ?_⟩
  · rintro t p H' hp ⟨g, hv⟩ X' hX'
    have c0 := nc_of hX' 0 "_law_one"
    have c1 := nc_of hX' 1 "_law_other"
    have c2 := nl_of hX' 2 "_law_key"
    obtain ⟨q, hq, rfl⟩ := hrK_get hp
    have htl := (List.getElem?_eq_some_iff.1 hq).1
    have hb' : H' c = some (.dK (hrK kb)) := g.extN _ _ (by rw [upd_ne (Ne.symm ne)]; exact hb) (fun _ z => by cases z)
    have ha' : H' a = some (.frz od (.dK (hrK ka))) := g.frz _ _ _ upd_same
    have mq : q ∈ ka := List.mem_of_getElem? hq
    have tk : ka.take (t + 1) = ka.take t ++ [q] := by rw [List.take_succ, hq]; rfl
    walk_at "V"
    refine g_notInDR hX' (.inl hb') ?_
    rw [hrK_val, Option.isSome_map]
    have fin : (!((kb.lookup q.1).isSome && decide (q.2 ≤ hrs kb q.1))) = true → ∀ (X' : Cx), At m nl_within (relS { kind := ScopeKind.function, names := [(Str.ofString ".0", NameKind.local), (Str.ofString "_law_key", NameKind.local), (Str.ofString "_law_one", NameKind.free), (Str.ofString "_law_other", NameKind.free)], isGenerator := false, isCoroutine := false } (C8.fnScope st_within)) 0 X' → App D (fun H' => Grow m.T (upd H a (.frz od (.dK (hrK ka)))) H' ∧ H' D = some (.lst ((outs (ka.take (t + 1)) kb).map V.str))) (.str q.1) H' := by
      intro hb X2 hX2
      refine ⟨_, hv, ?_, Grow.intoNew g (GrowX.lst hv) (fun _ w => by rw [w]; exact hD), ?_⟩
      · have := List.length_filter_le (fun p => !((kb.lookup p.1).isSome && decide (p.2 ≤ hrs kb p.1))) (ka.take t)
        rw [List.length_take] at this
        rw [List.length_map, outs, List.length_map, sizeLine_eq]
        omega
      · rw [upd_same, tk, outs_snoc, if_pos hb, List.map_append]; rfl
    walk_at "V"
    refine ite2 (fun h0 => ?_) fun h0 => ?_
    · refine iteT fun X2 hX2 => ?_
      have d2 := nl_of hX2 2 "_law_key"
      walk_at "V"
      exact fin (by have h2 : (kb.lookup q.1).isSome = false := by cases hh : (kb.lookup q.1).isSome <;> simp [hh] at h0 ⊢
                    rw [h2]; rfl) X2 hX2
    · have hs : (kb.lookup q.1).isSome = true := by simpa using h0
      have hso : (ka.lookup q.1).isSome = true ∧ hrs ka q.1 = q.2 := by
        have := valV_mem nd (.inr q.1, .int q.2) (List.mem_map.2 ⟨q, mq, rfl⟩)
        rw [hrK_val] at this
        cases hl : ka.lookup q.1 with
        | none => rw [hl] at this; cases this
        | some i =>
          rw [hl] at this
          have e : i = q.2 := by injection this with this; injection this
          exact ⟨rfl, by rw [hrs, hl, ← e]; rfl⟩
      walk_at "V"
      refine g_ixD hX' (.inl ⟨_, .inr q.1, .inr ⟨_, ha'⟩, rfl, (hrs_get hso.1).symm⟩) ?_
      walk_at "V"
      refine g_ixD hX' (.inl ⟨_, .inr q.1, .inl hb', rfl, (hrs_get hs).symm⟩) ?_
      walk_at "V"
      rw [hso.2]
      refine ite2 (fun h1 => ?_) fun h1 => ?_
      · intro X2 hX2
        have d2 := nl_of hX2 2 "_law_key"
        walk_at "V"
        exact fin (by rw [hs]; simp at h1 ⊢; omega) X2 hX2
      · refine ⟨g, ?_⟩
        rw [hv, tk, outs_snoc, if_neg (by rw [hs]; simp at h1 ⊢; omega), List.append_nil]
  · rintro H' ⟨g, hv⟩
    rw [hrK_len, List.take_length] at hv
    obtain ⟨g1, -⟩ := Grow.unlock ha g
    have hDa : D ≠ a := fun z => by rw [z, upd_same] at hD; cases hD
    have hv1 : (upd H' a (.dK (hrK ka))) D = some (.lst ((outs ka kb).map V.str)) := by rw [upd_ne hDa]; exact hv
    generalize upd H' a (.dK (hrK ka)) = H2 at *
    walk_at "V"
    refine ⟨by walk_at "S", fun p hp => ?_⟩
    have gp := Grow.new (T := m.T) (o := .lst []) hp
    refine g_eqD hA (Dp.lst (SqL.of (gp.extN _ _ hv1 (fun _ z => by cases z))) (strs_dpA _)) (Dp.lst (SqL.of upd_same) .nil) (strs_shaped fun z hz => ?_) rfl ?_
    · obtain ⟨q, hq, rfl⟩ := List.mem_map.1 hz
      exact nm q (List.mem_filter.1 hq).1
    rw [outs_nil]
    exact k _ (g1.trans gp)
/-! VC: the hour that a row tells, and the first of all rows' -/
def mxI (ns : List Int) : Int := ns.max?.getD 0
def mnI (ns : List Int) : Int := ns.min?.getD 0
theorem mxI_eq {ns : List Int} {a : Int} (h1 : a ∈ ns) (h2 : ∀ y, y ∈ ns → y ≤ a) : mxI ns = a := by
  unfold mxI
  rw [List.max?_eq_some_iff.2 ⟨h1, h2⟩]; rfl
theorem mnI_eq {ns : List Int} {a : Int} (h1 : a ∈ ns) (h2 : ∀ y, y ∈ ns → a ≤ y) : mnI ns = a := by
  unfold mnI
  rw [List.min?_eq_some_iff.2 ⟨h1, h2⟩]; rfl
/-- what a row of waits tells at hours -/
def rowT (kr kh : List (Str × Int)) : Int := mxI (kr.map fun p => hrs kh p.1 + p.2)
def sp_rowhour (m : Md) : Sp := fun vs H Q _ => ∃ (a b : Addr) (kr kh : List (Str × Int)), vs = [.ref a, .ref b] ∧ a ≠ b ∧ H a = some (.dK (hrK kr)) ∧ H b = some (.dK (hrK kh)) ∧ (kr.map (·.1)).Nodup ∧ kr ≠ [] ∧ kr.length < 1000 ∧ (∀ p ∈ kr, (kh.lookup p.1).isSome = true) ∧ ∀ H', Grow m.T H H' → Q (.int (rowT kr kh)) H'
theorem c_row_hour {m : Md} {f : Addr} {fd : FuncData} (F : C8.Def m.K m.mg "_law_row_hour" st_row_hour f fd) (b : L2.Binds m.K fd ps_row_hour []) (hmax : m.mg "max" = none) : Cal m 1 "_law_row_hour" (sp_rowhour m) := by
  refine cal_of F b sc_row_hour (fun vs H Q E h => by obtain ⟨_, _, _, _, rfl, _⟩ := h; rfl) fun X vs H Q E hA h => ?_
  obtain ⟨a, c, kr, kh, rfl, ne, ha, hb, nd, nn, lk, al, k⟩ := h
  obtain ⟨n0, n1⟩ := nv_row_hour
  walk_at "B"
  walk_at "V"
  refine g_blt hA hmax rfl bt_max ?_
  refine w_cons (w_lcDk hA (by decide +kernel) (i := 2) ⟨rfl, rfl⟩ ⟨a, hrK kr, ha, fun od => ?_⟩)
  walk_at "V"
  refine ⟨rfl, rfl, fun D hD => ?_⟩
  refine ⟨fun t H' => Grow m.T (upd H a (.frz od (.dK (hrK kr)))) H' ∧ H' D = some (.lst (((kr.take t).map fun p => hrs kh p.1 + p.2).map V.int)), ⟨Grow.new hD, upd_same⟩, fun t H' _ hp => hp.1.frz _ _ _ upd_same, ?_, ?_⟩
  · rintro t p H' hp ⟨g, hv⟩ X' hX'
    have c0 := nc_of hX' 0 "_law_row"
    have c1 := nc_of hX' 1 "_law_hours"
    have c2 := nl_of hX' 2 "_law_key"
    obtain ⟨q, hq, rfl⟩ := hrK_get hp
    have htl := (List.getElem?_eq_some_iff.1 hq).1
    have hb' : H' c = some (.dK (hrK kh)) := g.extN _ _ (by rw [upd_ne (Ne.symm ne)]; exact hb) (fun _ z => by cases z)
    have ha' : H' a = some (.frz od (.dK (hrK kr))) := g.frz _ _ _ upd_same
    have mq : q ∈ kr := List.mem_of_getElem? hq
    have hso : (kr.lookup q.1).isSome = true ∧ hrs kr q.1 = q.2 := by
      have := valV_mem nd (.inr q.1, .int q.2) (List.mem_map.2 ⟨q, mq, rfl⟩)
      rw [hrK_val] at this
      cases hl : kr.lookup q.1 with
      | none => rw [hl] at this; cases this
      | some i =>
        rw [hl] at this
        have e : i = q.2 := by injection this with this; injection this
        exact ⟨rfl, by rw [hrs, hl, ← e]; rfl⟩
    walk_at "V"
    refine g_ixD hX' (.inl ⟨_, .inr q.1, .inl hb', rfl, (hrs_get (al q mq)).symm⟩) ?_
    walk_at "V"
    refine g_ixD hX' (.inl ⟨_, .inr q.1, .inr ⟨_, ha'⟩, rfl, (hrs_get hso.1).symm⟩) ?_
    walk_at "V"
    rw [hso.2]
    refine ⟨_, hv, by rw [List.length_map, List.length_map, List.length_take, sizeLine_eq]; omega, Grow.intoNew g (GrowX.lst hv) (fun _ w => by rw [w]; exact hD), ?_⟩
    rw [upd_same, List.take_succ, hq]
    simp
  · rintro H' ⟨g, hv⟩
    rw [hrK_len, List.take_length] at hv
    obtain ⟨g1, -⟩ := Grow.unlock ha g
    have hDa : D ≠ a := fun z => by rw [z, upd_same] at hD; cases hD
    have hv1 : (upd H' a (.dK (hrK kr))) D = some (.lst ((kr.map fun p => hrs kh p.1 + p.2).map V.int)) := by rw [upd_ne hDa]; exact hv
    generalize upd H' a (.dK (hrK kr)) = H2 at *
    walk_at "V"
    refine ⟨_, cr_max hA.calm, D, _, rfl, SqL.of hv1, by rw [List.length_map]; exact List.length_pos_iff.2 nn, fun mx m1 m2 => ?_⟩
    rw [← mxI_eq m1 m2]
    exact k _ g1
/-- rows of waits, as dicts in the heap -/
def LotA (H : Hp) (v : V) (kr : List (Str × Int)) : Prop := ∃ d, v = .ref d ∧ H d = some (.dK (hrK kr))
structure LotOk (zs : List Str) (kr : List (Str × Int)) : Prop where
  nd : (kr.map (·.1)).Nodup
  nn : kr ≠ []
  len : kr.length < 1000
  sub : ∀ p ∈ kr, p.1 ∈ zs
theorem LotA.grow {T : List (Addr × Str)} {H H' : Hp} {v : V} {kr : List (Str × Int)} (h : LotA H v kr) (g : Grow T H H') : LotA H' v kr := by
  obtain ⟨d, e, hd⟩ := h
  exact ⟨d, e, g.extN _ _ hd (fun _ z => by cases z)⟩
def firstT (krs : List (List (Str × Int))) (kh : List (Str × Int)) : Int := mnI (krs.map fun kr => rowT kr kh)
def sp_first (m : Md) : Sp := fun vs H Q _ => ∃ (a b : Addr) (us : List V) (krs : List (List (Str × Int))) (kh : List (Str × Int)) (zs : List Str), vs = [.ref a, .ref b] ∧ SqL m.K H a us ∧ Paired (LotA H) us krs ∧ (∀ u ∈ us, u ≠ .ref b) ∧ H b = some (.dK (hrK kh)) ∧ krs ≠ [] ∧ krs.length < 100000 ∧ (∀ kr ∈ krs, LotOk zs kr) ∧ (∀ z ∈ zs, (kh.lookup z).isSome = true) ∧ ∀ H', Grow m.T H H' → Q (.int (firstT krs kh)) H'
theorem c_first_told {m : Md} {f : Addr} {fd : FuncData} (F : C8.Def m.K m.mg "_law_first_told" st_first_told f fd) (b : L2.Binds m.K fd ps_first_told []) (hmin : m.mg "min" = none) (Rh : Cal m 1 "_law_row_hour" (sp_rowhour m)) : Cal m 2 "_law_first_told" (sp_first m) := by
  refine cal_of F b sc_first_told (fun vs H Q E h => by obtain ⟨_, _, _, _, _, _, rfl, _⟩ := h; rfl) fun X vs H Q E hA h => ?_
  obtain ⟨a, c, us, krs, kh, zs, rfl, hs, hp, ne, hb, nn, lk, ok, al, k⟩ := h
  obtain ⟨n0, n1⟩ := nv_first_told
  have lu := paired_len hp
  walk_at "B"
  walk_at "V"
  refine g_blt hA hmin rfl bt_min ?_
  refine w_cons (w_lcL hA (by decide +kernel) (i := 2) ⟨rfl, rfl⟩ ?_)
  walk_at "V"
  refine ⟨a, us, rfl, hs, fun D hD => ?_⟩
  refine ⟨fun t H' => Grow m.T H H' ∧ H' D = some (.lst (((krs.take t).map fun kr => rowT kr kh).map V.int)), ⟨Grow.new hD, upd_same⟩, fun t H' _ hp => hp.1.seqL hs (fun z => z), ?_, ?_⟩
  · rintro t x H' hx ⟨g, hv⟩ X' hX'
    have c1 := nc_of hX' 1 "_law_hours"
    have c2 := nl_of hX' 2 "_law_row"
    obtain ⟨kr, hk, d, rfl, hd⟩ := Paired.get2 hp t x hx
    have htl := (List.getElem?_eq_some_iff.1 hk).1
    have mk := List.mem_of_getElem? hk
    have o := ok kr mk
    refine w_call hX' Rh (by omega) rfl ?_
    walk_at "V"
    refine ⟨d, c, kr, kh, rfl, fun z => ne _ (List.mem_of_getElem? hx) (by rw [z]), g.extN _ _ hd (fun _ z => by cases z), g.extN _ _ hb (fun _ z => by cases z), o.nd, o.nn, o.len, fun p hp => al _ (o.sub p hp), fun H5 g5 => ?_⟩
    have hv5 := g5.extN _ _ hv (fun _ w => by cases w)
    refine ⟨_, hv5, by rw [List.length_map, List.length_map, List.length_take, sizeLine_eq]; omega, Grow.intoNew (g.trans g5) (GrowX.lst hv5) (fun _ w => by rw [w]; exact hD), ?_⟩
    rw [upd_same, List.take_succ, hk]
    simp
  · rintro H' ⟨g, hv⟩
    rw [List.take_of_length_le (by omega)] at hv
    walk_at "V"
    refine ⟨_, cr_min hA.calm, D, _, rfl, SqL.of hv, by rw [List.length_map]; exact List.length_pos_iff.2 nn, fun mn m1 m2 => ?_⟩
    rw [← mnI_eq m1 m2]
    exact k _ g
/-! VD: what the law draws -/
def sp_spot (m : Md) : Sp := fun vs H Q _ => ∃ (p : Addr) (n : Nat), vs = [.ref p] ∧ Purse H p n ∧ n ≤ 2 ^ 38 ∧ ∀ (w : Int) (H' : Hp), -1 ≤ w → w ≤ 6 → Drew m p n 40 H H' → Q (.int w) H'
theorem c_spot {m : Md} {f : Addr} {fd : FuncData} (F : C8.Def m.K m.mg "_law_spot" st_spot f fd) (b : L2.Binds m.K fd ps_spot []) (D : Cal m 2 "_law_draw" (sp_draw m)) (O : Cal m 3 "_law_one_of" (sp_one_of m)) : Cal m 4 "_law_spot" (sp_spot m) := by
  refine cal_of F b sc_spot (fun vs H Q E h => by obtain ⟨_, _, rfl, _⟩ := h; rfl) fun X vs H Q E hA h => ?_
  obtain ⟨p, n, rfl, hp, hn, k⟩ := h
  have n0 := nv_spot
  walk_at "B"
  walk_at "V"
  refine w_call hA O (by omega) rfl ?_
  walk_at "V"
  refine w_call hA D (by omega) rfl ?_
  walk_at "V"
  refine ⟨p, n, _, rfl, hp, by omega, by omega, by omega, fun r1 H1 q1 q2 d1 => ?_⟩
  walk_at "V"
  refine ⟨by walk_at "S", fun l1 hl1 => ?_⟩
  have hlp : l1 ≠ p := fun w => by obtain ⟨_, e⟩ := d1.purse.at_; rw [← w, hl1] at e; cases e
  walk_at "V"
  have e1 := d1.post (Grow.new (o := .lst [.int 0, .int 0, .int 1, .int 2, .int 3, .int 4, .int (-1), .int r1]) hl1)
  refine ⟨p, _, l1, _, rfl, e1.purse, by omega, SqL.of upd_same, hlp, by show 0 < 8; omega, by show 8 < 1000000; omega, fun j v H6 hv d6 => ?_⟩
  obtain ⟨w, rfl, w1, w2⟩ : ∃ w : Int, v = .int w ∧ -1 ≤ w ∧ w ≤ 6 := by
    have hm := List.mem_of_getElem? hv
    simp only [List.mem_cons, List.not_mem_nil, or_false] at hm
    rcases hm with h | h | h | h | h | h | h | h <;> exact ⟨_, h, by omega, by omega⟩
  exact k w H6 w1 w2 ((e1.trans d6).mono (by omega))
/-! VE: the law's bounds -/
def sp_bounds (m : Md) : Sp := fun vs H Q _ => ∃ (mo : Option Int) (v : V) (z : Str) (r : Rw), vs = [optV mo, v, .str z] ∧ RowA Any H v r ∧ (r.1.lookup z).isSome = true ∧ ∀ (l : Addr) (H' : Hp), Grow m.T H H' → New H l → H' l = some (.lst [optV (shortW mo r z), optV (longW mo r z)]) → Q (.ref l) H'
theorem c_bounds {m : Md} {f : Addr} {fd : FuncData} (F : C8.Def m.K m.mg "_law_bounds" st_bounds f fd) (b : L2.Binds m.K fd ps_bounds []) (hmax : m.mg "max" = none) (hmin : m.mg "min" = none) : Cal m 1 "_law_bounds" (sp_bounds m) := by
  refine cal_of F b sc_bounds (fun vs H Q E h => by obtain ⟨_, _, _, _, rfl, _⟩ := h; rfl) fun X vs H Q E hA h => ?_
  obtain ⟨mo, v, z, r, rfl, ⟨T, d, rfl, hT, -, hd⟩, hz, k⟩ := h
  obtain ⟨n0, n1, n2, n3, n4, n5, n6, n7⟩ := nv_bounds
  obtain ⟨kz, lo, hi⟩ := r
  walk_at "B"
  refine s_three hA (pg_nl hA n3) (pg_nl hA n4) (pg_nl hA n5) ?_
  walk_at "V"
  refine ⟨T, _, _, _, rfl, .inl (.inl hT), ?_⟩
  walk_at "B"
  refine s_nl hA n6 ?_
  refine wE.mono (Q := fun v H1 => H1 = H ∧ v = optV (lo.map fun h => h - hrs kz z)) ?_ ?_
  · walk_at "V"
    cases lo with
    | none => refine iteT ?_; walk_at "V"; exact ⟨rfl, rfl⟩
    | some h =>
      refine iteF ?_
      walk_at "V"
      refine g_ixD hA (.inl ⟨_, .inr z, .inl hd, rfl, (hrs_get hz).symm⟩) ?_
      exact g_subI (i := h) ⟨rfl, rfl⟩
  rintro v H1 ⟨rfl, rfl⟩
  walk_at "B"
  refine s_nl hA n7 ?_
  refine wE.mono (Q := fun v H2 => H2 = H1 ∧ v = optV (hi.map fun h => h - hrs kz z)) ?_ ?_
  · walk_at "V"
    cases hi with
    | none => refine iteT ?_; walk_at "V"; exact ⟨rfl, rfl⟩
    | some h =>
      refine iteF ?_
      walk_at "V"
      refine g_ixD hA (.inl ⟨_, .inr z, .inl hd, rfl, (hrs_get hz).symm⟩) ?_
      exact g_subI (i := h) ⟨rfl, rfl⟩
  rintro v H1 ⟨rfl, rfl⟩
  walk_at "B"
  walk_at "V"
  cases mo with
  | none =>
    refine iteT ?_
    walk_at "V"
    refine ⟨by walk_at "S", fun l hl => k l _ (Grow.new hl) hl ?_⟩
    rw [upd_same]
    cases lo <;> cases hi <;> rfl
  | some q =>
    refine iteF (b_nil ?_)
    walk_at "B"
    walk_at "V"
    have fin : ∀ (x y : V), x = optV (shortW (some q) (kz, lo, hi) z) → y = optV (longW (some q) (kz, lo, hi) z) → [x, y].length ≤ sizeLine ∧ ∀ p, H1 p = none → Q (.ref p) (upd H1 p (.lst [x, y])) := fun x y e1 e2 => by
      refine ⟨by walk_at "S", fun l hl => k l _ (Grow.new hl) hl ?_⟩
      rw [upd_same, e1, e2]
    have second : ∀ x : V, x = optV (shortW (some q) (kz, lo, hi) z) → True := fun _ _ => trivial
    cases lo with
    | none =>
      refine iteF ?_
      walk_at "V"
      cases hi with
      | none =>
        refine iteF ?_
        walk_at "V"
        exact fin _ _ rfl rfl
      | some h =>
        refine iteT ?_
        walk_at "V"
        refine g_blt hA hmin rfl bt_min ?_
        walk_at "V"
        refine g_min2 (i := q) (j := h - hrs kz z) hA ?_
        walk_at "V"
        refine fin _ _ rfl ?_
        show V.int _ = V.int (if decide (q < h - hrs kz z) then q else h - hrs kz z)
        congr 1
        by_cases c : q < h - hrs kz z <;> simp [c] <;> omega
    | some g =>
      refine iteT ?_
      walk_at "V"
      refine g_blt hA hmax rfl bt_max ?_
      walk_at "V"
      refine g_max2 (i := 0) (j := g - hrs kz z) hA ?_
      have e1 : V.int (if g - hrs kz z > 0 then g - hrs kz z else 0) = optV (shortW (some q) (kz, some g, hi) z) := by
        show V.int _ = V.int (if decide ((0 : Int) > g - hrs kz z) then 0 else g - hrs kz z)
        congr 1
        by_cases c : (0 : Int) > g - hrs kz z <;> simp [c] <;> omega
      walk_at "V"
      cases hi with
      | none =>
        refine iteF ?_
        walk_at "V"
        exact fin _ _ e1 rfl
      | some h =>
        refine iteT ?_
        walk_at "V"
        refine g_blt hA hmin rfl bt_min ?_
        walk_at "V"
        refine g_min2 (i := q) (j := h - hrs kz z) hA ?_
        walk_at "V"
        refine fin _ _ e1 ?_
        show V.int _ = V.int (if decide (q < h - hrs kz z) then q else h - hrs kz z)
        congr 1
        by_cases c : q < h - hrs kz z <;> simp [c] <;> omega
/-! VF: who stands by the law, and its pairs -/
def sp_lstand (m : Md) : Sp := fun vs H Q _ => ∃ (a : Addr) (mo : Option Int) (v w : V) (zs : List Str) (r o : Rw), vs = [.ref a, optV mo, v, w] ∧ SqL m.K H a (zs.map V.str) ∧ zs.length < 1000 ∧ RowA Any H v r ∧ RowA Any H w o ∧ (∀ z ∈ zs, (r.1.lookup z).isSome = true ∧ (o.1.lookup z).isSome = true) ∧ ∀ (l : Addr) (H' : Hp), Grow m.T H H' → New H l → H' l = some (.lst ((zs.filter (standB mo r o)).map V.str)) → Q (.ref l) H'
theorem c_standing {m : Md} {f : Addr} {fd : FuncData} (F : C8.Def m.K m.mg "_law_standing" st_standing f fd) (b : L2.Binds m.K fd ps_standing []) (Bo : Cal m 1 "_law_bounds" (sp_bounds m)) : Cal m 2 "_law_standing" (sp_lstand m) := by
  refine cal_of F b sc_standing (fun vs H Q E h => by obtain ⟨_, _, _, _, _, _, _, rfl, _⟩ := h; rfl) fun X vs H Q E hA h => ?_
  obtain ⟨a, mo, v, w, zs, r, o, rfl, ha, lz, hv, hw, al, k⟩ := h
  obtain ⟨n0, n1, n2, n3, n4, n5, n6, n7⟩ := nv_standing
  walk_at "B"
  walk_at "V"
  refine ⟨by walk_at "S", fun D hD => ?_⟩
  have g0 := Grow.new (T := m.T) (o := .lst []) hD
  walk_at "B"
  refine s_forL hA (pg_nl hA n5) ?_
  walk_at "V"
  refine ⟨a, _, rfl, GrowX.seqL g0 ha (fun z => z), fun t σ H' => (∃ u5 u6 u7, σ = [some (.ref a), some (optV mo), some v, some w, some (.ref D), u5, u6, u7]) ∧ Grow m.T H H' ∧ H' D = some (.lst (((zs.take t).filter (standB mo r o)).map V.str)), ⟨⟨_, _, _, rfl⟩, g0, upd_same⟩, fun t σ H' _ hp => GrowX.seqL hp.2.1 ha (fun z => z), ?_, ?_⟩
  · rintro t x σ H' hx ⟨⟨u5, u6, u7, rfl⟩, g, hd⟩
    rw [List.getElem?_map] at hx
    obtain ⟨z, hz, rfl⟩ := Option.map_eq_some_iff.1 hx
    have mz := List.mem_of_getElem? hz
    have htl := (List.getElem?_eq_some_iff.1 hz).1
    walk_at "B"
    refine s_par hA n6 n7 ?_
    walk_at "V"
    refine w_call hA Bo (by omega) rfl ?_
    walk_at "V"
    refine ⟨mo, w, z, o, rfl, hw.grow g (fun _ _ z => z), (al z mz).2, fun l1 H1 g1 _ h1 => ?_⟩
    walk_at "V"
    refine g_ixL hA (SqL.of h1) (atI_at (j := 0) rfl) ?_
    walk_at "V"
    refine w_call hA Bo (by omega) rfl ?_
    walk_at "V"
    refine ⟨mo, v, z, r, rfl, hv.grow (g.trans g1) (fun _ _ z => z), (al z mz).1, fun l2 H2 g2 _ h2 => ?_⟩
    walk_at "V"
    refine g_ixL hA (SqL.of h2) (atI_at (j := 1) rfl) ?_
    walk_at "V"
    refine ⟨_, _, rfl, ?_⟩
    have hd2 := g2.extN _ _ (g1.extN _ _ hd (fun _ z => by cases z)) (fun _ z => by cases z)
    have tk : zs.take (t + 1) = zs.take t ++ [z] := by rw [List.take_succ, hz]; rfl
    have lf : ((zs.take t).filter (standB mo r o)).length < 1000 := by
      have := List.length_filter_le (standB mo r o) (zs.take t)
      rw [List.length_take] at this
      omega
    have gg := (g.trans g1).trans g2
    walk_at "B"
    walk_at "V"
    cases h1 : shortW mo o z with
    | none =>
      refine iteT ?_
      walk_at "B"
      walk_at "V"
      refine g_append ?_
      walk_at "V"
      refine ⟨tyL hd2, ?_⟩
      walk_at "V"
      refine ⟨D, _, _, rfl, rfl, hd2, by rw [List.length_map, sizeLine_eq]; omega, ?_⟩
      refine b_nil (b_nil ⟨⟨_, _, _, rfl⟩, Grow.intoNew gg (GrowX.lst hd2) (fun _ w => by rw [w]; exact hD), ?_⟩)
      rw [upd_same, tk, List.filter_append, List.map_append, List.filter_cons_of_pos (p := standB mo r o) (by unfold standB; rw [h1]; cases longW mo r z <;> rfl)]; rfl
    | some a =>
      refine iteF ?_
      walk_at "V"
      cases h2 : longW mo r z with
      | none => 
        refine iteT ?_
        walk_at "B"
        walk_at "V"
        refine g_append ?_
        walk_at "V"
        refine ⟨tyL hd2, ?_⟩
        walk_at "V"
        refine ⟨D, _, _, rfl, rfl, hd2, by rw [List.length_map, sizeLine_eq]; omega, ?_⟩
        refine b_nil (b_nil ⟨⟨_, _, _, rfl⟩, Grow.intoNew gg (GrowX.lst hd2) (fun _ w => by rw [w]; exact hD), ?_⟩)
        rw [upd_same, tk, List.filter_append, List.map_append, List.filter_cons_of_pos (p := standB mo r o) (by unfold standB; rw [h1, h2])]; rfl
      | some c =>
        refine iteF ?_
        walk_at "V"
        refine g_leI (i := a) (j := c) ?_
        have eb : standB mo r o z = decide (a ≤ c) := by unfold standB; rw [h1, h2]
        refine ⟨_, rfl, ?_⟩
        refine ite2 (fun hb => ?_) fun hb => ?_
        · walk_at "B"
          walk_at "V"
          refine g_append ?_
          walk_at "V"
          refine ⟨tyL hd2, ?_⟩
          walk_at "V"
          refine ⟨D, _, _, rfl, rfl, hd2, by rw [List.length_map, sizeLine_eq]; omega, ?_⟩
          refine b_nil (b_nil ⟨⟨_, _, _, rfl⟩, Grow.intoNew gg (GrowX.lst hd2) (fun _ w => by rw [w]; exact hD), ?_⟩)
          rw [upd_same, tk, List.filter_append, List.map_append, List.filter_cons_of_pos (p := standB mo r o) (by rw [eb]; exact hb)]; rfl
        · refine b_nil (b_nil ⟨⟨_, _, _, rfl⟩, gg, ?_⟩)
          rw [hd2, tk, List.filter_append, List.filter_cons_of_neg (p := standB mo r o) (by rw [eb]; exact hb)]; simp
  · rintro σ H' ⟨⟨u5, u6, u7, rfl⟩, g, hd⟩
    rw [List.take_of_length_le (by rw [List.length_map]; exact Nat.le_refl _)] at hd
    walk_at "B"
    walk_at "V"
    exact k D H' g hD hd
def sp_lpairs (m : Md) : Sp := fun vs H Q _ => ∃ (a l : Addr) (mo : Option Int) (zs : List Str) (us : List V) (rs : List Rw), vs = [.ref a, optV mo, .ref l] ∧ SqL m.K H a (zs.map V.str) ∧ zs.length < 1000 ∧ SqL m.K H l us ∧ RowsA Any H us rs ∧ (∀ r ∈ rs, RowOk zs r) ∧ rs.length ≤ 60 ∧ ∀ (L : Addr) (H' : Hp) (xs : List V), Grow m.T H H' → New H L → H' L = some (.lst xs) → Paired (PairR H') xs (clP zs mo rs) → Q (.ref L) H'
theorem strs_nil (zs : List Str) : PyData.eqv (.list (zs.map PyData.str)) (.list []) = zs.isEmpty := by
  cases zs <;> rfl
theorem c_pairs {m : Md} {f : Addr} {fd : FuncData} (F : C8.Def m.K m.mg "_law_pairs" st_pairs f fd) (b : L2.Binds m.K fd ps_pairs []) (hr : m.mg "range" = none) (hlen : m.mg "len" = none) (St : Cal m 2 "_law_standing" (sp_lstand m)) : Cal m 3 "_law_pairs" (sp_lpairs m) := by
  refine cal_of F b sc_pairs (fun vs H Q E h => by obtain ⟨_, _, _, _, _, _, rfl, _⟩ := h; rfl) fun X vs H Q E hA h => ?_
  obtain ⟨a, l, mo, zs, us, rs, rfl, ha, lz, hl, hw, ok, lr, k⟩ := h
  obtain ⟨n0, n1, n2, n3, n4, n5⟩ := nv_pairs
  have lu := paired_len hw
  walk_at "B"
  walk_at "V"
  refine ⟨by walk_at "S", fun D hD => ?_⟩
  have g0 := Grow.new (T := m.T) (o := .lst []) hD
  let Pv : Nat → Nat → Hp → Prop := fun t u H' => Grow m.T H H' ∧ ∃ xs, H' D = some (.lst xs) ∧ Paired (PairR H') xs ((prs rs.length t u).filter fun p => (std zs mo rs p).isEmpty)
  walk_at "B"
  refine s_forR hA (pg_nl hA n4) hr rfl ?_
  walk_at "V"
  refine g_blt hA hlen rfl bt_len ?_
  walk_at "V"
  refine g_lenL hA (GrowX.seqL g0 hl (fun z => z)) ?_
  refine ⟨_, rfl, by omega, by omega, fun t σ H' => (∃ u4 u5, σ = [some (.ref a), some (optV mo), some (.ref l), some (.ref D), u4, u5]) ∧ Pv t 0 H', ⟨⟨_, _, rfl⟩, g0, [], upd_same, .nil⟩, ?_, ?_⟩
  · rintro t σ H1 ht ⟨⟨u4, u5, rfl⟩, iv⟩
    have ht : t < rs.length := by omega
    refine b_one ?_
    refine s_forR hA (pg_nl hA n5) hr rfl ?_
    walk_at "V"
    refine g_blt hA hlen rfl bt_len ?_
    walk_at "V"
    refine g_lenL hA (GrowX.seqL iv.1 hl (fun z => z)) ?_
    refine ⟨_, rfl, by omega, by omega, fun u σ H' => (∃ u5, σ = [some (.ref a), some (optV mo), some (.ref l), some (.ref D), some (.int (t : Nat)), u5]) ∧ Pv t u H', ⟨⟨_, rfl⟩, iv⟩, ?_, ?_⟩
    · rintro u σ H2 hu ⟨⟨u5, rfl⟩, g2, xs, hx, hp⟩
      have hu : u < rs.length := by omega
      walk_at "B"
      walk_at "V"
      refine w_call hA St (by omega) rfl ?_
      walk_at "V"
      have hl2 := GrowX.seqL g2 hl (fun z => z)
      have hw2 : RowsA Any H2 us rs := RowsA.grow hw g2 (fun _ _ z => z)
      have eu1 : us[t]? = some (us[t]'(by omega)) := List.getElem?_eq_getElem (by omega)
      have eu2 : us[u]? = some (us[u]'(by omega)) := List.getElem?_eq_getElem (by omega)
      refine g_ixL hA hl2 (atI_at eu1) ?_
      walk_at "V"
      refine g_ixL hA hl2 (atI_at eu2) ?_
      obtain ⟨r1, e1, ra1⟩ := Paired.get2 hw2 t _ eu1
      obtain ⟨r2, e2, ra2⟩ := Paired.get2 hw2 u _ eu2
      walk_at "V"
      refine ⟨a, mo, _, _, zs, r1, r2, rfl, GrowX.seqL g2 ha (fun z => z), lz, ra1, ra2, fun z hz => ⟨(ok r1 (List.mem_of_getElem? e1)).all z hz, (ok r2 (List.mem_of_getElem? e2)).all z hz⟩, fun M H3 g3 _ h3 => ?_⟩
      walk_at "V"
      refine ⟨by walk_at "S", fun p hp' => ?_⟩
      have gp := Grow.new (T := m.T) (o := .lst []) hp'
      have es : std zs mo rs (t, u) = zs.filter (standB mo r1 r2) := by
        unfold std
        rw [List.getD_eq_getElem?_getD, List.getD_eq_getElem?_getD, e1, e2]; rfl
      refine g_eqNil hA (SqL.of (gp.extN _ _ h3 (fun _ z => by cases z))) (SqL.of upd_same) ?_
      have g4 := g3.trans gp
      have hx4 := gp.extN _ _ (g3.extN _ _ hx (fun _ z => by cases z)) (fun _ z => by cases z)
      have hp4 : Paired (PairR (upd H3 p (.lst []))) xs ((prs rs.length t u).filter fun p => (std zs mo rs p).isEmpty) := Paired.imp2 hp fun _ _ e => e.grow g4
      have ei : (List.map V.str (zs.filter (standB mo r1 r2))).isEmpty = (std zs mo rs (t, u)).isEmpty := by
        rw [es]; cases zs.filter (standB mo r1 r2) <;> rfl
      rw [ei]
      generalize upd H3 p (.lst []) = H4 at *
      have g24 : Grow m.T H H4 := g2.trans g4
      refine ⟨_, rfl, ?_⟩
      refine ite2 (fun hb => ?_) fun hb => ?_
      · walk_at "B"
        walk_at "V"
        refine g_append ?_
        walk_at "V"
        refine ⟨tyL hx4, ?_⟩
        walk_at "V"
        refine ⟨by walk_at "S", fun T hT => ?_⟩
        have gT := Grow.new (T := m.T) (o := .tup [.int (t : Nat), .int (u : Nat)]) hT
        have hx5 := gT.extN _ _ hx4 (fun _ z => by cases z)
        have lx := paired_len hp4
        have lf := List.length_filter_le (fun p => (std zs mo rs p).isEmpty) (prs rs.length t u)
        rw [prs_len] at lf
        have hmul : t * rs.length ≤ 60 * 60 := Nat.mul_le_mul (by omega) lr
        walk_at "V"
        refine ⟨D, _, _, rfl, rfl, hx5, by rw [sizeLine_eq]; omega, ?_⟩
        have gX := GrowX.lst (T := m.T) (ys := xs ++ [V.ref T]) hx5
        have g6 := Grow.intoNew (g24.trans gT) gX (fun _ w => by rw [w]; exact hD)
        refine b_nil (b_nil ⟨⟨_, rfl⟩, g6, _, upd_same, ?_⟩)
        rw [prs_next, List.filter_append, List.filter_cons_of_pos (p := fun p => (std zs mo rs p).isEmpty) hb]
        refine Paired.snoc (Paired.imp2 hp4 fun _ _ e => (e.grow gT).grow gX) ⟨T, rfl, ?_⟩
        exact gX.tup _ _ upd_same
      · refine b_nil (b_nil ⟨⟨_, rfl⟩, g24, xs, hx4, ?_⟩)
        rw [prs_next, List.filter_append, List.filter_cons_of_neg (p := fun p => (std zs mo rs p).isEmpty) hb]
        simpa using hp4
    · rintro σ H2 ⟨⟨u5, rfl⟩, iv2⟩
      refine ⟨⟨_, _, rfl⟩, ?_⟩
      have := prs_row rs.length t
      rw [show (us.length : Int).toNat = rs.length from by omega] at iv2
      simp only [Pv] at iv2 ⊢
      rw [this]
      exact iv2
  · rintro σ H1 ⟨⟨u4, u5, rfl⟩, g1, xs, hx, hp⟩
    walk_at "B"
    walk_at "V"
    rw [show (us.length : Int).toNat = rs.length from by omega] at hp
    exact k D H1 xs g1 hD hx hp
/-! VG: the law's hidden rows of waits -/
theorem putK_new {kvs : List (Key × V)} {k : Key} {v : V} (h : k ∉ kvs.map (·.1)) : putK kvs k v = kvs ++ [(k, v)] := by
  unfold putK
  rw [if_neg]
  intro c
  obtain ⟨q, hq, e⟩ := List.any_eq_true.mp c
  exact h (List.mem_map.2 ⟨q, hq, by simpa using e⟩)
theorem mergeK_nd : ∀ (more kvs : List (Key × V)), (more.map (·.1)).Nodup → (∀ q ∈ more, q.1 ∉ kvs.map (·.1)) → mergeK kvs more = kvs ++ more
  | [], kvs, _, _ => by simp [mergeK]
  | q :: more, kvs, n, h => by
    obtain ⟨n1, n2⟩ := List.nodup_cons.mp n
    have ih := mergeK_nd more (putK kvs q.1 q.2) n2 fun r hr => by
      rw [putK_new (h q List.mem_cons_self), List.map_append, List.mem_append]
      rintro (z | z)
      · exact h r (List.mem_cons_of_mem _ hr) z
      · have e : r.1 = q.1 := List.mem_singleton.mp z
        exact n1 (List.mem_map.2 ⟨r, hr, e⟩)
    show mergeK (putK kvs q.1 q.2) more = _
    rw [ih, putK_new (h q List.mem_cons_self), List.append_assoc]
    rfl
theorem inr_nodup {zs : List Str} (n : zs.Nodup) : (zs.map (Sum.inr : Str → Key)).Nodup := List.Pairwise.map _ (fun _ _ h e => h (by injection e)) n
theorem merge_hr {kz : List (Str × Int)} (n : (kz.map (·.1)).Nodup) : mergeK [] (hrK kz) = hrK kz := by
  have := mergeK_nd (hrK kz) [] (by rw [hrK_keys]; exact inr_nodup n) (fun _ _ h => by cases h)
  simpa using this
theorem Purse.ne {H : Hp} {p r : Addr} {n : Nat} (h : Purse H p n) (z : New H r) : r ≠ p := fun w => by
  obtain ⟨_, e⟩ := h.at_
  rw [← w, z] at e; cases e
def bigOk (mo : Option Int) : Prop := ∀ q, mo = some q → 0 ≤ q ∧ q < 2 ^ 190
def sp_hidden (m : Md) : Sp := fun vs H Q _ => ∃ (p : Addr) (n : Nat) (a : Addr) (zs : List Str) (mo : Option Int), vs = [.ref p, .ref a, optV mo] ∧ Purse H p n ∧ n ≤ 2 ^ 37 ∧ SqL m.K H a (zs.map V.str) ∧ a ≠ p ∧ zs.Nodup ∧ zs ≠ [] ∧ zs.length ≤ 8 ∧ bigOk mo ∧
  ∀ (D : Addr) (H' : Hp) (us : List V) (krs : List (List (Str × Int))), Drew m p n 440 H H' → New H D → H' D = some (.lst us) → Paired (LotA H') us krs → krs ≠ [] → krs.length ≤ 3 → (∀ kr ∈ krs, LotOk zs kr) → Q (.ref D) H'
theorem nodup_take_perm {xs ys : List V} {zs : List Str} (n : zs.Nodup) (e : xs = zs.map V.str) (p : ys.Perm xs) : ∃ ws : List Str, ys = ws.map V.str ∧ ws.Nodup ∧ (∀ w ∈ ws, w ∈ zs) ∧ ws.length = zs.length := by
  subst e
  have h : ∀ y ∈ ys, ∃ w ∈ zs, y = V.str w := fun y hy => by
    obtain ⟨w, h1, h2⟩ := List.mem_map.1 (p.mem_iff.1 hy)
    exact ⟨w, h1, h2.symm⟩
  let ws : List Str := ys.map fun y => match y with | .str w => w | _ => ⟨#[]⟩
  have e : ys = ws.map V.str := by
    have : ∀ y ∈ ys, V.str (match y with | .str w => w | _ => ⟨#[]⟩) = y := fun y hy => by
      obtain ⟨w, -, rfl⟩ := h y hy; rfl
    simp only [ws, List.map_map]
    conv => lhs; rw [← List.map_id ys]
    exact List.map_congr_left fun y hy => (this y hy).symm
  have pn : ys.Nodup := p.nodup_iff.2 (n.map _ fun a b ne e => ne (by injection e))
  refine ⟨ws, e, ?_, fun w hw => ?_, ?_⟩
  · rw [e] at pn
    exact List.Pairwise.of_map V.str (fun a b h e => h (by rw [e])) pn
  · obtain ⟨w', h1, h2⟩ := h (V.str w) (by rw [e]; exact List.mem_map.2 ⟨w, hw, rfl⟩)
    injection h2 with h2; rw [h2]; exact h1
  · have := p.length_eq
    have l2 := congrArg List.length e
    rw [List.length_map] at this l2
    omega
theorem grow_ext {T : List (Addr × Str)} {H H' : Hp} (e : ∀ b o, H b = some o → H' b = some o) : Grow T H H' :=
  ⟨fun b o _ h _ => e b o h, fun t => t.ext e, fun b z => by cases h : H b with | none => rfl | some o => (rw [e b o h] at z; cases z), fun b xs h => e b _ h, fun b o u h => e b _ h⟩
theorem c_hidden {m : Md} {f : Addr} {fd : FuncData} (F : C8.Def m.K m.mg "_law_hidden" st_hidden f fd) (b : L2.Binds m.K fd ps_hidden []) (hr : m.mg "range" = none) (hlen : m.mg "len" = none) (hd : m.mg "dict" = none) (hl : m.mg "list" = none) (hz : m.mg "zip" = none) (D : Cal m 2 "_law_draw" (sp_draw m)) (O : Cal m 3 "_law_one_of" (sp_one_of m)) (Sh : Cal m 3 "_law_shuffled" (sp_shuffled m)) : Cal m 4 "_law_hidden" (sp_hidden m) := by
  refine cal_ofM F b sc_hidden (fun vs H Q E h => by obtain ⟨_, _, _, _, _, rfl, _⟩ := h; rfl) fun X vs H Q E hA hM h => ?_
  obtain ⟨p, n, a, zs, mo, rfl, hp, hn, ha, hap, nd, nn, lz, bo, k⟩ := h
  replace hA : At m nl_hidden (C8.fnScope st_hidden) 3 X := hA
  obtain ⟨n1, n3, n4, n5, n6, n0, n2, n7⟩ := nv_hidden
  walk_at "B"
  walk_at "V"
  refine ⟨by walk_at "S", fun F0 hF0 => ?_⟩
  have g0 := Grow.new (T := m.T) (o := .lst []) hF0
  have hFp : F0 ≠ p := fun w => by obtain ⟨_, e⟩ := hp.at_; rw [← w, hF0] at e; cases e
  have hp1 := hp.new g0
  walk_at "B"
  refine s_forR hA (pg_nl hA n4) hr rfl ?_
  walk_at "V"
  refine w_call hA D (by omega) rfl ?_
  walk_at "V"
  refine ⟨p, n, 3, rfl, hp1, by omega, by omega, by decide, fun r0 H1 q1 q2 d1 => ?_⟩
  walk_at "V"
  have e1 : Drew m p n 8 H H1 := Drew.pre g0 d1
  have hF1 : H1 F0 = some (.lst []) := d1.grow.ext _ _ hFp upd_same (fun _ z => by cases z)
  refine ⟨by omega, by omega, fun t σ H' => (∃ u4 u5 u6 u7 u8, σ = [some (.ref p), some (.ref a), some (optV mo), some (.ref F0), u4, u5, u6, u7, u8]) ∧ Drew m p n (8 + 144 * t) H H' ∧ ∃ us krs, H' F0 = some (.lst us) ∧ Paired (LotA H') us krs ∧ krs.length = t ∧ ∀ kr ∈ krs, LotOk zs kr, ⟨⟨_, _, _, _, _, rfl⟩, e1, [], [], hF1, .nil, rfl, fun _ z => by cases z⟩, ?_, ?_⟩
  · rintro t σ H2 ht ⟨⟨u4, u5, u6, u7, u8, rfl⟩, d2, us, krs, hF2, hus, lk, ok⟩
    have ht : t < 3 := by omega
    walk_at "B"
    walk_at "V"
    refine w_sliceTo hA ?_
    walk_at "V"
    refine w_call hA Sh (by omega) rfl ?_
    walk_at "V"
    have ha2 : SqL m.K H2 a (zs.map V.str) := GrowX.seqL d2.grow ha hap
    refine ⟨p, _, a, _, rfl, d2.purse, by omega, ha2, hap, by rw [List.length_map]; omega, fun S ys H3 py d3 nS hS => ?_⟩
    obtain ⟨ws, rfl, wn, wm, wl⟩ := nodup_take_perm nd rfl py
    have D3 := d2.trans d3
    rw [List.length_map] at D3
    walk_at "V"
    refine w_call hA D (by omega) rfl ?_
    walk_at "V"
    refine g_blt hA hlen rfl bt_len ?_
    walk_at "V"
    refine g_lenL hA (GrowX.seqL d3.grow ha2 hap) ?_
    have lz0 : 0 < zs.length := List.length_pos_iff.2 nn
    walk_at "V"
    refine ⟨p, _, _, rfl, D3.purse, by omega, by rw [List.length_map]; omega, by rw [List.length_map]; omega, fun r1 H4 q3 q4 d4 => ?_⟩
    have D4 := D3.trans d4
    rw [List.length_map] at q4
    have hSp : S ≠ p := d2.purse.ne nS
    walk_at "V"
    have hS4 := d4.grow.ext _ _ hSp hS (fun _ z => by cases z)
    refine ⟨S, _, rfl, SqL.of hS4, fun W hW => ?_⟩
    have gW := Grow.new (T := m.T) (o := .lst (cutV (ws.map V.str) none (some (1 + r1)))) hW
    have D5 := D4.post gW
    have hWp : W ≠ p := D4.purse.ne hW
    obtain ⟨c, hc1, hc2, hc3⟩ : ∃ c : Nat, (1 + r1 : Int) = c ∧ 1 ≤ c ∧ c ≤ ws.length := ⟨(1 + r1).toNat, by omega, by omega, by omega⟩
    have ew : cutV (ws.map V.str) none (some (1 + r1)) = (ws.take c).map V.str := by rw [hc1, cutV_to (by rw [List.length_map]; exact hc3), List.map_take]
    rw [ew] at gW D5 ⊢
    have hW5 : (upd H4 W (.lst ((ws.take c).map V.str))) W = some (.lst ((ws.take c).map V.str)) := upd_same
    generalize upd H4 W (.lst ((ws.take c).map V.str)) = H5 at *
    walk_at "B"
    refine s_nc hA n7 hM.fn ?_
    refine w_call hA O (by omega) rfl ?_
    walk_at "V"
    refine g_powW (by decide) (by decide +kernel) ?_
    walk_at "V"
    refine g_powW (by decide) (by decide +kernel) ?_
    refine ⟨_, rfl, ?_⟩
    rw [show ((10 : Int) ^ (11 : Int).toNat) = 100000000000 from by decide +kernel, show ((10 : Int) ^ (9 : Int).toNat) = 1000000000 from by decide +kernel]
    walk_at "V"
    refine ⟨by walk_at "S", fun l0 hl0 => ?_⟩
    walk_at "V"
    have D6 := D5.post (Grow.new (T := m.T) (o := .lst [.int 0, .int 0, .int 0, .int 100000000000, .int (-1000000000)]) hl0)
    have hl0p : l0 ≠ p := D5.purse.ne hl0
    refine ⟨p, _, l0, _, rfl, D6.purse, by omega, SqL.of upd_same, hl0p, by show 0 < 5; omega, by show 5 < 1000000; omega, fun j v H6 hj d6 => ?_⟩
    have D7 := D6.trans d6
    have hW6 : H6 W = some (.lst ((ws.take c).map V.str)) := d6.grow.ext _ _ hWp (Grow.extN (Grow.new (T := m.T) hl0) _ _ hW5 (fun _ z => by cases z)) (fun _ z => by cases z)
    obtain ⟨far, rfl⟩ : ∃ w : Int, v = .int w := by
      have hm := List.mem_of_getElem? hj
      simp only [List.mem_cons, List.not_mem_nil, or_false] at hm
      rcases hm with h | h | h | h | h <;> exact ⟨_, h⟩
    walk_at "B"
    refine s_lcL hA n6 (by decide +kernel) (i := 8) ⟨rfl, rfl⟩ ?_
    walk_at "V"
    refine ⟨W, _, rfl, SqL.of hW6, fun Z hZ => ?_⟩
    have hZp : Z ≠ p := D7.purse.ne hZ
    have lwc : (ws.take c).length = c := by rw [List.length_take]; omega
    refine ⟨fun j H' => Drew m p (n + (8 + 144 * t + 8 * zs.length + 8 + 8)) (8 * j) H6 H' ∧ ∃ is : List Int, H' Z = some (.lst (is.map V.int)) ∧ is.length = j, ⟨(D7.purse.mono (by omega)).drew (Grow.new hZ), [], upd_same, rfl⟩, fun j H' _ hp' => GrowX.seqL hp'.1.grow (SqL.of hW6) hWp, ?_, ?_⟩
    · rintro j x H7 hx ⟨d7, is, hZ7, li⟩ X' hX'
      have c0 := nc_of hX' 0 "_law_purse_here"
      have c2 := nc_of hX' 2 "_law_most"
      have c7 := nc_of hX' 7 "_law_far"
      have hjl : j < c := by have := (List.getElem?_eq_some_iff.1 hx).1; rw [List.length_map] at this; omega
      have fin : ∀ (w : Int) (H8 : Hp), Drew m p (n + (8 + 144 * t + 8 * zs.length + 8 + 8) + 8 * j) 8 H7 H8 → App Z (fun H' => Drew m p (n + (8 + 144 * t + 8 * zs.length + 8 + 8)) (8 * (j + 1)) H6 H' ∧ ∃ is : List Int, H' Z = some (.lst (is.map V.int)) ∧ is.length = j + 1) (.int w) H8 := fun w H8 d8 => by
        have hZ8 := d8.grow.ext _ _ hZp hZ7 (fun _ z => by cases z)
        have gX := GrowX.lst (T := m.T) (ys := is.map V.int ++ [V.int w]) hZ8
        have e8 := (d7.trans d8).mono (show 8 * j + 8 ≤ 8 * (j + 1) by omega)
        exact ⟨_, hZ8, by rw [List.length_map, sizeLine_eq]; omega, ⟨e8.grow.into gX fun c z => .inl (by rw [z]; exact hZ), e8.purse.x gX (fun z => hZp z.symm)⟩, is ++ [w], by rw [upd_same, List.map_append]; rfl, by rw [List.length_append, li]; rfl⟩
      walk_at "V"
      cases mo with
      | none =>
        refine iteT ?_
        walk_at "V"
        refine w_call hX' D (by omega) rfl ?_
        walk_at "V"
        refine ⟨p, _, 6, rfl, d7.purse, by omega, by omega, by decide, fun r H8 _ _ d8 => ?_⟩
        walk_at "V"
        exact fin _ H8 d8
      | some q =>
        obtain ⟨b1, b2⟩ := bo q rfl
        refine iteF ?_
        walk_at "V"
        refine w_call hX' D (by omega) rfl ?_
        walk_at "V"
        refine g_addI (i := q) (j := 1) ?_
        walk_at "V"
        refine ⟨p, _, _, rfl, d7.purse, by omega, by omega, Int.lt_of_le_of_lt (show q + 1 ≤ 2 ^ 190 by omega) (by decide), fun r H8 _ _ d8 => ?_⟩
        exact fin _ H8 d8
    · rintro H7 ⟨d7, is, hZ7, li⟩
      rw [List.length_map, lwc] at d7 li
      walk_at "V"
      have lkr : (ws.take c).length = is.length := by omega
      have ek1 : ((ws.take c).zip is).map (·.1) = ws.take c := List.map_fst_zip (by omega)
      have ek2 : ((ws.take c).zip is).map (·.2) = is := List.map_snd_zip (by omega)
      generalize hkr : (ws.take c).zip is = kr at ek1 ek2
      have nkr : (kr.map (·.1)).Nodup := by rw [ek1]; exact wn.sublist (List.take_sublist _ _)
      have lkr2 : kr.length = c := by have := congrArg List.length ek1; rw [List.length_map] at this; omega
      refine g_append ?_
      walk_at "V"
      have D8 := D7.trans (d7.mono (show 8 * c ≤ 64 by omega))
      have hF7 : H7 F0 = some (.lst us) := d7.grow.ext _ _ hFp (d6.grow.ext _ _ hFp ((Grow.new (T := m.T) hl0).extN _ _ (gW.extN _ _ (d4.grow.ext _ _ hFp (d3.grow.ext _ _ hFp hF2 (fun _ z => by cases z)) (fun _ z => by cases z)) (fun _ z => by cases z)) (fun _ z => by cases z)) (fun _ z => by cases z)) (fun _ z => by cases z)
      have hW7 : H7 W = some (.lst ((ws.take c).map V.str)) := d7.grow.ext _ _ hWp hW6 (fun _ z => by cases z)
      refine ⟨tyL hF7, ?_⟩
      refine w_cons (g_typ hA hd rfl bt_dict (w_cons ?_))
      refine w_listZip hA hl rfl hz rfl ?_
      walk_at "V"
      refine ⟨W, Z, hrK kr, rfl, ?_, ?_, by rw [hrK_len, sizeLine_eq]; omega, fun H8 P ts x8 hP hts nP hP8 hp8 => ?_⟩
      · have e : (hrK kr).map (fun q => kV q.1) = (ws.take c).map V.str := by rw [← ek1]; simp only [hrK, List.map_map]; rfl
        rw [e]; exact SqL.of hW7
      · have e : (hrK kr).map (fun q => q.2) = is.map V.int := by rw [← ek2]; simp [hrK]
        rw [e]; exact SqL.of hZ7
      have g8 : Grow m.T H7 H8 := grow_ext x8
      walk_at "V"
      refine g_dictP hA (SqL.of hP8) (Paired.imp2 hp8 fun _ _ e => SqT.of e) fun d hd8 => ?_
      rw [merge_hr nkr]
      have gd := Grow.new (T := m.T) (o := .dK (hrK kr)) hd8
      have hd9 : (upd H8 d (.dK (hrK kr))) d = some (.dK (hrK kr)) := upd_same
      have hF9 : (upd H8 d (.dK (hrK kr))) F0 = some (.lst us) := gd.extN _ _ (x8 _ _ hF7) (fun _ z => by cases z)
      have D9 := (D8.post g8).post gd
      generalize upd H8 d (.dK (hrK kr)) = H9 at *
      walk_at "V"
      have lus := paired_len hus
      refine ⟨F0, us, _, rfl, rfl, hF9, by rw [sizeLine_eq]; omega, ?_⟩
      have gX := GrowX.lst (T := m.T) (ys := us ++ [V.ref d]) hF9
      have D10 : Drew m p n (8 + 144 * t + 8 * zs.length + 8 + 8 + 64) H (upd H9 F0 (.lst (us ++ [V.ref d]))) := ⟨D9.grow.into gX fun c z => .inl (by rw [z]; exact hF0), D9.purse.x gX (fun z => hFp z.symm)⟩
      have G9 : GrowX m.T (fun b => b = p) H2 H9 := d3.grow.trans (d4.grow.trans (gW.to.trans ((Grow.new hl0).to.trans (d6.grow.trans (d7.grow.trans (g8.to.trans gd.to))))))
      have mv9 : ∀ (v : V) (kr : List (Str × Int)), LotA H2 v kr → LotA H9 v kr := by
        rintro v kr ⟨d, e, hd⟩
        exact ⟨d, e, G9.ext _ _ (fun z => by obtain ⟨_, w⟩ := d2.purse.at_; rw [z, w] at hd; cases hd) hd (fun _ z => by cases z)⟩
      have hus9 : Paired (LotA H9) us krs := Paired.imp2 hus mv9
      refine ⟨⟨_, _, _, _, _, rfl⟩, D10.mono (by omega), us ++ [V.ref d], krs ++ [kr], upd_same, ?_, by rw [List.length_append, lk]; rfl, ?_⟩
      · have mv : ∀ (v : V) (kr : List (Str × Int)), LotA H9 v kr → LotA (upd H9 F0 (.lst (us ++ [V.ref d]))) v kr := by
          rintro v kr ⟨d, e, hd⟩
          exact ⟨d, e, gX.ext _ _ (fun z => by rw [z, hF9] at hd; cases hd) hd (fun _ z => by cases z)⟩
        exact Paired.snoc (Paired.imp2 hus9 mv) (mv _ _ ⟨d, rfl, hd9⟩)
      · intro kr' hk'
        rcases List.mem_append.1 hk' with h | h
        · exact ok kr' h
        · rw [List.mem_singleton.1 h]
          refine ⟨nkr, fun z => by rw [z] at lkr2; simp at lkr2; omega, by omega, fun q hq => ?_⟩
          have : q.1 ∈ kr.map (·.1) := List.mem_map.2 ⟨q, hq, rfl⟩
          rw [ek1] at this
          exact wm _ (List.mem_of_mem_take this)
  · rintro σ H2 ⟨⟨u4, u5, u6, u7, u8, rfl⟩, d2, us, krs, hF2, hus, lk, ok⟩
    walk_at "B"
    walk_at "V"
    refine k F0 H2 us krs (d2.mono (by omega)) hF0 hF2 hus (fun z => ?_) (by omega) ok
    rw [z] at lk
    simp at lk
    omega
/-! VH: a row of sights as the law draws it, and the table of such rows -/
theorem SqT.growX {K : PySem.W.Frag} {T : List (Addr × Str)} {S : Addr → Prop} {H H' : Hp} {p : Addr} {xs : List V} (g : GrowX T S H H') (h : SqT K H p xs) : SqT K H' p xs := GrowX.seqT g h
theorem lookup_of_key : ∀ {kz : List (Str × Int)} {z : Str}, z ∈ kz.map (·.1) → (kz.lookup z).isSome = true
  | [], _, h => by cases h
  | q :: kz, z, h => by
    rw [List.lookup_cons]
    cases e : z == q.1 with
    | true => rfl
    | false =>
      refine lookup_of_key ?_
      rcases List.mem_cons.1 h with h | h
      · rw [h] at e; simp at e
      · exact h
theorem s_mono {X : Cx} {st : Stmt} {σ : L2.St} {H : Hp} {nx nx' : L2.St → Hp → Prop} {rt : VK} {bk ct : L2.St → Hp → Prop} (h : wS X st ⟨nx', rt, bk, ct⟩ σ H) (k : ∀ σ H, nx' σ H → nx σ H) : wS X st ⟨nx, rt, bk, ct⟩ σ H := by
  unfold wS at h ⊢
  refine fun pins s I => thn (h pins s I) fun f s1 z => ?_
  cases f with
  | next => obtain ⟨σ', H', I', q⟩ := z; exact ⟨σ', H', I', k _ _ q⟩
  | brk => exact z
  | cont => exact z
  | ret u => exact z
def sp_sight (m : Md) : Sp := fun vs H Q _ => ∃ (p : Addr) (n : Nat) (a F0 : Addr) (zs : List Str) (base : Int) (us : List V) (krs : List (List (Str × Int))), vs = [.ref p, .ref a, .ref F0, .int base] ∧ Purse H p n ∧ n ≤ 2 ^ 37 ∧ SqL m.K H a (zs.map V.str) ∧ a ≠ p ∧ zs.Nodup ∧ zs.length ≤ 8 ∧ (∀ z ∈ zs, IsName z) ∧ SqL m.K H F0 us ∧ F0 ≠ p ∧ Paired (LotA H) us krs ∧ krs ≠ [] ∧ krs.length ≤ 100 ∧ (∀ kr ∈ krs, LotOk zs kr) ∧
  ∀ (v : V) (r : Rw) (H' : Hp), Drew m p n 360 H H' → RowA (New H) H' v r → RowOk zs r → Q v H'
theorem c_sight {m : Md} {f : Addr} {fd : FuncData} (F : C8.Def m.K m.mg "_law_sight" st_sight f fd) (b : L2.Binds m.K fd ps_sight []) (hd : m.mg "dict" = none) (D : Cal m 2 "_law_draw" (sp_draw m)) (O : Cal m 3 "_law_one_of" (sp_one_of m)) (Sp : Cal m 4 "_law_spot" (sp_spot m)) (Fi : Cal m 2 "_law_first_told" (sp_first m)) : Cal m 5 "_law_sight" (sp_sight m) := by
  refine cal_ofM F b sc_sight (fun vs H Q E h => by obtain ⟨_, _, _, _, _, _, _, _, rfl, _⟩ := h; rfl) fun X vs H Q E hA hM h => ?_
  obtain ⟨p, n, a, F0, zs, base, us, krs, rfl, hp, hn, ha, hap, nd, lz, nm, hF, hFp, hus, kn, kl, ok, k⟩ := h
  replace hA : At m nl_sight (C8.fnScope st_sight) 4 X := hA
  obtain ⟨n1, n2, n4, n5, n6, n7, n0, n3⟩ := nv_sight
  walk_at "B"
  walk_at "V"
  refine g_typ hA hd rfl bt_dict ?_
  refine w_cons (w_lcL hA (by decide +kernel) (i := 8) ⟨rfl, rfl⟩ ?_)
  walk_at "V"
  refine ⟨a, zs.map V.str, rfl, ha, fun L hL => ?_⟩
  have hLp : L ≠ p := hp.ne hL
  refine ⟨fun t H4 => ∃ (ps : List Addr) (kz : List (Str × Int)), H4 L = some (.lst (ps.map V.ref)) ∧ Paired (fun p kv => SqT m.K H4 p [kV kv.1, kv.2]) ps (hrK kz) ∧ kz.map (·.1) = zs.take t ∧ Drew m p n (40 * t) H H4, ?_, ?_, ?_, ?_⟩
  · exact ⟨[], [], upd_same, .nil, by simp, hp.drew (Grow.new hL)⟩
  · rintro t H4 _ ⟨_, _, _, _, _, D4⟩
    exact GrowX.seqL D4.grow ha hap
  · rintro t x H4 hx ⟨ps, kz, hv, pr, ek, D4⟩ X' hX'
    rw [List.getElem?_map] at hx
    obtain ⟨z, hz, rfl⟩ := Option.map_eq_some_iff.1 hx
    have htl := (List.getElem?_eq_some_iff.1 hz).1
    have c0 := nc_of hX' 0 "_law_purse_here"
    have c2 := nc_of hX' 3 "_law_base"
    have c3 := nl_of hX' 8 "_law_name"
    walk_at "V"
    refine w_call hX' Sp (by omega) rfl ?_
    walk_at "V"
    refine ⟨p, _, rfl, D4.purse, by omega, fun w H5 _ _ d5 => ?_⟩
    walk_at "V"
    refine ⟨by walk_at "S", fun T hT => ?_⟩
    have gT := Grow.new (T := m.T) (o := .tup [.str z, .int (base + w)]) hT
    have D5 := (D4.trans d5).post gT
    have hv5 : (upd H5 T (.tup [.str z, .int (base + w)])) L = some (.lst (ps.map V.ref)) := gT.extN _ _ (d5.grow.ext _ _ hLp hv (fun _ w => by cases w)) (fun _ w => by cases w)
    have lps : ps.length = kz.length := by rw [paired_len pr, hrK_len]
    have lkz : kz.length = t := by
      have := congrArg List.length ek
      rw [List.length_map, List.length_take] at this
      omega
    have pr5 : Paired (fun p kv => SqT m.K (upd H5 T (.tup [.str z, .int (base + w)])) p [kV kv.1, kv.2]) ps (hrK kz) := Paired.imp2 pr fun _ _ e => GrowX.seqT gT (GrowX.seqT d5.grow e)
    have gX := GrowX.lst (T := m.T) (ys := ps.map V.ref ++ [V.ref T]) hv5
    refine ⟨_, hv5, by rw [List.length_map, sizeLine_eq]; omega, ps ++ [T], kz ++ [(z, base + w)], ?_, ?_, ?_, ?_⟩
    · rw [upd_same, List.map_append]; rfl
    · have e : hrK (kz ++ [(z, base + w)]) = hrK kz ++ [(Sum.inr z, V.int (base + w))] := by simp [hrK]
      rw [e]
      exact Paired.snoc (Paired.imp2 pr5 fun _ _ e => GrowX.seqT gX e) (GrowX.seqT gX (SqT.of upd_same))
    · rw [List.map_append, ek, List.take_add_one, hz]; rfl
    · have := (D5.mono (show 40 * t + 40 ≤ 40 * (t + 1) by omega))
      exact ⟨this.grow.into gX fun c z => .inl (by rw [z]; exact hL), this.purse.x gX (fun z => hLp z.symm)⟩
  · rintro H4 ⟨ps, kz, hv, pr, ek, D4⟩
    rw [List.length_map, List.take_length] at ek
    rw [List.length_map] at D4
    have ndk : (kz.map (·.1)).Nodup := by rw [ek]; exact nd
    walk_at "V"
    refine g_dictP hA (SqL.of hv) pr fun d hd => ?_
    rw [merge_hr ndk]
    have gd := Grow.new (T := m.T) (o := .dK (hrK kz)) hd
    have D5 := D4.post gd
    have hd5 : (upd H4 d (.dK (hrK kz))) d = some (.dK (hrK kz)) := upd_same
    have hdN : New H d := D4.grow.keep _ hd
    have hdp : d ≠ p := hp.ne hdN
    generalize upd H4 d (.dK (hrK kz)) = H5 at *
    walk_at "B"
    walk_at "V"
    refine w_call hA Fi (by omega) rfl ?_
    walk_at "V"
    have mv5 : ∀ (v : V) (kr : List (Str × Int)), LotA H v kr → LotA H5 v kr := by
      rintro v kr ⟨d, e, hd⟩
      exact ⟨d, e, D5.grow.ext _ _ (fun z => by obtain ⟨_, w⟩ := hp.at_; rw [z, w] at hd; cases hd) hd (fun _ z => by cases z)⟩
    refine ⟨F0, d, us, krs, kz, zs, rfl, GrowX.seqL D5.grow hF hFp, Paired.imp2 hus mv5, fun u hu z => ?_, hd5, kn, by omega, ok, fun z hz => lookup_of_key (by rw [ek]; exact hz), fun H6 g6 => ?_⟩
    · obtain ⟨j, hj⟩ := List.getElem?_of_mem hu
      obtain ⟨kr, -, d', e, hd'⟩ := Paired.get2 hus j u hj
      rw [z] at e
      injection e with e
      rw [← e, show H d = none from hdN] at hd'
      cases hd'
    have D6 := D5.post g6
    walk_at "V"
    refine w_call hA O (by omega) rfl ?_
    walk_at "V"
    refine ⟨by walk_at "S", fun l1 hl1 => ?_⟩
    walk_at "V"
    have D7 := D6.post (Grow.new (T := m.T) (o := .lst [.int 0, .int 0, .int 0, .int 0, .int 0, .int 0, .int 1, .int (-1), .int 2]) hl1)
    have hl1p : l1 ≠ p := D6.purse.ne hl1
    have hd7 : (upd H6 l1 (.lst [.int 0, .int 0, .int 0, .int 0, .int 0, .int 0, .int 1, .int (-1), .int 2])) d = some (.dK (hrK kz)) := (Grow.new (T := m.T) hl1).extN _ _ (g6.extN _ _ hd5 (fun _ z => by cases z)) (fun _ z => by cases z)
    refine ⟨p, _, l1, _, rfl, D7.purse, by omega, SqL.of upd_same, hl1p, by show 0 < 9; omega, by show 9 < 1000000; omega, fun j v H8 hj d8 => ?_⟩
    have D8 := D7.trans d8
    have hd8 := d8.grow.ext _ _ hdp hd7 (fun _ z => by cases z)
    obtain ⟨w, rfl⟩ : ∃ w : Int, v = .int w := by
      have hm := List.mem_of_getElem? hj
      simp only [List.mem_cons, List.not_mem_nil, or_false] at hm
      rcases hm with h | h | h | h | h | h | h | h | h <;> exact ⟨_, h⟩
    refine g_addI (i := firstT krs kz) (j := w) ?_
    generalize firstT krs kz + w = hour
    walk_at "B"
    refine s_par hA n6 n7 ?_
    walk_at "V"
    refine w_call hA D (by omega) rfl ?_
    walk_at "V"
    refine ⟨p, _, 4, rfl, D8.purse, by omega, by omega, by decide, fun x1 H9 x1a x1b d9 => ?_⟩
    walk_at "V"
    refine g_divI (by omega) ?_
    walk_at "V"
    refine w_call hA D (by omega) rfl ?_
    walk_at "V"
    have D9 := D8.trans d9
    refine ⟨p, _, 4, rfl, D9.purse, by omega, by omega, by decide, fun x2 H10 x2a x2b d10 => ?_⟩
    walk_at "V"
    refine g_divI (by omega) ?_
    walk_at "V"
    refine ⟨_, _, rfl, ?_⟩
    have D10 := D9.trans d10
    have hd10 := d10.grow.ext _ _ hdp (d9.grow.ext _ _ hdp hd8 (fun _ z => by cases z)) (fun _ z => by cases z)
    have hle : hour - x1 / 3 ≤ hour + x2 / 3 := by omega
    generalize hour - x1 / 3 = low at *
    generalize hour + x2 / 3 = high at *
    refine b_cons (s_mono (nx' := fun σ' H' => ∃ o1, σ' = [some (.ref p), some (.ref a), some (.ref F0), some (.int base), some (.ref d), some (.int hour), some (optV o1), some (.int high), none] ∧ spanOk (o1, some high) ∧ Drew m p n 352 H H' ∧ H' d = some (.dK (hrK kz))) ?_ ?_)
    · walk_at "V"
      refine w_call hA D (by omega) rfl ?_
      walk_at "V"
      refine ⟨p, _, 5, rfl, D10.purse, by omega, by omega, by decide, fun x3 H11 _ _ d11 => ?_⟩
      have D11 := D10.trans d11
      have hd11 := d11.grow.ext _ _ hdp hd10 (fun _ z => by cases z)
      walk_at "V"
      refine ite2 (fun hb => ?_) fun hb => ?_
      · walk_at "B"
        walk_at "V"
        exact ⟨none, rfl, (fun _ _ z => by cases z), D11.mono (by omega), hd11⟩
      · exact b_nil ⟨some low, rfl, (fun a b e1 e2 => by cases e1; cases e2; exact hle), D11.mono (by omega), hd11⟩
    rintro _ H11 ⟨o1, rfl, so, D11, hd11⟩
    refine b_cons (s_mono (nx' := fun σ' H' => ∃ o2, σ' = [some (.ref p), some (.ref a), some (.ref F0), some (.int base), some (.ref d), some (.int hour), some (optV o1), some (optV o2), none] ∧ spanOk (o1, o2) ∧ Drew m p n 360 H H' ∧ H' d = some (.dK (hrK kz))) ?_ ?_)
    · walk_at "V"
      refine w_call hA D (by omega) rfl ?_
      walk_at "V"
      refine ⟨p, _, 5, rfl, D11.purse, by omega, by omega, by decide, fun x3 H12 _ _ d12 => ?_⟩
      have D12 := D11.trans d12
      have hd12 := d12.grow.ext _ _ hdp hd11 (fun _ z => by cases z)
      walk_at "V"
      refine ite2 (fun hb => ?_) fun hb => ?_
      · walk_at "B"
        walk_at "V"
        exact ⟨none, rfl, (fun _ _ _ z => by cases z), D12.mono (by omega), hd12⟩
      · exact b_nil ⟨some high, rfl, so, D12.mono (by omega), hd12⟩
    rintro _ H12 ⟨o2, rfl, so2, D12, hd12⟩
    walk_at "B"
    walk_at "V"
    refine ⟨by walk_at "S", fun T hT => ?_⟩
    have gT := Grow.new (T := m.T) (o := .tup [.ref d, optV o1, optV o2]) hT
    refine k _ (kz, o1, o2) _ (D12.post gT) ⟨T, d, rfl, upd_same, hdN, gT.extN _ _ hd12 (fun _ z => by cases z)⟩ ⟨ndk, fun q hq => ?_, ?_, fun z hz => lookup_of_key (by rw [ek]; exact hz), so2⟩
    · refine nm _ ?_
      rw [← ek]
      exact List.mem_map.2 ⟨q, hq, rfl⟩
    · have := congrArg List.length ek
      rw [List.length_map] at this
      exact this
def sp_seen (m : Md) : Sp := fun vs H Q _ => ∃ (p : Addr) (n : Nat) (a : Addr) (zs : List Str) (mo : Option Int) (many : Nat), vs = [.ref p, .ref a, optV mo, .int (many : Nat)] ∧ Purse H p n ∧ n ≤ 2 ^ 36 ∧ SqL m.K H a (zs.map V.str) ∧ a ≠ p ∧ zs.Nodup ∧ zs ≠ [] ∧ zs.length ≤ 8 ∧ (∀ z ∈ zs, IsName z) ∧ bigOk mo ∧ many ≤ 10 ∧
  ∀ (D : Addr) (H' : Hp) (us : List V) (rs : List Rw), Drew m p n 5000 H H' → New H D → H' D = some (.lst us) → RowsA (New H) H' us rs → rs.length = many → (∀ r ∈ rs, RowOk zs r) → Q (.ref D) H'
theorem c_seen {m : Md} {f : Addr} {fd : FuncData} (F : C8.Def m.K m.mg "_law_seen" st_seen f fd) (b : L2.Binds m.K fd ps_seen []) (hr : m.mg "range" = none) (O : Cal m 3 "_law_one_of" (sp_one_of m)) (Hi : Cal m 4 "_law_hidden" (sp_hidden m)) (Si : Cal m 5 "_law_sight" (sp_sight m)) : Cal m 6 "_law_seen" (sp_seen m) := by
  refine cal_of F b sc_seen (fun vs H Q E h => by obtain ⟨_, _, _, _, _, _, rfl, _⟩ := h; rfl) fun X vs H Q E hA h => ?_
  obtain ⟨p, n, a, zs, mo, many, rfl, hp, hn, ha, hap, nd, nn, lz, nm, bo, hm, k⟩ := h
  obtain ⟨n0, n1, n2, n3, n4, n5, n6, n7⟩ := nv_seen
  walk_at "B"
  refine s_par hA n4 n5 ?_
  walk_at "V"
  refine w_call hA Hi (by omega) rfl ?_
  walk_at "V"
  refine ⟨p, n, a, zs, mo, rfl, hp, by omega, ha, hap, nd, nn, lz, bo, fun F0 H1 us krs d1 nF hF hus kn kl ok => ?_⟩
  walk_at "V"
  refine ⟨by walk_at "S", fun D0 hD => ?_⟩
  walk_at "V"
  refine ⟨_, _, rfl, ?_⟩
  have hFp : F0 ≠ p := hp.ne nF
  have hDp : D0 ≠ p := d1.purse.ne hD
  have nD : New H D0 := d1.grow.keep _ hD
  have gD := Grow.new (T := m.T) (o := .lst []) hD
  have e1 := d1.post gD
  have ha1 : SqL m.K (upd H1 D0 (.lst [])) a (zs.map V.str) := GrowX.seqL e1.grow ha hap
  have hF1 := gD.extN _ _ hF (fun _ z => by cases z)
  have hus1 : Paired (LotA (upd H1 D0 (.lst []))) us krs := Paired.imp2 hus fun _ _ e => e.grow gD
  have hD1 : (upd H1 D0 (.lst [])) D0 = some (.lst []) := upd_same
  have hFD : F0 ≠ D0 := fun z => by rw [← z, hF] at hD; cases hD
  generalize upd H1 D0 (.lst []) = H2 at *
  walk_at "B"
  refine s_forR hA (pg_nl hA n6) hr rfl ?_
  walk_at "V"
  refine ⟨by omega, by omega, fun t σ H' => (∃ u6 u7, σ = [some (.ref p), some (.ref a), some (optV mo), some (.int (many : Nat)), some (.ref F0), some (.ref D0), u6, u7]) ∧ Drew m p n (440 + 368 * t) H H' ∧ GrowX m.T (fun b => b = p ∨ b = D0) H2 H' ∧ ∃ ws rs, H' D0 = some (.lst ws) ∧ RowsA (New H) H' ws rs ∧ rs.length = t ∧ ∀ r ∈ rs, RowOk zs r, ⟨⟨_, _, rfl⟩, e1, GrowX.refl, [], [], hD1, .nil, rfl, fun _ z => by cases z⟩, ?_, ?_⟩
  · rintro t σ H3 ht ⟨⟨u6, u7, rfl⟩, d3, g3, ws, rs, hD3, hws, lr, okr⟩
    have ht : t < 10 := by omega
    walk_at "B"
    walk_at "V"
    refine w_call hA O (by omega) rfl ?_
    walk_at "V"
    refine g_powW (by decide) (by decide +kernel) ?_
    rw [show ((10 : Int) ^ (28 : Int).toNat) = 10000000000000000000000000000 from by decide +kernel]
    walk_at "V"
    refine ⟨by walk_at "S", fun l1 hl1 => ?_⟩
    walk_at "V"
    have g4 := Grow.new (T := m.T) (o := .lst [.int 0, .int 0, .int 0, .int 0, .int 10000000000000000000000000000, .int (-7)]) hl1
    have D4 := d3.post g4
    have hl1p : l1 ≠ p := d3.purse.ne hl1
    refine ⟨p, _, l1, _, rfl, D4.purse, by omega, SqL.of upd_same, hl1p, by show 0 < 6; omega, by show 6 < 1000000; omega, fun j v H5 hj d5 => ?_⟩
    have D5 := D4.trans d5
    obtain ⟨base, rfl⟩ : ∃ w : Int, v = .int w := by
      have hm := List.mem_of_getElem? hj
      simp only [List.mem_cons, List.not_mem_nil, or_false] at hm
      rcases hm with h | h | h | h | h | h <;> exact ⟨_, h⟩
    have hD5 := d5.grow.ext _ _ hDp (g4.extN _ _ hD3 (fun _ z => by cases z)) (fun _ z => by cases z)
    have G5 : GrowX m.T (fun b => b = p ∨ b = D0) H2 H5 := (g3.trans g4.to).trans (d5.grow.weak fun _ z => .inl z)
    have G35 : GrowX m.T (fun b => b = p) H3 H5 := g4.to.trans d5.grow
    walk_at "B"
    walk_at "V"
    refine g_append ?_
    walk_at "V"
    refine ⟨tyL hD5, ?_⟩
    walk_at "V"
    refine w_call hA Si (by omega) rfl ?_
    walk_at "V"
    have hF5 := G5.ext _ _ (fun z => z.elim hFp hFD) hF1 (fun _ z => by cases z)
    have hus5 : Paired (LotA H5) us krs := by
      refine Paired.imp2 hus1 ?_
      rintro v kr ⟨d, e, hd⟩
      exact ⟨d, e, G5.ext _ _ (fun z => z.elim (fun z => by obtain ⟨_, w⟩ := e1.purse.at_; rw [z, w] at hd; cases hd) (fun z => by rw [z, hD1] at hd; cases hd)) hd (fun _ z => by cases z)⟩
    refine ⟨p, _, a, F0, zs, base, us, krs, rfl, D5.purse, by omega, GrowX.seqL D5.grow ha hap, hap, nd, lz, nm, SqL.of hF5, hFp, hus5, kn, by omega, ok, fun v r H6 d6 hv okv => ?_⟩
    have D6 := D5.trans d6
    have hD6 := d6.grow.ext _ _ hDp hD5 (fun _ z => by cases z)
    have lws := paired_len hws
    walk_at "V"
    refine ⟨D0, ws, _, rfl, rfl, hD6, by rw [sizeLine_eq]; omega, ?_⟩
    have gX := GrowX.lst (T := m.T) (ys := ws ++ [v]) hD6
    have D7 : Drew m p n (440 + 368 * t + 8 + 360) H (upd H6 D0 (.lst (ws ++ [v]))) := ⟨D6.grow.into gX fun c z => .inl (by rw [z]; exact nD), D6.purse.x gX (fun z => hDp z.symm)⟩
    have hpn : ∀ c, New H c → c ≠ p := fun c z => hp.ne z
    refine b_nil ⟨⟨_, _, rfl⟩, D7.mono (by omega), (G5.trans (d6.grow.weak fun _ z => .inl z)).trans (gX.weak fun _ z => .inr z), ws ++ [v], rs ++ [r], upd_same, ?_, by rw [List.length_append, lr]; rfl, ?_⟩
    · have mvX : ∀ (v' : V) (r : Rw), RowA (New H) H6 v' r → RowA (New H) (upd H6 D0 (.lst (ws ++ [v]))) v' r := by
        rintro v' r ⟨T, d, e, hT, nw, hd⟩
        exact ⟨T, d, e, gX.tup _ _ hT, nw, gX.ext _ _ (fun z => by rw [z, hD6] at hd; cases hd) hd (fun _ z => by cases z)⟩
      refine Paired.snoc (Paired.imp2 hws fun v' r e => mvX _ _ ?_) (mvX _ _ (hv.mono fun a z => D5.grow.keep _ z))
      have G36 := G35.trans d6.grow
      exact e.grow G36 fun a z => hpn a z
    · intro r' hr'
      rcases List.mem_append.1 hr' with h | h
      · exact okr r' h
      · rw [List.mem_singleton.1 h]; exact okv
  · rintro σ H3 ⟨⟨u6, u7, rfl⟩, d3, g3, ws, rs, hD3, hws, lr, okr⟩
    walk_at "B"
    walk_at "V"
    exact k D0 H3 ws rs (d3.mono (by omega)) nD hD3 hws (by omega) okr
/-! W1: the rules of two names, as lots of coded rows -/
def cds (m : Nat) : List (Nat × Nat) := ((List.range (m + 1)).map fun w => (w + 1, 0)) ++ ((List.range (m + 1)).map fun w => (0, w + 1)) ++ (List.range (m + 1)).flatMap fun w => (List.range (m + 1)).map fun v => (w + 1, v + 1)
theorem cds_mem {m : Nat} {c : Nat × Nat} : c ∈ cds m ↔ c.1 ≤ m + 1 ∧ c.2 ≤ m + 1 ∧ 0 < c.1 + c.2 := by
  obtain ⟨x, y⟩ := c
  simp only [cds, List.mem_append, List.mem_map, List.mem_flatMap, List.mem_range, Prod.mk.injEq]
  constructor
  · rintro ((⟨w, h, rfl, rfl⟩ | ⟨w, h, rfl, rfl⟩) | ⟨w, h, v, h2, rfl, rfl⟩) <;> omega
  · rintro ⟨h1, h2, h3⟩
    by_cases c1 : x = 0
    · exact .inl (.inr ⟨y - 1, by omega, by omega, by omega⟩)
    · by_cases c2 : y = 0
      · exact .inl (.inl ⟨x - 1, by omega, by omega, by omega⟩)
      · exact .inr ⟨x - 1, by omega, y - 1, by omega, by omega, by omega⟩
/-- the dict of a coded row -/
def mkR (a b : Str) (c : Nat × Nat) : List (Str × Int) := (if c.1 = 0 then [] else [(a, ((c.1 - 1 : Nat) : Int))]) ++ (if c.2 = 0 then [] else [(b, ((c.2 - 1 : Nat) : Int))])
def leC (c d : Nat × Nat) : Bool := decide (c.1 ≤ d.1) && decide (c.2 ≤ d.2)
theorem within_mk {a b : Str} (ne : a ≠ b) (c d : Nat × Nat) : withinB (mkR a b c) (mkR a b d) = leC c d := by
  obtain ⟨c1, c2⟩ := c
  obtain ⟨d1, d2⟩ := d
  have e1 : (b == a) = false := by simpa using Ne.symm ne
  have e2 : (a == b) = false := by simpa using ne
  unfold withinB mkR leC hrs
  rcases c1 with _ | c1 <;> rcases c2 with _ | c2 <;> rcases d1 with _ | d1 <;> rcases d2 with _ | d2 <;> simp [List.lookup, e1, e2]
/-- none of some rows is comparable with a row -/
def cmpC (c : Nat × Nat) (s : List (Nat × Nat)) : Bool := s.all fun d => !(leC d c || leC c d)
def evr (cs : List (Nat × Nat)) : List (List (Nat × Nat)) := cs.foldl (fun F c => F ++ (F.filter (cmpC c)).map fun s => s ++ [c]) [[]]
theorem evr_snoc (cs : List (Nat × Nat)) (c : Nat × Nat) : evr (cs ++ [c]) = evr cs ++ ((evr cs).filter (cmpC c)).map fun s => s ++ [c] := by unfold evr; rw [List.foldl_append]; rfl
theorem evr_head (cs : List (Nat × Nat)) : evr cs = [] :: (evr cs).drop 1 ∧ ∀ s ∈ (evr cs).drop 1, s ≠ [] := by
  rcases List.eq_nil_or_concat cs with rfl | ⟨L, x, rfl⟩
  · exact ⟨rfl, by intro s h; cases h⟩
  · rw [List.concat_eq_append, evr_snoc]
    obtain ⟨h1, h2⟩ := evr_head L
    rw [h1]
    refine ⟨rfl, fun s hs => ?_⟩
    rw [List.cons_append, List.drop_succ_cons, List.drop_zero, List.mem_append] at hs
    rcases hs with hs | hs
    · exact h2 s hs
    · obtain ⟨t, -, rfl⟩ := List.mem_map.1 hs
      simp
termination_by cs.length
decreasing_by simp_all
theorem evr_sub : ∀ (n : Nat) (cs : List (Nat × Nat)), cs.length = n → ∀ s ∈ evr cs, ∀ c ∈ s, c ∈ cs := by
  intro n
  induction n with
  | zero => intro cs h s hs c hc; rw [List.length_eq_zero_iff.1 h] at hs; simp [evr] at hs; rw [hs] at hc; cases hc
  | succ n ih =>
    intro cs h s hs c hc
    rcases List.eq_nil_or_concat cs with rfl | ⟨L, x, rfl⟩
    · cases h
    · rw [List.concat_eq_append] at *
      rw [evr_snoc, List.mem_append] at hs
      have hl : L.length = n := by simpa using h
      rcases hs with hs | hs
      · exact List.mem_append.2 (.inl (ih L hl s hs c hc))
      · obtain ⟨t, ht, rfl⟩ := List.mem_map.1 hs
        rcases List.mem_append.1 hc with h1 | h1
        · exact List.mem_append.2 (.inl (ih L hl t (List.mem_filter.1 ht).1 c h1))
        · exact List.mem_append.2 (.inr h1)
theorem evr_all : ∀ (n : Nat) (cs : List (Nat × Nat)), cs.length = n → ∀ s, List.Sublist s cs → s.Pairwise (fun x y => leC x y = false ∧ leC y x = false) → s ∈ evr cs := by
  intro n
  induction n with
  | zero => intro cs h s hs _; rw [List.length_eq_zero_iff.1 h] at hs ⊢; rw [List.sublist_nil.1 hs]; simp [evr]
  | succ n ih =>
    intro cs h s hs hp
    rcases List.eq_nil_or_concat cs with rfl | ⟨L, x, rfl⟩
    · cases h
    · rw [List.concat_eq_append] at *
      have hl : L.length = n := by simpa using h
      rw [evr_snoc, List.mem_append]
      obtain ⟨s1, s2, rfl, h1, h2⟩ := List.sublist_append_iff.1 hs
      have p1 := (List.pairwise_append.1 hp).1
      have m1 := ih L hl s1 h1 p1
      rcases List.sublist_cons_iff.1 h2 with h3 | ⟨r, rfl, h3⟩
      · rw [List.sublist_nil.1 h3, List.append_nil]; exact .inl m1
      · rw [List.sublist_nil.1 h3] at hp ⊢
        refine .inr (List.mem_map.2 ⟨s1, List.mem_filter.2 ⟨m1, ?_⟩, rfl⟩)
        refine List.all_eq_true.2 fun d hd => ?_
        have := (List.pairwise_append.1 hp).2.2 d hd x (by simp)
        rw [this.1, this.2]; rfl
theorem leC_iff {c d : Nat × Nat} : leC c d = true ↔ c.1 ≤ d.1 ∧ c.2 ≤ d.2 := by simp [leC]
theorem min_below (Ds : List (Nat × Nat)) : ∀ (n : Nat) (d : Nat × Nat), d.1 + d.2 ≤ n → d ∈ Ds → ∃ x ∈ Ds, leC x d = true ∧ ∀ y ∈ Ds, leC y x = true → y = x := by
  intro n
  induction n with
  | zero =>
    intro d h hd
    refine ⟨d, hd, leC_iff.2 ⟨Nat.le_refl _, Nat.le_refl _⟩, fun y _ hy => ?_⟩
    obtain ⟨h1, h2⟩ := leC_iff.1 hy
    exact Prod.ext (by omega) (by omega)
  | succ n ih =>
    intro d h hd
    by_cases c : ∀ y ∈ Ds, leC y d = true → y = d
    · exact ⟨d, hd, leC_iff.2 ⟨Nat.le_refl _, Nat.le_refl _⟩, c⟩
    · obtain ⟨y, hy⟩ := Classical.not_forall.1 c
      obtain ⟨hm, hy⟩ := Classical.not_imp.1 hy
      obtain ⟨hl, hn⟩ := Classical.not_imp.1 hy
      obtain ⟨h1, h2⟩ := leC_iff.1 hl
      have h3 : ¬ (y.1 = d.1 ∧ y.2 = d.2) := fun z => hn (Prod.ext z.1 z.2)
      obtain ⟨x, x1, x2, x3⟩ := ih y (by omega) hm
      obtain ⟨g1, g2⟩ := leC_iff.1 x2
      exact ⟨x, x1, leC_iff.2 ⟨by omega, by omega⟩, x3⟩
theorem cds_nodup {m : Nat} (h : m ≤ 2) : (cds m).Nodup := by
  have : m = 0 ∨ m = 1 ∨ m = 2 := by omega
  rcases this with rfl | rfl | rfl <;> decide
/-- the least ones of some rows are among all rules -/
theorem evr_least {m : Nat} (hm : m ≤ 2) {Ds : List (Nat × Nat)} (hs : ∀ d ∈ Ds, d ∈ cds m) (hn : Ds ≠ []) : ∃ s ∈ (evr (cds m)).drop 1, (∀ x ∈ s, x ∈ Ds) ∧ ∀ d ∈ Ds, ∃ x ∈ s, leC x d = true := by
  have key : ∃ s, s ∈ evr (cds m) ∧ (∀ x ∈ s, x ∈ Ds) ∧ ∀ d ∈ Ds, ∃ x ∈ s, leC x d = true := by
    refine ⟨(cds m).filter fun x => decide (x ∈ Ds ∧ ∀ y ∈ Ds, leC y x = true → y = x), evr_all _ _ rfl _ (List.filter_sublist) ?_, fun x hx => ?_, fun d hd => ?_⟩
    · have p : ((cds m).filter fun x => decide (x ∈ Ds ∧ ∀ y ∈ Ds, leC y x = true → y = x)).Pairwise (· ≠ ·) := (cds_nodup hm).filter _
      refine List.Pairwise.imp_of_mem (fun {x y} hx hy ne => ?_) p
      have h1 := of_decide_eq_true (List.mem_filter.1 hx).2
      have h2 := of_decide_eq_true (List.mem_filter.1 hy).2
      constructor
      · cases h : leC x y with
        | false => rfl
        | true => exact absurd (h2.2 x h1.1 h) ne
      · cases h : leC y x with
        | false => rfl
        | true => exact absurd (h1.2 y h2.1 h).symm ne
    · exact (of_decide_eq_true (List.mem_filter.1 hx).2).1
    · obtain ⟨x, x1, x2, x3⟩ := min_below Ds _ d (Nat.le_refl _) hd
      exact ⟨x, List.mem_filter.2 ⟨hs x x1, decide_eq_true ⟨x1, x3⟩⟩, x2⟩
  obtain ⟨s, h1, h2, h3⟩ := key
  rw [(evr_head (cds m)).1] at h1
  rcases List.mem_cons.1 h1 with rfl | h1
  · obtain ⟨d, hd⟩ := List.exists_mem_of_ne_nil _ hn
    obtain ⟨x, hx, _⟩ := h3 d hd
    cases hx
  · exact ⟨s, h1, h2, h3⟩
theorem mx_spec {ns : List Int} (h : ns ≠ []) : mxI ns ∈ ns ∧ ∀ y ∈ ns, y ≤ mxI ns := by
  cases e : ns.max? with
  | none => exact absurd (List.max?_eq_none_iff.1 e) h
  | some a => have := List.max?_eq_some_iff.1 e; simp only [mxI, e, Option.getD_some]; exact this
theorem mn_spec {ns : List Int} (h : ns ≠ []) : mnI ns ∈ ns ∧ ∀ y ∈ ns, mnI ns ≤ y := by
  cases e : ns.min? with
  | none => exact absurd (List.min?_eq_none_iff.1 e) h
  | some a => have := List.min?_eq_some_iff.1 e; simp only [mnI, e, Option.getD_some]; exact this
/-- a lot of rows suits what was seen -/
def sutB (krs : List (List (Str × Int))) (rs : List Rw) : Bool := rs.all fun r => (match r.2.1 with | none => true | some l => !decide (firstT krs r.1 < l)) && (match r.2.2 with | none => true | some h => !decide (firstT krs r.1 > h))
theorem longW_some (q : Int) (r : Rw) (z : Str) : ∃ w, longW (some q) r z = some w ∧ w ≤ q ∧ (∀ h, r.2.2 = some h → w ≤ h - hrs r.1 z) ∧ (w = q ∨ ∃ h, r.2.2 = some h ∧ w = h - hrs r.1 z) := by
  obtain ⟨kz, lo, hi⟩ := r
  cases hi with
  | none => exact ⟨q, rfl, by omega, fun h e => (by cases e), .inl rfl⟩
  | some h =>
    refine ⟨if decide (q < h - hrs kz z) then q else h - hrs kz z, rfl, ?_, ?_, ?_⟩
    · by_cases c : q < h - hrs kz z <;> simp [c] <;> omega
    · rintro g ⟨rfl⟩
      by_cases c : q < h - hrs kz z <;> simp [c] <;> omega
    · by_cases c : q < h - hrs kz z <;> simp [c]
theorem shortW_some (q : Int) (r : Rw) (z : Str) : ∃ w, shortW (some q) r z = some w ∧ 0 ≤ w ∧ (∀ h, r.2.1 = some h → h - hrs r.1 z ≤ w) ∧ (w = 0 ∨ ∃ h, r.2.1 = some h ∧ w = h - hrs r.1 z) := by
  obtain ⟨kz, lo, hi⟩ := r
  cases lo with
  | none => exact ⟨0, rfl, by omega, fun h e => (by cases e), .inl rfl⟩
  | some h =>
    refine ⟨if decide (0 > h - hrs kz z) then 0 else h - hrs kz z, rfl, ?_, ?_, ?_⟩
    · by_cases c : 0 > h - hrs kz z <;> simp [c] <;> omega
    · rintro g ⟨rfl⟩
      by_cases c : 0 > h - hrs kz z <;> simp [c] <;> omega
    · by_cases c : 0 > h - hrs kz z <;> simp [c]
theorem clP_nil {zs : List Str} {mo : Option Int} {rs : List Rw} : clP zs mo rs = [] ↔ ∀ r ∈ rs, ∀ q ∈ rs, ∃ z ∈ zs, standB mo r q z = true := by
  unfold clP
  rw [List.filter_eq_nil_iff]
  constructor
  · intro h r hr q hq
    obtain ⟨i, hi, rfl⟩ := List.mem_iff_getElem.1 hr
    obtain ⟨j, hj, rfl⟩ := List.mem_iff_getElem.1 hq
    have := h (i, j) (by simp [prs]; omega)
    have hne : std zs mo rs (i, j) ≠ [] := fun e => this (by rw [e]; rfl)
    obtain ⟨z, hz⟩ := List.exists_mem_of_ne_nil _ hne
    obtain ⟨h1, h2⟩ := List.mem_filter.1 hz
    refine ⟨z, h1, ?_⟩
    simpa [List.getD_eq_getElem?_getD, List.getElem?_eq_getElem hi, List.getElem?_eq_getElem hj] using h2
  · rintro h ⟨i, j⟩ hp
    have hij : i < rs.length ∧ j < rs.length := by simp [prs] at hp; omega
    obtain ⟨z, hz, hs⟩ := h rs[i] (List.getElem_mem hij.1) rs[j] (List.getElem_mem hij.2)
    have : z ∈ std zs mo rs (i, j) := List.mem_filter.2 ⟨hz, by simpa [List.getD_eq_getElem?_getD, List.getElem?_eq_getElem hij.1, List.getElem?_eq_getElem hij.2] using hs⟩
    cases e : std zs mo rs (i, j) with
    | nil => rw [e] at this; cases this
    | cons _ _ => simp
theorem mkR_mem {a b : Str} {c : Nat × Nat} {p : Str × Int} : p ∈ mkR a b c ↔ (0 < c.1 ∧ p = (a, ((c.1 - 1 : Nat) : Int))) ∨ (0 < c.2 ∧ p = (b, ((c.2 - 1 : Nat) : Int))) := by
  obtain ⟨x, y⟩ := c
  rcases x with _ | x <;> rcases y with _ | y <;> simp [mkR]
theorem mkR_ne {a b : Str} {c : Nat × Nat} (h : 0 < c.1 + c.2) : mkR a b c ≠ [] := by
  obtain ⟨x, y⟩ := c
  rcases x with _ | x <;> rcases y with _ | y <;> simp [mkR] at h ⊢
theorem stand_iff (q : Int) (r o : Rw) (z : Str) : standB (some q) r o z = true ↔ ∃ v w, longW (some q) r z = some v ∧ shortW (some q) o z = some w ∧ w ≤ v := by
  obtain ⟨v, hv, -⟩ := longW_some q r z
  obtain ⟨w, hw, -⟩ := shortW_some q o z
  unfold standB
  rw [hv, hw]
  simp
/-- the rule fits just if one of all rules does -/
theorem every_ok {a b : Str} (ne : a ≠ b) {m : Nat} (hm : m ≤ 2) (rs : List Rw) : clP [a, b] (some (m : Int)) rs = [] ↔ ((evr (cds m)).drop 1).filter (fun s => sutB (s.map (mkR a b)) rs) ≠ [] := by
  rw [clP_nil]
  constructor
  · intro h
    -- the row that a seen row leaves
    let D : Rw → Nat × Nat := fun r => ((((longW (some (m : Int)) r a).getD 0) + 1).toNat, (((longW (some (m : Int)) r b).getD 0) + 1).toNat)
    have inD : ∀ r (z : Str) (v : Int), z = a ∨ z = b → longW (some (m : Int)) r z = some v → 0 ≤ v → (z, v) ∈ mkR a b (D r) := by
      rintro r z v (rfl | rfl) hv h0
      · refine mkR_mem.2 (.inl ?_)
        simp only [D, hv, Option.getD_some]
        exact ⟨by omega, by congr 1; omega⟩
      · refine mkR_mem.2 (.inr ?_)
        simp only [D, hv, Option.getD_some]
        exact ⟨by omega, by congr 1; omega⟩
    have ofD : ∀ r (p : Str × Int), p ∈ mkR a b (D r) → longW (some (m : Int)) r p.1 = some p.2 := by
      intro r p hp
      rcases mkR_mem.1 hp with ⟨h1, rfl⟩ | ⟨h1, rfl⟩
      · obtain ⟨v, hv, -⟩ := longW_some m r a
        simp only [D, hv, Option.getD_some] at h1 ⊢
        congr 1; omega
      · obtain ⟨v, hv, -⟩ := longW_some m r b
        simp only [D, hv, Option.getD_some] at h1 ⊢
        congr 1; omega
    have ok : ∀ r ∈ rs, D r ∈ cds m := by
      intro r hr
      obtain ⟨z, hz, hs⟩ := h r hr r hr
      obtain ⟨v, w, hv, hw, hl⟩ := (stand_iff _ _ _ _).1 hs
      obtain ⟨w', hw', h0, -⟩ := shortW_some m r z
      rw [hw] at hw'; cases hw'
      have := inD r z v (by simpa using hz) hv (by omega)
      obtain ⟨va, ha, la, -⟩ := longW_some m r a
      obtain ⟨vb, hb, lb, -⟩ := longW_some m r b
      refine cds_mem.2 ⟨?_, ?_, ?_⟩
      · simp only [D, ha, Option.getD_some]; omega
      · simp only [D, hb, Option.getD_some]; omega
      · rcases mkR_mem.1 this with ⟨h1, -⟩ | ⟨h1, -⟩ <;> omega
    have fin : ∀ s ∈ (evr (cds m)).drop 1, (∀ x ∈ s, ∃ q ∈ rs, x = D q) → (∀ r ∈ rs, ∃ x ∈ s, leC x (D r) = true) → sutB (s.map (mkR a b)) rs = true := by
      intro s hs h1 h2
      have sn := (evr_head (cds m)).2 s hs
      refine List.all_eq_true.2 fun r hr => ?_
      have mn := mn_spec (ns := (s.map (mkR a b)).map fun kr => rowT kr r.1) (by simpa using sn)
      rw [Bool.and_eq_true]
      constructor
      · cases hl : r.2.1 with
        | none => rfl
        | some l =>
          show (!decide (firstT (s.map (mkR a b)) r.1 < l)) = true
          simp only [Bool.not_eq_true', decide_eq_false_iff_not, Int.not_lt]
          obtain ⟨kr, hkr, e⟩ := List.mem_map.1 mn.1
          obtain ⟨x, hx, rfl⟩ := List.mem_map.1 hkr
          obtain ⟨q, hq, rfl⟩ := h1 x hx
          obtain ⟨z, hz, st⟩ := h q hq r hr
          obtain ⟨v, w, hv, hw, hle⟩ := (stand_iff _ _ _ _).1 st
          obtain ⟨w', hw', h0, h3, -⟩ := shortW_some m r z
          rw [hw] at hw'; cases hw'
          have hin := inD q z v (by simpa using hz) hv (by omega)
          have hx2 := (mx_spec (ns := (mkR a b (D q)).map fun p => hrs r.1 p.1 + p.2) (by have := List.ne_nil_of_mem hin; simpa using this)).2 (hrs r.1 z + v) (List.mem_map.2 ⟨_, hin, rfl⟩)
          have := h3 l hl
          show l ≤ mnI _
          rw [← e]
          show l ≤ mxI _
          omega
      · cases hh : r.2.2 with
        | none => rfl
        | some u =>
          show (!decide (firstT (s.map (mkR a b)) r.1 > u)) = true
          simp only [Bool.not_eq_true', decide_eq_false_iff_not, Int.not_lt, gt_iff_lt]
          obtain ⟨x, hx, hle⟩ := h2 r hr
          have h4 := mn.2 (rowT (mkR a b x) r.1) (List.mem_map.2 ⟨_, List.mem_map.2 ⟨x, hx, rfl⟩, rfl⟩)
          obtain ⟨q, hq, e⟩ := h1 x hx
          have hc := ok q hq
          rw [← e] at hc
          have mx := (mx_spec (ns := (mkR a b x).map fun p => hrs r.1 p.1 + p.2) (by simpa using mkR_ne (a := a) (b := b) (cds_mem.1 hc).2.2)).1
          obtain ⟨p, hp, e2⟩ := List.mem_map.1 mx
          obtain ⟨l1, l2⟩ := leC_iff.1 hle
          have : ∃ v, (p.1, v) ∈ mkR a b (D r) ∧ p.2 ≤ v := by
            rcases mkR_mem.1 hp with ⟨g1, rfl⟩ | ⟨g1, rfl⟩
            · exact ⟨_, mkR_mem.2 (.inl ⟨by omega, rfl⟩), by simp only []; omega⟩
            · exact ⟨_, mkR_mem.2 (.inr ⟨by omega, rfl⟩), by simp only []; omega⟩
          obtain ⟨v, hv, hle2⟩ := this
          obtain ⟨w, hw, -, h5, -⟩ := longW_some m r p.1
          have := ofD r _ hv
          simp only at this
          rw [hw] at this; cases this
          have := h5 u hh
          show mnI _ ≤ u
          have h6 : rowT (mkR a b x) r.1 = hrs r.1 p.1 + p.2 := e2.symm
          omega
    by_cases c : rs = []
    · subst c
      obtain ⟨s, hs, -⟩ := evr_least hm (Ds := [(1, 0)]) (fun d hd => by rw [List.mem_singleton.1 hd]; exact cds_mem.2 ⟨by simp, by simp, by simp⟩) (by simp)
      exact List.ne_nil_of_mem (List.mem_filter.2 ⟨hs, rfl⟩)
    · obtain ⟨s, hs, h1, h2⟩ := evr_least hm (Ds := rs.map D) (fun d hd => by obtain ⟨r, hr, rfl⟩ := List.mem_map.1 hd; exact ok r hr) (by simpa using c)
      refine List.ne_nil_of_mem (List.mem_filter.2 ⟨hs, fin s hs (fun x hx => ?_) fun r hr => h2 _ (List.mem_map.2 ⟨r, hr, rfl⟩)⟩)
      obtain ⟨q, hq, e⟩ := List.mem_map.1 (h1 x hx)
      exact ⟨q, hq, e.symm⟩
  · intro h r hr q hq
    obtain ⟨s, hs⟩ := List.exists_mem_of_ne_nil _ h
    obtain ⟨hs, su⟩ := List.mem_filter.1 hs
    have sn := (evr_head (cds m)).2 s hs
    have hsub : ∀ x ∈ s, x ∈ cds m := evr_sub _ _ rfl s (List.mem_of_mem_drop hs)
    have sur := List.all_eq_true.1 su r hr
    have suq := List.all_eq_true.1 su q hq
    rw [Bool.and_eq_true] at sur suq
    have mn := mn_spec (ns := (s.map (mkR a b)).map fun kr => rowT kr r.1) (by simpa using sn)
    obtain ⟨kr, hkr, e⟩ := List.mem_map.1 mn.1
    obtain ⟨x, hx, rfl⟩ := List.mem_map.1 hkr
    have hc := cds_mem.1 (hsub x hx)
    have mne := mkR_ne (a := a) (b := b) hc.2.2
    have mnq := (mn_spec (ns := (s.map (mkR a b)).map fun kr => rowT kr q.1) (by simpa using sn)).2 (rowT (mkR a b x) q.1) (List.mem_map.2 ⟨_, List.mem_map.2 ⟨x, hx, rfl⟩, rfl⟩)
    obtain ⟨p, hp, ep⟩ := List.mem_map.1 (mx_spec (ns := (mkR a b x).map fun p => hrs q.1 p.1 + p.2) (by simpa using mne)).1
    have pz : p.1 ∈ [a, b] ∧ 0 ≤ p.2 ∧ p.2 ≤ m := by
      rcases mkR_mem.1 hp with ⟨g1, rfl⟩ | ⟨g1, rfl⟩ <;> simp <;> omega
    refine ⟨p.1, pz.1, (stand_iff _ _ _ _).2 ?_⟩
    obtain ⟨v, hv, -, -, v3⟩ := longW_some m r p.1
    obtain ⟨w, hw, -, -, w3⟩ := shortW_some m q p.1
    have hv2 : p.2 ≤ v := by
      rcases v3 with rfl | ⟨u, hu, rfl⟩
      · exact pz.2.2
      · have h1 := sur.2
        rw [hu] at h1
        simp only [Bool.not_eq_true', decide_eq_false_iff_not, Int.not_lt, gt_iff_lt] at h1
        have h2 : firstT (s.map (mkR a b)) r.1 = rowT (mkR a b x) r.1 := e.symm
        have h3 := (mx_spec (ns := (mkR a b x).map fun p => hrs r.1 p.1 + p.2) (by simpa using mne)).2 (hrs r.1 p.1 + p.2) (List.mem_map.2 ⟨_, hp, rfl⟩)
        have h4 : rowT (mkR a b x) r.1 = mxI ((mkR a b x).map fun p => hrs r.1 p.1 + p.2) := rfl
        omega
    have hw2 : w ≤ p.2 := by
      rcases w3 with rfl | ⟨u, hu, rfl⟩
      · exact pz.2.1
      · have h1 := suq.1
        rw [hu] at h1
        simp only [Bool.not_eq_true', decide_eq_false_iff_not, Int.not_lt] at h1
        have h2 : firstT (s.map (mkR a b)) q.1 ≤ rowT (mkR a b x) q.1 := mnq
        have h4 : rowT (mkR a b x) q.1 = hrs q.1 p.1 + p.2 := ep.symm
        omega
    exact ⟨v, w, hv, hw, by omega⟩
theorem evr_len {m : Nat} (h : m ≤ 2) : (evr (cds m)).length ≤ 70 := by
  have : m = 0 ∨ m = 1 ∨ m = 2 := by omega
  rcases this with rfl | rfl | rfl <;> decide +kernel
theorem evr_mono (L : List (Nat × Nat)) : ∀ M : List (Nat × Nat), (evr L).length ≤ (evr (L ++ M)).length := by
  suffices h : ∀ (n : Nat) (M : List (Nat × Nat)), M.length = n → (evr L).length ≤ (evr (L ++ M)).length from fun M => h _ M rfl
  intro n
  induction n with
  | zero => intro M h; rw [List.length_eq_zero_iff.1 h, List.append_nil]; exact Nat.le_refl _
  | succ n ih =>
    intro M h
    rcases List.eq_nil_or_concat M with rfl | ⟨N, x, rfl⟩
    · cases h
    · rw [List.concat_eq_append] at *
      rw [← List.append_assoc, evr_snoc, List.length_append]
      have := ih N (by simpa using h)
      omega
theorem evr_take_len {cs : List (Nat × Nat)} (t : Nat) : (evr (cs.take t)).length ≤ (evr cs).length := by
  have := evr_mono (cs.take t) (cs.drop t)
  rw [List.take_append_drop] at this
  exact this
theorem evr_elen : ∀ (n : Nat) (cs : List (Nat × Nat)), cs.length = n → ∀ s ∈ evr cs, s.length ≤ n := by
  intro n
  induction n with
  | zero => intro cs h s hs; rw [List.length_eq_zero_iff.1 h] at hs; simp [evr] at hs; rw [hs]; exact Nat.le_refl _
  | succ n ih =>
    intro cs h s hs
    rcases List.eq_nil_or_concat cs with rfl | ⟨L, x, rfl⟩
    · cases h
    · rw [List.concat_eq_append] at *
      rw [evr_snoc, List.mem_append] at hs
      have hl : L.length = n := by simpa using h
      rcases hs with hs | hs
      · exact Nat.le_succ_of_le (ih L hl s hs)
      · obtain ⟨t, ht, rfl⟩ := List.mem_map.1 hs
        have := ih L hl t (List.mem_filter.1 ht).1
        rw [List.length_append]; simp; omega
theorem cds_len {m : Nat} (h : m ≤ 2) : (cds m).length ≤ 15 := by
  have : m = 0 ∨ m = 1 ∨ m = 2 := by omega
  rcases this with rfl | rfl | rfl <;> decide
/-- what a list holds, told by an injective map -/
theorem map_of {β : Type} : ∀ {cs : List (Nat × Nat)} {us : List β} (x0 : β), us.length = cs.length → cs.Nodup → us.Nodup → ∃ ad : Nat × Nat → β, us = cs.map ad ∧ ∀ c ∈ cs, ∀ d ∈ cs, ad c = ad d → c = d
  | [], [], x0, _, _, _ => ⟨fun _ => x0, rfl, fun c h => by cases h⟩
  | [], u :: us, _, h, _, _ => by simp at h
  | c :: cs, [], _, h, _, _ => by simp at h
  | c :: cs, u :: us, x0, h, n1, n2 => by
    obtain ⟨a1, a2⟩ := List.nodup_cons.1 n1
    obtain ⟨b1, b2⟩ := List.nodup_cons.1 n2
    obtain ⟨ad, e, inj⟩ := map_of (cs := cs) (us := us) x0 (by simpa using h) a2 b2
    have eq : ∀ d ∈ cs, (if d = c then u else ad d) = ad d := fun d hd => if_neg fun z => a1 (by rw [← z]; exact hd)
    refine ⟨fun d => if d = c then u else ad d, ?_, ?_⟩
    · rw [List.map_cons, if_pos rfl]
      congr 1
      rw [e]
      exact List.map_congr_left fun d hd => (eq d hd).symm
    · intro x hx y hy exy
      have uin : ∀ d ∈ cs, ad d ≠ u := fun d hd z => b1 (by rw [e, ← z]; exact List.mem_map.2 ⟨d, hd, rfl⟩)
      rcases List.mem_cons.1 hx with ex | hx1 <;> rcases List.mem_cons.1 hy with ey | hy1
      · rw [ex, ey]
      · subst ex; simp only [if_pos, eq y hy1] at exy; exact absurd exy.symm (uin y hy1)
      · subst ey; simp only [if_pos, eq x hx1] at exy; exact absurd exy (uin x hx1)
      · simp only [eq x hx1, eq y hy1] at exy; exact inj x hx1 y hy1 exy
theorem mkR_nodup {a b : Str} (ne : a ≠ b) (c : Nat × Nat) : ((mkR a b c).map (·.1)).Nodup := by
  obtain ⟨x, y⟩ := c
  rcases x with _ | x <;> rcases y with _ | y <;> simp [mkR, ne]
theorem mkR_len {a b : Str} (c : Nat × Nat) : (mkR a b c).length ≤ 2 := by
  obtain ⟨x, y⟩ := c
  rcases x with _ | x <;> rcases y with _ | y <;> simp [mkR]
/-! VI: every rule of two names -/
/-- new dicts -/
structure Dicts (T : List (Addr × Str)) (H0 H' : Hp) (us : List V) (krs : List (List (Str × Int))) : Prop where
  pr : Paired (LotA H') us krs
  nd : us.Nodup
  nw : ∀ u ∈ us, ∃ d, u = .ref d ∧ New H0 d
theorem Dicts.nil {T : List (Addr × Str)} {H0 H' : Hp} : Dicts T H0 H' [] [] := ⟨.nil, .nil, fun _ h => by cases h⟩
theorem Dicts.grow {T : List (Addr × Str)} {S : Addr → Prop} {H0 H1 H2 : Hp} {us : List V} {krs : List (List (Str × Int))} (h : Dicts T H0 H1 us krs) (g : GrowX T S H1 H2) (n : ∀ d kr, S d → H1 d ≠ some (.dK (hrK kr))) : Dicts T H0 H2 us krs := by
  refine ⟨Paired.imp2 h.pr ?_, h.nd, h.nw⟩
  rintro v kr ⟨d, e, hd⟩
  exact ⟨d, e, g.ext _ _ (fun z => n d kr z hd) hd (fun _ z => by cases z)⟩
theorem Dicts.app {T : List (Addr × Str)} {H0 H1 H2 : Hp} {us vs : List V} {krs lrs : List (List (Str × Int))} (h : Dicts T H0 H1 us krs) (h2 : Dicts T H1 H2 vs lrs) (g : Grow T H1 H2) (g0 : ∀ d, New H1 d → New H0 d) : Dicts T H0 H2 (us ++ vs) (krs ++ lrs) := by
  refine ⟨Paired.app2 (Paired.imp2 h.pr fun _ _ e => e.grow g) h2.pr, ?_, fun u hu => ?_⟩
  · refine List.nodup_append.2 ⟨h.nd, h2.nd, fun u hu v hv e => ?_⟩
    subst e
    obtain ⟨d, e, nd⟩ := h2.nw u hv
    obtain ⟨j, hj⟩ := List.getElem?_of_mem hu
    obtain ⟨kr, -, d', e', hd'⟩ := Paired.get2 h.pr j u hj
    rw [e] at e'
    injection e' with e'
    rw [← e', show H1 d = none from nd] at hd'
    cases hd'
  · rcases List.mem_append.1 hu with h1 | h1
    · exact h.nw u h1
    · obtain ⟨d, e, nd⟩ := h2.nw u h1
      exact ⟨d, e, g0 d nd⟩
theorem Dicts.snoc {T : List (Addr × Str)} {H0 H1 H2 : Hp} {us : List V} {krs : List (List (Str × Int))} {kr : List (Str × Int)} {d : Addr} (h : Dicts T H0 H1 us krs) (g : Grow T H1 H2) (g0 : ∀ d, New H1 d → New H0 d) (n : H1 d = none) (hd : H2 d = some (.dK (hrK kr))) : Dicts T H0 H2 (us ++ [.ref d]) (krs ++ [kr]) :=
  h.app ⟨.cons ⟨d, rfl, hd⟩ .nil, List.pairwise_singleton _ _, fun u hu => ⟨d, List.mem_singleton.1 hu, n⟩⟩ g g0
theorem Paired.impM {α β : Type} {F G : α → β → Prop} : ∀ {as : List α} {bs : List β}, Paired F as bs → (∀ a b, b ∈ bs → F a b → G a b) → Paired G as bs
  | _, _, .nil, _ => .nil
  | _, _, .cons r p, h => .cons (h _ _ (by simp) r) (Paired.impM p fun a b m r => h a b (List.mem_cons_of_mem _ m) r)
def EvS (ad : Nat × Nat → V) (H : Hp) (x : V) (s : List (Nat × Nat)) : Prop := ∃ l, x = .ref l ∧ H l = some (.lst (s.map ad))
def sp_every (m : Md) : Sp := fun vs H Q _ => ∃ (a : Addr) (z0 z1 : Str) (mm : Nat), vs = [.ref a, .int (mm : Nat)] ∧ SqL m.K H a [.str z0, .str z1] ∧ z0 ≠ z1 ∧ IsName z0 ∧ IsName z1 ∧ mm ≤ 2 ∧
  ∀ (L : Addr) (H' : Hp) (xs : List V) (ad : Nat × Nat → V), Grow m.T H H' → New H L → H' L = some (.lst xs) → (∀ c ∈ cds mm, ∃ d, ad c = .ref d ∧ New H d ∧ H' d = some (.dK (hrK (mkR z0 z1 c)))) → Paired (EvS ad H') xs ((evr (cds mm)).drop 1) → Q (.ref L) H'
theorem c_every {m : Md} {f : Addr} {fd : FuncData} (F : C8.Def m.K m.mg "_law_every" st_every f fd) (b : L2.Binds m.K fd ps_every []) (hr : m.mg "range" = none) (hd : m.mg "dict" = none) (hl : m.mg "list" = none) (Wi : Cal m 1 "_law_within" (sp_within m)) : Cal m 2 "_law_every" (sp_every m) := by
  refine cal_ofM F b sc_every (fun vs H Q E h => by obtain ⟨_, _, _, _, rfl, _⟩ := h; rfl) fun X vs H Q E hA hM h => ?_
  obtain ⟨a, z0, z1, mm, rfl, ha, nz, i0, i1, hm, k⟩ := h
  replace hA : At m nl_every (C8.fnScope st_every) 1 X := hA
  obtain ⟨n1, n2, n3, n4, n0, n5, n6⟩ := nv_every
  walk_at "B"
  refine s_par hA n2 n3 ?_
  walk_at "V"
  refine w_lcR hA hr rfl (by decide +kernel) (i := 5) ⟨rfl, rfl⟩ ?_
  walk_at "V"
  refine ⟨by omega, by omega, fun D1 hD1 => ?_⟩
  have hzD1 : ((mm : Int) + 1).toNat = mm + 1 := by omega
  rw [hzD1]
  refine ⟨fun j H' => Grow m.T H H' ∧ ∃ us, H' D1 = some (.lst us) ∧ Dicts m.T H H' us (((List.range j).map fun w => (w + 1, 0)).map (mkR z0 z1)), ⟨Grow.new hD1, [], upd_same, Dicts.nil⟩, ?_, ?_⟩
  · rintro j H' hj ⟨g, us, hv, du⟩ X' hX'
    have c0 := nc_of hX' 0 "_law_names_here"
    have c5 := nl_of hX' 5 "_law_wait"
    have ha' := GrowX.seqL (GrowX.trans (GrowX.refl : Grow m.T H H) g) ha (fun z => z)
    refine g_typ hX' hd rfl bt_dict ?_
    walk_at "V"
    refine g_ixL hX' ha' (atI_at (j := 0) rfl) ?_
    walk_at "V"
    refine ⟨by walk_at "S", fun T hT => ?_⟩
    have gT := Grow.new (T := m.T) (o := .tup [.str z0, .int (j : Nat)]) hT
    have hT1 : (upd H' T (.tup [.str z0, .int (j : Nat)])) T = some (.tup [.str z0, .int (j : Nat)]) := upd_same
    generalize upd H' T (.tup [.str z0, .int (j : Nat)]) = H1 at *
    walk_at "V"
    refine ⟨by walk_at "S", fun L hL => ?_⟩
    have gL := Grow.new (T := m.T) (o := .lst [.ref T]) hL
    have hT2 := gL.tup _ _ hT1
    have hL2 : (upd H1 L (.lst [.ref T])) L = some (.lst [.ref T]) := upd_same
    generalize upd H1 L (.lst [.ref T]) = H2 at *
    walk_at "V"
    refine g_dictP hX' (ps := [T]) (kvs := hrK [(z0, ((j : Nat) : Int))]) (SqL.of hL2) (.cons (SqT.of hT2) .nil) fun d hd3 => ?_
    rw [merge_hr (by simp)]
    have gd := Grow.new (T := m.T) (o := .dK (hrK [(z0, ((j : Nat) : Int))])) hd3
    have g3 : Grow m.T H' (upd H2 d (.dK (hrK [(z0, ((j : Nat) : Int))]))) := (gT.trans gL).trans gd
    have hv3 := g3.extN _ _ hv (fun _ z => by cases z)
    have lus := paired_len du.pr
    rw [List.length_map, List.length_map, List.length_range] at lus
    have gX := GrowX.lst (T := m.T) (ys := us ++ [V.ref d]) hv3
    refine ⟨_, hv3, by rw [sizeLine_eq]; omega, Grow.intoNew (g.trans g3) gX (fun _ w => by rw [w]; exact hD1), us ++ [.ref d], upd_same, ?_⟩
    have nd' : H' d = none := gT.keep _ (gL.keep _ hd3)
    have := du.snoc (kr := mkR z0 z1 (let w := j; (w + 1, 0))) g3 (fun _ z => g.keep _ z) nd' (show (upd H2 d _) d = _ from upd_same)
    rw [List.range_succ, List.map_append, List.map_append]
    exact this.grow gX fun d' kr z e => by rw [z, hv3] at e; cases e
  rintro H1 ⟨g1, us1, hD1', du1⟩
  walk_at "V"
  refine ⟨by walk_at "S", fun E0 hE0 => ?_⟩
  have gE := Grow.new (T := m.T) (o := .lst []) hE0
  walk_at "V"
  refine ⟨by walk_at "S", fun F0 hF0 => ?_⟩
  have gF := Grow.new (T := m.T) (o := .lst [.ref E0]) hF0
  walk_at "V"
  refine ⟨_, _, rfl, ?_⟩
  have nF : New H F0 := g1.keep _ (gE.keep _ hF0)
  have g2 : Grow m.T H (upd (upd H1 E0 (.lst [])) F0 (.lst [.ref E0])) := (g1.trans gE).trans gF
  have gEF : Grow m.T H1 (upd (upd H1 E0 (.lst [])) F0 (.lst [.ref E0])) := gE.trans gF
  have hE2 : (upd (upd H1 E0 (.lst [])) F0 (.lst [.ref E0])) E0 = some (.lst []) := gF.extN _ _ upd_same (fun _ z => by cases z)
  have hF2 : (upd (upd H1 E0 (.lst [])) F0 (.lst [.ref E0])) F0 = some (.lst [.ref E0]) := upd_same
  have du2 := du1.grow gEF (fun _ _ z => z.elim)
  have hD2 := gEF.extN _ _ hD1' (fun _ z => by cases z)
  generalize upd (upd H1 E0 (.lst [])) F0 (.lst [.ref E0]) = H2 at *
  clear hE0 hF0 gE gF gEF g1 hD1' du1
  walk_at "B"
  walk_at "V"
  refine w_lcR hA hr rfl (by decide +kernel) (i := 5) ⟨rfl, rfl⟩ ?_
  walk_at "V"
  refine ⟨by omega, by omega, fun D3 hD3 => ?_⟩
  have hzD3 : ((mm : Int) + 1).toNat = mm + 1 := by omega
  rw [hzD3]
  refine ⟨fun j H' => Grow m.T H2 H' ∧ ∃ us, H' D3 = some (.lst us) ∧ Dicts m.T H2 H' us (((List.range j).map fun w => (0, w + 1)).map (mkR z0 z1)), ⟨Grow.new hD3, [], upd_same, Dicts.nil⟩, ?_, ?_⟩
  · rintro j H' hj ⟨g, us, hv, du⟩ X' hX'
    have c0 := nc_of hX' 0 "_law_names_here"
    have c5 := nl_of hX' 5 "_law_wait"
    have ha' := GrowX.seqL (GrowX.trans g2 g) ha (fun z => z)
    refine g_typ hX' hd rfl bt_dict ?_
    walk_at "V"
    refine g_ixL hX' ha' (atI_at (j := 1) rfl) ?_
    walk_at "V"
    refine ⟨by walk_at "S", fun T hT => ?_⟩
    have gT := Grow.new (T := m.T) (o := .tup [.str z1, .int (j : Nat)]) hT
    have hT1 : (upd H' T (.tup [.str z1, .int (j : Nat)])) T = some (.tup [.str z1, .int (j : Nat)]) := upd_same
    generalize upd H' T (.tup [.str z1, .int (j : Nat)]) = H1 at *
    walk_at "V"
    refine ⟨by walk_at "S", fun L hL => ?_⟩
    have gL := Grow.new (T := m.T) (o := .lst [.ref T]) hL
    have hT2 := gL.tup _ _ hT1
    have hL2 : (upd H1 L (.lst [.ref T])) L = some (.lst [.ref T]) := upd_same
    generalize upd H1 L (.lst [.ref T]) = H2 at *
    walk_at "V"
    refine g_dictP hX' (ps := [T]) (kvs := hrK [(z1, ((j : Nat) : Int))]) (SqL.of hL2) (.cons (SqT.of hT2) .nil) fun d hd3 => ?_
    rw [merge_hr (by simp)]
    have gd := Grow.new (T := m.T) (o := .dK (hrK [(z1, ((j : Nat) : Int))])) hd3
    have g3 : Grow m.T H' (upd H2 d (.dK (hrK [(z1, ((j : Nat) : Int))]))) := (gT.trans gL).trans gd
    have hv3 := g3.extN _ _ hv (fun _ z => by cases z)
    have lus := paired_len du.pr
    rw [List.length_map, List.length_map, List.length_range] at lus
    have gX := GrowX.lst (T := m.T) (ys := us ++ [V.ref d]) hv3
    refine ⟨_, hv3, by rw [sizeLine_eq]; omega, Grow.intoNew (g.trans g3) gX (fun _ w => by rw [w]; exact hD3), us ++ [.ref d], upd_same, ?_⟩
    have nd' : H' d = none := gT.keep _ (gL.keep _ hd3)
    have := du.snoc (kr := mkR z0 z1 (let w := j; (0, w + 1))) g3 (fun _ z => g.keep _ z) nd' (show (upd H2 d _) d = _ from upd_same)
    rw [List.range_succ, List.map_append, List.map_append]
    exact this.grow gX fun d' kr z e => by rw [z, hv3] at e; cases e
  rintro H3 ⟨g3, us2, hD3', du3⟩
  have lus1 := paired_len du2.pr
  have lus2 := paired_len du3.pr
  rw [List.length_map, List.length_map, List.length_range] at lus1 lus2
  refine g_cat (g3.extN _ _ hD2 (fun _ z => by cases z)) hD3' (by rw [sizeLine_eq]; omega) fun L0 hL0 => ?_
  have gL0 := Grow.new (T := m.T) (o := .lst (us1 ++ us2)) hL0
  have g4 : Grow m.T H (upd H3 L0 (.lst (us1 ++ us2))) := (g2.trans g3).trans gL0
  have du4 := (du2.app du3 g3 (fun _ z => g2.keep _ z)).grow gL0 (fun _ _ z => z.elim)
  have hL4 : (upd H3 L0 (.lst (us1 ++ us2))) L0 = some (.lst (us1 ++ us2)) := upd_same
  have hE4 := gL0.extN _ _ (g3.extN _ _ hE2 (fun _ z => by cases z)) (fun _ z => by cases z)
  have hF4 := gL0.extN _ _ (g3.extN _ _ hF2 (fun _ z => by cases z)) (fun _ z => by cases z)
  generalize upd H3 L0 (.lst (us1 ++ us2)) = H4 at *
  have lus3 : (us1 ++ us2).length = 2 * (mm + 1) := by rw [List.length_append]; omega
  generalize us1 ++ us2 = us3 at *
  walk_at "B"
  let cs : Nat → List (Nat × Nat) := fun t => ((List.range (mm + 1)).map fun w => (w + 1, 0)) ++ ((List.range (mm + 1)).map fun w => (0, w + 1)) ++ (List.range t).flatMap fun w => (List.range (mm + 1)).map fun v => (w + 1, v + 1)
  refine s_forR hA (pg_nc hA n5 hM.fn) hr rfl ?_
  walk_at "V"
  refine ⟨by omega, by omega, fun t σ H' => (∃ Lt u4 u5 u6 u7 u8, σ = [some (.ref a), some (.int (mm : Nat)), some (.ref Lt), some (.ref F0), u4, u5, u6, u7, u8] ∧ ∃ us, H' Lt = some (.lst us) ∧ Dicts m.T H H' us ((cs t).map (mkR z0 z1)) ∧ us.length = 2 * (mm + 1) + t * (mm + 1)) ∧ Grow m.T H H' ∧ H' F0 = some (.lst [.ref E0]) ∧ H' E0 = some (.lst []), ⟨⟨L0, _, _, _, _, _, rfl, us3, hL4, ?_, by omega⟩, g4, hF4, hE4⟩, ?_, ?_⟩
  · simpa [cs] using du4
  · rintro t σ H5 ht ⟨⟨Lt, u4, u5, u6, u7, u8, rfl, us, hL5, du5, lu5⟩, g5, hF5, hE5⟩
    have ht : t < 3 := by omega
    walk_at "B"
    walk_at "V"
    refine w_lcR hA hr rfl (by decide +kernel) (i := 7) ⟨rfl, rfl⟩ ?_
    walk_at "V"
    refine ⟨by omega, by omega, fun D6 hD6 => ?_⟩
    have hz6 : ((mm : Int) + 1).toNat = mm + 1 := by omega
    rw [hz6]
    refine ⟨fun j H' => Grow m.T H5 H' ∧ ∃ us, H' D6 = some (.lst us) ∧ Dicts m.T H5 H' us (((List.range j).map fun v => (t + 1, v + 1)).map (mkR z0 z1)), ⟨Grow.new hD6, [], upd_same, Dicts.nil⟩, ?_, ?_⟩
    · rintro j H' hj ⟨g, us', hv, du⟩ X' hX'
      have c0 := nc_of hX' 0 "_law_names_here"
      have c5 := nc_of hX' 5 "_law_wait"
      have c7 := nl_of hX' 7 "_law_other"
      have ha' := GrowX.seqL (GrowX.trans g5 g) ha (fun z => z)
      refine g_typ hX' hd rfl bt_dict ?_
      walk_at "V"
      refine g_ixL hX' ha' (atI_at (j := 0) rfl) ?_
      walk_at "V"
      refine ⟨by walk_at "S", fun T1 hT1 => ?_⟩
      have gT1 := Grow.new (T := m.T) (o := .tup [.str z0, .int (t : Nat)]) hT1
      have eT1 : (upd H' T1 (.tup [.str z0, .int (t : Nat)])) T1 = some (.tup [.str z0, .int (t : Nat)]) := upd_same
      have ha1 := GrowX.seqL gT1 ha' (fun z => z)
      generalize upd H' T1 (.tup [.str z0, .int (t : Nat)]) = H1 at *
      walk_at "V"
      refine g_ixL hX' ha1 (atI_at (j := 1) rfl) ?_
      walk_at "V"
      refine ⟨by walk_at "S", fun T2 hT2 => ?_⟩
      have gT2 := Grow.new (T := m.T) (o := .tup [.str z1, .int (j : Nat)]) hT2
      have eT2 : (upd H1 T2 (.tup [.str z1, .int (j : Nat)])) T2 = some (.tup [.str z1, .int (j : Nat)]) := upd_same
      have eT1' := gT2.tup _ _ eT1
      generalize upd H1 T2 (.tup [.str z1, .int (j : Nat)]) = H2 at *
      walk_at "V"
      refine ⟨by walk_at "S", fun L hL => ?_⟩
      have gL := Grow.new (T := m.T) (o := .lst [.ref T1, .ref T2]) hL
      have eT12 := gL.tup _ _ eT1'
      have eT22 := gL.tup _ _ eT2
      have hL2 : (upd H2 L (.lst [.ref T1, .ref T2])) L = some (.lst [.ref T1, .ref T2]) := upd_same
      generalize upd H2 L (.lst [.ref T1, .ref T2]) = H7 at *
      walk_at "V"
      refine g_dictP hX' (ps := [T1, T2]) (kvs := hrK [(z0, ((t : Nat) : Int)), (z1, ((j : Nat) : Int))]) (SqL.of hL2) (.cons (SqT.of eT12) (.cons (SqT.of eT22) .nil)) fun d hd3 => ?_
      rw [merge_hr (by simp [nz])]
      have gd := Grow.new (T := m.T) (o := .dK (hrK [(z0, ((t : Nat) : Int)), (z1, ((j : Nat) : Int))])) hd3
      have g3 : Grow m.T H' (upd H7 d (.dK (hrK [(z0, ((t : Nat) : Int)), (z1, ((j : Nat) : Int))]))) := ((gT1.trans gT2).trans gL).trans gd
      have hv3 := g3.extN _ _ hv (fun _ z => by cases z)
      have lus := paired_len du.pr
      rw [List.length_map, List.length_map, List.length_range] at lus
      have gX := GrowX.lst (T := m.T) (ys := us' ++ [V.ref d]) hv3
      refine ⟨_, hv3, by rw [sizeLine_eq]; omega, Grow.intoNew (g.trans g3) gX (fun _ w => by rw [w]; exact hD6), us' ++ [.ref d], upd_same, ?_⟩
      have nd' : H' d = none := gT1.keep _ (gT2.keep _ (gL.keep _ hd3))
      have := du.snoc (kr := mkR z0 z1 (t + 1, j + 1)) g3 (fun _ z => g.keep _ z) nd' (show (upd H7 d _) d = _ from upd_same)
      rw [List.range_succ, List.map_append, List.map_append]
      exact this.grow gX fun d' kr z e => by rw [z, hv3] at e; cases e
    rintro H6 ⟨g6, us6, hD6', du6⟩
    have l6 := paired_len du6.pr
    rw [List.length_map, List.length_map, List.length_range] at l6
    have hmul : t * (mm + 1) ≤ 2 * 3 := Nat.mul_le_mul (by omega) (by omega)
    refine g_cat (g6.extN _ _ hL5 (fun _ z => by cases z)) hD6' (by rw [sizeLine_eq]; omega) fun L7 hL7 => ?_
    have gL7 := Grow.new (T := m.T) (o := .lst (us ++ us6)) hL7
    have g7 : Grow m.T H5 (upd H6 L7 (.lst (us ++ us6))) := g6.trans gL7
    have du7 := (du5.app du6 g6 (fun _ z => g5.keep _ z)).grow gL7 (fun _ _ z => z.elim)
    refine b_nil ⟨⟨L7, _, _, _, _, _, rfl, us ++ us6, upd_same, ?_, by rw [List.length_append, lu5, l6, Nat.add_mul t 1 (mm + 1), Nat.one_mul]; omega⟩, g5.trans g7, g7.extN _ _ hF5 (fun _ z => by cases z), g7.extN _ _ hE5 (fun _ z => by cases z)⟩
    have e : (cs (t + 1)).map (mkR z0 z1) = (cs t).map (mkR z0 z1) ++ ((List.range (mm + 1)).map fun v => (t + 1, v + 1)).map (mkR z0 z1) := by
      simp only [cs]
      rw [List.range_succ (n := t), List.flatMap_append, ← List.append_assoc, List.map_append]
      simp
    rw [e]
    exact du7
  rintro σ H5 ⟨⟨Lz, u4, u5, u6, u7, u8, rfl, us, hLz, du, lu⟩, g5, hF5, hE5⟩
  rw [show ((mm : Int) + 1).toNat = mm + 1 from by omega] at du lu
  have ecs : cs (mm + 1) = cds mm := rfl
  rw [ecs] at du
  clear du4 hL4 hE4 hF4 g4 gL0 hL0 g3 hD3' du3 g2 hE2 hF2 du2 hD2
  have lc := cds_len hm
  have ndc := cds_nodup hm
  obtain ⟨ad, eus, inj⟩ := map_of (cs := cds mm) V.non (by have := paired_len du.pr; rw [List.length_map] at this; exact this) ndc du.nd
  subst eus
  have adA : ∀ c ∈ cds mm, ∃ d, ad c = .ref d ∧ New H d ∧ H5 d = some (.dK (hrK (mkR z0 z1 c))) := fun c hc => by
    obtain ⟨i, hi⟩ := List.getElem?_of_mem hc
    obtain ⟨kr, e1, d, e2, e3⟩ := Paired.get2 du.pr i (ad c) (by rw [List.getElem?_map, hi]; rfl)
    rw [List.getElem?_map, hi] at e1
    cases e1
    obtain ⟨d', e4, e5⟩ := du.nw (ad c) (List.mem_map.2 ⟨c, hc, rfl⟩)
    rw [e2] at e4
    injection e4 with e4
    exact ⟨d, e2, by rw [e4]; exact e5, e3⟩
  walk_at "B"
  refine s_forL hA (pg_nc hA n6 hM.fn) ?_
  walk_at "V"
  have lev := evr_len hm
  -- what stands while the list of all grows
  let Iv : Hp → Prop := fun H' => Grow m.T H H' ∧ GrowX m.T (· = F0) H5 H'
  have adX : ∀ H', Iv H' → ∀ c ∈ cds mm, ∃ d, ad c = .ref d ∧ New H d ∧ H' d = some (.dK (hrK (mkR z0 z1 c))) := fun H' iv c hc => by
    obtain ⟨d, e1, e2, e3⟩ := adA c hc
    exact ⟨d, e1, e2, iv.2.ext _ _ (fun z => by rw [z, hF5] at e3; cases e3) e3 (fun _ z => by cases z)⟩
  have hLF : Lz ≠ F0 := fun z => by
    rw [z, hF5] at hLz
    have e : [V.ref E0] = (cds mm).map ad := by injection Option.some.inj hLz
    have m10 : ((1, 0) : Nat × Nat) ∈ cds mm := cds_mem.2 ⟨by simp, by simp, by simp⟩
    obtain ⟨d, e1, _, e3⟩ := adA (1, 0) m10
    have : ad (1, 0) ∈ [V.ref E0] := by rw [e]; exact List.mem_map.2 ⟨_, m10, rfl⟩
    rw [List.mem_singleton.1 this] at e1
    injection e1 with e1
    rw [← e1, hE5] at e3
    cases e3
  refine ⟨Lz, _, rfl, SqL.of hLz, fun t σ H' => (∃ u4 u5 u6 u7 u8, σ = [some (.ref a), some (.int (mm : Nat)), some (.ref Lz), some (.ref F0), u4, u5, u6, u7, u8]) ∧ Iv H' ∧ ∃ xs, H' F0 = some (.lst xs) ∧ Paired (EvS ad H') xs (evr ((cds mm).take t)), ⟨⟨_, _, _, _, _, rfl⟩, ⟨g5, GrowX.refl⟩, _, hF5, .cons ⟨E0, rfl, hE5⟩ .nil⟩, fun t σ H' _ hp => SqL.of (hp.2.1.2.ext _ _ hLF hLz (fun _ z => by cases z)), ?_, ?_⟩
  · rintro t x σ H6 hx ⟨⟨u4, u5, u6, u7, u8, rfl⟩, iv6, xs, hF6, hxs⟩
    rw [List.getElem?_map] at hx
    obtain ⟨c, hc, rfl⟩ := Option.map_eq_some_iff.1 hx
    have htl := (List.getElem?_eq_some_iff.1 hc).1
    have mc := List.mem_of_getElem? hc
    have tk : (cds mm).take (t + 1) = (cds mm).take t ++ [c] := by rw [List.take_succ, hc]; rfl
    have lxs := paired_len hxs
    have lxt := evr_take_len (cs := cds mm) t
    refine b_one ?_
    refine s_forL hA (pg_nl hA n4) ?_
    refine g_typ hA hl rfl bt_list ?_
    walk_at "V"
    refine g_listOf hA (.inl (SqL.of hF6)) fun C hC => ?_
    have gC := Grow.new (T := m.T) (o := .lst xs) hC
    have hCF : C ≠ F0 := fun z => by rw [z, hF6] at hC; cases hC
    have hC7 : (upd H6 C (.lst xs)) C = some (.lst xs) := upd_same
    have hF7 := gC.extN _ _ hF6 (fun _ z => by cases z)
    have hxs7 : Paired (EvS ad (upd H6 C (.lst xs))) xs (evr ((cds mm).take t)) := Paired.imp2 hxs fun x s ⟨l, e1, e2⟩ => ⟨l, e1, gC.extN _ _ e2 (fun _ z => by cases z)⟩
    have iv7 : Iv (upd H6 C (.lst xs)) := ⟨iv6.1.trans gC, iv6.2.trans gC.to⟩
    generalize upd H6 C (.lst xs) = H7 at *
    refine ⟨C, xs, rfl, SqL.of hC7, fun u σ H' => (∃ u4 u5 u7 u8, σ = [some (.ref a), some (.int (mm : Nat)), some (.ref Lz), some (.ref F0), u4, u5, some (ad c), u7, u8]) ∧ Iv H' ∧ GrowX m.T (· = F0) H7 H' ∧ ∃ ys, H' F0 = some (.lst (xs ++ ys)) ∧ Paired (EvS ad H') (xs ++ ys) (evr ((cds mm).take t) ++ ((evr ((cds mm).take t)).take u |>.filter (cmpC c)).map fun s => s ++ [c]), ⟨⟨_, _, _, _, rfl⟩, iv7, GrowX.refl, [], by rw [List.append_nil]; exact hF7, by simpa using hxs7⟩, fun u σ H' _ hp => SqL.of (hp.2.2.1.ext _ _ hCF hC7 (fun _ z => by cases z)), ?_, ?_⟩
    · rintro u y σ H8 hy ⟨⟨u4, u5, u7, u8, rfl⟩, iv8, g78, ys, hF8, hys⟩
      have hul := (List.getElem?_eq_some_iff.1 hy).1
      obtain ⟨s, hs, l, rfl, hl8⟩ := Paired.get2 hys u y (by rw [List.getElem?_append_left hul]; exact hy)
      rw [List.getElem?_append_left (by omega)] at hs
      have ms := List.mem_of_getElem? hs
      have lsn := evr_elen _ ((cds mm).take t) rfl s ms
      have lsn2 : s.length ≤ 15 := Nat.le_trans lsn (by rw [List.length_take]; omega)
      have sub : ∀ e ∈ s, e ∈ cds mm := fun e he => List.mem_of_mem_take (evr_sub _ _ rfl s ms e he)
      have nec : ∀ e ∈ s, e ≠ c := fun e he z => by
        have h1 := evr_sub _ _ rfl s ms e he
        have : ((cds mm).take (t + 1)).Nodup := ndc.sublist (List.take_sublist _ _)
        rw [tk] at this
        exact (List.nodup_append.1 this).2.2 e h1 c (by simp) z
      have nF0 : ∀ (s : List (Nat × Nat)) (l : Addr), (∀ e ∈ s, e ∈ cds mm) → H8 l = some (.lst (s.map ad)) → l ≠ F0 := fun s' l' sb hl' z => by
        rw [z, hF8] at hl'
        have e : xs ++ ys = s'.map ad := by injection Option.some.inj hl'
        have p0 : 0 < xs.length := by rw [lxs, (evr_head _).1]; simp
        obtain ⟨s0, -, l0, e0, hl0⟩ := Paired.get2 hys 0 _ (by rw [List.getElem?_append_left p0]; exact List.getElem?_eq_getElem p0)
        have m0 : xs[0] ∈ s'.map ad := by rw [← e]; exact List.mem_append.2 (.inl (List.getElem_mem p0))
        obtain ⟨c', hc', e'⟩ := List.mem_map.1 m0
        obtain ⟨d', e1, -, e3⟩ := adX H8 iv8 c' (sb c' hc')
        rw [e', e0] at e1
        injection e1 with e1
        rw [← e1, hl0] at e3
        cases e3
      walk_at "B"
      walk_at "V"
      refine w_lcLi hA (by decide +kernel) (i := 8) ⟨rfl, rfl⟩ ?_
      walk_at "V"
      obtain ⟨dc, ec1, ec2, ec3⟩ := adX H8 iv8 c mc
      refine ⟨l, _, rfl, SqL.of hl8, fun D9 hD9 => ⟨fun j H' => Grow m.T H8 H' ∧ H' D9 = some (.lst (((s.take j).filter fun e => leC e c || leC c e).map ad)), ⟨Grow.new hD9, upd_same⟩, fun j H' _ hp => SqL.of (hp.1.extN _ _ hl8 (fun _ z => by cases z)), ?_, ?_⟩⟩
      · rintro j x H' hx ⟨g, hv⟩ X' hX'
        rw [List.getElem?_map] at hx
        obtain ⟨e, he, rfl⟩ := Option.map_eq_some_iff.1 hx
        have hjl := (List.getElem?_eq_some_iff.1 he).1
        have me := List.mem_of_getElem? he
        obtain ⟨de, ee1, ee2, ee3⟩ := adX H8 iv8 e (sub e me)
        have c6 := nc_of hX' 6 "_law_row"
        have c8 := nl_of hX' 8 "_law_one"
        have nde : de ≠ dc := fun z => nec e me (inj e (sub e me) c mc (by rw [ee1, ec1, z]))
        have tks : s.take (j + 1) = s.take j ++ [e] := by rw [List.take_succ, he]; rfl
        have fin1 : (leC e c || leC c e) = true → ∀ H', Grow m.T H8 H' → H' D9 = some (.lst (((s.take j).filter fun e => leC e c || leC c e).map ad)) → App D9 (fun H' => Grow m.T H8 H' ∧ H' D9 = some (.lst (((s.take (j + 1)).filter fun e => leC e c || leC c e).map ad))) (ad e) H' := fun hb H' g hv => by
          have lf := List.length_filter_le (fun e => leC e c || leC c e) (s.take j)
          rw [List.length_take] at lf
          refine ⟨_, hv, by rw [List.length_map, sizeLine_eq]; omega, Grow.intoNew g (GrowX.lst hv) (fun _ w => by rw [w]; exact hD9), ?_⟩
          rw [upd_same, tks, List.filter_append, List.map_append, List.filter_cons_of_pos (p := fun e => leC e c || leC c e) hb]; rfl
        have fin2 : (leC e c || leC c e) = false → ∀ H' : Hp, H' D9 = some (.lst (((s.take j).filter fun e => leC e c || leC c e).map ad)) → H' D9 = some (.lst (((s.take (j + 1)).filter fun e => leC e c || leC c e).map ad)) := fun hb H' hv => by
          rw [hv, tks, List.filter_append, List.filter_cons_of_neg (p := fun e => leC e c || leC c e) (by rw [hb]; simp)]; simp
        have nmR : ∀ c', ∀ p ∈ mkR z0 z1 c', IsName p.1 := fun c' p hp => by
          rcases mkR_mem.1 hp with ⟨-, rfl⟩ | ⟨-, rfl⟩
          · exact i0
          · exact i1
        have lnR : ∀ c', (mkR z0 z1 c').length < 1000 := fun c' => by have := mkR_len (a := z0) (b := z1) c'; omega
        rw [ee1] at fin1 ⊢
        walk_at "V"
        refine w_call hX' Wi (by omega) rfl ?_
        walk_at "V"
        rw [ec1]
        refine ⟨de, dc, mkR z0 z1 e, mkR z0 z1 c, rfl, nde, g.extN _ _ ee3 (fun _ z => by cases z), g.extN _ _ ec3 (fun _ z => by cases z), mkR_nodup nz e, nmR e, lnR e, fun H9 g9 => ?_⟩
        rw [within_mk nz]
        have hv9 := g9.extN _ _ hv (fun _ z => by cases z)
        refine g_truB ?_
        refine ite2 (fun h1 => ?_) fun h1 => ?_
        · refine iteT fun X2 hX2 => ?_
          have d8 := nl_of hX2 8 "_law_one"
          walk_at "V"
          exact fin1 (by rw [h1]; rfl) H9 (g.trans g9) hv9
        · walk_at "V"
          refine w_call hX' Wi (by omega) rfl ?_
          walk_at "V"
          refine ⟨dc, de, mkR z0 z1 c, mkR z0 z1 e, rfl, Ne.symm nde, g9.extN _ _ (g.extN _ _ ec3 (fun _ z => by cases z)) (fun _ z => by cases z), g9.extN _ _ (g.extN _ _ ee3 (fun _ z => by cases z)) (fun _ z => by cases z), mkR_nodup nz c, nmR c, lnR c, fun H10 g10 => ?_⟩
          rw [within_mk nz]
          have hv10 := g10.extN _ _ hv9 (fun _ z => by cases z)
          refine g_truB ?_
          refine ite2 (fun h2 => ?_) fun h2 => ?_
          · intro X2 hX2
            have d8 := nl_of hX2 8 "_law_one"
            walk_at "V"
            exact fin1 (by rw [h2]; simp) H10 ((g.trans g9).trans g10) hv10
          · refine ⟨(g.trans g9).trans g10, fin2 (by rw [Bool.not_eq_true] at h1 h2; rw [h1, h2]; rfl) H10 hv10⟩
      · rintro H9 ⟨g9, hv9⟩
        rw [List.length_map, List.take_length] at hv9
        walk_at "V"
        refine ⟨by walk_at "S", fun p hp => ?_⟩
        have gp := Grow.new (T := m.T) (o := .lst []) hp
        refine g_eqNil hA (SqL.of (gp.extN _ _ hv9 (fun _ z => by cases z))) (SqL.of upd_same) ?_
        have ei : (((s.filter fun e => leC e c || leC c e).map ad)).isEmpty = cmpC c s := by
          unfold cmpC
          cases hf : s.filter fun e => leC e c || leC c e with
          | nil =>
            have := List.filter_eq_nil_iff.1 hf
            symm
            refine List.all_eq_true.2 fun d hd => ?_
            have := this d hd
            simpa using this
          | cons q qs =>
            have mq : q ∈ s.filter fun e => leC e c || leC c e := by rw [hf]; simp
            obtain ⟨m1, m2⟩ := List.mem_filter.1 mq
            symm
            show _ = false
            rw [List.all_eq_false]
            exact ⟨q, m1, by simp only [m2]; simp⟩
        rw [ei]
        have gA : Grow m.T H8 (upd H9 p (.lst [])) := g9.trans gp
        generalize upd H9 p (.lst []) = HA at *
        have tku : (evr ((cds mm).take t)).take (u + 1) = (evr ((cds mm).take t)).take u ++ [s] := by rw [List.take_succ, hs]; rfl
        have hFA := gA.extN _ _ hF8 (fun _ z => by cases z)
        have hlA := gA.extN _ _ hl8 (fun _ z => by cases z)
        have ivA : Iv HA := ⟨iv8.1.trans gA, iv8.2.trans gA.to⟩
        have hysA : Paired (EvS ad HA) (xs ++ ys) (evr ((cds mm).take t) ++ ((evr ((cds mm).take t)).take u |>.filter (cmpC c)).map fun s => s ++ [c]) := by
          refine Paired.imp2 hys ?_
          rintro x s ⟨l, e1, e2⟩
          exact ⟨l, e1, gA.extN _ _ e2 (fun _ z => by cases z)⟩
        walk_at "V"
        refine ite2 (fun hb => ?_) fun hb => ?_
        · walk_at "B"
          walk_at "V"
          refine g_append ?_
          walk_at "V"
          refine ⟨tyL hFA, ?_⟩
          walk_at "V"
          refine ⟨by walk_at "S", fun O hO => ?_⟩
          have gO := Grow.new (T := m.T) (o := .lst [ad c]) hO
          refine g_cat (gO.extN _ _ hlA (fun _ z => by cases z)) upd_same (by rw [List.length_map, sizeLine_eq]; simp; omega) fun W hW => ?_
          have gW := Grow.new (T := m.T) (o := .lst (s.map ad ++ [ad c])) hW
          have gAW : Grow m.T HA (upd (upd HA O (.lst [ad c])) W (.lst (s.map ad ++ [ad c]))) := gO.trans gW
          have hFW := gAW.extN _ _ hFA (fun _ z => by cases z)
          have hWW : (upd (upd HA O (.lst [ad c])) W (.lst (s.map ad ++ [ad c]))) W = some (.lst (s.map ad ++ [ad c])) := upd_same
          have hWF : W ≠ F0 := fun z => by rw [z, gO.extN _ _ hFA (fun _ z => by cases z)] at hW; cases hW
          generalize upd (upd HA O (.lst [ad c])) W (.lst (s.map ad ++ [ad c])) = HW at *
          walk_at "V"
          have lys := paired_len hysA
          have lf := List.length_filter_le (cmpC c) ((evr ((cds mm).take t)).take u)
          rw [List.length_append, List.length_append, List.length_map] at lys
          rw [List.length_take] at lf
          refine ⟨F0, _, _, rfl, rfl, hFW, by rw [List.length_append, sizeLine_eq]; omega, ?_⟩
          have gX := GrowX.lst (T := m.T) (ys := xs ++ ys ++ [V.ref W]) hFW
          have nFg : New H F0 := nF
          refine b_nil (b_nil ⟨⟨_, _, _, _, rfl⟩, ⟨Grow.intoNew (ivA.1.trans gAW) gX (fun _ w => by rw [w]; exact nF), (ivA.2.trans gAW.to).trans gX⟩, ((g78.trans gA.to).trans gAW.to).trans gX, ys ++ [V.ref W], by rw [upd_same, List.append_assoc], ?_⟩)
          have mvX : ∀ (x : V) (s' : List (Nat × Nat)), s' ∈ (evr ((cds mm).take t) ++ ((evr ((cds mm).take t)).take u |>.filter (cmpC c)).map fun s => s ++ [c]) → EvS ad H8 x s' → EvS ad (upd HW F0 (.lst (xs ++ ys ++ [V.ref W]))) x s' := by
            rintro x s' hs' ⟨l, e1, e2⟩
            have sb : ∀ e ∈ s', e ∈ cds mm := fun e he => by
              rcases List.mem_append.1 hs' with h | h
              · exact List.mem_of_mem_take (evr_sub _ _ rfl s' h e he)
              · obtain ⟨r, hr, rfl⟩ := List.mem_map.1 h
                rcases List.mem_append.1 he with h2 | h2
                · exact List.mem_of_mem_take (evr_sub _ _ rfl r (List.mem_of_mem_take (List.mem_filter.1 hr).1) e h2)
                · rw [List.mem_singleton.1 h2]; exact mc
            exact ⟨l, e1, gX.ext _ _ (nF0 s' l sb e2) (gAW.extN _ _ (gA.extN _ _ e2 (fun _ z => by cases z)) (fun _ z => by cases z)) (fun _ z => by cases z)⟩
          rw [tku, List.filter_append, List.map_append, List.filter_cons_of_pos (p := cmpC c) hb, ← List.append_assoc, ← List.append_assoc]
          refine Paired.snoc (Paired.impM hys mvX) ⟨W, rfl, ?_⟩
          exact (gX.ext _ _ hWF hWW (fun _ z => by cases z)).trans (by rw [List.map_append]; rfl)
        · refine b_nil (b_nil ⟨⟨_, _, _, _, rfl⟩, ivA, g78.trans gA.to, ys, hFA, ?_⟩)
          rw [tku, List.filter_append, List.filter_cons_of_neg (p := cmpC c) hb]
          simpa using hysA
    · rintro σ H8 ⟨⟨u4, u5, u7, u8, rfl⟩, iv8, g78, ys, hF8, hys⟩
      refine ⟨⟨_, _, _, _, _, rfl⟩, iv8, _, hF8, ?_⟩
      rw [tk, evr_snoc]
      rw [List.take_of_length_le (l := evr (List.take t (cds mm))) (by omega)] at hys
      exact hys
  · rintro σ H6 ⟨⟨u4, u5, u6, u7, u8, rfl⟩, iv6, xs, hF6, hxs⟩
    rw [List.take_of_length_le (by rw [List.length_map]; exact Nat.le_refl _)] at hxs
    walk_at "B"
    walk_at "V"
    refine w_sliceFrom hA ?_
    walk_at "V"
    refine ⟨F0, xs, rfl, SqL.of hF6, fun R hR => ?_⟩
    have lxs := paired_len hxs
    have gR := Grow.new (T := m.T) (o := .lst (cutV xs (some 1) none)) hR
    have pos : 1 ≤ xs.length := by rw [lxs, (evr_head (cds mm)).1]; simp
    refine k R _ (xs.drop 1) ad (iv6.1.trans gR) (iv6.1.keep _ hR) (by rw [upd_same]; exact congrArg some (congrArg HO.lst (cutV_from (n := 1) pos))) (fun c hc => ?_) ?_
    · obtain ⟨d, e1, e2, e3⟩ := adX H6 iv6 c hc
      exact ⟨d, e1, e2, gR.extN _ _ e3 (fun _ z => by cases z)⟩
    · refine Paired.imp2 (Paired.drop2 1 hxs) ?_
      rintro x s ⟨l, e1, e2⟩
      exact ⟨l, e1, gR.extN _ _ e2 (fun _ z => by cases z)⟩
/-! VJ: whether a rule suits what was seen -/
def sutR (krs : List (List (Str × Int))) (r : Rw) : Bool := (match r.2.1 with | none => true | some l => !decide (firstT krs r.1 < l)) && (match r.2.2 with | none => true | some h => !decide (firstT krs r.1 > h))
theorem sutB_all (krs : List (List (Str × Int))) (rs : List Rw) : sutB krs rs = rs.all (sutR krs) := rfl
def sp_suits (m : Md) : Sp := fun vs H Q _ => ∃ (l sl : Addr) (us ws : List V) (krs : List (List (Str × Int))) (rs : List Rw) (zs : List Str) (A : Addr → Prop), vs = [.ref l, .ref sl] ∧ SqL m.K H l us ∧ Paired (LotA H) us krs ∧ krs ≠ [] ∧ krs.length < 1000 ∧ (∀ kr ∈ krs, LotOk zs kr) ∧ SqL m.K H sl ws ∧ RowsA A H ws rs ∧ rs.length < 1000 ∧ (∀ u ∈ us, ∀ d, A d → u ≠ .ref d) ∧ (∀ r ∈ rs, RowOk zs r) ∧ ∀ H', Grow m.T H H' → Q (.bl (sutB krs rs)) H'
theorem c_suits {m : Md} {f : Addr} {fd : FuncData} (F : C8.Def m.K m.mg "_law_suits" st_suits f fd) (b : L2.Binds m.K fd ps_suits []) (Fi : Cal m 2 "_law_first_told" (sp_first m)) : Cal m 3 "_law_suits" (sp_suits m) := by
  refine cal_of F b sc_suits (fun vs H Q E h => by obtain ⟨_, _, _, _, _, _, _, _, rfl, _⟩ := h; rfl) fun X vs H Q E hA h => ?_
  obtain ⟨l, sl, us, ws, krs, rs, zs, A, rfl, hl, hus, kn, kl, ok, hsl, hws, lr, ne, okr, k⟩ := h
  obtain ⟨n0, n1, n2, n3, n4, n5⟩ := nv_suits
  have lw := paired_len hws
  walk_at "B"
  refine s_forL hA (pg_tup hA.calm (pgs_cons (pg_nl hA n2) (pgs_cons (pg_nl hA n3) (pgs_cons (pg_nl hA n4) pgs_nil (by with_unfolding_all rfl)) (by with_unfolding_all rfl)) (by with_unfolding_all rfl)) (by with_unfolding_all rfl) (by with_unfolding_all rfl)) ?_
  walk_at "V"
  refine ⟨sl, ws, rfl, hsl, fun t σ H' => (∃ u2 u3 u4 u5, σ = [some (.ref l), some (.ref sl), u2, u3, u4, u5]) ∧ Grow m.T H H' ∧ (rs.take t).all (sutR krs) = true, ⟨⟨_, _, _, _, rfl⟩, GrowX.refl, rfl⟩, fun t σ H' _ hp => GrowX.seqL hp.2.1 hsl (fun z => z), ?_, ?_⟩
  · rintro t x σ H1 hx ⟨⟨u2, u3, u4, u5, rfl⟩, g1, al⟩
    obtain ⟨r, hr, T, d, rfl, hT, hAd, hd⟩ := Paired.get2 hws t x hx
    have hT1 := g1.tup _ _ hT
    have hd1 := g1.extN _ _ hd (fun _ z => by cases z)
    have tk : rs.take (t + 1) = rs.take t ++ [r] := by rw [List.take_succ, hr]; rfl
    have mr := List.mem_of_getElem? hr
    obtain ⟨kz, lo, hi⟩ := r
    refine ⟨T, _, rfl, .inl (.inl hT1), rfl, _, _, rfl, _, _, rfl, _, _, rfl, rfl, ?_⟩
    walk_at "B"
    walk_at "V"
    refine w_call hA Fi (by omega) rfl ?_
    walk_at "V"
    refine ⟨l, d, us, krs, kz, zs, rfl, GrowX.seqL g1 hl (fun z => z), Paired.imp2 hus fun _ _ e => e.grow g1, fun u hu => ne u hu d hAd, hd1, kn, by omega, ok, (okr _ mr).all, fun H2 g2 => ?_⟩
    have g12 := g1.trans g2
    have nxt : sutR krs (kz, lo, hi) = true → (rs.take (t + 1)).all (sutR krs) = true := fun hb => by rw [tk, List.all_append, al]; simpa using hb
    have bad : sutR krs (kz, lo, hi) = false → sutB krs rs = false := fun hb => by
      rw [sutB_all, List.all_eq_false]
      exact ⟨_, mr, by rw [hb]; simp⟩
    walk_at "B"
    walk_at "V"
    cases lo with
    | none =>
      refine iteF (iteF ?_)
      walk_at "V"
      cases hi with
      | none =>
        refine iteF (iteF ?_)
        refine b_nil (b_nil ⟨⟨_, _, _, _, rfl⟩, g12, nxt ?_⟩)
        unfold sutR; simp [*]
      | some u =>
        refine iteT ?_
        walk_at "V"
        refine g_gtI (i := firstT krs kz) (j := u) ?_
        refine ⟨_, rfl, ?_⟩
        refine ite2 (fun h2 => ?_) fun h2 => ?_
        · walk_at "B"
          walk_at "V"
          rw [← bad (by unfold sutR; simp only [h2]; simp)]
          exact k H2 g12
        · refine b_nil (b_nil ⟨⟨_, _, _, _, rfl⟩, g12, nxt ?_⟩)
          have h2' : decide (firstT krs kz > u) = false := by simpa using h2
          unfold sutR; simp [*]
    | some a =>
      refine iteT ?_
      walk_at "V"
      refine g_ltI (i := firstT krs kz) (j := a) ?_
      refine ⟨_, rfl, ?_⟩
      refine ite2 (fun h1 => ?_) fun h1 => ?_
      · walk_at "B"
        walk_at "V"
        rw [← bad (by unfold sutR; simp only [h1]; simp)]
        exact k H2 g12
      · have h1' : decide (firstT krs kz < a) = false := by simpa using h1
        walk_at "V"
        cases hi with
        | none =>
          refine iteF (iteF ?_)
          refine b_nil (b_nil ⟨⟨_, _, _, _, rfl⟩, g12, nxt ?_⟩)
          unfold sutR; simp [*]
        | some u =>
          refine iteT ?_
          walk_at "V"
          refine g_gtI (i := firstT krs kz) (j := u) ?_
          refine ⟨_, rfl, ?_⟩
          refine ite2 (fun h2 => ?_) fun h2 => ?_
          · walk_at "B"
            walk_at "V"
            rw [← bad (by unfold sutR; simp only [h2]; simp)]
            exact k H2 g12
          · refine b_nil (b_nil ⟨⟨_, _, _, _, rfl⟩, g12, nxt ?_⟩)
            have h2' : decide (firstT krs kz > u) = false := by simpa using h2
            unfold sutR; simp [*]
  · rintro σ H1 ⟨⟨u2, u3, u4, u5, rfl⟩, g1, al⟩
    rw [lw, List.take_length] at al
    walk_at "B"
    walk_at "V"
    rw [← al]
    exact k H1 g1
/-! VK: the same again behind changes -/
theorem g_neO {X : Cx} {m : Md} {N : List Str} {sc : Scope} {k : Nat} {o : Option Int} {H : Hp} {Q : VK} (h : At m N sc k X) (q : Q (.bl false) H) : gOp X (compareOp .NotEq) (optV o) (optV o) H Q := by
  cases o with
  | none => refine g_neD h .non .non rfl rfl ?_; exact q
  | some i =>
    refine g_neD h (.int i) (.int i) rfl rfl ?_
    rw [SeqAt.eqv_refl _ rfl]
    exact q
theorem g_neB {X : Cx} {m : Md} {N : List Str} {sc : Scope} {k : Nat} {a b : Bool} {H : Hp} {Q : VK} (h : At m N sc k X) (q : Q (.bl (a != b)) H) : gOp X (compareOp .NotEq) (.bl a) (.bl b) H Q := by
  refine g_neD h (.bl a) (.bl b) rfl rfl ?_
  have : (!PyData.eqv (.bool a) (.bool b)) = (a != b) := by cases a <;> cases b <;> rfl
  rw [this]
  exact q
/-- what is asked of sights that stand beside their rows -/
def Beside (m : Md) (C : Addr) (H : Hp) (i a sl : Addr) (zs : List Str) (mo : Option Int) (us : List V) (rs : List Rw) : Prop := SgAt C Any H i zs mo rs ∧ SgOk zs mo rs ∧ rs.length ≤ 50 ∧ SqL m.K H a (zs.map V.str) ∧ SqL m.K H sl us ∧ RowsA Any H us rs
def sp_grown (m : Md) (C : Addr) : Sp := fun vs H Q _ => ∃ (i a sl : Addr) (zs : List Str) (mo : Option Int) (us : List V) (rs : List Rw), vs = [.ref i, .ref a, optV mo, .ref sl] ∧ Beside m C H i a sl zs mo us rs ∧ H a ≠ none ∧ ∀ H', Grow m.T H H' → Q (.bl true) H'
theorem SgOk.take {zs : List Str} {mo : Option Int} {rs : List Rw} (h : SgOk zs mo rs) (n : Nat) : SgOk zs mo (rs.take n) := ⟨h.nm, h.mo, fun r hr => h.rw r (List.mem_of_mem_take hr), by have := h.len; rw [List.length_take]; omega⟩
theorem SgOk.less {zs : List Str} {mo : Option Int} {rs : List Rw} (h : SgOk zs mo rs) (n : Nat) : SgOk zs mo (rs.take n ++ rs.drop (n + 1)) := ⟨h.nm, h.mo, fun r hr => by
  rcases List.mem_append.1 hr with z | z
  · exact h.rw r (List.mem_of_mem_take z)
  · exact h.rw r (List.mem_of_mem_drop z), by have := h.len; rw [List.length_append, List.length_take, List.length_drop]; omega⟩
theorem boolT (b : Bool) : (if b = true then Str.ofString "True" else Str.ofString "False").length ≤ sizeLine := by rw [sizeLine_eq]; cases b <;> decide +kernel
def ClashV (ps : List (Nat × Nat)) (x : V) (H : Hp) : Prop := x = .non ∧ ps = [] ∨ ∃ (p : Nat × Nat) (b : Addr), ps.head? = some p ∧ x = .ref b ∧ H b = some (.tup [.int (p.1 : Nat), .int (p.2 : Nat)])
theorem clashQ_of {m : Md} {H : Hp} {Q : VK} {ps : List (Nat × Nat)} (h : ∀ (x : V) (H' : Hp), Grow m.T H H' → ClashV ps x H' → Q x H') : ClashQ m H Q ps := fun H' g => ⟨fun e => h _ H' g (.inl ⟨rfl, e⟩), fun p b e1 e2 => h _ H' g (.inr ⟨p, b, e1, rfl, e2⟩)⟩
theorem ClashV.non {ps : List (Nat × Nat)} {x : V} {H : Hp} (h : ClashV ps x H) : decide (x = .non) = ps.isEmpty := by
  rcases h with ⟨rfl, rfl⟩ | ⟨p, b, e1, rfl, -⟩
  · rfl
  · cases ps with
    | nil => cases e1
    | cons q qs => simp
theorem c_grown {m : Md} {C f : Addr} {fd : FuncData} (R : SgC m C) (F : C8.Def m.K m.mg "_law_grown_right" st_grown_right f fd) (b : L2.Binds m.K fd ps_grown_right []) (hr : m.mg "range" = none) (hlen : m.mg "len" = none) (hd : m.mg "dict" = none) (hstr : m.mg "str" = none)
    (Mk : MakX m C8.CX0 5 "Sights" C (sp_sginit m C) []) (Na : MetX m C8.CX0 1 C "names" (sp_sgnames m C) []) (Mo : MetX m C8.CX0 1 C "most" (sp_sgmost m C) []) (Ro : MetX m C8.CX0 1 C "rows" (sp_sgrows m C) []) (Eq : MetX m C8.CX0 1 C "__eq__" (sp_sgeq m C) []) (Wr : MetX m C8.CX0 7 C "with_row" (sp_wrow m C) []) (Wo : MetX m C8.CX0 7 C "without" (sp_wout m C) [])
    (Fi : Cal m 7 "fits" (sp_fits m C)) (Cl : Cal m 6 "clash" (sp_clash m C)) (Pa : Cal m 3 "_law_pairs" (sp_lpairs m))
    (ty : ∀ (H : Hp) (i dx : Addr) (fs : List (Str × V)), H i = some (.ins C dx fs) → TyX m.K H (.ref i) (.ref C)) (hn : PySem.W.findIn m.K (.ref C) "__ne__" = some (some (.builtin "object.__ne__"))) (hm : PySem.W.mroIn m.K C (.type "object") = some true) (nf : PySem.W.notFirst m.K C (.ref C) = true) : Cal m 8 "_law_grown_right" (sp_grown m C) := by
  refine cal_of F b sc_grown_right (fun vs H Q E h => by obtain ⟨_, _, _, _, _, _, _, rfl, _⟩ := h; rfl) fun X vs H Q E hA h => ?_
  obtain ⟨i, a, sl, zs, mo, us, rs, rfl, ⟨st, ok, l50, ha, hsl, hus⟩, han, k⟩ := h
  obtain ⟨n0, n1, n2, n3, n4, n5, n6, n7⟩ := nv_grown_right
  have lu := paired_len hus
  walk_at "B"
  walk_at "V"
  refine w_sights hA Mk (by omega) rfl ?_
  walk_at "V"
  refine ⟨by walk_at "S", fun L0 hL0 => ?_⟩
  have g0 := Grow.new (T := m.T) (o := .lst []) hL0
  walk_at "V"
  refine ⟨a, L0, zs, mo, [], [], rfl, GrowX.seqL g0 ha (fun z => z), ?_, SqL.of upd_same, by rw [upd_same]; simp, .nil, ?_, fun it H1 g1 nit st1 => ?_⟩
  · cases h : H a with
    | none => exact absurd h han
    | some o => rw [upd_ne (ne_of_none h hL0), h]; simp
  · exact ⟨ok.nm, ok.mo, (fun r h => by cases h), by simp⟩
  have g01 : Grow m.T H H1 := g0.trans g1
  have nx0 : ∀ c, New (upd H L0 (.lst [])) c → New H c := fun c z => g0.keep _ z
  walk_at "B"
  refine s_forR hA (pg_nl hA n5) hr rfl ?_
  walk_at "V"
  refine g_blt hA hlen rfl bt_len ?_
  walk_at "V"
  refine g_lenL hA (GrowX.seqL g01 hsl (fun z => z)) ?_
  refine ⟨_, rfl, by omega, by omega, fun t σ H' => (∃ it u5 u6 u7, σ = [some (.ref i), some (.ref a), some (optV mo), some (.ref sl), some (.ref it), u5, u6, u7] ∧ New H it ∧ SgAt C (New H) H' it zs mo (rs.take t)) ∧ Grow m.T H H', ⟨⟨it, _, _, _, rfl, nx0 _ nit, st1.mono nx0⟩, g01⟩, ?_, ?_⟩
  · rintro t σ H2 ht ⟨⟨it, u5, u6, u7, rfl, nit, st2⟩, g2⟩
    have ht : t < rs.length := by omega
    have eu : us[t]? = some (us[t]'(by omega)) := List.getElem?_eq_getElem (by omega)
    obtain ⟨r, er, T0, d0, eT0, hT0, -, hd0⟩ := Paired.get2 (RowsA.grow hus g2 (fun _ _ z => z)) t _ eu
    rw [eT0] at eu
    have mr := List.mem_of_getElem? er
    have tk : rs.take (t + 1) = rs.take t ++ [r] := by rw [List.take_succ, er]; rfl
    have hsl2 := GrowX.seqL g2 hsl (fun z => z)
    walk_at "B"
    walk_at "V"
    obtain ⟨kz, lo, hi⟩ := r
    refine g_typ hA hd rfl bt_dict ?_
    walk_at "V"
    refine g_ixL hA hsl2 (atI_at eu) ?_
    walk_at "V"
    refine g_ixT hA (SqT.of hT0) (atI_at (j := 0) rfl) ?_
    walk_at "V"
    refine g_dictD hA hd0 fun d hdN => ?_
    have gd := Grow.new (T := m.T) (o := .dK (hrK kz)) hdN
    have hsl3 := GrowX.seqL gd hsl2 (fun z => z)
    have hT3 := gd.tup _ _ hT0
    have hd3 : (upd H2 d (.dK (hrK kz))) d = some (.dK (hrK kz)) := upd_same
    have st3 : SgAt C (New H) (upd H2 d (.dK (hrK kz))) it zs mo (rs.take t) := st2.grow gd (fun _ _ z => z) (fun z => z)
    generalize upd H2 d (.dK (hrK kz)) = H3 at *
    walk_at "V"
    refine g_ixL hA hsl3 (atI_at eu) ?_
    walk_at "V"
    refine g_ixT hA (SqT.of hT3) (atI_at (j := 1) rfl) ?_
    walk_at "V"
    refine g_ixL hA hsl3 (atI_at eu) ?_
    walk_at "V"
    refine g_ixT hA (SqT.of hT3) (atI_at (j := 2) rfl) ?_
    walk_at "V"
    refine ⟨by walk_at "S", fun T hT => ?_⟩
    have gT := Grow.new (T := m.T) (o := .tup [.ref d, optV lo, optV hi]) hT
    have hd4 := gT.extN _ _ hd3 (fun _ z => by cases z)
    have hT4 : (upd H3 T (.tup [.ref d, optV lo, optV hi])) T = some (.tup [.ref d, optV lo, optV hi]) := upd_same
    have st4 : SgAt C (New H) (upd H3 T (.tup [.ref d, optV lo, optV hi])) it zs mo (rs.take t) := st3.grow gT (fun _ _ z => z) (fun z => z)
    have g34 : Grow m.T H2 (upd H3 T (.tup [.ref d, optV lo, optV hi])) := gd.trans gT
    generalize upd H3 T (.tup [.ref d, optV lo, optV hi]) = H4 at *
    have g4 : Grow m.T H H4 := g2.trans g34
    have ha4 := GrowX.seqL g4 ha (fun z => z)
    walk_at "B"
    walk_at "V"
    refine w_metX (E := C8.E0) hA Wr (by omega) C8.pass0 ?_
    walk_at "V"
    obtain ⟨dx4, la4, lr4, vs4, i4, -⟩ := id st4
    refine ⟨it, dx4, _, rfl, i4, rfl, ?_⟩
    walk_at "V"
    have okr := ok.rw _ mr
    refine ⟨it, .ref T, zs, mo, rs.take t, (kz, lo, hi), rfl, st4.mono fun _ _ => trivial, ⟨T, d, rfl, hT4, trivial, hd4⟩, by rw [← tk]; exact ok.take _, fun i2 H5 g5 ni2 st5 => ?_⟩
    have hd5 := g5.extN _ _ hd4 (fun _ z => by cases z)
    have hT5 := g5.tup _ _ hT4
    have ha5 := GrowX.seqL g5 ha4 (fun z => z)
    have ndH : New H d := g2.keep _ hdN
    rw [← tk] at st5
    have zn := ok.nm.ne
    walk_at "B"
    refine s_dput hA ?_
    walk_at "V"
    refine g_powW (by decide) (by decide +kernel) ?_
    walk_at "V"
    refine g_ixT hA (SqT.of hT5) (atI_at (j := 0) rfl) ?_
    walk_at "V"
    obtain ⟨z0, hz0⟩ : ∃ z0, zs[0]? = some z0 := ⟨_, List.getElem?_eq_getElem (List.length_pos_iff.2 zn)⟩
    refine g_ixL hA ha5 (atI_at (j := 0) (by rw [List.getElem?_map, hz0]; rfl)) ?_
    have lkz : (hrK kz).length < sizeLine := by
      have h1 : kz.length = zs.length := okr.len
      have h2 := ok.nm.len
      rw [hrK_len, sizeLine_eq]; omega
    refine ⟨d, _, rfl, .inl ⟨hrK kz, .inr z0, hd5, rfl, lkz, rfl⟩, ?_⟩
    have gX : GrowX m.T (· = d) H5 (upd H5 d (.dK (putK (hrK kz) (.inr z0) (.int (10 ^ Int.toNat 9))))) := GrowX.set rfl hd5 (fun _ z => by cases z) (fun _ z => by unfold CodeO at z; cases z) (fun _ z => by cases z) (fun _ _ z => by cases z)
    have g6 : Grow m.T H (upd H5 d (.dK (putK (hrK kz) (.inr z0) (.int (10 ^ Int.toNat 9))))) := Grow.intoNew (g4.trans g5) gX fun c z => by rw [z]; exact ndH
    have nid : ∀ c, New H4 c → ¬ c = d := fun c z w => by rw [w, show New H4 d ↔ H4 d = none from Iff.rfl, hd4] at z; cases z
    have st6 := (st5.grow gX (fun c z => nid c z) (nid i2 ni2)).mono (fun c z => g4.keep c z)
    generalize upd H5 d (.dK (putK (hrK kz) (.inr z0) (.int (10 ^ Int.toNat 9)))) = H6 at *
    have ni2H : New H i2 := g4.keep _ ni2
    have hsl6 := GrowX.seqL g6 hsl (fun z => z)
    walk_at "B"
    walk_at "V"
    refine g_typ hA hstr rfl bt_str ?_
    walk_at "V"
    refine w_call hA Fi (by omega) rfl ?_
    walk_at "V"
    refine ⟨i2, zs, mo, rs.take (t + 1), rfl, st6.mono fun _ _ => trivial, ok.take _, by rw [List.length_take]; omega, fun H7 g7 => ?_⟩
    walk_at "V"
    refine g_strB hA ?_
    walk_at "V"
    refine g_typ hA hstr rfl bt_str ?_
    walk_at "V"
    refine w_call hA Pa (by omega) rfl ?_
    walk_at "V"
    refine w_sliceTo hA ?_
    walk_at "V"
    have hsl7 := GrowX.seqL g7 hsl6 (fun z => z)
    refine ⟨sl, us, rfl, hsl7, fun W hW => ?_⟩
    have gW := Grow.new (T := m.T) (o := .lst (cutV us none (some ((t : Int) + 1)))) hW
    have ecut : cutV us none (some ((t : Int) + 1)) = us.take (t + 1) := by
      have := cutV_to (xs := us) (n := t + 1) (by omega)
      rw [← this]; rfl
    have g8 : Grow m.T H (upd H7 W (.lst (cutV us none (some ((t : Int) + 1))))) := (g6.trans g7).trans gW
    have st8 := (st6.grow g7 (fun _ _ z => z) (fun z => z)).grow gW (fun _ _ z => z) (fun z => z)
    have hW8 : (upd H7 W (.lst (cutV us none (some ((t : Int) + 1))))) W = some (.lst (us.take (t + 1))) := by rw [upd_same, ecut]
    generalize upd H7 W (.lst (cutV us none (some ((t : Int) + 1)))) = H8 at *
    walk_at "V"
    refine ⟨a, W, mo, zs, us.take (t + 1), rs.take (t + 1), rfl, GrowX.seqL g8 ha (fun z => z), ok.nm.len, SqL.of hW8, Paired.take2 (t + 1) (RowsA.grow hus g8 (fun _ _ z => z)), (ok.take (t + 1)).rw, by rw [List.length_take]; omega, fun L9 H9 xs g9 _ h9 p9 => ?_⟩
    walk_at "V"
    refine ⟨by walk_at "S", fun p hp => ?_⟩
    have gp := Grow.new (T := m.T) (o := .lst []) hp
    refine g_eqNil hA (SqL.of (gp.extN _ _ h9 (fun _ z => by cases z))) (SqL.of upd_same) ?_
    have exs : xs.isEmpty = (clP zs mo (rs.take (t + 1))).isEmpty := by
      have := paired_len p9
      cases xs <;> cases hc : clP zs mo (rs.take (t + 1)) <;> rw [hc] at this <;> simp at this <;> rfl
    have stA := (st8.grow g9 (fun _ _ z => z) (fun z => z)).grow gp (fun _ _ z => z) (fun z => z)
    have gA : Grow m.T H (upd H9 p (.lst [])) := (g8.trans g9).trans gp
    generalize upd H9 p (.lst []) = HA at *
    rw [exs]
    walk_at "V"
    refine g_strB hA ?_
    walk_at "V"
    rw [if_neg (by simp)]
    exact b_nil (b_nil ⟨⟨i2, _, _, _, rfl, ni2H, stA⟩, gA⟩)
  · rintro σ H2 ⟨⟨it, u5, u6, u7, rfl, nit, st2⟩, g2⟩
    rw [show (us.length : Int).toNat = rs.length from by omega, List.take_length] at st2
    have sti : SgAt C Any H2 i zs mo rs := st.grow g2 (fun _ _ z => z) (fun z => z)
    have stt : SgAt C Any H2 it zs mo rs := st2.mono fun _ _ => trivial
    obtain ⟨dxi, lai, lri, vsi, ii, -⟩ := id sti
    obtain ⟨dxt, lat, lrt, vst, ti, -⟩ := id stt
    walk_at "B"
    walk_at "V"
    refine g_neIns (E := C8.E0) hA Eq hn hm (by omega) C8.pass0 ti (ty _ i dxi _ ii) nf ?_
    refine ⟨it, i, zs, mo, rs, rfl, stt, sti, ok, true, rfl, ?_⟩
    refine ⟨_, rfl, iteF ?_⟩
    walk_at "V"
    refine w_met0 (E := C8.E0) hA Ro (by omega) C8.pass0 ?_
    walk_at "V"
    refine ⟨it, dxt, _, rfl, ti, rfl, it, zs, mo, rs, rfl, stt, ok.len, fun S H3 ws g3 _ hS hw => ?_⟩
    walk_at "V"
    have g23 := g2.trans g3
    refine g_neTL (n := 2) hA (SqL.of hS) (GrowX.seqL g23 hsl (fun z => z)) (by omega) (rows_eq hw (RowsA.grow hus g23 (fun _ _ z => z)) fun r hr => (ok.rw r hr).nd) ?_
    refine ⟨_, rfl, iteF ?_⟩
    have st3 := stt.grow g3 (fun _ _ z => z) (fun z => z)
    obtain ⟨dx3, la3, lr3, vs3, t3, -⟩ := id st3
    walk_at "V"
    refine w_met0 (E := C8.E0) hA Mo (by omega) C8.pass0 ?_
    walk_at "V"
    refine ⟨it, dx3, _, rfl, t3, rfl, it, zs, mo, rs, rfl, st3, ?_⟩
    walk_at "V"
    refine g_neO hA ?_
    refine ⟨_, rfl, iteF (b_nil ?_)⟩
    walk_at "B"
    walk_at "V"
    refine w_call hA Cl (by omega) rfl ?_
    walk_at "V"
    refine ⟨it, zs, mo, rs, rfl, st3, ok, by omega, clashQ_of fun x H4 g4 cv => ?_⟩
    walk_at "V"
    refine w_call hA Pa (by omega) rfl ?_
    walk_at "V"
    have g24 := g23.trans g4
    refine ⟨a, sl, mo, zs, us, rs, rfl, GrowX.seqL g24 ha (fun z => z), ok.nm.len, GrowX.seqL g24 hsl (fun z => z), RowsA.grow hus g24 (fun _ _ z => z), ok.rw, by omega, fun L9 H9 xs g9 _ h9 p9 => ?_⟩
    walk_at "V"
    refine ⟨by walk_at "S", fun p hp => ?_⟩
    have gp := Grow.new (T := m.T) (o := .lst []) hp
    refine g_eqNil hA (SqL.of (gp.extN _ _ h9 (fun _ z => by cases z))) (SqL.of upd_same) ?_
    have exs : xs.isEmpty = (clP zs mo rs).isEmpty := by
      have := paired_len p9
      cases xs <;> cases hc : clP zs mo rs <;> rw [hc] at this <;> simp at this <;> rfl
    have stA := ((st3.grow g4 (fun _ _ z => z) (fun z => z)).grow g9 (fun _ _ z => z) (fun z => z)).grow gp (fun _ _ z => z) (fun z => z)
    have gA : Grow m.T H (upd H9 p (.lst [])) := (g24.trans g9).trans gp
    generalize upd H9 p (.lst []) = HA at *
    rw [exs, cv.non]
    refine g_neB hA ?_
    rw [show ((clP zs mo rs).isEmpty != (clP zs mo rs).isEmpty) = false from by simp]
    refine ⟨_, rfl, iteF (b_nil ?_)⟩
    walk_at "B"
    refine s_forR hA (pg_nl hA n5) hr rfl ?_
    walk_at "V"
    refine g_blt hA hlen rfl bt_len ?_
    walk_at "V"
    refine g_lenL hA (GrowX.seqL gA hsl (fun z => z)) ?_
    refine ⟨_, rfl, by omega, by omega, fun t σ H' => (∃ u5 u6 u7, σ = [some (.ref i), some (.ref a), some (optV mo), some (.ref sl), some (.ref it), u5, u6, u7]) ∧ SgAt C Any H' it zs mo rs ∧ Grow m.T H H', ⟨⟨_, _, _, rfl⟩, stA, gA⟩, ?_, ?_⟩
    · rintro t σ HB ht ⟨⟨u5, u6, u7, rfl⟩, stB, gB⟩
      have ht : t < rs.length := by omega
      have okl := ok.less t
      obtain ⟨dxB, laB, lrB, vsB, tB, -⟩ := id stB
      walk_at "B"
      walk_at "V"
      refine w_metX (E := C8.E0) hA Wo (by omega) C8.pass0 ?_
      walk_at "V"
      refine ⟨it, dxB, _, rfl, tB, rfl, ?_⟩
      walk_at "V"
      refine ⟨it, t, zs, mo, rs, rfl, ht, stB, ok, fun i2 HC gC ni2 stC => ?_⟩
      have stc : SgAt C Any HC i2 zs mo (rs.take t ++ rs.drop (t + 1)) := stC.mono fun _ _ => trivial
      have lless : (rs.take t ++ rs.drop (t + 1)).length ≤ 50 := by rw [List.length_append, List.length_take, List.length_drop]; omega
      generalize hls : rs.take t ++ rs.drop (t + 1) = ls at *
      obtain ⟨dxC, laC, lrC, vsC, tC, -⟩ := id stc
      have gHC := gB.trans gC
      walk_at "B"
      walk_at "V"
      refine w_met0 (E := C8.E0) hA Ro (by omega) C8.pass0 ?_
      walk_at "V"
      refine ⟨i2, dxC, _, rfl, tC, rfl, i2, zs, mo, ls, rfl, stc, okl.len, fun S HD ws gD _ hS hw => ?_⟩
      walk_at "V"
      refine w_sliceTo hA ?_
      walk_at "V"
      have gHD := gHC.trans gD
      have hslD := GrowX.seqL gHD hsl (fun z => z)
      refine ⟨sl, us, rfl, hslD, fun W1 hW1 => ?_⟩
      have gW1 := Grow.new (T := m.T) (o := .lst (cutV us none (some (t : Int)))) hW1
      have ec1 : cutV us none (some (t : Int)) = us.take t := cutV_to (by omega)
      rw [ec1] at gW1 ⊢
      have hWW1 : (upd HD W1 (.lst (us.take t))) W1 = some (.lst (us.take t)) := upd_same
      have hslE := GrowX.seqL gW1 hslD (fun z => z)
      have hSE := gW1.extN _ _ hS (fun _ z => by cases z)
      have hwE := RowsA.grow hw gW1 (fun _ _ z => z)
      have stE := (stc.grow gD (fun _ _ z => z) (fun z => z)).grow gW1 (fun _ _ z => z) (fun z => z)
      have gHE := gHD.trans gW1
      generalize upd HD W1 (.lst (us.take t)) = HE at *
      walk_at "V"
      refine w_sliceFrom hA ?_
      walk_at "V"
      refine ⟨sl, us, rfl, hslE, fun W2 hW2 => ?_⟩
      have gW2 := Grow.new (T := m.T) (o := .lst (cutV us (some ((t : Int) + 1)) none)) hW2
      have ec2 : cutV us (some ((t : Int) + 1)) none = us.drop (t + 1) := by
        have := cutV_from (xs := us) (n := t + 1) (by omega)
        rw [← this]; rfl
      rw [ec2] at gW2 ⊢
      have hWW2 : (upd HE W2 (.lst (us.drop (t + 1)))) W2 = some (.lst (us.drop (t + 1))) := upd_same
      have hWW1F := gW2.extN _ _ hWW1 (fun _ z => by cases z)
      have hSF := gW2.extN _ _ hSE (fun _ z => by cases z)
      have hwF := RowsA.grow hwE gW2 (fun _ _ z => z)
      have stF := stE.grow gW2 (fun _ _ z => z) (fun z => z)
      have gHF := gHE.trans gW2
      generalize upd HE W2 (.lst (us.drop (t + 1))) = HF at *
      refine g_cat hWW1F hWW2 (by rw [List.length_take, List.length_drop, sizeLine_eq]; omega) fun W3 hW3 => ?_
      have gW3 := Grow.new (T := m.T) (o := .lst (us.take t ++ us.drop (t + 1))) hW3
      have hSG := gW3.extN _ _ hSF (fun _ z => by cases z)
      have hwG := RowsA.grow hwF gW3 (fun _ _ z => z)
      have stG := stF.grow gW3 (fun _ _ z => z) (fun z => z)
      have gHG := gHF.trans gW3
      have husG : RowsA Any (upd HF W3 (.lst (us.take t ++ us.drop (t + 1)))) (us.take t ++ us.drop (t + 1)) ls := by
        have h := RowsA.grow hus gHG (fun _ _ z => z)
        rw [← hls]
        exact Paired.app2 (Paired.take2 t h) (Paired.drop2 (t + 1) h)
      refine g_neTL (n := 2) hA (SqL.of hSG) (SqL.of upd_same) (by omega) (rows_eq hwG husG fun r hr => (okl.rw r hr).nd) ?_
      generalize upd HF W3 (.lst (us.take t ++ us.drop (t + 1))) = HG at *
      refine ⟨_, rfl, iteF ?_⟩
      obtain ⟨dxG, laG, lrG, vsG, tG, -⟩ := id stG
      walk_at "V"
      refine w_met0 (E := C8.E0) hA Mo (by omega) C8.pass0 ?_
      walk_at "V"
      refine ⟨i2, dxG, _, rfl, tG, rfl, i2, zs, mo, ls, rfl, stG, ?_⟩
      walk_at "V"
      refine g_neO hA ?_
      refine ⟨_, rfl, iteF ?_⟩
      walk_at "V"
      refine w_met0 (E := C8.E0) hA Na (by omega) C8.pass0 ?_
      walk_at "V"
      refine ⟨i2, dxG, _, rfl, tG, rfl, i2, zs, mo, ls, rfl, stG, fun N HH gH _ hN => ?_⟩
      have stH := stG.grow gH (fun _ _ z => z) (fun z => z)
      have gHH := gHG.trans gH
      walk_at "V"
      refine g_neD hA (Dp.lst (SqL.of hN) (strs_dpA zs)) (Dp.lst (GrowX.seqL gHH ha (fun z => z)) (strs_dpA zs)) (strs_shaped ok.nm.nm) (strs_shaped ok.nm.nm) ?_
      rw [SeqAt.eqv_refl _ (SeqAt.canLay_of_shaped (strs_shaped ok.nm.nm))]
      refine ⟨_, rfl, iteF (b_nil ?_)⟩
      walk_at "B"
      walk_at "V"
      refine g_typ hA hstr rfl bt_str ?_
      walk_at "V"
      refine w_call hA Fi (by omega) rfl ?_
      walk_at "V"
      refine ⟨i2, zs, mo, ls, rfl, stH, okl, by omega, fun HI gI => ?_⟩
      walk_at "V"
      refine g_strB hA ?_
      walk_at "V"
      refine g_typ hA hstr rfl bt_str ?_
      walk_at "V"
      refine w_call hA Pa (by omega) rfl ?_
      walk_at "V"
      have stI := stH.grow gI (fun _ _ z => z) (fun z => z)
      obtain ⟨dxI, laI, lrI, vsI, tI, -⟩ := id stI
      refine w_met0 (E := C8.E0) hA Ro (by omega) C8.pass0 ?_
      walk_at "V"
      refine ⟨i2, dxI, _, rfl, tI, rfl, i2, zs, mo, ls, rfl, stI, okl.len, fun S2 HJ ws2 gJ _ hS2 hw2 => ?_⟩
      have gHJ := (gHH.trans gI).trans gJ
      walk_at "V"
      refine ⟨a, S2, mo, zs, ws2, ls, rfl, GrowX.seqL gHJ ha (fun z => z), ok.nm.len, SqL.of hS2, Paired.imp2 hw2 fun _ _ z => z.mono fun _ _ => trivial, okl.rw, by omega, fun L9 H9 xs g9 _ h9 p9 => ?_⟩
      walk_at "V"
      refine ⟨by walk_at "S", fun p hp => ?_⟩
      have gp := Grow.new (T := m.T) (o := .lst []) hp
      refine g_eqNil hA (SqL.of (gp.extN _ _ h9 (fun _ z => by cases z))) (SqL.of upd_same) ?_
      have exs : xs.isEmpty = (clP zs mo ls).isEmpty := by
        have := paired_len p9
        cases xs <;> cases hc : clP zs mo ls <;> rw [hc] at this <;> simp at this <;> rfl
      have gE1 : Grow m.T HB (upd H9 p (.lst [])) := (((((((gC.trans gD).trans gW1).trans gW2).trans gW3).trans gH).trans gI).trans gJ).trans (g9.trans gp)
      have stZ := stB.grow gE1 (fun _ _ z => z) (fun z => z)
      have gZ := gB.trans gE1
      generalize upd H9 p (.lst []) = HZ at *
      rw [exs]
      walk_at "V"
      refine g_strB hA ?_
      walk_at "V"
      rw [if_neg (by simp)]
      exact b_nil (b_nil ⟨⟨_, _, _, rfl⟩, stZ, gZ⟩)
    · rintro σ HB ⟨⟨u5, u6, u7, rfl⟩, stB, gB⟩
      walk_at "B"
      walk_at "V"
      exact k HB gB
/-! VL: what the law says of each pair -/
def pS (a b : Int) : Str := (PyData.tuple [.int a, .int b]).shown
theorem pS_fin : ∀ i j : Fin 7, (PyData.tuple [.int ((i : Nat) - 1 : Int), .int ((j : Nat) - 1)]).showable = true ∧ (pS ((i : Nat) - 1) ((j : Nat) - 1)).length ≤ 100 ∧ (PyData.tuple [.int ((i : Nat) - 1 : Int), .int ((j : Nat) - 1)]).depth ≤ 60 := by decide +kernel
theorem pS_inj0 : ∀ i j k l : Fin 7, pS ((i : Nat) - 1) ((j : Nat) - 1) = pS ((k : Nat) - 1) ((l : Nat) - 1) → i = k ∧ j = l := by decide +kernel
theorem fin7 {a : Int} (h1 : -1 ≤ a) (h2 : a ≤ 5) : ∃ i : Fin 7, a = ((i : Nat) : Int) - 1 := ⟨⟨(a + 1).toNat, by omega⟩, by show a = (((a + 1).toNat : Nat) : Int) - 1; omega⟩
theorem pS_facts {a b : Int} (a1 : -1 ≤ a) (a2 : a ≤ 5) (b1 : -1 ≤ b) (b2 : b ≤ 5) : (PyData.tuple [.int a, .int b]).showable = true ∧ (PyData.tuple [.int a, .int b]).shown.length ≤ sizeLine ∧ (PyData.tuple [.int a, .int b]).depth ≤ 60 := by
  obtain ⟨i, rfl⟩ := fin7 a1 a2
  obtain ⟨j, rfl⟩ := fin7 b1 b2
  obtain ⟨h1, h2, h3⟩ := pS_fin i j
  have h2' : (PyData.tuple [.int (((i : Nat) : Int) - 1), .int (((j : Nat) : Int) - 1)]).shown.length ≤ 100 := h2
  exact ⟨h1, by rw [sizeLine_eq]; omega, h3⟩
theorem pS_inj {a b c d : Int} (a1 : -1 ≤ a) (a2 : a ≤ 5) (b1 : -1 ≤ b) (b2 : b ≤ 5) (c1 : -1 ≤ c) (c2 : c ≤ 5) (d1 : -1 ≤ d) (d2 : d ≤ 5) (h : pS a b = pS c d) : a = c ∧ b = d := by
  obtain ⟨i, rfl⟩ := fin7 a1 a2
  obtain ⟨j, rfl⟩ := fin7 b1 b2
  obtain ⟨k, rfl⟩ := fin7 c1 c2
  obtain ⟨l, rfl⟩ := fin7 d1 d2
  obtain ⟨rfl, rfl⟩ := pS_inj0 i j k l h
  exact ⟨rfl, rfl⟩
theorem eqv_pair (x y a b : Int) : (PyData.tuple [.int x, .int y]).eqv (.tuple [.int a, .int b]) = (decide (x = a) && decide (y = b)) := by
  show ((x == a) && ((y == b) && true)) = _
  rw [Bool.and_true]
  by_cases h1 : x = a <;> by_cases h2 : y = b <;> simp [h1, h2]
theorem eqv_len {x y : Int} {ds : List PyData} (h : ds.length ≠ 2) : (PyData.tuple [.int x, .int y]).eqv (.tuple ds) = false := by
  rcases ds with _ | ⟨d, _ | ⟨e, _ | ⟨g, ds⟩⟩⟩
  · rfl
  · exact Bool.and_false _
  · exact absurd rfl h
  · show (PyData.eqv _ _ && (PyData.eqv _ _ && false)) = false
    rw [Bool.and_false, Bool.and_false]
theorem chk_pair (ps : List (Nat × Nat)) (a b : Int) : chk ps (.tuple [.int a, .int b]) = ps.any fun p => decide ((p.1 : Int) = a) && decide ((p.2 : Int) = b) := by
  have e : ((ps.map prD).any fun z => z.eqv (.tuple [.int a, .int b])) = ps.any fun p => decide ((p.1 : Int) = a) && decide ((p.2 : Int) = b) := by
    rw [List.any_map]
    congr 1
    funext p
    exact eqv_pair _ _ _ _
  show (_ && ((ps.map prD).any fun z => z.eqv (.tuple [.int a, .int b]))) = _
  rw [e]
  cases h : ps.any fun p => decide ((p.1 : Int) = a) && decide ((p.2 : Int) = b) with
  | false => simp
  | true =>
    obtain ⟨p, -, hp⟩ := List.any_eq_true.1 h
    simp only [Bool.and_eq_true, decide_eq_true_eq] at hp
    have : [PyData.int a, PyData.int b].all isCt = true := by
      simp only [List.all_cons, List.all_nil, isCt, Bool.and_true, Bool.and_eq_true, decide_eq_true_eq]
      omega
    rw [this]; rfl
theorem chk_len (ps : List (Nat × Nat)) {ds : List PyData} (h : ds.length ≠ 2) : chk ps (.tuple ds) = false := by
  show (_ && ((ps.map prD).any fun z => z.eqv (.tuple ds))) = _
  have : ((ps.map prD).any fun z => z.eqv (.tuple ds)) = false := by
    rw [List.any_eq_false]
    intro z hz
    obtain ⟨p, -, rfl⟩ := List.mem_map.1 hz
    rw [prD, eqv_len h]; simp
  rw [this, Bool.and_false]
theorem inV_bad {ps : List (Nat × Nat)} {a b : Int} (a1 : -1 ≤ a) (a2 : a ≤ 5) (b1 : -1 ≤ b) (b2 : b ≤ 5) (h : ∀ p ∈ ps, p.1 ≤ 5 ∧ p.2 ≤ 5) : inV (.str (pS a b)) (ps.map fun p => V.str (pS p.1 p.2)) = chk ps (.tuple [.int a, .int b]) := by
  rw [chk_pair, inV, List.any_map]
  cases hx : ps.any fun p => decide ((p.1 : Int) = a) && decide ((p.2 : Int) = b) with
  | true =>
    obtain ⟨p, m, hp⟩ := List.any_eq_true.1 hx
    simp only [Bool.and_eq_true, decide_eq_true_eq] at hp
    refine List.any_eq_true.2 ⟨p, m, ?_⟩
    show (pS p.1 p.2 == pS a b) = true
    rw [hp.1, hp.2]
    simp
  | false =>
    rw [List.any_eq_false] at hx ⊢
    intro p m hp
    have hp : (pS p.1 p.2 == pS a b) = true := hp
    obtain ⟨e1, e2⟩ := pS_inj (a := p.1) (b := p.2) (by omega) (by have := (h p m).1; omega) (by omega) (by have := (h p m).2; omega) a1 a2 b1 b2 (by simpa using hp)
    exact hx p m (by simp [e1, e2])
theorem clP_lt {zs : List Str} {mo : Option Int} {rs : List Rw} : ∀ p ∈ clP zs mo rs, p.1 < rs.length ∧ p.2 < rs.length := by
  intro p hp
  have h := (List.mem_filter.1 hp).1
  obtain ⟨x, y⟩ := p
  simp [prs] at h
  exact h
/-! VM: each pair and other things are judged -/
section
variable {m : Md} {N : List Str} {sc : Scope} {k : Nat} {X : Cx} {a b : Expr} {σ : L2.St} {H : Hp} {body : List Stmt} {nx : L2.St → Hp → Prop} {rt : VK} {bk ct : L2.St → Hp → Prop} {p1 p2 po : Pos}
theorem s_forR2 {tg : Expr} {g : TG} (h : At m N sc k X) (hg : PG X tg g) (hm : m.mg "range" = none) (hgl : sc.names.lookup ("range" : Str) = some .globalImplicit)
    (q : wA X [a, b] σ H fun vs H1 => ∃ z w : Int, vs = [.int z, .int w] ∧ (-(2 ^ 62) ≤ z ∧ z < 2 ^ 62 ∧ -(2 ^ 62) ≤ w ∧ w < 2 ^ 62) ∧ ∃ Pv : Nat → L2.St → Hp → Prop, Pv 0 σ H1 ∧ (∀ (t : Nat) σ H, t < (w - z).toNat → Pv t σ H → g (.int (z + t)) σ H fun σ2 H2 => wB X body ⟨Pv (t + 1), rt, nx, Pv (t + 1)⟩ σ2 H2) ∧ ∀ σ H, Pv (w - z).toNat σ H → nx σ H)
    (hst : starEach [a, b] X.env = [(false, eval a X.env), (false, eval b X.env)] := by with_unfolding_all rfl) (hst2 : starEach [b] X.env = [(false, eval b X.env)] := by with_unfolding_all rfl)
    (hf : ∀ x, foldedSetIterable (.Call (.Name "range" p1) [a, b] [] p2) X.env x = pure x := by with_unfolding_all (intro _; rfl)) : wS X (.For tg (.Call (.Name "range" p1) [a, b] [] p2) body [] po) ⟨nx, rt, bk, ct⟩ σ H := by
  refine toS (ps_for h.pass h.calm (pi_range2 (h.gl hgl) (by rw [h.mm]; exact hm) (cA (es := [a, b])) hst hst2) hg cB hf) ?_
  unfold wA at q ⊢
  refine fun pos pins s I => wpAny_mono (q pos pins s I) (fun v s' z => ?_) fun _ _ z => z
  obtain ⟨vs, H1, I1, r1, z, w, ev, hb, Pv, p0, turn, fin⟩ := z
  exact ⟨vs, H1, I1, r1, z, w, ev, hb, for_range (lo := z) (n := (w - z).toNat) Pv p0 turn fin⟩
end
theorem g_notF {b : Bool} {X : Cx} {H : Hp} {Q : VK} (q : Q (.bl (!decide (b = false))) H) : gOp X (compareOp .IsNot) (.bl b) (.bl false) H Q := gOp.of op_notBl ⟨_, _, rfl, rfl, q⟩
theorem ObAll.get {K : PySem.W.Frag} {A : Addr → Prop} {H : Hp} : ∀ {vs : List V} {ds : List PyData}, ObAll K A H vs ds → ∀ (j : Nat) (v : V), vs[j]? = some v → ∃ d, ds[j]? = some d ∧ Ob K A H v d
  | _, _, .nil, j, v, h => by simp at h
  | _, _, .cons o oo, 0, v, h => by cases h; exact ⟨_, rfl, o⟩
  | _, _, .cons o oo, j + 1, v, h => ObAll.get oo j v (by simpa using h)
theorem ObAll.app {K : PySem.W.Frag} {A : Addr → Prop} {H : Hp} : ∀ {vs ws : List V} {ds es : List PyData}, ObAll K A H vs ds → ObAll K A H ws es → ObAll K A H (vs ++ ws) (ds ++ es)
  | _, _, _, _, .nil, h => h
  | _, _, _, _, .cons o oo, h => .cons o (ObAll.app oo h)
def odd1 : List PyData := [.none, .int 0, .tuple [], .tuple [.int 0], .str "00", .dict [], .list [], .tuple [.none, .int 0], .tuple [.str "0", .str "0"], .tuple [.bool true, .bool false], .tuple [.bool false, .bool false], .tuple [.tuple [.int 0, .int 0]]]
def odd2 : List PyData := [.tuple [.list [], .list []], .tuple [.int 0, .bool true], .tuple [.int 0, .none], .tuple [.int 0, .str "0"], .tuple [.dict [], .int 0]]
theorem odd_ok (ps : List (Nat × Nat)) : ∀ d ∈ odd1 ++ odd2, chk ps d = false ∧ ∀ ds, d = .tuple ds → ds.length ≤ 1000 := by
  intro d hd
  simp only [odd1, odd2, List.cons_append, List.nil_append, List.mem_cons, List.not_mem_nil, or_false] at hd
  rcases hd with rfl | rfl | rfl | rfl | rfl | rfl | rfl | rfl | rfl | rfl | rfl | rfl | rfl | rfl | rfl | rfl | rfl
  all_goals
    refine ⟨by first | rfl | exact chk_len ps (by simp), fun ds e => ?_⟩
    cases e <;> simp
def sp_judged (m : Md) (C : Addr) : Sp := fun vs H Q _ => ∃ (i a sl : Addr) (zs : List Str) (mo : Option Int) (us : List V) (rs : List Rw), vs = [.ref i, .ref a, optV mo, .ref sl] ∧ Beside m C H i a sl zs mo us rs ∧ H a ≠ none ∧ rs.length ≤ 5 ∧ ∀ H', Grow m.T H H' → Q (.bl true) H'
theorem c_judged {m : Md} {C f : Addr} {fd : FuncData} (F : C8.Def m.K m.mg "_law_judged_right" st_judged_right f fd) (b : L2.Binds m.K fd ps_judged_right []) (hr : m.mg "range" = none) (hlen : m.mg "len" = none) (hstr : m.mg "str" = none)
    (Gr : Cal m 8 "_law_grown_right" (sp_grown m C)) (Fi : Cal m 7 "fits" (sp_fits m C)) (Cl : Cal m 6 "clash" (sp_clash m C)) (Cc : Cal m 6 "check_clash" (sp_cclash m C)) (Pa : Cal m 3 "_law_pairs" (sp_lpairs m)) : Cal m 9 "_law_judged_right" (sp_judged m C) := by
  refine cal_of F b sc_judged_right (fun vs H Q E h => by obtain ⟨_, _, _, _, _, _, _, rfl, _⟩ := h; rfl) fun X vs H Q E hA h => ?_
  obtain ⟨i, a, sl, zs, mo, us, rs, rfl, ⟨st, ok, l50, ha, hsl, hus⟩, han, l5, k⟩ := h
  obtain ⟨n0, n1, n2, n3, n4, n5, n6, n7, n8, n9⟩ := nv_judged_right
  have lu := paired_len hus
  have lt5 := clP_lt (zs := zs) (mo := mo) (rs := rs)
  walk_at "B"
  refine s_lcL hA n4 (by decide +kernel) (i := 10) ⟨rfl, rfl⟩ ?_
  refine w_call hA Pa (by omega) rfl ?_
  walk_at "V"
  refine ⟨a, sl, mo, zs, us, rs, rfl, ha, ok.nm.len, hsl, hus, ok.rw, by omega, fun L1 H1 xs g1 _ h1 p1 => ?_⟩
  have lx := paired_len p1
  have lps : (clP zs mo rs).length ≤ 25 := by
    have h1 := List.length_filter_le (fun p => (std zs mo rs p).isEmpty) (prs rs.length rs.length 0)
    rw [prs_len] at h1
    have h2 : rs.length * rs.length ≤ 5 * 5 := Nat.mul_le_mul l5 l5
    unfold clP
    omega
  generalize hps : clP zs mo rs = ps at *
  have pf : ∀ p ∈ ps, (PyData.tuple [.int (p.1 : Nat), .int (p.2 : Nat)]).showable = true ∧ (PyData.tuple [.int (p.1 : Nat), .int (p.2 : Nat)]).shown.length ≤ sizeLine ∧ (PyData.tuple [.int (p.1 : Nat), .int (p.2 : Nat)]).depth ≤ 60 := fun p hp => by
    obtain ⟨q1, q2⟩ := lt5 p hp
    exact pS_facts (by omega) (by omega) (by omega) (by omega)
  refine ⟨L1, xs, rfl, SqL.of h1, fun D hD => ?_⟩
  refine ⟨fun j H' => Grow m.T H1 H' ∧ H' D = some (.lst ((ps.take j).map fun p => V.str (pS p.1 p.2))), ⟨Grow.new hD, upd_same⟩, fun j H' _ hp => SqL.of (hp.1.extN _ _ h1 (fun _ z => by cases z)), ?_, ?_⟩
  · rintro j x H2 hx ⟨g2, h2⟩ X' hX'
    have c10 := nl_of hX' 10 "_law_pair"
    obtain ⟨p, hp, b, rfl, hb⟩ := Paired.get2 p1 j x hx
    have hjl := (List.getElem?_eq_some_iff.1 hp).1
    have mp := List.mem_of_getElem? hp
    obtain ⟨s1, s2, s3⟩ := pf p mp
    refine g_typ hX' hstr rfl bt_str ?_
    walk_at "V"
    refine g_strD hX' (Dp.tup (SqT.of (g2.tup _ _ hb)) (.cons (.int _) (.cons (.int _) .nil))) s1 s2 s3 ?_
    refine ⟨_, h2, by rw [List.length_map, List.length_take, sizeLine_eq]; omega, Grow.intoNew g2 (GrowX.lst h2) (fun _ w => by rw [w]; exact hD), ?_⟩
    rw [upd_same, List.take_succ, hp, List.map_append]; rfl
  · rintro H2 ⟨g2, h2⟩
    rw [List.take_of_length_le (by omega)] at h2
    have g12 := g1.trans g2
    have hnD : New H D := g1.keep _ hD
    walk_at "B"
    walk_at "V"
    refine w_call hA Gr (by omega) rfl ?_
    walk_at "V"
    have bes : ∀ H', Grow m.T H H' → Beside m C H' i a sl zs mo us rs := fun H' g => ⟨st.grow g (fun _ _ z => z) (fun z => z), ok, l50, GrowX.seqL g ha (fun z => z), GrowX.seqL g hsl (fun z => z), RowsA.grow hus g (fun _ _ z => z)⟩
    refine ⟨i, a, sl, zs, mo, us, rs, rfl, bes H2 g12, fun z => han (g12.keep _ z), fun H3 g3 => ?_⟩
    have g13 := g12.trans g3
    have h3 := g3.extN _ _ h2 (fun _ z => by cases z)
    refine g_truB (iteF (b_nil ?_))
    walk_at "B"
    walk_at "V"
    refine w_call hA Cl (by omega) rfl ?_
    walk_at "V"
    refine ⟨i, zs, mo, rs, rfl, (bes H3 g13).1, ok, by omega, clashQ_of fun x H4 g4 cv => ?_⟩
    rw [hps] at cv
    have g14 := g13.trans g4
    have h4 := g4.extN _ _ h3 (fun _ z => by cases z)
    refine b_cons (s_mono (nx' := fun σ' H' => σ' = [some (.ref i), some (.ref a), some (optV mo), some (.ref sl), some (.ref D), some x, none, none, none, none, none] ∧ Grow m.T H H' ∧ H' D = some (.lst (ps.map fun p => V.str (pS p.1 p.2)))) ?_ ?_)
    · walk_at "V"
      refine ⟨by walk_at "S", fun p hp => ?_⟩
      have gp := Grow.new (T := m.T) (o := .lst []) hp
      have h5 := gp.extN _ _ h4 (fun _ z => by cases z)
      refine g_eqNil hA (SqL.of h5) (SqL.of upd_same) ?_
      have g15 := g14.trans gp
      have cv5 : ClashV ps x (upd H4 p (.lst [])) := by
        rcases cv with cv | ⟨p', b', e1, e2, e3⟩
        · exact .inl cv
        · exact .inr ⟨p', b', e1, e2, gp.tup _ _ e3⟩
      generalize upd H4 p (.lst []) = H5 at *
      have emp : (ps.map fun p => V.str (pS p.1 p.2)).isEmpty = ps.isEmpty := by cases ps <;> rfl
      rw [emp, cv.non]
      refine g_neB hA ?_
      rw [show (ps.isEmpty != ps.isEmpty) = false from by simp]
      refine ⟨_, rfl, iteF ?_⟩
      walk_at "V"
      rcases cv5 with ⟨rfl, e1⟩ | ⟨p', b', e1, rfl, e3⟩
      · refine iteF (iteF ?_)
        exact b_nil ⟨rfl, g15, h5⟩
      · refine iteT ?_
        walk_at "V"
        refine g_typ hA hstr rfl bt_str ?_
        walk_at "V"
        have mp : p' ∈ ps := List.mem_of_mem_head? e1
        obtain ⟨s1, s2, s3⟩ := pf p' mp
        obtain ⟨q1, q2⟩ := lt5 p' mp
        refine g_strD hA (Dp.tup (SqT.of e3) (.cons (.int _) (.cons (.int _) .nil))) s1 s2 s3 ?_
        walk_at "V"
        refine g_notInF hA (.inl (SqL.of h5)) rfl (by rw [List.all_map]; exact List.all_eq_true.2 fun _ _ => rfl) ?_
        have iv : inV (V.str (PyData.tuple [.int (p'.1 : Nat), .int (p'.2 : Nat)]).shown) (ps.map fun p => V.str (pS p.1 p.2)) = true := by
          refine List.any_eq_true.2 ⟨V.str (pS p'.1 p'.2), List.mem_map.2 ⟨p', mp, rfl⟩, ?_⟩
          show (pS p'.1 p'.2 == (PyData.tuple [.int (p'.1 : Nat), .int (p'.2 : Nat)]).shown) = true
          simp [pS]
        rw [iv]
        exact ⟨_, rfl, iteF (b_nil ⟨rfl, g15, h5⟩)⟩
    rintro _ H5 ⟨rfl, g15, h5⟩
    walk_at "B"
    walk_at "V"
    refine g_typ hA hstr rfl bt_str ?_
    walk_at "V"
    refine w_call hA Fi (by omega) rfl ?_
    walk_at "V"
    refine ⟨i, zs, mo, rs, rfl, (bes H5 g15).1, ok, by omega, fun H6 g6 => ?_⟩
    rw [hps]
    walk_at "V"
    refine g_strB hA ?_
    walk_at "V"
    refine g_typ hA hstr rfl bt_str ?_
    walk_at "V"
    refine ⟨by walk_at "S", fun p hp => ?_⟩
    have gp := Grow.new (T := m.T) (o := .lst []) hp
    have h7 := gp.extN _ _ (g6.extN _ _ h5 (fun _ z => by cases z)) (fun _ z => by cases z)
    refine g_eqNil hA (SqL.of h7) (SqL.of upd_same) ?_
    have emp : (ps.map fun p => V.str (pS p.1 p.2)).isEmpty = ps.isEmpty := by cases ps <;> rfl
    rw [emp]
    have g17 := (g15.trans g6).trans gp
    generalize upd H6 p (.lst []) = H7 at *
    walk_at "V"
    refine g_strB hA ?_
    walk_at "V"
    rw [if_neg (by simp)]
    refine b_nil ?_
    walk_at "B"
    refine s_forR2 hA (pg_nl hA n6) hr rfl ?_
    walk_at "V"
    refine g_blt hA hlen rfl bt_len ?_
    walk_at "V"
    refine g_lenL hA (GrowX.seqL g17 hsl (fun z => z)) ?_
    walk_at "V"
    have ltp : ∀ p ∈ ps, p.1 ≤ 5 ∧ p.2 ≤ 5 := fun p hp => ⟨by have := (lt5 p hp).1; omega, by have := (lt5 p hp).2; omega⟩
    let Iv : Hp → Prop := fun H' => Grow m.T H H' ∧ H' D = some (.lst (ps.map fun p => V.str (pS p.1 p.2)))
    refine ⟨-1, (us.length : Int) + 1, rfl, ⟨by omega, by omega, by omega, by omega⟩, fun t σ H' => (∃ u6 u7 u8 u9 u10, σ = [some (.ref i), some (.ref a), some (optV mo), some (.ref sl), some (.ref D), some x, u6, u7, u8, u9, u10]) ∧ Iv H', ⟨⟨_, _, _, _, _, rfl⟩, g17, h7⟩, ?_, ?_⟩
    · rintro t σ H8 ht ⟨⟨u6, u7, u8, u9, u10, rfl⟩, g8, h8⟩
      obtain ⟨v1, hv1, a1, a2⟩ : ∃ v1 : Int, (-1 : Int) + t = v1 ∧ -1 ≤ v1 ∧ v1 ≤ 5 := ⟨_, rfl, by omega, by omega⟩
      rw [hv1]
      refine b_one ?_
      refine s_forR2 hA (pg_nl hA n7) hr rfl ?_
      walk_at "V"
      refine g_blt hA hlen rfl bt_len ?_
      walk_at "V"
      refine g_lenL hA (GrowX.seqL g8 hsl (fun z => z)) ?_
      walk_at "V"
      refine ⟨-1, (us.length : Int) + 1, rfl, ⟨by omega, by omega, by omega, by omega⟩, fun u σ H' => (∃ u7 u8 u9 u10, σ = [some (.ref i), some (.ref a), some (optV mo), some (.ref sl), some (.ref D), some x, some (.int v1), u7, u8, u9, u10]) ∧ Iv H', ⟨⟨_, _, _, _, rfl⟩, g8, h8⟩, ?_, ?_⟩
      · rintro u σ H9 hu ⟨⟨u7, u8, u9, u10, rfl⟩, g9, h9⟩
        obtain ⟨v2, hv2, b1, b2⟩ : ∃ v2 : Int, (-1 : Int) + u = v2 ∧ -1 ≤ v2 ∧ v2 ≤ 5 := ⟨_, rfl, by omega, by omega⟩
        rw [hv2]
        obtain ⟨s1, s2, s3⟩ := pS_facts a1 a2 b1 b2
        walk_at "B"
        walk_at "V"
        refine g_typ hA hstr rfl bt_str ?_
        walk_at "V"
        refine w_call hA Cc (by omega) rfl ?_
        walk_at "V"
        refine ⟨by walk_at "S", fun T hT => ?_⟩
        have gT := Grow.new (T := m.T) (o := .tup [.int v1, .int v2]) hT
        have eT : (upd H9 T (.tup [.int v1, .int v2])) T = some (.tup [.int v1, .int v2]) := upd_same
        have gA := g9.trans gT
        have hA1 := gT.extN _ _ h9 (fun _ z => by cases z)
        generalize upd H9 T (.tup [.int v1, .int v2]) = HA at *
        walk_at "V"
        refine ⟨i, _, .tuple [.int v1, .int v2], zs, mo, rs, rfl, (bes HA gA).1, ok, by omega, .tup (SqT.of eT) (.cons (.int _) (.cons (.int _) .nil)), (fun ds e => by cases e; show 2 ≤ 1000; omega), fun HB gB => ?_⟩
        rw [hps]
        have gHB := gA.trans gB
        have hB := gB.extN _ _ hA1 (fun _ z => by cases z)
        walk_at "V"
        refine g_strB hA ?_
        walk_at "V"
        refine g_typ hA hstr rfl bt_str ?_
        walk_at "V"
        refine g_typ hA hstr rfl bt_str ?_
        walk_at "V"
        refine ⟨by walk_at "S", fun T2 hT2 => ?_⟩
        have gT2 := Grow.new (T := m.T) (o := .tup [.int v1, .int v2]) hT2
        have eT2 : (upd HB T2 (.tup [.int v1, .int v2])) T2 = some (.tup [.int v1, .int v2]) := upd_same
        have gC := gHB.trans gT2
        have hC := gT2.extN _ _ hB (fun _ z => by cases z)
        generalize upd HB T2 (.tup [.int v1, .int v2]) = HC at *
        walk_at "V"
        refine g_strD hA (Dp.tup (SqT.of eT2) (.cons (.int _) (.cons (.int _) .nil))) s1 s2 s3 ?_
        walk_at "V"
        refine g_inF hA (.inl (SqL.of hC)) rfl (by rw [List.all_map]; exact List.all_eq_true.2 fun _ _ => rfl) ?_
        have iv : inV (V.str (PyData.tuple [.int v1, .int v2]).shown) (ps.map fun p => V.str (pS p.1 p.2)) = chk ps (.tuple [.int v1, .int v2]) := inV_bad a1 a2 b1 b2 ltp
        rw [iv]
        walk_at "V"
        refine g_strB hA ?_
        walk_at "V"
        rw [if_neg (by simp)]
        refine b_nil ?_
        walk_at "B"
        walk_at "V"
        refine w_call hA Cc (by omega) rfl ?_
        walk_at "V"
        refine ⟨by walk_at "S", fun L2 hL2 => ?_⟩
        have gL2 := Grow.new (T := m.T) (o := .lst [.int v1, .int v2]) hL2
        have eL2 : (upd HC L2 (.lst [.int v1, .int v2])) L2 = some (.lst [.int v1, .int v2]) := upd_same
        have gD := gC.trans gL2
        have hDD := gL2.extN _ _ hC (fun _ z => by cases z)
        generalize upd HC L2 (.lst [.int v1, .int v2]) = HD at *
        walk_at "V"
        refine ⟨i, _, .list [.int v1, .int v2], zs, mo, rs, rfl, (bes HD gD).1, ok, by omega, .lst trivial (SqL.of eL2) (.cons (.int _) (.cons (.int _) .nil)) (by show 2 < 1000000; omega), (fun ds e => by cases e), fun HE gE => ?_⟩
        walk_at "V"
        refine g_notF ?_
        rw [show (!decide (chk (clP zs mo rs) (.list [.int v1, .int v2]) = false)) = false from rfl]
        refine ⟨_, rfl, iteF ?_⟩
        have gHE := gD.trans gE
        have hE := gE.extN _ _ hDD (fun _ z => by cases z)
        walk_at "V"
        refine w_call hA Cc (by omega) rfl ?_
        walk_at "V"
        refine ⟨by walk_at "S", fun T3 hT3 => ?_⟩
        have gT3 := Grow.new (T := m.T) (o := .tup [.int v1, .int v2, .int 0]) hT3
        have eT3 : (upd HE T3 (.tup [.int v1, .int v2, .int 0])) T3 = some (.tup [.int v1, .int v2, .int 0]) := upd_same
        have gF := gHE.trans gT3
        have hF := gT3.extN _ _ hE (fun _ z => by cases z)
        generalize upd HE T3 (.tup [.int v1, .int v2, .int 0]) = HF at *
        walk_at "V"
        refine ⟨i, _, .tuple [.int v1, .int v2, .int 0], zs, mo, rs, rfl, (bes HF gF).1, ok, by omega, .tup (SqT.of eT3) (.cons (.int _) (.cons (.int _) (.cons (.int _) .nil))), (fun ds e => by cases e; show 3 ≤ 1000; omega), fun HG gG => ?_⟩
        rw [chk_len _ (by show 3 ≠ 2; omega)]
        walk_at "V"
        refine g_notF ?_
        refine ⟨_, rfl, iteF (b_nil ?_)⟩
        exact b_nil ⟨⟨_, _, _, _, rfl⟩, gF.trans gG, gG.extN _ _ hF (fun _ z => by cases z)⟩
      · rintro σ H9 ⟨⟨u7, u8, u9, u10, rfl⟩, iv⟩
        exact ⟨⟨_, _, _, _, _, rfl⟩, iv⟩
    · rintro σ H8 ⟨⟨u6, u7, u8, u9, u10, rfl⟩, g8, h8⟩
      walk_at "B"
      refine s_nl hA n8 (w_lst ?_)
      refine w_lits (m := m) (A := fun _ => False) (H0 := H8) (env := []) (fun x d pos hx => by cases hx) _ odd1 H8 _ (by with_unfolding_all rfl) GrowX.refl fun vs1 H9 g9 o1 => ?_
      have l1 : vs1.length = 12 := ObAll.length o1
      refine ⟨by rw [l1, sizeLine_eq]; omega, fun O1 hO1 => ?_⟩
      have gO1 := Grow.new (T := m.T) (o := .lst vs1) hO1
      have eO1 : (upd H9 O1 (.lst vs1)) O1 = some (.lst vs1) := upd_same
      have o1A := Grow.obAllX (g := gO1) (obs_sub o1 (A' := Any) fun _ _ => trivial)
      have gA : Grow m.T H8 (upd H9 O1 (.lst vs1)) := g9.trans gO1
      generalize upd H9 O1 (.lst vs1) = HA at *
      walk_at "B"
      refine s_forL hA (pg_nl hA n9) ?_
      refine g_bin ?_
      walk_at "v"
      refine w_lst ?_
      refine w_lits (m := m) (A := fun _ => False) (H0 := HA) (env := []) (fun x d pos hx => by cases hx) _ odd2 HA _ (by with_unfolding_all rfl) GrowX.refl fun vs2 HB gB o2 => ?_
      have l2 : vs2.length = 5 := ObAll.length o2
      refine ⟨by rw [l2, sizeLine_eq]; omega, fun O2 hO2 => ?_⟩
      have gO2 := Grow.new (T := m.T) (o := .lst vs2) hO2
      refine g_cat (gO2.extN _ _ (gB.extN _ _ eO1 (fun _ z => by cases z)) (fun _ z => by cases z)) upd_same (by rw [l1, l2, sizeLine_eq]; omega) fun O3 hO3 => ?_
      have gO3 := Grow.new (T := m.T) (o := .lst (vs1 ++ vs2)) hO3
      have oo := ObAll.app (Grow.obAllX (g := gO3) (Grow.obAllX (g := gO2) (Grow.obAllX (g := gB) o1A))) (Grow.obAllX (g := gO3) (Grow.obAllX (g := gO2) (obs_sub o2 (A' := Any) fun _ _ => trivial)))
      have eO3 : (upd (upd HB O2 (.lst vs2)) O3 (.lst (vs1 ++ vs2))) O3 = some (.lst (vs1 ++ vs2)) := upd_same
      have gC : Grow m.T H (upd (upd HB O2 (.lst vs2)) O3 (.lst (vs1 ++ vs2))) := (((g8.trans gA).trans gB).trans gO2).trans gO3
      generalize upd (upd HB O2 (.lst vs2)) O3 (.lst (vs1 ++ vs2)) = HC at *
      refine ⟨O3, _, rfl, SqL.of eO3, fun t σ H' => (∃ u6 u7 u8 u9 u10, σ = [some (.ref i), some (.ref a), some (optV mo), some (.ref sl), some (.ref D), some x, u6, u7, u8, u9, u10]) ∧ Grow m.T HC H', ⟨⟨_, _, _, _, _, rfl⟩, GrowX.refl⟩, fun t σ H' _ hp => SqL.of (hp.2.extN _ _ eO3 (fun _ z => by cases z)), ?_, ?_⟩
      · rintro t v σ HD hv ⟨⟨u6, u7, u8, u9, u10, rfl⟩, gD⟩
        obtain ⟨d, ed, od⟩ := ObAll.get oo t v hv
        obtain ⟨c1, c2⟩ := odd_ok (clP zs mo rs) d (List.mem_of_getElem? ed)
        have gHD := gC.trans gD
        walk_at "B"
        walk_at "V"
        refine w_call hA Cc (by omega) rfl ?_
        walk_at "V"
        refine ⟨i, v, d, zs, mo, rs, rfl, (bes HD gHD).1, ok, by omega, Grow.obX (g := gD) od, c2, fun HE gE => ?_⟩
        rw [c1]
        walk_at "V"
        refine g_notF ?_
        refine ⟨_, rfl, iteF (b_nil (b_nil ?_))⟩
        exact ⟨⟨_, _, _, _, _, rfl⟩, gD.trans gE⟩
      · rintro σ HD ⟨⟨u6, u7, u8, u9, u10, rfl⟩, gD⟩
        walk_at "B"
        walk_at "V"
        exact k HD (gC.trans gD)
/-! VN: the law -/
section
variable {m : Md} {N : List Str} {sc scope : Scope} {k l : Nat} {X : Cx} {a b c e o elt iter : Expr} {es : List Expr} {σ : L2.St} {H : Hp} {nx : L2.St → Hp → Prop} {rt : VK} {bk ct : L2.St → Hp → Prop} {pos p p1 p2 p3 py spos : Pos} {x y : Str} {i j : Nat} {v w : V}
theorem s_lcT (h : At m N sc k X) (nl : NL N sc l y) (ok : blkC N sc scope [(x, i)] = true) (n : NL N (relS scope sc) i x)
    (q : wE X iter σ H fun v H1 => ∃ (a : Addr) (xs : List V), v = .ref a ∧ SqT m.K H1 a xs ∧ ∀ D, H1 D = none → ∃ Pv : Nat → Hp → Prop, Pv 0 (upd H1 D (.lst [])) ∧ (∀ j H, j ≤ xs.length → Pv j H → SqT m.K H a xs) ∧
      (∀ j x H, xs[j]? = some x → Pv j H → ∀ X', At m N (relS scope sc) k X' → wE X' elt (σ.set i (some x)) H (App D (Pv (j + 1)))) ∧ ∀ H, Pv xs.length H → nx (σ.set l (some (.ref D))) H)
    (hs : ∀ x, foldedSetIterable iter X.env x = pure x := by with_unfolding_all (intro _; rfl)) (hk : sc.kind = .function := by with_unfolding_all rfl) (hl : (py.line == pos.line) = true := by with_unfolding_all rfl) (ha : (scope.names.any fun (n, k) => n == y && (k == .local || k == .cell)) = false := by with_unfolding_all (decide +kernel)) : wS X (.Assign [.Name y py] (.ListComp elt [⟨.Name x p1, iter, [], 0⟩] scope pos) spos) ⟨nx, rt, bk, ct⟩ σ H := by
  refine toS (ps_setLc (i := l) (y := y) (py := py) (own := [(x, i)]) (g := gName i) (tt := tYes) (te := inBlk m N (relS scope sc) k elt) h.calm (by rw [h.nn]; exact h.nd) (by rw [h.nn]; exact nl.ix) (by rw [h.ss]; exact nl.loc) (sw_true (by rw [h.ss]; exact hk) (by rw [h.ss]; exact nl.loc) hl ha) (pi_tup cE) (by rw [h.nn, h.ss]; exact blkOk_by ok) (fun s H C cl fp => pg_nl (blk_at h s H C cl fp) n) (fun _ _ _ _ _ => pts_nil) (fun s H C cl fp => blk_pe h s H C cl fp) hs) ?_
  refine wE.mono q fun v H1 ⟨a, xs, ea, hl, go⟩ => ⟨a, ea, ⟨xs, by rw [h.kk]; exact hl⟩, fun D hD => ?_⟩
  obtain ⟨Pv, p0, st, turn, fin⟩ := go D hD
  refine lc_tup (K := X.K) (a := a) (xs := xs) (g := gName i) (tt := tYes) (te := inBlk m N (relS scope sc) k elt) (vs := [i]) (σ := σ) Pv p0 (fun j H hj hp => by rw [h.kk]; exact st j H hj hp) (fun j z H hz hp => ?_) fin
  refine ⟨by rw [wipe1]; simp [wipe, List.set_set], ?_⟩
  unfold tYes
  refine iteT fun X' hX' => ?_
  rw [set_wipe]
  exact turn j z H hz hp X' hX'
end
theorem RowsA.lst {H : Hp} {D : Addr} {xs ys : List V} {vs : List V} {rs : List Rw} (h : RowsA Any H vs rs) (hD : H D = some (.lst xs)) : RowsA Any (upd H D (.lst ys)) vs rs := by
  have gX : GrowX [] (· = D) H (upd H D (.lst ys)) := GrowX.lst hD
  refine Paired.imp2 h ?_
  rintro v r ⟨T, d, e, hT, -, hd⟩
  exact ⟨T, d, e, gX.tup _ _ hT, trivial, gX.ext _ _ (fun z => by rw [z, hD] at hd; cases hd) hd (fun _ z => by cases z)⟩
def rw2 (x y : Int) (lo hi : Option Int) : Rw := ([("a", x), ("b", y)], lo, hi)
def rw1 (x : Int) (lo hi : Option Int) : Rw := ([("a", x)], lo, hi)
theorem row_new {T0 : List (Addr × Str)} {H : Hp} {d T : Addr} {r : Rw} (hd : H d = none) (hT : (upd (upd H d (.dK [])) d (.dK (hrK r.1))) T = none) :
    Grow T0 H (upd (upd (upd H d (.dK [])) d (.dK (hrK r.1))) T (.tup [.ref d, optV r.2.1, optV r.2.2])) ∧ RowA Any (upd (upd (upd H d (.dK [])) d (.dK (hrK r.1))) T (.tup [.ref d, optV r.2.1, optV r.2.2])) (.ref T) r := by
  have e : upd (upd H d (.dK [])) d (.dK (hrK r.1)) = upd H d (.dK (hrK r.1)) := by
    funext b
    unfold upd
    by_cases c : b = d <;> simp [c]
  rw [e] at hT ⊢
  have gT := Grow.new (T := T0) (o := .tup [.ref d, optV r.2.1, optV r.2.2]) hT
  exact ⟨(Grow.new hd).trans gT, T, d, rfl, upd_same, trivial, gT.extN _ _ upd_same (fun _ z => by cases z)⟩
theorem row_new1 {T0 : List (Addr × Str)} {H : Hp} {d T : Addr} {x : Int} {lo hi : Option Int} (hd : H d = none) (hT : (upd (upd H d (.dK [])) d (.dK [(Sum.inr "a", V.int x)])) T = none) :
    Grow T0 H (upd (upd (upd H d (.dK [])) d (.dK [(Sum.inr "a", V.int x)])) T (.tup [.ref d, optV lo, optV hi])) ∧ RowA Any (upd (upd (upd H d (.dK [])) d (.dK [(Sum.inr "a", V.int x)])) T (.tup [.ref d, optV lo, optV hi])) (.ref T) (rw1 x lo hi) := row_new (r := rw1 x lo hi) hd hT
theorem paired3 {α β : Type} {F : α → β → Prop} {xs : List α} {a b c : β} (h : Paired F xs [a, b, c]) : ∃ x y z, xs = [x, y, z] ∧ F x a ∧ F y b ∧ F z c := by
  cases h with
  | cons h1 h => cases h with
    | cons h2 h => cases h with
      | cons h3 h => cases h; exact ⟨_, _, _, rfl, h1, h2, h3⟩
theorem asc_of {ys : List Str} (h : sortedS ys = true) (n : ys.Nodup) : ys.Pairwise (fun a b => a.cps.toList < b.cps.toList) := by
  have h1 := sorted_pw ys h
  refine (h1.and n).imp fun {a b} ⟨e1, e2⟩ => ?_
  cases h3 : ltCps a.cps.toList b.cps.toList with
  | true => rw [ltCps_eq, decide_eq_true_eq] at h3; exact h3
  | false => exact absurd (ltCps_total h3 e1) e2
theorem namesOk_of {zs ys : List Str} (h : Names zs) (p : ys.Perm zs) (s : sortedS ys = true) (ne : zs ≠ []) (l : zs.length < 1000) : NamesOk ys := by
  refine ⟨fun z hz => h.isn z (p.mem_iff.1 hz), asc_of s (p.nodup_iff.2 h.nd), fun e => ?_, by rw [p.length_eq]; exact l⟩
  rw [e] at p
  exact ne (List.Perm.nil_eq p).symm
theorem isA : IsName "a" := by unfold IsName; decide +kernel
theorem isB : IsName "b" := by unfold IsName; decide +kernel
theorem rw2_ok {x y : Int} {lo hi : Option Int} (h : spanOk (lo, hi)) : RowOk ["a", "b"] (rw2 x y lo hi) := by
  refine ⟨?_, ?_, rfl, ?_, h⟩
  · show (["a", "b"] : List Str).Nodup
    decide +kernel
  · intro p hp
    simp only [rw2, List.mem_cons, List.not_mem_nil, or_false] at hp
    rcases hp with rfl | rfl
    · exact isA
    · exact isB
  · intro z hz
    refine lookup_of_key ?_
    exact hz
theorem rw1_ok {x : Int} {lo hi : Option Int} (h : spanOk (lo, hi)) : RowOk ["a"] (rw1 x lo hi) := by
  refine ⟨List.pairwise_singleton _ _, ?_, rfl, fun z hz => lookup_of_key hz, h⟩
  intro p hp
  simp only [rw1, List.mem_cons, List.not_mem_nil, or_false] at hp
  subst hp
  exact isA
theorem namesAB : NamesOk ["a", "b"] := ⟨fun z hz => by
  simp only [List.mem_cons, List.not_mem_nil, or_false] at hz
  rcases hz with rfl | rfl
  · exact isA
  · exact isB, by decide +kernel, by simp, by simp⟩
theorem namesA : NamesOk ["a"] := ⟨fun z hz => by rw [List.mem_singleton.1 hz]; exact isA, List.pairwise_singleton _ _, by simp, by simp⟩
def nine : List Str := ["a", "b", "c", "d", "e", "f", "g", "h", "i"]
theorem namesN : NamesOk nine := by
  refine ⟨?_, by decide +kernel, by simp [nine], by simp [nine]⟩
  unfold nine IsName
  decide +kernel
def spots : List Rw := [rw2 0 0 (some 2) (some 2), rw2 0 5 (some 3) (some 3), rw2 1 9 (some 2) (some 2)]
def crowd (j : Nat) : Rw := rw1 0 (some ((j : Int) % 3)) (some 3)
theorem span_some {a b : Int} (h : a ≤ b) : spanOk (some a, some b) := fun x y e1 e2 => by cases e1; cases e2; exact h
theorem crowd_ok : ∀ r ∈ (List.range 12).map crowd, RowOk ["a"] r := by
  intro r hr
  obtain ⟨j, hj, rfl⟩ := List.mem_map.1 hr
  exact rw1_ok (span_some (by omega))
theorem spots_ok : ∀ r ∈ spots, RowOk ["a", "b"] r := by
  intro r hr
  simp only [spots, List.mem_cons, List.not_mem_nil, or_false] at hr
  rcases hr with rfl | rfl | rfl <;> exact rw2_ok (span_some (by decide))
theorem spot0 : (clP ["a", "b"] (some 0) spots).head? = some (0, 0) := by decide +kernel
theorem spot1 : (clP ["a", "b"] (some 3) spots).head? = some (2, 0) := by decide +kernel
theorem spot2 : (clP ["a", "b"] none spots).head? = some (2, 0) := by decide +kernel
theorem spot3 : clP ["a", "b"] (some 3) (spots.take 2) = [] := by decide +kernel
theorem spot4 : (clP ["a"] (some 5) [rw1 0 (some 6) none]).head? = some (0, 0) := by decide +kernel
theorem ClashV.grow {T : List (Addr × Str)} {S : Addr → Prop} {H H' : Hp} {ps : List (Nat × Nat)} {x : V} (h : ClashV ps x H) (g : GrowX T S H H') : ClashV ps x H' := by
  rcases h with h | ⟨p, b, e1, e2, e3⟩
  · exact .inl h
  · exact .inr ⟨p, b, e1, e2, g.tup _ _ e3⟩
theorem ClashV.at_ {H : Hp} {ps : List (Nat × Nat)} {x : V} {p : Nat × Nat} (h : ClashV ps x H) (e : ps.head? = some p) : ∃ b, x = .ref b ∧ H b = some (.tup [.int (p.1 : Nat), .int (p.2 : Nat)]) := by
  rcases h with ⟨-, e1⟩ | ⟨q, b, e1, e2, e3⟩
  · rw [e1] at e; cases e
  · rw [e] at e1; cases e1; exact ⟨b, e2, e3⟩
/-- a coded lot suits what was seen -/
def sutC (z0 z1 : Str) (rs : List Rw) (s : List (Nat × Nat)) : Bool := sutB (s.map (mkR z0 z1)) rs
theorem every_ok2 {a b : Str} (ne : a ≠ b) {m : Nat} (hm : m ≤ 2) (rs : List Rw) {es : List (List (Nat × Nat))} (he : es = (evr (cds m)).drop 1) : (clP [a, b] (some (m : Int)) rs).isEmpty = !(es.filter (sutC a b rs)).isEmpty := by
  have h := every_ok ne hm rs
  subst he
  have e : ((evr (cds m)).drop 1).filter (fun s => sutB (s.map (mkR a b)) rs) = ((evr (cds m)).drop 1).filter (sutC a b rs) := rfl
  rw [e] at h
  cases hc : clP [a, b] (some (m : Int)) rs with
  | nil =>
    have := h.1 hc
    cases hf : ((evr (cds m)).drop 1).filter (sutC a b rs) with
    | nil => exact absurd hf this
    | cons _ _ => rfl
  | cons c cs =>
    cases hf : ((evr (cds m)).drop 1).filter (sutC a b rs) with
    | nil => rfl
    | cons q qs => have := h.2 (by rw [hf]; simp); rw [hc] at this; cases this
theorem mostOk_of {mo : Option Int} (h : bigOk mo) : mostOk mo := fun i e => (h i e).1
def sp_law (m : Md) : Sp := fun vs H Q _ => ∃ (a : Addr) (ns : List Int), vs = [.ref a] ∧ SqL m.K H a (ns.map V.int) ∧ ns.length < 1000 ∧ Tabs m.T H ∧ ∀ H', Q (.bl true) H'
theorem f_law {m : Md} {C f : Addr} {fd : FuncData} (F : C8.Fun m.K "law" "law" st_law f fd) (R : SgC m C) (hsorted : m.mg "sorted" = none) (hr : m.mg "range" = none) (hi : m.mg "isinstance" = none)
    (Pu : Cal m 2 "_law_purses" (sp_purses m)) (Dr : Cal m 2 "_law_draw" (sp_draw m)) (On : Cal m 3 "_law_one_of" (sp_one_of m)) (Na : Cal m 4 "_law_names" (sp_names m)) (Se : Cal m 6 "_law_seen" (sp_seen m)) (Co : Cal m 1 "_law_copied" (sp_lcopied m)) (Ev : Cal m 2 "_law_every" (sp_every m)) (Su : Cal m 3 "_law_suits" (sp_suits m)) (Pa : Cal m 3 "_law_pairs" (sp_lpairs m)) (Ju : Cal m 9 "_law_judged_right" (sp_judged m C))
    (Mk : MakX m C8.CX0 5 "Sights" C (sp_sginit m C) []) (Ro : MetX m C8.CX0 1 C "rows" (sp_sgrows m C) []) (Fi : Cal m 7 "fits" (sp_fits m C)) (Cl : Cal m 6 "clash" (sp_clash m C))
    (ty : ∀ (H : Hp) (i dx : Addr) (fs : List (Str × V)), H i = some (.ins C dx fs) → TyX m.K H (.ref i) (.ref C)) (own : PySem.W.kitOne m.K (.ref C) (.ref C) = some true) : FnG m C8.CX0 11 f fd ps_law (sp_law m) := by
  refine fnG_of F sc_law (fun vs H Q E h => by obtain ⟨_, _, rfl, _⟩ := h; rfl) fun X vs H Q E hA hM h => ?_
  obtain ⟨a, ns, rfl, hs, hn, hT, k⟩ := h
  replace hA : At m nl_law (C8.fnScope st_law) 10 X := hA
  obtain ⟨n0, n1, n2, n3, n4, n5, n6, n7, n8, n9, n10, n11⟩ := nv_law
  walk_at "B"
  refine s_forL hA (pg_nl hA n1) ?_
  refine w_call hA Pu (by omega) rfl ?_
  walk_at "V"
  refine ⟨a, ns, 3, rfl, hs, hn, by omega, by omega, fun r ps H1 P hl => ?_⟩
  have hrp : ∀ q ∈ ps, r ≠ q := fun q hq w => (List.nodup_cons.1 P.nd).1 (w ▸ hq)
  have hnd := (List.nodup_cons.1 P.nd).2
  refine ⟨r, ps.map V.ref, rfl, P.seq, fun j σ H' => (∃ s1 s2 s3 s4 s5 s6 s7 s10, σ = [some (.ref a), s1, s2, s3, s4, s5, s6, s7, none, none, s10, none, none, none, none]) ∧ GrowX m.T (· ∈ ps) H1 H' ∧ ∀ q ∈ ps.drop j, Purse H' q 0, ?_, ?_, ?_, ?_⟩
  · exact ⟨⟨_, _, _, _, _, _, _, _, rfl⟩, GrowX.refl, fun q hq => P.purse q (by simpa using hq)⟩
  · rintro j σ H' _ ⟨_, gg, _⟩
    exact gg.seqL P.seq fun z => hrp r z rfl
  · rintro j x σ H2 hx ⟨⟨s1, s2, s3, s4, s5, s6, s7, s10, rfl⟩, gg, hp⟩
    rw [List.getElem?_map] at hx
    obtain ⟨q, hq, rfl⟩ := Option.map_eq_some_iff.1 hx
    have hj : j < ps.length := (List.getElem?_eq_some_iff.1 hq).1
    have ed : ps.drop j = q :: ps.drop (j + 1) := by
      rw [List.drop_eq_getElem_cons hj, (List.getElem?_eq_some_iff.1 hq).2]
    have hqm := List.mem_of_getElem? hq
    have hq0 := hp q (by rw [ed]; simp)
    walk_at "B"
    refine s_par hA n2 n3 ?_
    walk_at "V"
    refine g_blt hA hsorted rfl bt_sorted ?_
    refine w_cons (w_call hA Na (by omega) rfl ?_)
    walk_at "V"
    refine ⟨q, 0, 2, rfl, hq0, by omega, by omega, fun r1 zs0 H3 nz0 lz0 d3 _ hr1 => ?_⟩
    walk_at "V"
    refine g_sortedS hA (SqL.of hr1) (by omega) fun zs an pz sz hNn => ?_
    have okN : NamesOk zs := namesOk_of nz0 pz sz (fun e => by rw [e] at lz0; cases lz0) (by omega)
    have lz : zs.length = 2 := by rw [pz.length_eq]; exact lz0
    have gN := Grow.new (T := m.T) (o := .lst (zs.map V.str)) hNn
    have hN4 : (upd H3 an (.lst (zs.map V.str))) an = some (.lst (zs.map V.str)) := upd_same
    have d4 := d3.post gN
    have hanq : an ≠ q := d3.purse.ne hNn
    generalize upd H3 an (.lst (zs.map V.str)) = H4 at *
    walk_at "V"
    refine w_call hA Dr (by omega) rfl ?_
    walk_at "V"
    refine ⟨q, _, 3, rfl, d4.purse, by omega, by omega, by decide, fun mi H5 m0 m1 d5 => ?_⟩
    obtain ⟨mm, rfl⟩ : ∃ mm : Nat, mi = mm := ⟨mi.toNat, by omega⟩
    have hmm : mm ≤ 2 := by omega
    have D5 := d4.trans d5
    have hN5 := d5.grow.ext _ _ hanq hN4 (fun _ z => by cases z)
    walk_at "V"
    refine ⟨_, _, rfl, ?_⟩
    walk_at "B"
    refine s_nc hA n10 hM.fn ?_
    refine w_call hA Se (by omega) rfl ?_
    walk_at "V"
    refine w_call hA Dr (by omega) rfl ?_
    walk_at "V"
    refine ⟨q, _, 4, rfl, D5.purse, by omega, by omega, by decide, fun ma H6 a0 a1 d6 => ?_⟩
    obtain ⟨many, rfl⟩ : ∃ many : Nat, ma = many := ⟨ma.toNat, by omega⟩
    have D6 := D5.trans d6
    have hN6 := d6.grow.ext _ _ hanq hN5 (fun _ z => by cases z)
    have bo : bigOk (some (mm : Int)) := fun q e => by cases e; exact ⟨by omega, by omega⟩
    have zne : zs ≠ [] := okN.ne
    walk_at "V"
    refine ⟨q, _, an, zs, some (mm : Int), many, rfl, D6.purse, by omega, SqL.of hN6, hanq, okN.nd, zne, by omega, okN.nm, bo, by omega, fun S H7 us rs d7 nS hS hus lrs okr => ?_⟩
    have D7 := D6.trans d7
    have hN7 := d7.grow.ext _ _ hanq hN6 (fun _ z => by cases z)
    have hSq : S ≠ q := D6.purse.ne nS
    have hus7 : RowsA Any H7 us rs := Paired.imp2 hus fun _ _ z => z.mono fun _ _ => trivial
    have okS : SgOk zs (some (mm : Int)) rs := ⟨okN, mostOk_of bo, okr, by omega⟩
    walk_at "B"
    refine s_par hA n4 n5 ?_
    walk_at "V"
    refine w_call hA Co (by omega) rfl ?_
    walk_at "V"
    refine ⟨S, us, rs, rfl, SqL.of hS, Paired.imp2 hus fun _ _ z => z.mono fun _ _ => trivial, by omega, fun K H8 ks g8 nK hK hks => ?_⟩
    have hks8 : RowsA Any H8 ks rs := Paired.imp2 hks fun _ _ z => z.mono fun _ _ => trivial
    walk_at "V"
    refine w_sights hA Mk (by omega) rfl ?_
    walk_at "V"
    have hN8 := g8.extN _ _ hN7 (fun _ z => by cases z)
    have hS8 := g8.extN _ _ hS (fun _ z => by cases z)
    have hus8 := RowsA.grow hus7 g8 (fun _ _ z => z)
    refine ⟨an, S, zs, some (mm : Int), us, rs, rfl, SqL.of hN8, by rw [hN8]; simp, SqL.of hS8, by rw [hS8]; simp, hus8, okS, fun i H9 g9 ni st9 => ?_⟩
    walk_at "V"
    refine ⟨_, _, rfl, ?_⟩
    have D9 := (D7.post g8).post g9
    have hN9 := g9.extN _ _ hN8 (fun _ z => by cases z)
    have hS9 := g9.extN _ _ hS8 (fun _ z => by cases z)
    have hus9 := RowsA.grow hus8 g9 (fun _ _ z => z)
    have hK9 := g9.extN _ _ hK (fun _ z => by cases z)
    have hks9 := RowsA.grow hks8 g9 (fun _ _ z => z)
    have stA : SgAt C Any H9 i zs (some (mm : Int)) rs := st9.mono fun _ _ => trivial
    walk_at "B"
    obtain ⟨z0, z1, rfl⟩ : ∃ z0 z1, zs = [z0, z1] := by
      match zs, lz with
      | [z0, z1], _ => exact ⟨z0, z1, rfl⟩
    have nz : z0 ≠ z1 := by have := okN.nd; simpa using this
    refine s_lcLi hA n6 (by decide +kernel) (i := 12) ⟨rfl, rfl⟩ ?_
    refine w_call hA Ev (by omega) rfl ?_
    walk_at "V"
    refine ⟨an, z0, z1, mm, rfl, SqL.of hN9, nz, okN.nm z0 (by simp), okN.nm z1 (by simp), hmm, fun E0 HA es ad gA nE hE hadA hes => ?_⟩
    have les := paired_len hes
    have lev := evr_len hmm
    have evM : ∀ s ∈ (evr (cds mm)).drop 1, (∀ e ∈ s, e ∈ cds mm) ∧ s ≠ [] ∧ s.length ≤ 15 := fun s ms => ⟨evr_sub _ _ rfl s (List.mem_of_mem_drop ms), (evr_head (cds mm)).2 s ms, Nat.le_trans (evr_elen _ (cds mm) rfl s (List.mem_of_mem_drop ms)) (cds_len hmm)⟩
    have edr : ((evr (cds mm)).drop 1).length ≤ 70 := by rw [List.length_drop]; omega
    have eok := every_ok2 nz hmm rs (es := (evr (cds mm)).drop 1) rfl
    generalize (evr (cds mm)).drop 1 = ev at *
    refine ⟨E0, es, rfl, SqL.of hE, fun G hG => ?_⟩
    refine ⟨fun j H' => Grow m.T HA H' ∧ ∃ gs : List V, H' G = some (.lst gs) ∧ gs.length = ((ev.take j).filter (sutC z0 z1 rs)).length, ⟨Grow.new hG, [], upd_same, rfl⟩, fun j H' _ hp => SqL.of (hp.1.extN _ _ hE (fun _ z => by cases z)), ?_, ?_⟩
    · rintro j x HB hx ⟨gB, gs, hG, lg⟩ X' hX'
      have c10 := nc_of hX' 10 "_law_seen_here"
      have c12 := nl_of hX' 12 "_law_lots"
      obtain ⟨s, es', l, rfl, hl⟩ := Paired.get2 hes j x hx
      have ms := List.mem_of_getElem? es'
      obtain ⟨sub, sne, lsn⟩ := evM s ms
      have gAB : Grow m.T H9 HB := gA.trans gB
      have tk : ev.take (j + 1) = ev.take j ++ [s] := by rw [List.take_succ, es']; rfl
      walk_at "V"
      refine w_call hX' Su (by omega) rfl ?_
      walk_at "V"
      have prl : ∀ s : List (Nat × Nat), (∀ e ∈ s, e ∈ cds mm) → Paired (LotA HB) (s.map ad) (s.map (mkR z0 z1)) := by
        intro s
        induction s with
        | nil => intro _; exact .nil
        | cons e s ih =>
          intro h
          obtain ⟨d, e1, _, e3⟩ := hadA e (h e (by simp))
          exact .cons ⟨d, e1, gB.extN _ _ e3 (fun _ z => by cases z)⟩ (ih fun x hx => h x (List.mem_cons_of_mem _ hx))
      refine ⟨l, S, s.map ad, us, s.map (mkR z0 z1), rs, [z0, z1], fun a => H9 a ≠ none, rfl, SqL.of (gB.extN _ _ hl (fun _ z => by cases z)), prl s sub, by simpa using sne, by rw [List.length_map]; omega, ?_, SqL.of (gAB.extN _ _ hS9 (fun _ z => by cases z)), ?_, by omega, ?_, okr, fun HC gC => ?_⟩
      · intro kr hkr
        obtain ⟨e, he, rfl⟩ := List.mem_map.1 hkr
        refine ⟨mkR_nodup nz e, mkR_ne (cds_mem.1 (sub e he)).2.2, by have := mkR_len (a := z0) (b := z1) e; omega, fun p hp => ?_⟩
        rcases mkR_mem.1 hp with ⟨-, rfl⟩ | ⟨-, rfl⟩ <;> simp
      · refine RowsA.grow (Paired.imp2 hus9 ?_) gAB (fun _ _ z => z)
        rintro v r ⟨T, d, e, hT, -, hd⟩
        exact ⟨T, d, e, hT, (fun z => by rw [z] at hd; cases hd), hd⟩
      · intro u hu d hd e
        obtain ⟨c, hc, rfl⟩ := List.mem_map.1 hu
        obtain ⟨d', e1, e2, _⟩ := hadA c (sub c hc)
        rw [e1] at e
        injection e with e
        rw [← e] at hd
        exact hd e2
      have hGC := gC.extN _ _ hG (fun _ z => by cases z)
      refine g_truB ?_
      refine ite2 (fun hb => ?_) fun hb => ?_
      · intro X2 hX2
        have d12 := nl_of hX2 12 "_law_lots"
        walk_at "V"
        have lf := List.length_filter_le (sutC z0 z1 rs) (ev.take j)
        rw [List.length_take] at lf
        refine ⟨_, hGC, by rw [sizeLine_eq]; omega, Grow.intoNew (gB.trans gC) (GrowX.lst hGC) (fun _ w => by rw [w]; assumption), gs ++ [.ref l], upd_same, ?_⟩
        rw [tk, List.filter_append, List.length_append, List.length_append, lg, List.filter_cons_of_pos (p := sutC z0 z1 rs) hb]; rfl
      · refine ⟨gB.trans gC, gs, hGC, ?_⟩
        rw [tk, List.filter_append, List.length_append, lg, List.filter_cons_of_neg (p := sutC z0 z1 rs) hb]; rfl
    rintro HB ⟨gB, gs, hG, lg⟩
    rw [les, List.take_length] at lg
    have egs : gs.isEmpty = !(clP [z0, z1] (some (mm : Int)) rs).isEmpty := by
      rw [eok, Bool.not_not]
      cases gs with
      | nil => rw [List.length_eq_zero_iff.1 lg.symm]; rfl
      | cons g gs =>
        cases hf : ev.filter (sutC z0 z1 rs) with
        | nil => rw [hf] at lg; simp at lg
        | cons _ _ => rfl
    have gAB : Grow m.T H9 HB := gA.trans gB
    have DB := D9.post gAB
    have hNB := gAB.extN _ _ hN9 (fun _ z => by cases z)
    have hSB := gAB.extN _ _ hS9 (fun _ z => by cases z)
    have husB := RowsA.grow hus9 gAB (fun _ _ z => z)
    have hKB := gAB.extN _ _ hK9 (fun _ z => by cases z)
    have hksB := RowsA.grow hks9 gAB (fun _ _ z => z)
    have stB := stA.grow gAB (fun _ _ z => z) (fun z => z)
    walk_at "B"
    walk_at "V"
    refine w_call hA Pa (by omega) rfl ?_
    walk_at "V"
    refine ⟨an, S, some (mm : Int), [z0, z1], us, rs, rfl, SqL.of hNB, by simp, SqL.of hSB, husB, okr, by omega, fun L1 HC xs gC _ hL1 pL1 => ?_⟩
    walk_at "V"
    refine ⟨by walk_at "S", fun p1 hp1 => ?_⟩
    have gp1 := Grow.new (T := m.T) (o := .lst []) hp1
    refine g_eqNil hA (SqL.of (gp1.extN _ _ hL1 (fun _ z => by cases z))) (SqL.of upd_same) ?_
    have exs : xs.isEmpty = (clP [z0, z1] (some (mm : Int)) rs).isEmpty := by
      have := paired_len pL1
      cases xs <;> cases hc : clP [z0, z1] (some (mm : Int)) rs <;> rw [hc] at this <;> simp at this <;> rfl
    have gBD : Grow m.T HB (upd HC p1 (.lst [])) := gC.trans gp1
    generalize upd HC p1 (.lst []) = HD at *
    walk_at "V"
    refine ⟨by walk_at "S", fun p2 hp2 => ?_⟩
    have gp2 := Grow.new (T := m.T) (o := .lst []) hp2
    have gBE : Grow m.T HB (upd HD p2 (.lst [])) := gBD.trans gp2
    refine g_neNil hA (SqL.of (gBE.extN _ _ hG (fun _ z => by cases z))) (SqL.of upd_same) ?_
    generalize upd HD p2 (.lst []) = HE at *
    rw [exs, egs, Bool.not_not]
    refine g_neB hA ?_
    rw [show ((clP [z0, z1] (some (mm : Int)) rs).isEmpty != (clP [z0, z1] (some (mm : Int)) rs).isEmpty) = false from by simp]
    refine ⟨_, rfl, iteF ?_⟩
    have DE := DB.post gBE
    have hNE := gBE.extN _ _ hNB (fun _ z => by cases z)
    have hSE := gBE.extN _ _ hSB (fun _ z => by cases z)
    have husE := RowsA.grow husB gBE (fun _ _ z => z)
    have hKE := gBE.extN _ _ hKB (fun _ z => by cases z)
    have hksE := RowsA.grow hksB gBE (fun _ _ z => z)
    have stE := stB.grow gBE (fun _ _ z => z) (fun z => z)
    walk_at "V"
    refine w_call hA Ju (by omega) rfl ?_
    walk_at "V"
    refine ⟨i, an, S, [z0, z1], some (mm : Int), us, rs, rfl, ⟨stE, okS, by omega, SqL.of hNE, SqL.of hSE, husE⟩, by rw [hNE]; simp, by omega, fun HF gF => ?_⟩
    walk_at "V"
    refine iteF (b_nil ?_)
    have DF := DE.post gF
    have hSF := gF.extN _ _ hSE (fun _ z => by cases z)
    have husF := RowsA.grow husE gF (fun _ _ z => z)
    have hKF := gF.extN _ _ hKE (fun _ z => by cases z)
    have hksF := RowsA.grow hksE gF (fun _ _ z => z)
    have stF := stE.grow gF (fun _ _ z => z) (fun z => z)
    have ndr : ∀ r ∈ rs, (r.1.map (·.1)).Nodup := fun r hr => (okr r hr).nd
    walk_at "B"
    walk_at "V"
    refine g_neTL (n := 2) hA (SqL.of hSF) (SqL.of hKF) (by omega) (rows_eq husF hksF ndr) ?_
    refine ⟨_, rfl, iteF ?_⟩
    obtain ⟨dxF, laF, lrF, vsF, iF, -⟩ := id stF
    walk_at "V"
    refine w_met0 (E := C8.E0) hA Ro (by omega) C8.pass0 ?_
    walk_at "V"
    refine ⟨i, dxF, _, rfl, iF, rfl, i, [z0, z1], some (mm : Int), rs, rfl, stF, okS.len, fun S2 HG ws gG _ hS2 hws => ?_⟩
    walk_at "V"
    refine g_neTL (n := 2) hA (SqL.of hS2) (SqL.of (gG.extN _ _ hKF (fun _ z => by cases z))) (by omega) (rows_eq hws (RowsA.grow hksF gG (fun _ _ z => z)) ndr) ?_
    refine ⟨_, rfl, iteF (b_nil ?_)⟩
    have DG := (DF.post gG).mono (show 0 + 160 + 8 + 8 + 5000 ≤ 6000 by omega)
    have pG := DG.purse
    walk_at "B"
    walk_at "V"
    refine g_blt hA hsorted rfl bt_sorted ?_
    refine w_cons (w_call hA Na (by omega) rfl ?_)
    walk_at "V"
    refine w_call hA Dr (by omega) rfl ?_
    walk_at "V"
    refine ⟨q, _, 4, rfl, pG, by omega, by omega, by decide, fun wi HH w0 w1 dH => ?_⟩
    obtain ⟨wd, rfl⟩ : ∃ wd : Nat, wi = wd := ⟨wi.toNat, by omega⟩
    have DH := DG.trans dH
    walk_at "V"
    refine ⟨q, _, 1 + wd, by congr 2, DH.purse, by omega, by omega, fun r2 ws0 HI nw0 lw0 dI _ hr2 => ?_⟩
    have DI := DH.trans dI
    walk_at "V"
    refine g_sortedS hA (SqL.of hr2) (by omega) fun wz wn pw sw hWn => ?_
    have okW : NamesOk wz := namesOk_of nw0 pw sw (fun e => by rw [e] at lw0; simp at lw0; omega) (by omega)
    have lwz : wz.length = 1 + wd := by rw [pw.length_eq]; exact lw0
    have gW := Grow.new (T := m.T) (o := .lst (wz.map V.str)) hWn
    have hWJ : (upd HI wn (.lst (wz.map V.str))) wn = some (.lst (wz.map V.str)) := upd_same
    have DJ := DI.post gW
    have hwnq : wn ≠ q := DI.purse.ne hWn
    generalize upd HI wn (.lst (wz.map V.str)) = HJ at *
    walk_at "B"
    walk_at "V"
    refine w_call hA On (by omega) rfl ?_
    walk_at "V"
    refine g_powW (by decide) (by decide +kernel) ?_
    rw [show ((10 : Int) ^ (11 : Int).toNat) = 100000000000 from by decide +kernel]
    walk_at "V"
    refine ⟨by walk_at "S", fun l3 hl3 => ?_⟩
    have g3 := Grow.new (T := m.T) (o := .lst [.non, .int 0, .int 3, .int 7, .int 100000000000]) hl3
    have hl3q : l3 ≠ q := DJ.purse.ne hl3
    have eL3 : (upd HJ l3 (.lst [.non, .int 0, .int 3, .int 7, .int 100000000000])) l3 = some (.lst [.non, .int 0, .int 3, .int 7, .int 100000000000]) := upd_same
    have DK := DJ.post g3
    have hWK := g3.extN _ _ hWJ (fun _ z => by cases z)
    generalize upd HJ l3 (.lst [.non, .int 0, .int 3, .int 7, .int 100000000000]) = HK at *
    walk_at "V"
    refine ⟨q, _, l3, _, rfl, DK.purse, by omega, SqL.of eL3, hl3q, by show 0 < 5; omega, by show 5 < 1000000; omega, fun j3 v3 HL hv3 dL => ?_⟩
    have DL := DK.trans dL
    have hWL := dL.grow.ext _ _ hwnq hWK (fun _ z => by cases z)
    obtain ⟨mo, rfl, bo2⟩ : ∃ mo, v3 = optV mo ∧ bigOk mo := by
      have hm := List.mem_of_getElem? hv3
      simp only [List.mem_cons, List.not_mem_nil, or_false] at hm
      rcases hm with h | h | h | h | h
      · exact ⟨none, h, fun q e => by cases e⟩
      · exact ⟨some 0, h, fun q e => by cases e; decide⟩
      · exact ⟨some 3, h, fun q e => by cases e; decide⟩
      · exact ⟨some 7, h, fun q e => by cases e; decide⟩
      · exact ⟨some 100000000000, h, fun q e => by cases e; decide⟩
    walk_at "B"
    refine s_nc hA n10 hM.fn ?_
    refine w_call hA Se (by omega) rfl ?_
    walk_at "V"
    refine w_call hA Dr (by omega) rfl ?_
    walk_at "V"
    refine ⟨q, _, 5, rfl, DL.purse, by omega, by omega, by decide, fun ma HM a0 a1 dM => ?_⟩
    obtain ⟨many2, rfl⟩ : ∃ many : Nat, ma = many := ⟨ma.toNat, by omega⟩
    have DM := DL.trans dM
    have hWM := dM.grow.ext _ _ hwnq hWL (fun _ z => by cases z)
    walk_at "V"
    refine ⟨q, _, wn, wz, mo, 1 + many2, by congr 4, DM.purse, by omega, SqL.of hWM, hwnq, okW.nd, okW.ne, by omega, okW.nm, bo2, by omega, fun S3 HN us3 rs3 dN nS3 hS3 hus3 lrs3 okr3 => ?_⟩
    have DN := DM.trans dN
    have hWN := dN.grow.ext _ _ hwnq hWM (fun _ z => by cases z)
    have hus3A : RowsA Any HN us3 rs3 := Paired.imp2 hus3 fun _ _ z => z.mono fun _ _ => trivial
    have okS3 : SgOk wz mo rs3 := ⟨okW, mostOk_of bo2, okr3, by omega⟩
    walk_at "B"
    walk_at "V"
    refine w_call hA Ju (by omega) rfl ?_
    walk_at "V"
    refine w_sights hA Mk (by omega) rfl ?_
    walk_at "V"
    refine ⟨wn, S3, wz, mo, us3, rs3, rfl, SqL.of hWN, by rw [hWN]; simp, SqL.of hS3, by rw [hS3]; simp, hus3A, okS3, fun i3 HO gO ni3 st3 => ?_⟩
    walk_at "V"
    have hWO := gO.extN _ _ hWN (fun _ z => by cases z)
    have hSO := gO.extN _ _ hS3 (fun _ z => by cases z)
    refine ⟨i3, wn, S3, wz, mo, us3, rs3, rfl, ⟨st3.mono fun _ _ => trivial, okS3, by omega, SqL.of hWO, SqL.of hSO, RowsA.grow hus3A gO (fun _ _ z => z)⟩, by rw [hWO]; simp, by omega, fun HP gP => ?_⟩
    walk_at "V"
    refine iteF (b_nil (b_nil ?_))
    have DP := (DN.post gO).post gP
    refine ⟨⟨_, _, _, _, _, _, _, _, rfl⟩, gg.trans (DP.grow.weak fun b z => by rw [z]; exact hqm), fun y hy => ?_⟩
    have hnd2 : (q :: ps.drop (j + 1)).Nodup := by rw [← ed]; exact hnd.sublist (List.drop_sublist _ _)
    exact (hp y (by rw [ed]; simp [hy])).x DP.grow fun z => (List.nodup_cons.1 hnd2).1 (z ▸ hy)
  · rintro σ H2 ⟨⟨s1, s2, s3, s4, s5, s6, s7, s10, rfl⟩, gg, _⟩
    walk_at "B"
    refine s_nc hA n11 hM.fn (w_lst ?_)
    refine w_cons (w_tup (w_cons (w_disp2 fun d1 hd1 => ?_)))
    walk_at "V"
    refine ⟨upd_same, "a", "b", rfl, rfl, by decide +kernel, ?_⟩
    walk_at "V"
    refine ⟨by walk_at "S", fun T1 hT1 => ?_⟩
    obtain ⟨gr1, ra1⟩ := row_new (T0 := m.T) (r := rw2 0 0 (some 2) (some 2)) hd1 hT1
    have eq1 : upd (upd (upd H2 d1 (.dK [])) d1 (.dK [(Sum.inr "a", V.int 0), (Sum.inr "b", V.int 0)])) T1 (.tup [.ref d1, .int 2, .int 2]) = upd (upd (upd H2 d1 (.dK [])) d1 (.dK (hrK (rw2 0 0 (some 2) (some 2)).1))) T1 (.tup [.ref d1, optV (rw2 0 0 (some 2) (some 2)).2.1, optV (rw2 0 0 (some 2) (some 2)).2.2]) := rfl
    rw [eq1]
    generalize upd (upd (upd H2 d1 (.dK [])) d1 (.dK (hrK (rw2 0 0 (some 2) (some 2)).1))) T1 (.tup [.ref d1, optV (rw2 0 0 (some 2) (some 2)).2.1, optV (rw2 0 0 (some 2) (some 2)).2.2]) = K1 at *
    refine w_cons (w_tup (w_cons (w_disp2 fun d2 hd2 => ?_)))
    walk_at "V"
    refine ⟨upd_same, "a", "b", rfl, rfl, by decide +kernel, ?_⟩
    walk_at "V"
    refine ⟨by walk_at "S", fun T2 hT2 => ?_⟩
    obtain ⟨gr2, ra2⟩ := row_new (T0 := m.T) (r := rw2 0 5 (some 3) (some 3)) hd2 hT2
    have eq2 : upd (upd (upd K1 d2 (.dK [])) d2 (.dK [(Sum.inr "a", V.int 0), (Sum.inr "b", V.int 5)])) T2 (.tup [.ref d2, .int 3, .int 3]) = upd (upd (upd K1 d2 (.dK [])) d2 (.dK (hrK (rw2 0 5 (some 3) (some 3)).1))) T2 (.tup [.ref d2, optV (rw2 0 5 (some 3) (some 3)).2.1, optV (rw2 0 5 (some 3) (some 3)).2.2]) := rfl
    rw [eq2]
    generalize upd (upd (upd K1 d2 (.dK [])) d2 (.dK (hrK (rw2 0 5 (some 3) (some 3)).1))) T2 (.tup [.ref d2, optV (rw2 0 5 (some 3) (some 3)).2.1, optV (rw2 0 5 (some 3) (some 3)).2.2]) = K2 at *
    refine w_cons (w_tup (w_cons (w_disp2 fun d3 hd3 => ?_)))
    walk_at "V"
    refine ⟨upd_same, "a", "b", rfl, rfl, by decide +kernel, ?_⟩
    walk_at "V"
    refine ⟨by walk_at "S", fun T3 hT3 => ?_⟩
    obtain ⟨gr3, ra3⟩ := row_new (T0 := m.T) (r := rw2 1 9 (some 2) (some 2)) hd3 hT3
    have eq3 : upd (upd (upd K2 d3 (.dK [])) d3 (.dK [(Sum.inr "a", V.int 1), (Sum.inr "b", V.int 9)])) T3 (.tup [.ref d3, .int 2, .int 2]) = upd (upd (upd K2 d3 (.dK [])) d3 (.dK (hrK (rw2 1 9 (some 2) (some 2)).1))) T3 (.tup [.ref d3, optV (rw2 1 9 (some 2) (some 2)).2.1, optV (rw2 1 9 (some 2) (some 2)).2.2]) := rfl
    rw [eq3]
    generalize upd (upd (upd K2 d3 (.dK [])) d3 (.dK (hrK (rw2 1 9 (some 2) (some 2)).1))) T3 (.tup [.ref d3, optV (rw2 1 9 (some 2) (some 2)).2.1, optV (rw2 1 9 (some 2) (some 2)).2.2]) = K3 at *
    walk_at "V"
    refine ⟨by walk_at "S", fun SP hSP => ?_⟩
    have gSP := Grow.new (T := m.T) (o := .lst [.ref T1, .ref T2, .ref T3]) hSP
    have eSP : (upd K3 SP (.lst [.ref T1, .ref T2, .ref T3])) SP = some (.lst [.ref T1, .ref T2, .ref T3]) := upd_same
    have rSP : RowsA Any (upd K3 SP (.lst [.ref T1, .ref T2, .ref T3])) [.ref T1, .ref T2, .ref T3] spots := .cons (ra1.grow ((gr2.trans gr3).trans gSP) (fun _ _ z => z)) (.cons (ra2.grow (gr3.trans gSP) (fun _ _ z => z)) (.cons (ra3.grow gSP (fun _ _ z => z)) .nil))
    generalize upd K3 SP (.lst [.ref T1, .ref T2, .ref T3]) = K4 at *
    clear eq1 eq2 eq3 ra1 ra2 ra3 gr1 gr2 gr3 hT1 hT2 hT3 hd1 hd2 hd3 gSP hSP
    walk_at "B"
    refine s_lcT hA n8 (by decide +kernel) (i := 3) ⟨rfl, rfl⟩ ?_
    walk_at "V"
    refine ⟨by walk_at "S", fun TT hTT => ?_⟩
    have gTT := Grow.new (T := m.T) (o := .tup [.int 0, .int 3, .non]) hTT
    have eTT : (upd K4 TT (.tup [.int 0, .int 3, .non])) TT = some (.tup [.int 0, .int 3, .non]) := upd_same
    have eSP5 := gTT.extN _ _ eSP (fun _ z => by cases z)
    have rSP5 := RowsA.grow rSP gTT (fun _ _ z => z)
    generalize upd K4 TT (.tup [.int 0, .int 3, .non]) = K5 at *
    refine ⟨TT, _, rfl, SqT.of eTT, fun D hD => ⟨fun j H' => Grow m.T K5 H' ∧ ∃ xs, H' D = some (.lst xs) ∧ Paired (fun x mo => ClashV (clP ["a", "b"] mo spots) x H') xs (([some 0, some 3, none] : List (Option Int)).take j), ⟨Grow.new hD, [], upd_same, .nil⟩, fun j H' _ hp => GrowX.seqT hp.1 (SqT.of eTT), ?_, ?_⟩⟩
    · rintro j x H' hx ⟨g, xs, hv, px⟩ X' hX'
      have c11 := nc_of hX' 11 "_law_spots"
      have c3 := nl_of hX' 3 "_law_most"
      obtain ⟨mo, emo, rfl, mok⟩ : ∃ mo, ([some 0, some 3, none] : List (Option Int))[j]? = some mo ∧ x = optV mo ∧ mostOk mo := by
        match j, hx with
        | 0, h => cases h; exact ⟨some 0, rfl, rfl, fun i e => by cases e; decide⟩
        | 1, h => cases h; exact ⟨some 3, rfl, rfl, fun i e => by cases e; decide⟩
        | 2, h => cases h; exact ⟨none, rfl, rfl, fun i e => by cases e⟩
        | j + 3, h => simp at h
      have hj3 : j < 3 := (List.getElem?_eq_some_iff.1 emo).1
      refine w_call hX' Cl (by omega) rfl ?_
      walk_at "V"
      refine w_sights hX' Mk (by omega) rfl ?_
      walk_at "V"
      refine ⟨by walk_at "S", fun NN hNN => ?_⟩
      have gN := Grow.new (T := m.T) (o := .lst [.str "a", .str "b"]) hNN
      have gKN : Grow m.T K5 (upd H' NN (.lst [.str "a", .str "b"])) := g.trans gN
      have eNN : (upd H' NN (.lst [.str "a", .str "b"])) NN = some (.lst [.str "a", .str "b"]) := upd_same
      have hvN := gN.extN _ _ hv (fun _ z => by cases z)
      have pxN : Paired (fun x mo => ClashV (clP ["a", "b"] mo spots) x (upd H' NN (.lst [.str "a", .str "b"]))) xs (([some 0, some 3, none] : List (Option Int)).take j) := Paired.imp2 px fun _ _ z => z.grow gN
      generalize upd H' NN (.lst [.str "a", .str "b"]) = HN at *
      walk_at "V"
      have eSPN := gKN.extN _ _ eSP5 (fun _ z => by cases z)
      refine ⟨NN, SP, ["a", "b"], mo, _, spots, rfl, SqL.of eNN, by rw [eNN]; simp, SqL.of eSPN, by rw [eSPN]; simp, RowsA.grow rSP5 gKN (fun _ _ z => z), ⟨namesAB, mok, spots_ok, by simp [spots]⟩, fun i HO gO ni st => ?_⟩
      walk_at "V"
      refine ⟨i, ["a", "b"], mo, spots, rfl, st.mono fun _ _ => trivial, ⟨namesAB, mok, spots_ok, by simp [spots]⟩, by simp [spots], clashQ_of fun y HP gP cv => ?_⟩
      have hvP := gP.extN _ _ (gO.extN _ _ hvN (fun _ z => by cases z)) (fun _ z => by cases z)
      have lx := paired_len px
      rw [List.length_take] at lx
      have gX := GrowX.lst (T := m.T) (ys := xs ++ [y]) hvP
      refine ⟨_, hvP, by rw [sizeLine_eq]; omega, Grow.intoNew ((gKN.trans gO).trans gP) gX (fun _ w => by rw [w]; exact hD), xs ++ [y], upd_same, ?_⟩
      rw [List.take_succ, emo]
      exact Paired.snoc (Paired.imp2 pxN fun _ _ z => ((z.grow gO).grow gP).grow gX) (cv.grow gX)
    rintro K6 ⟨g56, xs, hD6, px6⟩
    have eSP6 := g56.extN _ _ eSP5 (fun _ z => by cases z)
    have rSP6 := RowsA.grow rSP5 g56 (fun _ _ z => z)
    have px : Paired (fun x mo => ClashV (clP ["a", "b"] mo spots) x K6) xs [some 0, some 3, none] := px6
    clear px6
    obtain ⟨x0, x1, x2, rfl, c0, c1, c2⟩ := paired3 px
    obtain ⟨b0, rfl, hb0⟩ := c0.at_ spot0
    obtain ⟨b1, rfl, hb1⟩ := c1.at_ spot1
    obtain ⟨b2, rfl, hb2⟩ := c2.at_ spot2
    walk_at "B"
    walk_at "V"
    refine g_ixL hA (SqL.of hD6) (atI_at (j := 0) rfl) ?_
    walk_at "V"
    refine iteF ?_
    walk_at "V"
    refine g_ixL hA (SqL.of hD6) (atI_at (j := 1) rfl) ?_
    walk_at "V"
    refine ⟨by walk_at "S", fun A1 hA1 => ?_⟩
    have gA1 := Grow.new (T := m.T) (o := .tup [.int 2, .int 0]) hA1
    walk_at "V"
    refine ⟨by walk_at "S", fun B1 hB1 => ?_⟩
    have gB1 := Grow.new (T := m.T) (o := .tup [.int 2, .int 1]) hB1
    walk_at "V"
    refine ⟨by walk_at "S", fun C1 hC1 => ?_⟩
    have gC1 := Grow.new (T := m.T) (o := .tup [.ref A1, .ref B1]) hC1
    have g1 : Grow m.T K6 (upd (upd (upd K6 A1 (.tup [.int 2, .int 0])) B1 (.tup [.int 2, .int 1])) C1 (.tup [.ref A1, .ref B1])) := (gA1.trans gB1).trans gC1
    have dA1 := gC1.tup _ _ (gB1.tup _ _ (upd_same (H := K6) (a := A1) (o := .tup [.int 2, .int 0])))
    have dB1 := gC1.tup _ _ (upd_same (H := upd K6 A1 (.tup [.int 2, .int 0])) (a := B1) (o := .tup [.int 2, .int 1]))
    have dC1 : (upd (upd (upd K6 A1 (.tup [.int 2, .int 0])) B1 (.tup [.int 2, .int 1])) C1 (.tup [.ref A1, .ref B1])) C1 = some (.tup [.ref A1, .ref B1]) := upd_same
    generalize upd (upd (upd K6 A1 (.tup [.int 2, .int 0])) B1 (.tup [.int 2, .int 1])) C1 (.tup [.ref A1, .ref B1]) = W1 at *
    have ct1 := g1.tup _ _ hb1
    refine g_notInTD hA (d := .tuple [.int 2, .int 0]) (ds := [.tuple [.int 2, .int 0], .tuple [.int 2, .int 1]]) (.tup (SqT.of ct1) (.cons (.int _) (.cons (.int _) .nil))) (.tup (SqT.of dC1) (.cons (.tup (SqT.of dA1) (.cons (.int _) (.cons (.int _) .nil))) (.cons (.tup (SqT.of dB1) (.cons (.int _) (.cons (.int _) .nil))) .nil))) (by decide +kernel) (by decide +kernel) ?_
    refine ⟨_, rfl, iteF ?_⟩
    have hD7 := g1.extN _ _ hD6 (fun _ z => by cases z)
    have hb27 := g1.tup _ _ hb2
    walk_at "V"
    refine g_ixL hA (SqL.of hD7) (atI_at (j := 2) rfl) ?_
    walk_at "V"
    refine ⟨by walk_at "S", fun A2 hA2 => ?_⟩
    have gA2 := Grow.new (T := m.T) (o := .tup [.int 2, .int 0]) hA2
    walk_at "V"
    refine ⟨by walk_at "S", fun B2 hB2 => ?_⟩
    have gB2 := Grow.new (T := m.T) (o := .tup [.int 2, .int 1]) hB2
    walk_at "V"
    refine ⟨by walk_at "S", fun C2 hC2 => ?_⟩
    have gC2 := Grow.new (T := m.T) (o := .tup [.ref A2, .ref B2]) hC2
    have g2 : Grow m.T W1 (upd (upd (upd W1 A2 (.tup [.int 2, .int 0])) B2 (.tup [.int 2, .int 1])) C2 (.tup [.ref A2, .ref B2])) := (gA2.trans gB2).trans gC2
    have dA2 := gC2.tup _ _ (gB2.tup _ _ (upd_same (H := W1) (a := A2) (o := .tup [.int 2, .int 0])))
    have dB2 := gC2.tup _ _ (upd_same (H := upd W1 A2 (.tup [.int 2, .int 0])) (a := B2) (o := .tup [.int 2, .int 1]))
    have dC2 : (upd (upd (upd W1 A2 (.tup [.int 2, .int 0])) B2 (.tup [.int 2, .int 1])) C2 (.tup [.ref A2, .ref B2])) C2 = some (.tup [.ref A2, .ref B2]) := upd_same
    generalize upd (upd (upd W1 A2 (.tup [.int 2, .int 0])) B2 (.tup [.int 2, .int 1])) C2 (.tup [.ref A2, .ref B2]) = W2 at *
    have ct2 := g2.tup _ _ hb27
    refine g_notInTD hA (d := .tuple [.int 2, .int 0]) (ds := [.tuple [.int 2, .int 0], .tuple [.int 2, .int 1]]) (.tup (SqT.of ct2) (.cons (.int _) (.cons (.int _) .nil))) (.tup (SqT.of dC2) (.cons (.tup (SqT.of dA2) (.cons (.int _) (.cons (.int _) .nil))) (.cons (.tup (SqT.of dB2) (.cons (.int _) (.cons (.int _) .nil))) .nil))) (by decide +kernel) (by decide +kernel) ?_
    refine ⟨_, rfl, iteF (b_nil ?_)⟩
    have eSPW := g2.extN _ _ (g1.extN _ _ eSP6 (fun _ z => by cases z)) (fun _ z => by cases z)
    have rSPW := RowsA.grow (RowsA.grow rSP6 g1 (fun _ _ z => z)) g2 (fun _ _ z => z)
    clear hb0 hb1 hb2 hb27 c0 c1 c2 dA1 dB1 dC1 dA2 dB2 dC2 ct1 ct2 hD6 hD7 gA1 gB1 gC1 gA2 gB2 gC2 hA1 hB1 hC1 hA2 hB2 hC2 g1 g2 rSP6 eSP6
    walk_at "B"
    refine s_lcR hA hr rfl n9 (by decide +kernel) (i := 13) ⟨rfl, rfl⟩ ?_
    walk_at "V"
    refine ⟨by omega, by omega, fun D2 hD2 => ⟨fun j H' => Grow m.T W2 H' ∧ ∃ vs, H' D2 = some (.lst vs) ∧ RowsA Any H' vs ((List.range j).map crowd), ⟨Grow.new hD2, [], upd_same, .nil⟩, ?_, ?_⟩⟩
    · rintro j H' hj ⟨g, vs, hv, rv⟩ X' hX'
      have hj : j < 12 := hj
      have c13 := nl_of hX' 13 "_law_at"
      refine w_tup (w_cons (w_disp1 fun d hd => ?_))
      walk_at "V"
      refine ⟨upd_same, "a", rfl, ?_⟩
      walk_at "V"
      refine g_modI (by omega) ?_
      walk_at "V"
      refine ⟨by walk_at "S", fun T hT => ?_⟩
      obtain ⟨gr, ra⟩ := row_new1 (T0 := m.T) (x := 0) (lo := some ((j : Int) % 3)) (hi := some 3) hd hT
      have hv3 := gr.ext _ _ (fun z => z) hv (fun _ z => by cases z)
      have rv3 := RowsA.grow rv gr (fun _ _ z => z)
      have eq : upd (upd (upd H' d (.dK [])) d (.dK [(Sum.inr "a", V.int 0)])) T (.tup [.ref d, .int ((j : Int) % 3), .int 3]) = upd (upd (upd H' d (.dK [])) d (.dK [(Sum.inr "a", V.int 0)])) T (.tup [.ref d, optV (some ((j : Int) % 3)), optV (some 3)]) := rfl
      rw [eq]
      generalize upd (upd (upd H' d (.dK [])) d (.dK [(Sum.inr "a", V.int 0)])) T (.tup [.ref d, optV (some ((j : Int) % 3)), optV (some 3)]) = H3 at *
      have gX := GrowX.lst (T := m.T) (ys := vs ++ [V.ref T]) hv3
      have lv := paired_len rv
      rw [List.length_map, List.length_range] at lv
      refine ⟨_, hv3, by rw [sizeLine_eq]; omega, Grow.intoNew (g.trans gr) gX (fun _ w => by rw [w]; exact hD2), vs ++ [.ref T], upd_same, ?_⟩
      rw [List.range_succ, List.map_append]
      exact RowsA.lst (Paired.snoc rv3 ra) hv3
    rintro W3 ⟨gW3, vs, hD3, rv⟩
    have rv : RowsA Any W3 vs ((List.range 12).map crowd) := rv
    have eSP3 := gW3.extN _ _ eSPW (fun _ z => by cases z)
    have rSP3 := RowsA.grow rSPW gW3 (fun _ _ z => z)
    walk_at "B"
    walk_at "V"
    refine w_sights hA Mk (by omega) rfl ?_
    walk_at "V"
    refine ⟨by walk_at "S", fun N1 hN1 => ?_⟩
    have gN1 := Grow.new (T := m.T) (o := .lst [.str "a"]) hN1
    have eN1 : (upd W3 N1 (.lst [.str "a"])) N1 = some (.lst [.str "a"]) := upd_same
    have hD4 := gN1.extN _ _ hD3 (fun _ z => by cases z)
    have rv4 := RowsA.grow rv gN1 (fun _ _ z => z)
    have gW4 : Grow m.T W3 (upd W3 N1 (.lst [.str "a"])) := gN1
    generalize upd W3 N1 (.lst [.str "a"]) = W4 at *
    walk_at "V"
    have mo5 : mostOk (some 5) := fun i e => by cases e; decide
    refine ⟨N1, D2, ["a"], some 5, vs, _, rfl, SqL.of eN1, by rw [eN1]; simp, SqL.of hD4, by rw [hD4]; simp, rv4, ⟨namesA, mo5, crowd_ok, by simp⟩, fun i1 W5 gW5 ni1 st1 => ?_⟩
    walk_at "V"
    refine w_sights hA Mk (by omega) rfl ?_
    walk_at "V"
    refine ⟨by walk_at "S", fun N2 hN2 => ?_⟩
    have gN2 := Grow.new (T := m.T) (o := .lst (nine.map V.str)) hN2
    have eN2 : (upd W5 N2 (.lst (nine.map V.str))) N2 = some (.lst (nine.map V.str)) := upd_same
    have eq9 : upd W5 N2 (.lst [.str "a", .str "b", .str "c", .str "d", .str "e", .str "f", .str "g", .str "h", .str "i"]) = upd W5 N2 (.lst (nine.map V.str)) := rfl
    rw [eq9]
    generalize upd W5 N2 (.lst (nine.map V.str)) = W6 at *
    walk_at "V"
    refine ⟨by walk_at "S", fun N3 hN3 => ?_⟩
    have gN3 := Grow.new (T := m.T) (o := .lst []) hN3
    have eN3 : (upd W6 N3 (.lst [])) N3 = some (.lst []) := upd_same
    have eN27 := gN3.extN _ _ eN2 (fun _ z => by cases z)
    generalize upd W6 N3 (.lst []) = W7 at *
    walk_at "V"
    refine ⟨N2, N3, nine, some 5, [], [], rfl, SqL.of eN27, by rw [eN27]; simp, SqL.of eN3, by rw [eN3]; simp, .nil, ⟨namesN, mo5, (fun _ h => by cases h), by simp⟩, fun i2 W8 gW8 ni2 st2 => ?_⟩
    walk_at "V"
    refine ⟨by walk_at "S", fun O hO => ?_⟩
    have gO := Grow.new (T := m.T) (o := .lst [.ref i1, .ref i2]) hO
    have eO : (upd W8 O (.lst [.ref i1, .ref i2])) O = some (.lst [.ref i1, .ref i2]) := upd_same
    have g59 : Grow m.T W5 (upd W8 O (.lst [.ref i1, .ref i2])) := ((gN2.trans gN3).trans gW8).trans gO
    have g39 : Grow m.T W3 (upd W8 O (.lst [.ref i1, .ref i2])) := (gW4.trans gW5).trans g59
    obtain ⟨dx1, _, _, _, hi1, -⟩ := id st1
    obtain ⟨dx2, _, _, _, hi2, -⟩ := id st2
    have hi19 := g59.extN _ _ hi1 (fun _ z => by cases z)
    have hi29 := gO.extN _ _ hi2 (fun _ z => by cases z)
    have eSP9 := g39.extN _ _ eSP3 (fun _ z => by cases z)
    have rSP9 := RowsA.grow rSP3 g39 (fun _ _ z => z)
    generalize upd W8 O (.lst [.ref i1, .ref i2]) = W9 at *
    walk_at "B"
    walk_at "V"
    refine w_lcLi hA (by decide +kernel) (i := 14) ⟨rfl, rfl⟩ ?_
    walk_at "V"
    refine ⟨O, _, rfl, SqL.of eO, fun D5 hD5 => ⟨fun j H' => Grow m.T W9 H' ∧ H' D5 = some (.lst []), ⟨Grow.new hD5, upd_same⟩, fun j H' _ hp => SqL.of (hp.1.extN _ _ eO (fun _ z => by cases z)), ?_, ?_⟩⟩
    · rintro j x H' hx ⟨g, hv⟩ X' hX'
      have c14 := nl_of hX' 14 "_law_one"
      obtain ⟨i, dx, fs, rfl, hi9⟩ : ∃ (i dx : Addr) (fs : List (Str × V)), x = .ref i ∧ W9 i = some (.ins C dx fs) := by
        match j, hx with
        | 0, h => cases h; exact ⟨i1, dx1, _, rfl, hi19⟩
        | 1, h => cases h; exact ⟨i2, dx2, _, rfl, hi29⟩
        | j + 2, h => simp at h
      walk_at "V"
      refine g_blt hX' hi rfl bt_isinstance ?_
      walk_at "V"
      refine w_glb (v := .ref C) hX' R.gS rfl rfl ?_
      walk_at "V"
      refine g_isi hX' (.own C) (ty H' i dx _ (g.extN _ _ hi9 (fun _ z => by cases z))) own ?_
      refine g_truB ?_
      exact iteF ⟨g, hv⟩
    rintro WA ⟨gWA, hv5⟩
    walk_at "V"
    refine ⟨by walk_at "S", fun p5 hp5 => ?_⟩
    have gp5 := Grow.new (T := m.T) (o := .lst []) hp5
    refine g_neNil hA (SqL.of (gp5.extN _ _ hv5 (fun _ z => by cases z))) (SqL.of upd_same) ?_
    refine ⟨_, rfl, iteF (b_nil ?_)⟩
    have gWB : Grow m.T W9 (upd WA p5 (.lst [])) := gWA.trans gp5
    have eSPB := gWB.extN _ _ eSP9 (fun _ z => by cases z)
    have rSPB := RowsA.grow rSP9 gWB (fun _ _ z => z)
    generalize upd WA p5 (.lst []) = WB at *
    walk_at "B"
    walk_at "V"
    refine w_call hA Fi (by omega) rfl ?_
    walk_at "V"
    refine w_sights hA Mk (by omega) rfl ?_
    walk_at "V"
    refine ⟨by walk_at "S", fun N4 hN4 => ?_⟩
    have gN4 := Grow.new (T := m.T) (o := .lst [.str "a", .str "b"]) hN4
    have eN4 : (upd WB N4 (.lst [.str "a", .str "b"])) N4 = some (.lst [.str "a", .str "b"]) := upd_same
    have eSPC := gN4.extN _ _ eSPB (fun _ z => by cases z)
    have rSPC := RowsA.grow rSPB gN4 (fun _ _ z => z)
    generalize upd WB N4 (.lst [.str "a", .str "b"]) = WC at *
    walk_at "V"
    refine w_sliceTo hA ?_
    walk_at "V"
    refine ⟨SP, _, rfl, SqL.of eSPC, fun N5 hN5 => ?_⟩
    have ec5 : cutV [V.ref T1, V.ref T2, V.ref T3] none (some 2) = [.ref T1, .ref T2] := cutV_to (xs := [V.ref T1, V.ref T2, V.ref T3]) (n := 2) (by simp)
    rw [ec5]
    have gN5 := Grow.new (T := m.T) (o := .lst [.ref T1, .ref T2]) hN5
    have eN5 : (upd WC N5 (.lst [.ref T1, .ref T2])) N5 = some (.lst [.ref T1, .ref T2]) := upd_same
    have eN45 := gN5.extN _ _ eN4 (fun _ z => by cases z)
    have r2 : RowsA Any (upd WC N5 (.lst [.ref T1, .ref T2])) [.ref T1, .ref T2] (spots.take 2) := Paired.take2 2 (RowsA.grow rSPC gN5 (fun _ _ z => z))
    generalize upd WC N5 (.lst [.ref T1, .ref T2]) = WD at *
    walk_at "V"
    have mo3 : mostOk (some 3) := fun i e => by cases e; decide
    have ok2 : SgOk ["a", "b"] (some 3) (spots.take 2) := ⟨namesAB, mo3, fun r hr => spots_ok r (List.mem_of_mem_take hr), by simp [spots]⟩
    refine ⟨N4, N5, ["a", "b"], some 3, _, _, rfl, SqL.of eN45, by rw [eN45]; simp, SqL.of eN5, by rw [eN5]; simp, r2, ok2, fun i6 WE gWE ni6 st6 => ?_⟩
    walk_at "V"
    refine ⟨i6, ["a", "b"], some 3, spots.take 2, rfl, st6.mono fun _ _ => trivial, ok2, by simp [spots], fun WF gWF => ?_⟩
    rw [spot3]
    refine ⟨_, rfl, iteT ?_⟩
    walk_at "V"
    refine w_call hA Cl (by omega) rfl ?_
    walk_at "V"
    refine w_sights hA Mk (by omega) rfl ?_
    walk_at "V"
    refine ⟨by walk_at "S", fun N6 hN6 => ?_⟩
    have gN6 := Grow.new (T := m.T) (o := .lst [.str "a"]) hN6
    have eN6 : (upd WF N6 (.lst [.str "a"])) N6 = some (.lst [.str "a"]) := upd_same
    generalize upd WF N6 (.lst [.str "a"]) = WG at *
    walk_at "V"
    refine w_disp1 fun d6 hd6 => ?_
    walk_at "V"
    refine ⟨upd_same, "a", rfl, ?_⟩
    walk_at "V"
    refine ⟨by walk_at "S", fun T6 hT6 => ?_⟩
    obtain ⟨gr6, ra6⟩ := row_new1 (T0 := m.T) (x := 0) (lo := some 6) (hi := none) hd6 hT6
    have eq6 : upd (upd (upd WG d6 (.dK [])) d6 (.dK [(Sum.inr "a", V.int 0)])) T6 (.tup [.ref d6, .int 6, .non]) = upd (upd (upd WG d6 (.dK [])) d6 (.dK [(Sum.inr "a", V.int 0)])) T6 (.tup [.ref d6, optV (some 6), optV none]) := rfl
    rw [eq6]
    have eN67 := gr6.ext _ _ (fun z => z) eN6 (fun _ z => by cases z)
    generalize upd (upd (upd WG d6 (.dK [])) d6 (.dK [(Sum.inr "a", V.int 0)])) T6 (.tup [.ref d6, optV (some 6), optV none]) = WH at *
    walk_at "V"
    refine ⟨by walk_at "S", fun N7 hN7 => ?_⟩
    have gN7 := Grow.new (T := m.T) (o := .lst [.ref T6]) hN7
    have eN7 : (upd WH N7 (.lst [.ref T6])) N7 = some (.lst [.ref T6]) := upd_same
    have eN68 := gN7.extN _ _ eN67 (fun _ z => by cases z)
    have ra7 := ra6.grow gN7 (fun _ _ z => z)
    generalize upd WH N7 (.lst [.ref T6]) = WI at *
    walk_at "V"
    have ok6 : SgOk ["a"] (some 5) [rw1 0 (some 6) none] := ⟨namesA, mo5, (fun r hr => by rw [List.mem_singleton.1 hr]; exact rw1_ok (fun a b _ e2 => by cases e2)), by simp⟩
    refine ⟨N6, N7, ["a"], some 5, _, [rw1 0 (some 6) none], rfl, SqL.of eN68, by rw [eN68]; simp, SqL.of eN7, by rw [eN7]; simp, .cons ra7 .nil, ok6, fun i7 WJ gWJ ni7 st7 => ?_⟩
    walk_at "V"
    refine ⟨i7, ["a"], some 5, _, rfl, st7.mono fun _ _ => trivial, ok6, by simp, clashQ_of fun y WK gWK cv => ?_⟩
    obtain ⟨b7, rfl, hb7⟩ := cv.at_ spot4
    walk_at "V"
    refine ⟨by walk_at "S", fun T8 hT8 => ?_⟩
    have gT8 := Grow.new (T := m.T) (o := .tup [.int 0, .int 0]) hT8
    refine g_eqD hA (d := .tuple [.int 0, .int 0]) (e := .tuple [.int 0, .int 0]) (.tup (SqT.of (gT8.tup _ _ hb7)) (.cons (.int _) (.cons (.int _) .nil))) (.tup (SqT.of upd_same) (.cons (.int _) (.cons (.int _) .nil))) (by decide +kernel) (by decide +kernel) ?_
    exact k _
/-! ### the head's facts -/
/-- a def of the top, as it stands in the written part -/
def DefF (K : PySem.W.Frag) (x : Str) (st : Stmt) : Prop := ∃ (f : Addr) (fd : FuncData), PySem.W.nsIn K mainGlobals x = some (some (.ref f)) ∧ C8.Fun K x x st f fd ∧ PySem.W.keepIn K (.ref f) = true ∧ fd.defaults = .none
theorem mk_def {K : PySem.W.Frag} {x : Str} {st : Stmt} {f : Addr} {od an : Option Addr} {oc kV doc pm cdv ct : Value} {osl : Array (Option Value)} (a : PySem.W.nsIn K mainGlobals x = some (some (.ref f)))
    (l : K.lookup f = some ⟨oc, od, .func (PySem.W.fnOf x x (C8.fnArgs st) (C8.fnBody st) (C8.fnScope st) .none kV doc pm an cdv ct), osl⟩) (c : PySem.W.codeIn K cdv x = true) (k : PySem.W.keepIn K (.ref f) = true) : DefF K x st :=
  ⟨f, _, a, ⟨⟨oc, od, .none, kV, doc, pm, an, cdv, ct, osl, rfl, l, c⟩⟩, k, rfl⟩
theorem DefF.def_ {K : PySem.W.Frag} {h : Heap} {mg : Str → Option Value} {x : Str} {st : Stmt} (D : DefF K x st) (X : K.In h) (G : h.Ns mainGlobals mg) : ∃ f fd, C8.Def K mg x st f fd ∧ fd.defaults = .none := by
  obtain ⟨f, fd, a, F, k, d⟩ := D
  exact ⟨f, fd, ⟨F, PySem.W.mg_of X G a, k⟩, d⟩
/-- a method -/
def MetF (K : PySem.W.Frag) (C : Addr) (x qual : Str) (st : Stmt) : Prop := ∃ (f : Addr) (fd : FuncData), C8.Fun K x qual st f fd ∧ Meth K C x f ∧ fd.defaults = .none
theorem mk_met {K : PySem.W.Frag} {C : Addr} {x qual : Str} {st : Stmt} {f : Addr} {od an : Option Addr} {oc kV doc pm cdv ct : Value} {osl : Array (Option Value)} (a : PySem.W.findIn K (.ref C) x = some (some (.ref f))) (i : PySem.W.isFn K (.ref f) = true)
    (l : K.lookup f = some ⟨oc, od, .func (PySem.W.fnOf x qual (C8.fnArgs st) (C8.fnBody st) (C8.fnScope st) .none kV doc pm an cdv ct), osl⟩) (c : PySem.W.codeIn K cdv qual = true) (k : PySem.W.keepIn K (.ref f) = true) : MetF K C x qual st :=
  ⟨f, _, ⟨⟨oc, od, .none, kV, doc, pm, an, cdv, ct, osl, rfl, l, c⟩⟩, ⟨a, i, k⟩, rfl⟩
/-- the class of sights -/
structure SgF (K : PySem.W.Frag) (C : Addr) : Prop where
  gR : PySem.W.nsIn K mainGlobals "Sights" = some (some (.ref C))
  pg : PySem.W.plainGet K C Str.empty = true
  hd : PySem.W.hasDictIn K C = true
  po : PySem.W.plainOver K C = true
  sa : PySem.W.findIn K (.ref C) "__setattr__" = some (some (.builtin "object.__setattr__"))
  na : PySem.W.findIn K (.ref C) "_names" = some none
  nb : PySem.W.findIn K (.ref C) "_most" = some none
  nc : PySem.W.findIn K (.ref C) "_rows" = some none
  ha : PySem.W.findIn K (.ref C) "__class__" = some (some (.builtin "object.__class__"))
  hn : PySem.W.specialIn K (.builtin "object.__class__") "__get__" = some (some (.builtin "getset_descriptor.__get__"))
  ht : PySem.W.takesIn K (.builtin "object.__class__") = some true
  hm : PySem.W.mroIn K C (.type "object") = some true
  own : PySem.W.kitOne K (.ref C) (.ref C) = some true
  nfS : PySem.W.notFirst K C (.ref C) = true
  ne : PySem.W.findIn K (.ref C) "__ne__" = some (some (.builtin "object.__ne__"))
  mks : PySem.W.makesIn K C = true
  kc : PySem.W.keepIn K (.ref C) = true
theorem mk_long {K : PySem.W.Frag} {t : Tok} (h : PySem.W.nsIn K mainGlobals "LONGEST_NAME" = some (some (Value.int 8 t))) : ∃ t, PySem.W.nsIn K mainGlobals "LONGEST_NAME" = some (some (Value.int 8 t)) := ⟨t, h⟩
section
variable {P : Program} {w : World} {K : PySem.W.Frag} {mg : Str → Option Value} {h : Heap} {fa C : Addr}
theorem all_mk (X : K.In h) (G : h.Ns mainGlobals mg) (hfa : mg "law" = some (.ref fa))
    (dL : DefF K "law" st_law) (R0 : SgF K C) (hM : ∃ t, PySem.W.nsIn K mainGlobals "LONGEST_NAME" = some (some (Value.int 8 t)))
    (m_init : MetF K C "__init__" "Sights.__init__" st_Sights_init) (m_names : MetF K C "names" "Sights.names" st_Sights_names) (m_most : MetF K C "most" "Sights.most" st_Sights_most) (m_rows : MetF K C "rows" "Sights.rows" st_Sights_rows) (m_with_row : MetF K C "with_row" "Sights.with_row" st_Sights_with_row) (m_without : MetF K C "without" "Sights.without" st_Sights_without) (m_eq : MetF K C "__eq__" "Sights.__eq__" st_Sights_eq)
    (d_is_whole : DefF K "is_whole" st_is_whole) (d_is_count : DefF K "is_count" st_is_count) (d_is_name : DefF K "is_name" st_is_name) (d_is_hours : DefF K "is_hours" st_is_hours) (d_is_just_hours : DefF K "is_just_hours" st_is_just_hours) (d_is_span : DefF K "is_span" st_is_span) (d_need_count_from : DefF K "need_count_from" st_need_count_from) (d_need_count_within : DefF K "need_count_within" st_need_count_within) (d_standing_names : DefF K "standing_names" st_standing_names) (d_x_stands : DefF K "_stands" st_x_stands) (d_x_longest_wait : DefF K "_longest_wait" st_x_longest_wait) (d_x_shortest_wait : DefF K "_shortest_wait" st_x_shortest_wait) (d_clashes : DefF K "clashes" st_clashes) (d_x_is_ascending : DefF K "_is_ascending" st_x_is_ascending) (d_x_need_most : DefF K "_need_most" st_x_need_most) (d_x_is_seen_row : DefF K "_is_seen_row" st_x_is_seen_row) (d_need_sights : DefF K "need_sights" st_need_sights) (d_fits : DefF K "fits" st_fits) (d_clash : DefF K "clash" st_clash) (d_check_clash : DefF K "check_clash" st_check_clash) (d_purse : DefF K "_law_purse" st_purse) (d_mixed : DefF K "_law_mixed" st_mixed) (d_draw : DefF K "_law_draw" st_draw) (d_purses : DefF K "_law_purses" st_purses) (d_one_of : DefF K "_law_one_of" st_one_of) (d_shuffled : DefF K "_law_shuffled" st_shuffled) (d_word : DefF K "_law_word" st_word) (d_names : DefF K "_law_names" st_names) (d_within : DefF K "_law_within" st_within) (d_row_hour : DefF K "_law_row_hour" st_row_hour) (d_spot : DefF K "_law_spot" st_spot) (d_hidden : DefF K "_law_hidden" st_hidden) (d_first_told : DefF K "_law_first_told" st_first_told) (d_sight : DefF K "_law_sight" st_sight) (d_seen : DefF K "_law_seen" st_seen) (d_copied : DefF K "_law_copied" st_copied) (d_bounds : DefF K "_law_bounds" st_bounds) (d_standing : DefF K "_law_standing" st_standing) (d_pairs : DefF K "_law_pairs" st_pairs) (d_every : DefF K "_law_every" st_every) (d_suits : DefF K "_law_suits" st_suits) (d_grown_right : DefF K "_law_grown_right" st_grown_right) (d_judged_right : DefF K "_law_judged_right" st_judged_right)
    (z_isinstance : PySem.W.nsIn K mainGlobals "isinstance" = some none) (z_int : PySem.W.nsIn K mainGlobals "int" = some none) (z_bool : PySem.W.nsIn K mainGlobals "bool" = some none) (z_str : PySem.W.nsIn K mainGlobals "str" = some none) (z_len : PySem.W.nsIn K mainGlobals "len" = some none) (z_all : PySem.W.nsIn K mainGlobals "all" = some none) (z_list : PySem.W.nsIn K mainGlobals "list" = some none) (z_dict : PySem.W.nsIn K mainGlobals "dict" = some none) (z_tuple : PySem.W.nsIn K mainGlobals "tuple" = some none) (z_min : PySem.W.nsIn K mainGlobals "min" = some none) (z_max : PySem.W.nsIn K mainGlobals "max" = some none) (z_sum : PySem.W.nsIn K mainGlobals "sum" = some none) (z_range : PySem.W.nsIn K mainGlobals "range" = some none) (z_zip : PySem.W.nsIn K mainGlobals "zip" = some none) (z_enumerate : PySem.W.nsIn K mainGlobals "enumerate" = some none) (z_sorted : PySem.W.nsIn K mainGlobals "sorted" = some none)
    : ∃ fd cs T sp, LawG P w K C8.CX0 11 63 "_law_script" mg fa h fd cs T sp := by
  obtain ⟨f_is_whole, fd_is_whole, F_is_whole, e_is_whole⟩ := d_is_whole.def_ X G
  have b_is_whole := F_is_whole.fn.binds e_is_whole (ps := ps_is_whole) fun _ _ _ _ _ _ us hl => match us, hl with | [_], _ => rfl
  obtain ⟨f_is_count, fd_is_count, F_is_count, e_is_count⟩ := d_is_count.def_ X G
  have b_is_count := F_is_count.fn.binds e_is_count (ps := ps_is_count) fun _ _ _ _ _ _ us hl => match us, hl with | [_], _ => rfl
  obtain ⟨f_is_name, fd_is_name, F_is_name, e_is_name⟩ := d_is_name.def_ X G
  have b_is_name := F_is_name.fn.binds e_is_name (ps := ps_is_name) fun _ _ _ _ _ _ us hl => match us, hl with | [_], _ => rfl
  obtain ⟨f_is_hours, fd_is_hours, F_is_hours, e_is_hours⟩ := d_is_hours.def_ X G
  have b_is_hours := F_is_hours.fn.binds e_is_hours (ps := ps_is_hours) fun _ _ _ _ _ _ us hl => match us, hl with | [_, _], _ => rfl
  obtain ⟨f_is_just_hours, fd_is_just_hours, F_is_just_hours, e_is_just_hours⟩ := d_is_just_hours.def_ X G
  have b_is_just_hours := F_is_just_hours.fn.binds e_is_just_hours (ps := ps_is_just_hours) fun _ _ _ _ _ _ us hl => match us, hl with | [_, _], _ => rfl
  obtain ⟨f_is_span, fd_is_span, F_is_span, e_is_span⟩ := d_is_span.def_ X G
  have b_is_span := F_is_span.fn.binds e_is_span (ps := ps_is_span) fun _ _ _ _ _ _ us hl => match us, hl with | [_], _ => rfl
  obtain ⟨f_need_count_from, fd_need_count_from, F_need_count_from, e_need_count_from⟩ := d_need_count_from.def_ X G
  have b_need_count_from := F_need_count_from.fn.binds e_need_count_from (ps := ps_need_count_from) fun _ _ _ _ _ _ us hl => match us, hl with | [_, _], _ => rfl
  obtain ⟨f_need_count_within, fd_need_count_within, F_need_count_within, e_need_count_within⟩ := d_need_count_within.def_ X G
  have b_need_count_within := F_need_count_within.fn.binds e_need_count_within (ps := ps_need_count_within) fun _ _ _ _ _ _ us hl => match us, hl with | [_, _, _], _ => rfl
  obtain ⟨f_standing_names, fd_standing_names, F_standing_names, e_standing_names⟩ := d_standing_names.def_ X G
  have b_standing_names := F_standing_names.fn.binds e_standing_names (ps := ps_standing_names) fun _ _ _ _ _ _ us hl => match us, hl with | [_], _ => rfl
  obtain ⟨f_x_stands, fd_x_stands, F_x_stands, e_x_stands⟩ := d_x_stands.def_ X G
  have b_x_stands := F_x_stands.fn.binds e_x_stands (ps := ps_x_stands) fun _ _ _ _ _ _ us hl => match us, hl with | [_, _, _, _], _ => rfl
  obtain ⟨f_x_longest_wait, fd_x_longest_wait, F_x_longest_wait, e_x_longest_wait⟩ := d_x_longest_wait.def_ X G
  have b_x_longest_wait := F_x_longest_wait.fn.binds e_x_longest_wait (ps := ps_x_longest_wait) fun _ _ _ _ _ _ us hl => match us, hl with | [_, _, _], _ => rfl
  obtain ⟨f_x_shortest_wait, fd_x_shortest_wait, F_x_shortest_wait, e_x_shortest_wait⟩ := d_x_shortest_wait.def_ X G
  have b_x_shortest_wait := F_x_shortest_wait.fn.binds e_x_shortest_wait (ps := ps_x_shortest_wait) fun _ _ _ _ _ _ us hl => match us, hl with | [_, _, _], _ => rfl
  obtain ⟨f_clashes, fd_clashes, F_clashes, e_clashes⟩ := d_clashes.def_ X G
  have b_clashes := F_clashes.fn.binds e_clashes (ps := ps_clashes) fun _ _ _ _ _ _ us hl => match us, hl with | [_], _ => rfl
  obtain ⟨f_x_is_ascending, fd_x_is_ascending, F_x_is_ascending, e_x_is_ascending⟩ := d_x_is_ascending.def_ X G
  have b_x_is_ascending := F_x_is_ascending.fn.binds e_x_is_ascending (ps := ps_x_is_ascending) fun _ _ _ _ _ _ us hl => match us, hl with | [_], _ => rfl
  obtain ⟨f_x_need_most, fd_x_need_most, F_x_need_most, e_x_need_most⟩ := d_x_need_most.def_ X G
  have b_x_need_most := F_x_need_most.fn.binds e_x_need_most (ps := ps_x_need_most) fun _ _ _ _ _ _ us hl => match us, hl with | [_], _ => rfl
  obtain ⟨f_x_is_seen_row, fd_x_is_seen_row, F_x_is_seen_row, e_x_is_seen_row⟩ := d_x_is_seen_row.def_ X G
  have b_x_is_seen_row := F_x_is_seen_row.fn.binds e_x_is_seen_row (ps := ps_x_is_seen_row) fun _ _ _ _ _ _ us hl => match us, hl with | [_, _], _ => rfl
  obtain ⟨f_need_sights, fd_need_sights, F_need_sights, e_need_sights⟩ := d_need_sights.def_ X G
  have b_need_sights := F_need_sights.fn.binds e_need_sights (ps := ps_need_sights) fun _ _ _ _ _ _ us hl => match us, hl with | [_], _ => rfl
  obtain ⟨f_fits, fd_fits, F_fits, e_fits⟩ := d_fits.def_ X G
  have b_fits := F_fits.fn.binds e_fits (ps := ps_fits) fun _ _ _ _ _ _ us hl => match us, hl with | [_], _ => rfl
  obtain ⟨f_clash, fd_clash, F_clash, e_clash⟩ := d_clash.def_ X G
  have b_clash := F_clash.fn.binds e_clash (ps := ps_clash) fun _ _ _ _ _ _ us hl => match us, hl with | [_], _ => rfl
  obtain ⟨f_check_clash, fd_check_clash, F_check_clash, e_check_clash⟩ := d_check_clash.def_ X G
  have b_check_clash := F_check_clash.fn.binds e_check_clash (ps := ps_check_clash) fun _ _ _ _ _ _ us hl => match us, hl with | [_, _], _ => rfl
  obtain ⟨f_purse, fd_purse, F_purse, e_purse⟩ := d_purse.def_ X G
  have b_purse := F_purse.fn.binds e_purse (ps := ps_purse) fun _ _ _ _ _ _ us hl => match us, hl with | [_, _], _ => rfl
  obtain ⟨f_mixed, fd_mixed, F_mixed, e_mixed⟩ := d_mixed.def_ X G
  have b_mixed := F_mixed.fn.binds e_mixed (ps := ps_mixed) fun _ _ _ _ _ _ us hl => match us, hl with | [_, _, _], _ => rfl
  obtain ⟨f_draw, fd_draw, F_draw, e_draw⟩ := d_draw.def_ X G
  have b_draw := F_draw.fn.binds e_draw (ps := ps_draw) fun _ _ _ _ _ _ us hl => match us, hl with | [_, _], _ => rfl
  obtain ⟨f_purses, fd_purses, F_purses, e_purses⟩ := d_purses.def_ X G
  have b_purses := F_purses.fn.binds e_purses (ps := ps_purses) fun _ _ _ _ _ _ us hl => match us, hl with | [_, _], _ => rfl
  obtain ⟨f_one_of, fd_one_of, F_one_of, e_one_of⟩ := d_one_of.def_ X G
  have b_one_of := F_one_of.fn.binds e_one_of (ps := ps_one_of) fun _ _ _ _ _ _ us hl => match us, hl with | [_, _], _ => rfl
  obtain ⟨f_shuffled, fd_shuffled, F_shuffled, e_shuffled⟩ := d_shuffled.def_ X G
  have b_shuffled := F_shuffled.fn.binds e_shuffled (ps := ps_shuffled) fun _ _ _ _ _ _ us hl => match us, hl with | [_, _], _ => rfl
  obtain ⟨f_word, fd_word, F_word, e_word⟩ := d_word.def_ X G
  have b_word := F_word.fn.binds e_word (ps := ps_word) fun _ _ _ _ _ _ us hl => match us, hl with | [_], _ => rfl
  obtain ⟨f_names, fd_names, F_names, e_names⟩ := d_names.def_ X G
  have b_names := F_names.fn.binds e_names (ps := ps_names) fun _ _ _ _ _ _ us hl => match us, hl with | [_, _], _ => rfl
  obtain ⟨f_within, fd_within, F_within, e_within⟩ := d_within.def_ X G
  have b_within := F_within.fn.binds e_within (ps := ps_within) fun _ _ _ _ _ _ us hl => match us, hl with | [_, _], _ => rfl
  obtain ⟨f_row_hour, fd_row_hour, F_row_hour, e_row_hour⟩ := d_row_hour.def_ X G
  have b_row_hour := F_row_hour.fn.binds e_row_hour (ps := ps_row_hour) fun _ _ _ _ _ _ us hl => match us, hl with | [_, _], _ => rfl
  obtain ⟨f_spot, fd_spot, F_spot, e_spot⟩ := d_spot.def_ X G
  have b_spot := F_spot.fn.binds e_spot (ps := ps_spot) fun _ _ _ _ _ _ us hl => match us, hl with | [_], _ => rfl
  obtain ⟨f_hidden, fd_hidden, F_hidden, e_hidden⟩ := d_hidden.def_ X G
  have b_hidden := F_hidden.fn.binds e_hidden (ps := ps_hidden) fun _ _ _ _ _ _ us hl => match us, hl with | [_, _, _], _ => rfl
  obtain ⟨f_first_told, fd_first_told, F_first_told, e_first_told⟩ := d_first_told.def_ X G
  have b_first_told := F_first_told.fn.binds e_first_told (ps := ps_first_told) fun _ _ _ _ _ _ us hl => match us, hl with | [_, _], _ => rfl
  obtain ⟨f_sight, fd_sight, F_sight, e_sight⟩ := d_sight.def_ X G
  have b_sight := F_sight.fn.binds e_sight (ps := ps_sight) fun _ _ _ _ _ _ us hl => match us, hl with | [_, _, _, _], _ => rfl
  obtain ⟨f_seen, fd_seen, F_seen, e_seen⟩ := d_seen.def_ X G
  have b_seen := F_seen.fn.binds e_seen (ps := ps_seen) fun _ _ _ _ _ _ us hl => match us, hl with | [_, _, _, _], _ => rfl
  obtain ⟨f_copied, fd_copied, F_copied, e_copied⟩ := d_copied.def_ X G
  have b_copied := F_copied.fn.binds e_copied (ps := ps_copied) fun _ _ _ _ _ _ us hl => match us, hl with | [_], _ => rfl
  obtain ⟨f_bounds, fd_bounds, F_bounds, e_bounds⟩ := d_bounds.def_ X G
  have b_bounds := F_bounds.fn.binds e_bounds (ps := ps_bounds) fun _ _ _ _ _ _ us hl => match us, hl with | [_, _, _], _ => rfl
  obtain ⟨f_standing, fd_standing, F_standing, e_standing⟩ := d_standing.def_ X G
  have b_standing := F_standing.fn.binds e_standing (ps := ps_standing) fun _ _ _ _ _ _ us hl => match us, hl with | [_, _, _, _], _ => rfl
  obtain ⟨f_pairs, fd_pairs, F_pairs, e_pairs⟩ := d_pairs.def_ X G
  have b_pairs := F_pairs.fn.binds e_pairs (ps := ps_pairs) fun _ _ _ _ _ _ us hl => match us, hl with | [_, _, _], _ => rfl
  obtain ⟨f_every, fd_every, F_every, e_every⟩ := d_every.def_ X G
  have b_every := F_every.fn.binds e_every (ps := ps_every) fun _ _ _ _ _ _ us hl => match us, hl with | [_, _], _ => rfl
  obtain ⟨f_suits, fd_suits, F_suits, e_suits⟩ := d_suits.def_ X G
  have b_suits := F_suits.fn.binds e_suits (ps := ps_suits) fun _ _ _ _ _ _ us hl => match us, hl with | [_, _], _ => rfl
  obtain ⟨f_grown_right, fd_grown_right, F_grown_right, e_grown_right⟩ := d_grown_right.def_ X G
  have b_grown_right := F_grown_right.fn.binds e_grown_right (ps := ps_grown_right) fun _ _ _ _ _ _ us hl => match us, hl with | [_, _, _, _], _ => rfl
  obtain ⟨f_judged_right, fd_judged_right, F_judged_right, e_judged_right⟩ := d_judged_right.def_ X G
  have b_judged_right := F_judged_right.fn.binds e_judged_right (ps := ps_judged_right) fun _ _ _ _ _ _ us hl => match us, hl with | [_, _, _, _], _ => rfl
  obtain ⟨f_law, fd_law, F_law, e_law⟩ := dL.def_ X G
  obtain ⟨f_minit, fd_minit, F_minit, M_minit, e_minit⟩ := m_init
  have b_minit := F_minit.binds e_minit (ps := ps_Sights_init) fun _ _ _ _ _ _ us hl => match us, hl with | [_, _, _, _], _ => rfl
  obtain ⟨f_mnames, fd_mnames, F_mnames, M_mnames, e_mnames⟩ := m_names
  have b_mnames := F_mnames.binds e_mnames (ps := ps_Sights_names) fun _ _ _ _ _ _ us hl => match us, hl with | [_], _ => rfl
  obtain ⟨f_mmost, fd_mmost, F_mmost, M_mmost, e_mmost⟩ := m_most
  have b_mmost := F_mmost.binds e_mmost (ps := ps_Sights_most) fun _ _ _ _ _ _ us hl => match us, hl with | [_], _ => rfl
  obtain ⟨f_mrows, fd_mrows, F_mrows, M_mrows, e_mrows⟩ := m_rows
  have b_mrows := F_mrows.binds e_mrows (ps := ps_Sights_rows) fun _ _ _ _ _ _ us hl => match us, hl with | [_], _ => rfl
  obtain ⟨f_mwith_row, fd_mwith_row, F_mwith_row, M_mwith_row, e_mwith_row⟩ := m_with_row
  have b_mwith_row := F_mwith_row.binds e_mwith_row (ps := ps_Sights_with_row) fun _ _ _ _ _ _ us hl => match us, hl with | [_, _], _ => rfl
  obtain ⟨f_mwithout, fd_mwithout, F_mwithout, M_mwithout, e_mwithout⟩ := m_without
  have b_mwithout := F_mwithout.binds e_mwithout (ps := ps_Sights_without) fun _ _ _ _ _ _ us hl => match us, hl with | [_, _], _ => rfl
  obtain ⟨f_meq, fd_meq, F_meq, M_meq, e_meq⟩ := m_eq
  have b_meq := F_meq.binds e_meq (ps := ps_Sights_eq) fun _ _ _ _ _ _ us hl => match us, hl with | [_, _], _ => rfl
  have n_isinstance := PySem.W.mg_none_of X G z_isinstance
  have n_int := PySem.W.mg_none_of X G z_int
  have n_bool := PySem.W.mg_none_of X G z_bool
  have n_str := PySem.W.mg_none_of X G z_str
  have n_len := PySem.W.mg_none_of X G z_len
  have n_all := PySem.W.mg_none_of X G z_all
  have n_list := PySem.W.mg_none_of X G z_list
  have n_dict := PySem.W.mg_none_of X G z_dict
  have n_tuple := PySem.W.mg_none_of X G z_tuple
  have n_min := PySem.W.mg_none_of X G z_min
  have n_max := PySem.W.mg_none_of X G z_max
  have n_sum := PySem.W.mg_none_of X G z_sum
  have n_range := PySem.W.mg_none_of X G z_range
  have n_zip := PySem.W.mg_none_of X G z_zip
  have n_enumerate := PySem.W.mg_none_of X G z_enumerate
  have n_sorted := PySem.W.mg_none_of X G z_sorted
  have e := hfa.symm.trans F_law.mgf
  cases e
  refine ⟨fd_law, [], [], sp_law ⟨P, w, K, mg, h, []⟩, ?_⟩
  refine ⟨fun p hp => by simp at hp, fun p hp => by simp at hp, fun p hp => by simp at hp, ?_, ?_, ?_⟩
  · intro s u
    obtain ⟨oc, od, dV, kV, doc, pm, an, cdv, ct, osl, hfd, lk, hcd⟩ := F_law.fn.ex
    have e0 : dV = .none := by have := e_law; rw [hfd] at this; exact this
    subst e0
    subst hfd
    exact .of_eq rfl
  · intro H a ns hl _ hH hS
    exact ⟨a, ns, rfl, hS, by omega, fun p hp => by simp at hp, fun _ => rfl⟩
  · intro base GB XB TB
    obtain ⟨m, hm⟩ : ∃ m : Md, m = ⟨P, w, K, mg, base, []⟩ := ⟨_, rfl⟩
    rw [← hm]
    have hK : m.K = K := by rw [hm]
    have hg : m.mg = mg := by rw [hm]
    have hb : m.base = base := by rw [hm]
    have hTT : m.T = [] := by rw [hm]
    clear hm
    subst hK hg hb
    have R : SgC m C := ⟨⟨R0.pg, R0.hd, R0.po, R0.sa⟩, R0.na, R0.nb, R0.nc, PySem.W.mg_of X G R0.gR⟩
    have tyS : ∀ (H : Hp) (i dx : Addr) (fs : List (Str × V)), H i = some (.ins C dx fs) → TyX m.K H (.ref i) (.ref C) := fun H i dx fs hi => .base (.ins hi R.cl R0.ha R0.hn R0.ht R0.hm)
    obtain ⟨tk, hM⟩ := hM
    have gM := PySem.W.mg_of X G hM
    have c1 := c_is_whole F_is_whole b_is_whole n_isinstance n_int n_bool
    have c2 := c_is_name F_is_name b_is_name n_isinstance n_str n_len n_all gM
    have c3 := c_is_count F_is_count b_is_count c1
    have c4 := c_is_hours F_is_hours b_is_hours n_isinstance n_dict n_all c2 c1
    have c5 := c_is_just_hours F_is_just_hours b_is_just_hours n_len c4
    have c6 := c_is_span F_is_span b_is_span n_isinstance n_tuple n_len n_all c1
    have c7 := c_need_count_from F_need_count_from b_need_count_from c3
    have c8 := c_need_count_within F_need_count_within b_need_count_within c7
    have c9 := c_x_is_seen_row F_x_is_seen_row b_x_is_seen_row n_isinstance n_tuple n_len c5 c6
    have c10 := c_x_is_ascending F_x_is_ascending b_x_is_ascending n_isinstance n_list n_len n_all n_range c2
    have c11 := c_x_need_most F_x_need_most b_x_need_most c3
    have mI := f_sginit R n_isinstance n_list n_all n_dict F_minit c10 c11 c9
    have MK : MakX m C8.CX0 5 "Sights" C (sp_sginit m C) [] := ⟨f_minit, fd_minit, ps_Sights_init, [], mI, ⟨R0.mks, M_minit.at_, M_minit.fn, R0.kc⟩, PySem.W.mg_of X G R0.gR, b_minit, .nil⟩
    have mNa := m_names R n_list F_mnames b_mnames M_mnames
    have mMo := m_most R F_mmost b_mmost M_mmost
    have mRo := m_rows R n_dict F_mrows b_mrows M_mrows
    have mEq := m_sgeq R n_isinstance F_meq b_meq M_meq tyS R0.own
    have mWr := m_with_row R F_mwith_row b_mwith_row M_mwith_row c9 MK
    have mWo := m_without R n_len F_mwithout b_mwithout M_mwithout c8 MK
    have cNs := c_need_sights R n_isinstance F_need_sights b_need_sights tyS R0.own
    have cLo := c_x_longest_wait R n_min F_x_longest_wait b_x_longest_wait mMo
    have cSh := c_x_shortest_wait R n_max F_x_shortest_wait b_x_shortest_wait mMo
    have cSt := c_x_stands F_x_stands b_x_stands cLo cSh
    have cSn := c_standing_names R n_enumerate F_standing_names b_standing_names mNa mRo cSt
    have cCs := c_clashes F_clashes b_clashes cSn
    have cCl := c_clash F_clash b_clash cNs cCs
    have cFi := c_fits F_fits b_fits cCl
    have cCc := c_check_clash F_check_clash b_check_clash n_isinstance n_tuple n_all cNs c3 cCs
    have l1 := c_mixed F_mixed b_mixed
    have l2 := c_draw F_draw b_draw n_range l1
    have l3 := c_purse F_purse b_purse n_sum n_max
    have l4 := c_purses F_purses b_purses n_range n_max n_min n_len l3
    have l5 := c_one_of F_one_of b_one_of n_len l2
    have l6 := c_word F_word b_word n_range l2
    have l7 := c_shuffled F_shuffled b_shuffled n_len l2
    have l8 := c_names F_names b_names l6 l7
    have l9 := c_copied F_copied b_copied n_dict
    have l10 := c_within F_within b_within
    have l11 := c_row_hour F_row_hour b_row_hour n_max
    have l12 := c_first_told F_first_told b_first_told n_min l11
    have l13 := c_spot F_spot b_spot l2 l5
    have l14 := c_bounds F_bounds b_bounds n_max n_min
    have l15 := c_standing F_standing b_standing l14
    have l16 := c_pairs F_pairs b_pairs n_range n_len l15
    have l17 := c_hidden F_hidden b_hidden n_range n_len n_dict n_list n_zip l2 l5 l7
    have l18 := c_sight F_sight b_sight n_dict l2 l5 l13 l12
    have l19 := c_seen F_seen b_seen n_range l5 l17 l18
    have l20 := c_every F_every b_every n_range n_dict n_list l10
    have l21 := c_suits F_suits b_suits l12
    have l22 := c_grown R F_grown_right b_grown_right n_range n_len n_dict n_str MK mNa mMo mRo mEq mWr mWo cFi cCl l16 tyS R0.ne R0.hm R0.nfS
    have l23 := c_judged F_judged_right b_judged_right n_range n_len n_str l22 cFi cCl cCc l16
    refine (f_law F_law.fn R n_sorted n_range n_isinstance l4 l2 l5 l8 l19 l9 l20 l21 l16 l23 MK mRo cFi cCl tyS R0.own).imp fun vs H Q E z => ?_
    obtain ⟨a, ns, e, hs, hn, hT, k⟩ := z
    exact ⟨a, ns, e, hs, hn, by rw [hTT]; exact hT, k⟩
end
end Vf
open PySem PySem.W PyProof.Rows
set_option maxRecDepth 100000 in
set_option maxHeartbeats 0 in
theorem PySem.Challenge.cw_leafwaits_k64_whole_fits_and_clashes_holds : PySem.Challenge.rw_leafwaits_k64_whole_fits_and_clashes.Holds := by
  w_on; o_law; k_head; (case hw => w_witness2)
  k_fill
  refine Vf.walkG (l := PySem.Challenge.rw_leafwaits_k64_whole_fits_and_clashes) (n := 63) (k := 11) (x := "_law_script") (CX := fun _ => C8.CX0) rfl (by decide) rfl ⟨rfl, by decide, by decide⟩ (fun w h Y => PySem.W.kIn_of Y) ?F (fun _ _ _ _ _ z => z)
  case F =>
    intro w mg fa h Y KX G hmg
    refine' Vf.all_mk KX G hmg ?dL ?R0 ?hM ?m_init ?m_names ?m_most ?m_rows ?m_with_row ?m_without ?m_eq ?d_is_whole ?d_is_count ?d_is_name ?d_is_hours ?d_is_just_hours ?d_is_span ?d_need_count_from ?d_need_count_within ?d_standing_names ?d_x_stands ?d_x_longest_wait ?d_x_shortest_wait ?d_clashes ?d_x_is_ascending ?d_x_need_most ?d_x_is_seen_row ?d_need_sights ?d_fits ?d_clash ?d_check_clash ?d_purse ?d_mixed ?d_draw ?d_purses ?d_one_of ?d_shuffled ?d_word ?d_names ?d_within ?d_row_hour ?d_spot ?d_hidden ?d_first_told ?d_sight ?d_seen ?d_copied ?d_bounds ?d_standing ?d_pairs ?d_every ?d_suits ?d_grown_right ?d_judged_right ?z_isinstance ?z_int ?z_bool ?z_str ?z_len ?z_all ?z_list ?z_dict ?z_tuple ?z_min ?z_max ?z_sum ?z_range ?z_zip ?z_enumerate ?z_sorted
    (case dL => (refine' Vf.mk_def ?a ?l ?c ?k; (case a => k_is); (case l => k_is); (case c => k_is); (case k => k_is)))
    (case R0 =>
      refine' ⟨?gR, ?pg, ?hd, ?po, ?sa, ?na, ?nb, ?nc, ?ha, ?hn, ?ht, ?hm, ?own, ?nfS, ?ne, ?mks, ?kc⟩
      (case gR => k_is); (case pg => k_is); (case hd => k_is); (case po => k_is); (case sa => k_is); (case na => k_is); (case nb => k_is); (case nc => k_is); (case ha => k_is); (case hn => k_is); (case ht => k_is); (case hm => k_is)
      (case own => first | k_is | kernel_rfl)
      (case nfS => k_is)
      (case ne => k_is); (case mks => k_is); (case kc => k_is))
    (case hM => (refine' Vf.mk_long ?h; (case h => k_is)))
    (case m_init => (refine' Vf.mk_met ?a ?i ?l ?c ?k; (case a => k_is); (case i => k_is); (case l => k_is); (case c => k_is); (case k => k_is)))
    (case m_names => (refine' Vf.mk_met ?a ?i ?l ?c ?k; (case a => k_is); (case i => k_is); (case l => k_is); (case c => k_is); (case k => k_is)))
    (case m_most => (refine' Vf.mk_met ?a ?i ?l ?c ?k; (case a => k_is); (case i => k_is); (case l => k_is); (case c => k_is); (case k => k_is)))
    (case m_rows => (refine' Vf.mk_met ?a ?i ?l ?c ?k; (case a => k_is); (case i => k_is); (case l => k_is); (case c => k_is); (case k => k_is)))
    (case m_with_row => (refine' Vf.mk_met ?a ?i ?l ?c ?k; (case a => k_is); (case i => k_is); (case l => k_is); (case c => k_is); (case k => k_is)))
    (case m_without => (refine' Vf.mk_met ?a ?i ?l ?c ?k; (case a => k_is); (case i => k_is); (case l => k_is); (case c => k_is); (case k => k_is)))
    (case m_eq => (refine' Vf.mk_met ?a ?i ?l ?c ?k; (case a => k_is); (case i => k_is); (case l => k_is); (case c => k_is); (case k => k_is)))
    (case d_is_whole => (refine' Vf.mk_def ?a ?l ?c ?k; (case a => k_is); (case l => k_is); (case c => k_is); (case k => k_is)))
    (case d_is_count => (refine' Vf.mk_def ?a ?l ?c ?k; (case a => k_is); (case l => k_is); (case c => k_is); (case k => k_is)))
    (case d_is_name => (refine' Vf.mk_def ?a ?l ?c ?k; (case a => k_is); (case l => k_is); (case c => k_is); (case k => k_is)))
    (case d_is_hours => (refine' Vf.mk_def ?a ?l ?c ?k; (case a => k_is); (case l => k_is); (case c => k_is); (case k => k_is)))
    (case d_is_just_hours => (refine' Vf.mk_def ?a ?l ?c ?k; (case a => k_is); (case l => k_is); (case c => k_is); (case k => k_is)))
    (case d_is_span => (refine' Vf.mk_def ?a ?l ?c ?k; (case a => k_is); (case l => k_is); (case c => k_is); (case k => k_is)))
    (case d_need_count_from => (refine' Vf.mk_def ?a ?l ?c ?k; (case a => k_is); (case l => k_is); (case c => k_is); (case k => k_is)))
    (case d_need_count_within => (refine' Vf.mk_def ?a ?l ?c ?k; (case a => k_is); (case l => k_is); (case c => k_is); (case k => k_is)))
    (case d_standing_names => (refine' Vf.mk_def ?a ?l ?c ?k; (case a => k_is); (case l => k_is); (case c => k_is); (case k => k_is)))
    (case d_x_stands => (refine' Vf.mk_def ?a ?l ?c ?k; (case a => k_is); (case l => k_is); (case c => k_is); (case k => k_is)))
    (case d_x_longest_wait => (refine' Vf.mk_def ?a ?l ?c ?k; (case a => k_is); (case l => k_is); (case c => k_is); (case k => k_is)))
    (case d_x_shortest_wait => (refine' Vf.mk_def ?a ?l ?c ?k; (case a => k_is); (case l => k_is); (case c => k_is); (case k => k_is)))
    (case d_clashes => (refine' Vf.mk_def ?a ?l ?c ?k; (case a => k_is); (case l => k_is); (case c => k_is); (case k => k_is)))
    (case d_x_is_ascending => (refine' Vf.mk_def ?a ?l ?c ?k; (case a => k_is); (case l => k_is); (case c => k_is); (case k => k_is)))
    (case d_x_need_most => (refine' Vf.mk_def ?a ?l ?c ?k; (case a => k_is); (case l => k_is); (case c => k_is); (case k => k_is)))
    (case d_x_is_seen_row => (refine' Vf.mk_def ?a ?l ?c ?k; (case a => k_is); (case l => k_is); (case c => k_is); (case k => k_is)))
    (case d_need_sights => (refine' Vf.mk_def ?a ?l ?c ?k; (case a => k_is); (case l => k_is); (case c => k_is); (case k => k_is)))
    (case d_fits => (refine' Vf.mk_def ?a ?l ?c ?k; (case a => k_is); (case l => k_is); (case c => k_is); (case k => k_is)))
    (case d_clash => (refine' Vf.mk_def ?a ?l ?c ?k; (case a => k_is); (case l => k_is); (case c => k_is); (case k => k_is)))
    (case d_check_clash => (refine' Vf.mk_def ?a ?l ?c ?k; (case a => k_is); (case l => k_is); (case c => k_is); (case k => k_is)))
    (case d_purse => (refine' Vf.mk_def ?a ?l ?c ?k; (case a => k_is); (case l => k_is); (case c => k_is); (case k => k_is)))
    (case d_mixed => (refine' Vf.mk_def ?a ?l ?c ?k; (case a => k_is); (case l => k_is); (case c => k_is); (case k => k_is)))
    (case d_draw => (refine' Vf.mk_def ?a ?l ?c ?k; (case a => k_is); (case l => k_is); (case c => k_is); (case k => k_is)))
    (case d_purses => (refine' Vf.mk_def ?a ?l ?c ?k; (case a => k_is); (case l => k_is); (case c => k_is); (case k => k_is)))
    (case d_one_of => (refine' Vf.mk_def ?a ?l ?c ?k; (case a => k_is); (case l => k_is); (case c => k_is); (case k => k_is)))
    (case d_shuffled => (refine' Vf.mk_def ?a ?l ?c ?k; (case a => k_is); (case l => k_is); (case c => k_is); (case k => k_is)))
    (case d_word => (refine' Vf.mk_def ?a ?l ?c ?k; (case a => k_is); (case l => k_is); (case c => k_is); (case k => k_is)))
    (case d_names => (refine' Vf.mk_def ?a ?l ?c ?k; (case a => k_is); (case l => k_is); (case c => k_is); (case k => k_is)))
    (case d_within => (refine' Vf.mk_def ?a ?l ?c ?k; (case a => k_is); (case l => k_is); (case c => k_is); (case k => k_is)))
    (case d_row_hour => (refine' Vf.mk_def ?a ?l ?c ?k; (case a => k_is); (case l => k_is); (case c => k_is); (case k => k_is)))
    (case d_spot => (refine' Vf.mk_def ?a ?l ?c ?k; (case a => k_is); (case l => k_is); (case c => k_is); (case k => k_is)))
    (case d_hidden => (refine' Vf.mk_def ?a ?l ?c ?k; (case a => k_is); (case l => k_is); (case c => k_is); (case k => k_is)))
    (case d_first_told => (refine' Vf.mk_def ?a ?l ?c ?k; (case a => k_is); (case l => k_is); (case c => k_is); (case k => k_is)))
    (case d_sight => (refine' Vf.mk_def ?a ?l ?c ?k; (case a => k_is); (case l => k_is); (case c => k_is); (case k => k_is)))
    (case d_seen => (refine' Vf.mk_def ?a ?l ?c ?k; (case a => k_is); (case l => k_is); (case c => k_is); (case k => k_is)))
    (case d_copied => (refine' Vf.mk_def ?a ?l ?c ?k; (case a => k_is); (case l => k_is); (case c => k_is); (case k => k_is)))
    (case d_bounds => (refine' Vf.mk_def ?a ?l ?c ?k; (case a => k_is); (case l => k_is); (case c => k_is); (case k => k_is)))
    (case d_standing => (refine' Vf.mk_def ?a ?l ?c ?k; (case a => k_is); (case l => k_is); (case c => k_is); (case k => k_is)))
    (case d_pairs => (refine' Vf.mk_def ?a ?l ?c ?k; (case a => k_is); (case l => k_is); (case c => k_is); (case k => k_is)))
    (case d_every => (refine' Vf.mk_def ?a ?l ?c ?k; (case a => k_is); (case l => k_is); (case c => k_is); (case k => k_is)))
    (case d_suits => (refine' Vf.mk_def ?a ?l ?c ?k; (case a => k_is); (case l => k_is); (case c => k_is); (case k => k_is)))
    (case d_grown_right => (refine' Vf.mk_def ?a ?l ?c ?k; (case a => k_is); (case l => k_is); (case c => k_is); (case k => k_is)))
    (case d_judged_right => (refine' Vf.mk_def ?a ?l ?c ?k; (case a => k_is); (case l => k_is); (case c => k_is); (case k => k_is)))
    (case z_isinstance => k_is)
    (case z_int => k_is)
    (case z_bool => k_is)
    (case z_str => k_is)
    (case z_len => k_is)
    (case z_all => k_is)
    (case z_list => k_is)
    (case z_dict => k_is)
    (case z_tuple => k_is)
    (case z_min => k_is)
    (case z_max => k_is)
    (case z_sum => k_is)
    (case z_range => k_is)
    (case z_zip => k_is)
    (case z_enumerate => k_is)
    (case z_sorted => k_is)
