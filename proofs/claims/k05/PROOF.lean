import PyProof.Rows.All
import Wide.All
import OpenK.AllK
import Wide.FinOn
import HandS.ForMost
import HandS.ForExc
import HandS.Codes
import HandS.Wide
import HandS.WideBits
import HandS.Deep
import HandS.More
import HandS.Flow
import HandS.Lambda
import HandS.Nested
import HandS.EndTab
import PyProof.Rows.RegFStrParts
import HandS.OwnEq
import HandS.IsInst
import HandS.ExcInit
import HandS.ExcField
import HandS.Walk
import HandS.Text
import PyProof.EqKinds
import HandS.Zip
import HandS.Style
import HandS.Property
import HandS.SetFor
import HandS.Strs
import HandS.SetTxt0
import HandS.TupSets
import PyProof.Rows.SortShellAny
import HandS.SortInts
import PyProof.Rows.StrMeet
import HandS.DeepEq
import HandS.TupLen
import HandS.Dict
import KE.KDictPairs
import KE.KDictKeyed
import HandS.DictComp
import HandS.TryMany
import HandS.Defaults
import HandS.TupAny
import PySem.Challenge.RW_leafwaits_k05_whole_parts_and_paths
set_option Elab.async false
set_option linter.all false
set_option maxRecDepth 100000
set_option maxHeartbeats 4000000
set_option maxRecDepth 100000
set_option maxHeartbeats 4000000
/-! Core: the layer's judgements as weakest preconditions over the syntax. Own work. -/
namespace Vf
open PySem PySem.Spec PyProof.Rows L2

/-! ### canonical readings -/
@[irreducible] def wE (X : Cx) (e : Expr) : TE := fun σ H Q => ∀ (pins : List (Addr × Obj)) (s : Shared), Inv X pins σ H s → wpAny (model X.prog X.w) X.A (eval e X.env) (EP X pins σ Q) X.xe s
@[irreducible] def wT (X : Cx) (e : Expr) : TT := fun σ H Q => ∀ (pins : List (Addr × Obj)) (s : Shared), Inv X pins σ H s → wpAny (model X.prog X.w) X.A (isTrue e X.env (eval e X.env)) (TP X pins σ Q) X.xe s
@[irreducible] def wW (X : Cx) (e : Expr) : TT := fun σ H Q => ∀ (whole : Sem Value) (pins : List (Addr × Obj)) (s : Shared), Inv X pins σ H s → wpAny (model X.prog X.w) X.A (isTrue e X.env whole) (TP X pins σ Q) X.xe s
@[irreducible] def wA (X : Cx) (es : List Expr) : TA := fun σ H Q => ∀ (pos : Pos) (pins : List (Addr × Obj)) (s : Shared), Inv X pins σ H s → wpAny (model X.prog X.w) X.A (spliced (backTo pos (starEach es X.env))) (AP X pins σ Q) X.xe s
@[irreducible] def wS (X : Cx) (st : Stmt) : TS := fun D σ H => ∀ (pins : List (Addr × Obj)) (s : Shared), Inv X pins σ H s → wpAny (model X.prog X.w) X.A (exec st X.env) (SP X pins D) X.xe s
@[irreducible] def wB (X : Cx) (st : List Stmt) : TS := fun D σ H => ∀ (pins : List (Addr × Obj)) (s : Shared), Inv X pins σ H s → wpAny (model X.prog X.w) X.A (execs st X.env) (SP X pins D) X.xe s
section
variable {X : Cx} {e a b c : Expr} {es : List Expr} {st : Stmt} {sts : List Stmt} {t : TE} {σ : L2.St} {H : Hp} {Q : VK} {D : Ends}
theorem cE : PE X e (wE X e) := ⟨fun pins s _ _ _ I h => by unfold wE at h; exact h pins s I⟩
theorem cT : PT X e (wT X e) := ⟨fun pins s _ _ _ I h => by unfold wT at h; exact h pins s I⟩
theorem cW : PW X e (wW X e) := ⟨fun wh pins s _ _ _ I h => by unfold wW at h; exact h wh pins s I⟩
theorem cA : PA X es (wA X es) := ⟨fun pos pins s _ _ _ I h => by unfold wA at h; exact h pos pins s I⟩
theorem cS : PS X st (wS X st) := ⟨fun pins s _ _ _ I h => by unfold wS at h; exact h pins s I⟩
theorem cB : PSs X sts (wB X sts) := ⟨fun pins s _ _ _ I h => by unfold wB at h; exact h pins s I⟩
theorem toE (h : PE X e t) (q : t σ H Q) : wE X e σ H Q := by unfold wE; exact fun pins s I => h.run pins s σ H Q I q
theorem toT {t : TT} {Q : Bool → Hp → Prop} (h : PT X e t) (q : t σ H Q) : wT X e σ H Q := by unfold wT; exact fun pins s I => h.run pins s σ H Q I q
theorem toW {t : TT} {Q : Bool → Hp → Prop} (h : PW X e t) (q : t σ H Q) : wW X e σ H Q := by unfold wW; exact fun wh pins s I => h.run wh pins s σ H Q I q
theorem toA {t : TA} {Q : List V → Hp → Prop} (h : PA X es t) (q : t σ H Q) : wA X es σ H Q := by unfold wA; exact fun pos pins s I => h.run pos pins s σ H Q I q
theorem toS {t : TS} (h : PS X st t) (q : t D σ H) : wS X st D σ H := by unfold wS; exact fun pins s I => h.run pins s σ H D I q
theorem toB {t : TS} (h : PSs X sts t) (q : t D σ H) : wB X sts D σ H := by unfold wB; exact fun pins s I => h.run pins s σ H D I q
theorem wE.mono {Q' : VK} (h : wE X e σ H Q) (k : ∀ v H', Q v H' → Q' v H') : wE X e σ H Q' := by
  unfold wE at h ⊢
  exact fun pins s I => thn (h pins s I) fun _ _ ⟨v, H', I', r, q⟩ => ⟨v, H', I', r, k v H' q⟩
end

/-! ### the module: program, world, written part, globals, base -/
structure Md where
  P : Program
  w : World
  K : PySem.W.Frag
  mg : Str → Option Value
  base : Heap
  /-- the tables of code objects (a lambda is looked up in its maker's), each with the one name that it tells -/
  T : List (Addr × Str)
/-- a def that keeps a promise where nothing is being shown (no repr under way): what is asked of it at one place is known of all -/
structure FnG (m : Md) (CX : CXT) (k : Nat) (f : Addr) (fd : FuncData) (ps : List Str) (sp : Sp) : Prop where
  len : ∀ vs H Q E, sp vs H Q E → vs.length = ps.length
  run : ∀ (A : Around) (outer : List Env) (s : Shared) (H : Hp) (args : Args) (us : List Value) (vs : List V) (Q : VK) (E : XK), A.guards = some [] → Room k A → Env0 m.P m.w m.K m.mg m.base A outer s H →
    BindsTo s fd args (ps.zip us) → Vals vs us → sp vs H Q E → codeAny (model m.P m.w) A (.call (.ref f) args) (CR CX outer m.P m.w H s Q E) s
theorem FnG.mono {m : Md} {CX : CXT} {j k : Nat} {f : Addr} {fd : FuncData} {ps : List Str} {sp : Sp} (F : FnG m CX j f fd ps sp) (h : j ≤ k) : FnG m CX k f fd ps sp := ⟨F.len, fun A outer s H args us vs Q E hg hr => F.run A outer s H args us vs Q E hg (hr.mono h)⟩
theorem FnG.imp {m : Md} {CX : CXT} {k : Nat} {f : Addr} {fd : FuncData} {ps : List Str} {sp sp' : Sp} (F : FnG m CX k f fd ps sp) (h : ∀ vs H Q E, sp' vs H Q E → sp vs H Q E) : FnG m CX k f fd ps sp' :=
  ⟨fun vs H Q E q => F.len vs H Q E (h _ _ _ _ q), fun A outer s H args us vs Q E hg hr he hb hv hs => F.run A outer s H args us vs Q E hg hr he hb hv (h _ _ _ _ hs)⟩
/-- X is a place in a def of the module m: names N, scope sc, room for k calls -/
structure At (m : Md) (N : List Str) (sc : Scope) (k : Nat) (X : Cx) : Prop where
  pp : X.prog = m.P
  ww : X.w = m.w
  kk : X.K = m.K
  mm : X.mg = m.mg
  bb : X.base = m.base
  nn : X.N = N
  ss : X.env.scope = sc
  calm : X.calm = true
  room : Room k X.A
  pass : PassesOwn (model X.prog X.w) X.A X.env X.xe
  nd : N.Nodup
  gd : X.A.guards = some []
section
variable {m : Md} {N : List Str} {sc : Scope} {k : Nat} {X : Cx} (h : At m N sc k X)
include h
theorem At.hu : X.A.units + 1 < cLine := hu_of h.room
end

def visB (sc : Scope) (x : Str) : Bool := match sc.names.lookup x with
  | some .local => true | some .cell => true | some .free => true | _ => false
theorem vis_of {sc : Scope} {x : Str} (h : visB sc x = true) : Vis sc x := by
  unfold visB at h
  unfold Vis
  split at h
  · next e => exact .inl e
  · next e => exact .inr (.inl e)
  · next e => exact .inr (.inr e)
  · cases h
section
variable {m : Md} {N : List Str} {sc : Scope} {k : Nat} {X : Cx} {a b c e : Expr} {es : List Expr} {σ : L2.St} {H : Hp} {Q : VK} {QB : Bool → Hp → Prop} {D : Ends} {pos p p1 p2 : Pos} {x y : Str} {i j : Nat} {v : V}
theorem At.gl (h : At m N sc k X) (e : sc.names.lookup x = some .globalImplicit) : Gl X x := by
  unfold Gl Env.kindOf
  rw [h.ss]
  exact e
theorem At.vis (h : At m N sc k X) (e : visB sc x = true) : Vis X.env.scope x := by rw [h.ss]; exact vis_of e

/-- the i-th name is x, a plain local of the scope; a local that others capture; one captured from outside -/
structure NL (N : List Str) (sc : Scope) (i : Nat) (x : Str) : Prop where
  ix : N[i]? = some x
  loc : sc.names.lookup x = some .local
structure NC (N : List Str) (sc : Scope) (i : Nat) (x : Str) : Prop where
  ix : N[i]? = some x
  cel : sc.names.lookup x = some .cell
structure NFr (N : List Str) (sc : Scope) (i : Nat) (x : Str) : Prop where
  ix : N[i]? = some x
  fre : sc.names.lookup x = some .free
/-! ### expressions -/
theorem w_var (h : At m N sc k X) (i : Nat) (hN : N[i]? = some x) (hv : visB sc x = true) (hs : σ[i]? = some (some v)) (q : Q v H) (hd : (x == ("__debug__" : Str)) = false := by with_unfolding_all decide) (hcd : (x == ("__classdict__" : Str)) = false := by with_unfolding_all decide) : wE X (.Name x pos) σ H Q :=
  toE (pe_var (by rw [h.nn]; exact hN) (h.vis hv) hd hcd) ⟨v, hs, q⟩
theorem w_nl (h : At m N sc k X) (n : NL N sc i x) (hs : σ[i]? = some (some v)) (q : Q v H) (hd : (x == ("__debug__" : Str)) = false := by with_unfolding_all decide) (hcd : (x == ("__classdict__" : Str)) = false := by with_unfolding_all decide) : wE X (.Name x pos) σ H Q :=
  toE (pe_var (by rw [h.nn]; exact n.ix) (by rw [h.ss]; exact .inl n.loc) hd hcd) ⟨v, hs, q⟩
theorem w_nc (h : At m N sc k X) (n : NC N sc i x) (hs : σ[i]? = some (some v)) (q : Q v H) (hd : (x == ("__debug__" : Str)) = false := by with_unfolding_all decide) (hcd : (x == ("__classdict__" : Str)) = false := by with_unfolding_all decide) : wE X (.Name x pos) σ H Q :=
  toE (pe_var (by rw [h.nn]; exact n.ix) (by rw [h.ss]; exact .inr (.inl n.cel)) hd hcd) ⟨v, hs, q⟩
theorem w_nf (h : At m N sc k X) (n : NFr N sc i x) (hs : σ[i]? = some (some v)) (q : Q v H) (hd : (x == ("__debug__" : Str)) = false := by with_unfolding_all decide) (hcd : (x == ("__classdict__" : Str)) = false := by with_unfolding_all decide) : wE X (.Name x pos) σ H Q :=
  toE (pe_var (by rw [h.nn]; exact n.ix) (by rw [h.ss]; exact .inr (.inr n.fre)) hd hcd) ⟨v, hs, q⟩
theorem w_int {i : Int} (q : Q (.int i) H) : wE X (.Constant (.int i) j pos) σ H Q := toE pe_int q
theorem w_bl {b : Bool} (q : Q (.bl b) H) : wE X (.Constant (.bool b) j pos) σ H Q := toE pe_bl q
theorem w_non (q : Q .non H) : wE X (.Constant .none j pos) σ H Q := toE pe_non q
theorem w_str {z : Str} (q : Q (.str z) H) : wE X (.Constant (.str z) j pos) σ H Q := toE pe_str q
theorem w_bin {op : Operator} {r : R2} (ho : OpR X (binaryOp op) r) (q : wE X a σ H fun x H1 => wE X b σ H1 fun y H2 => r x y H2 Q) : wE X (.BinOp a op b pos) σ H Q := toE (pe_op ho cE cE) q
theorem w_un {op : UnaryOp} {r : V → Hp → VK → Prop} (ho : UnR X (unaryOp op) r) (q : wE X a σ H fun x H1 => r x H1 Q) : wE X (.UnaryOp op a pos) σ H Q := toE (pe_un ho cE) q
theorem w_cmp {op : CmpOp} {r : R2} (ho : OpR X (compareOp op) r) (hm : behindInMarks op b = false) (q : wE X a σ H fun x H1 => wE X b σ H1 fun y H2 => r x y H2 Q) : wE X (.Compare a [op] [b] pos) σ H Q := toE (pe_cmpR ho cE cE hm) q
theorem w_not (q : wE X a σ H fun x H1 => ∃ c, x = .bl c ∧ Q (.bl (!c)) H1) : wE X (.UnaryOp .Not a pos) σ H Q := toE (pe_not cE) q
theorem w_and {rest : List Expr} (q : wE X a σ H fun x H1 => ∃ c, x = .bl c ∧ if c = true then wE X (.BoolOp .And (b :: rest) pos) σ H1 Q else Q (.bl false) H1) : wE X (.BoolOp .And (a :: b :: rest) pos) σ H Q := toE (pe_and cE cE) q
theorem w_or {rest : List Expr} (q : wE X a σ H fun x H1 => ∃ c, x = .bl c ∧ if c = true then Q (.bl true) H1 else wE X (.BoolOp .Or (b :: rest) pos) σ H1 Q) : wE X (.BoolOp .Or (a :: b :: rest) pos) σ H Q := toE (pe_or cE cE) q
theorem w_one {op : BoolOp} (q : wE X a σ H Q) : wE X (.BoolOp op [a] pos) σ H Q := toE (pe_one cE) q
theorem w_if (q : wT X c σ H fun k H1 => if k = true then wE X a σ H1 Q else wE X b σ H1 Q) : wE X (.IfExp c a b pos) σ H Q := toE (pe_ifExp cT cE cE) q
theorem w_tup {x1} (q : wA X es σ H fun xs H1 => xs.length ≤ sizeLine ∧ ∀ p, H1 p = none → Q (.ref p) (upd H1 p (.tup xs))) : wE X (.Tuple es x1 pos) σ H Q := toE (pe_tup cA) q
theorem w_lst (q : wA X es σ H fun xs H1 => xs.length ≤ sizeLine ∧ ∀ p, H1 p = none → Q (.ref p) (upd H1 p (.lst xs))) : wE X (.List es pos) σ H Q := toE (pe_lst cA) q
theorem w_ix {r : R2} (hr : IxR X r) (hs : PlainIx b) (q : wE X a σ H fun x H1 => wE X b σ H1 fun y H2 => r x y H2 Q) : wE X (.Subscript a b pos) σ H Q := toE (pe_ix hr cE cE hs) q
theorem w_nil {Q : List V → Hp → Prop} (q : Q [] H) : wA X [] σ H Q := toA pa_nil q
theorem w_cons {Q : List V → Hp → Prop} (q : wE X e σ H fun x H1 => wA X es σ H1 fun xs H2 => Q (x :: xs) H2) (hs : starEach (e :: es) X.env = (false, eval e X.env) :: starEach es X.env := by with_unfolding_all rfl) : wA X (e :: es) σ H Q := toA (pa_cons cE cA hs) q
/-- what a run of the def at f leaves, seen from X -/
theorem fnG_run {CX : CXT} {f : Addr} {fd : FuncData} {ps : List Str} {sp : Sp} {E : XK} {args : Args} {us : List Value} {vs : List V} {pins : List (Addr × Obj)} {s : Shared} (h : At m N sc k X) (F : FnG m CX j f fd ps sp) (hk : j ≤ k) (hx : Passes CX X E) (I : Inv X pins σ H s)
    (hb : BindsTo s fd args (ps.zip us)) (r : Vals vs us) (q : sp vs H Q E) : codeAny (model X.prog X.w) X.A (.call (.ref f) args) (fun r s' => match r with | .ok (.ret u) => EP X pins σ Q u s' | .ok _ => False | .error e => X.xe e s') s := by
  have e0 := I.env0
  rw [h.pp, h.ww, h.kk, h.mm, h.bb] at e0
  have rc := F.run X.A X.stack s H args us vs Q E h.gd (h.room.mono hk) e0 hb r q
  rw [← h.pp, ← h.ww] at rc
  refine codeAny_mono rc fun r s' hq => ?_
  match r, hq with
  | .error e, hq => exact hx pins σ H s e s' I hq
  | .ok (.ret u), hq => exact I.after hq
/-- a def that may be called by its name; dvs: what stands for the parameters that are left out -/
structure CalX (m : Md) (CX : CXT) (k : Nat) (x : Str) (sp : Sp) (dvs : List V) : Prop where
  ex : ∃ (f : Addr) (fd : FuncData) (ps : List Str) (ds : List Value), FnG m CX k f fd ps sp ∧ m.mg x = some (.ref f) ∧ PySem.W.keepIn m.K (.ref f) = true ∧ Binds m.K fd ps ds ∧ Vals dvs ds
abbrev Cal (m : Md) (k : Nat) (x : Str) (sp : Sp) : Prop := CalX m C8.CX0 k x sp []
theorem w_callX {CX : CXT} {sp : Sp} {dvs : List V} {E : XK} (h : At m N sc k X) (c : CalX m CX j x sp dvs) (hk : j ≤ k) (hg : sc.names.lookup x = some .globalImplicit) (hx : Passes CX X E) (q : wA X (e :: es) σ H fun vs H1 => sp (vs ++ dvs) H1 Q E)
    (hdb : (x == ("__debug__" : Str)) = false := by with_unfolding_all decide) (he : starEach (e :: es) X.env = (false, eval e X.env) :: starEach es X.env := by with_unfolding_all rfl) (hpl : (backTo pos (starEach es X.env)).any (·.1) = false := by with_unfolding_all rfl) : wE X (.Call (.Name x p) (e :: es) [] pos) σ H Q := by
  obtain ⟨f, fd, ps, ds, F, hm, kp, b, d⟩ := c.ex
  unfold wE
  intro pins s I
  refine wpAny_Call_Name_kw (ld_glob (u := .ref f) I (h.gl hg) (by rw [h.mm]; exact hm) ?_ hdb)
  refine PySem.W.callWith_K (h₀ := X.base) I.ok.mod.kin (by rw [h.kk]; exact kp) (thn ((cA (X := X) (es := e :: es)).run pos pins s σ H _ I q) fun us s1 ⟨vs, H1, I1, r, q1⟩ => ⟨I1.kIn, ?_⟩) he hpl
  have r2 := Vals.append r d
  refine wpAny_call (codeAny_mono (fnG_run (us := us ++ ds) (vs := vs ++ dvs) h F hk hx I1 (b s1 us (by rw [← h.kk]; exact I1.kIn) (by rw [← r2.length]; exact F.len _ _ _ _ q1)) r2 q1) fun r s' hq => ?_)
  match r, hq with
  | .error e, hq => exact hq
  | .ok (.ret u), hq => exact hq
theorem w_callX0 {CX : CXT} {sp : Sp} {dvs : List V} {E : XK} (h : At m N sc k X) (c : CalX m CX j x sp dvs) (hk : j ≤ k) (hg : sc.names.lookup x = some .globalImplicit) (hx : Passes CX X E) (q : sp dvs H Q E)
    (hdb : (x == ("__debug__" : Str)) = false := by with_unfolding_all decide) : wE X (.Call (.Name x p) [] [] pos) σ H Q := by
  obtain ⟨f, fd, ps, ds, F, hm, kp, b, d⟩ := c.ex
  unfold wE
  intro pins s I
  refine wpAny_Call_Name_kw (ld_glob (u := .ref f) I (h.gl hg) (by rw [h.mm]; exact hm) ?_ hdb)
  refine PySem.W.callWith_K0 I.kIn (by rw [h.kk]; exact kp) (wpAny_call (codeAny_mono (fnG_run (us := ds) (vs := dvs) h F hk hx I (b s [] (by rw [← h.kk]; exact I.kIn) (by simpa [← d.length] using F.len _ _ _ _ q)) d q) fun r s' hq => ?_))
  match r, hq with
  | .error e, hq => exact hq
  | .ok (.ret u), hq => exact hq
theorem w_call {sp : Sp} (h : At m N sc k X) (c : Cal m j x sp) (hk : j ≤ k) (hg : sc.names.lookup x = some .globalImplicit) (q : wA X (e :: es) σ H fun vs H1 => sp vs H1 Q C8.E0)
    (hdb : (x == ("__debug__" : Str)) = false := by with_unfolding_all decide) (he : starEach (e :: es) X.env = (false, eval e X.env) :: starEach es X.env := by with_unfolding_all rfl) (hpl : (backTo pos (starEach es X.env)).any (·.1) = false := by with_unfolding_all rfl) : wE X (.Call (.Name x p) (e :: es) [] pos) σ H Q := by
  refine w_callX (E := C8.E0) h c hk hg C8.pass0 ?_ hdb he hpl
  simpa using q
/-- a built-in function by its name -/
theorem w_blt {id : String} {r : List V → Hp → VK → Prop} (h : At m N sc k X) (hc : CallR X (.builtin id) r) (hm : m.mg x = none) (hg : sc.names.lookup x = some .globalImplicit) (hv : bootBuiltins x = some (.builtin id)) (q : wA X (e :: es) σ H fun vs H1 => r vs H1 Q)
    (hn : x ≠ "__name__" := by with_unfolding_all decide) (hdb : (x == ("__debug__" : Str)) = false := by with_unfolding_all decide) (he : starEach (e :: es) X.env = (false, eval e X.env) :: starEach es X.env := by with_unfolding_all rfl) (hpl : (backTo pos (starEach es X.env)).any (·.1) = false := by with_unfolding_all rfl) : wE X (.Call (.Name x p) (e :: es) [] pos) σ H Q :=
  toE (pe_callB hc (h.gl hg) (by rw [h.mm]; exact hm) hv cA hn hdb he hpl) q
theorem w_ty {T : String} {r : List V → Hp → VK → Prop} (h : At m N sc k X) (hc : CallR X (.type T) r) (hm : m.mg x = none) (hg : sc.names.lookup x = some .globalImplicit) (hv : bootBuiltins x = some (.type T)) (q : wA X (e :: es) σ H fun vs H1 => r vs H1 Q)
    (hn : x ≠ "__name__" := by with_unfolding_all decide) (hdb : (x == ("__debug__" : Str)) = false := by with_unfolding_all decide) (he : starEach (e :: es) X.env = (false, eval e X.env) :: starEach es X.env := by with_unfolding_all rfl) (hpl : (backTo pos (starEach es X.env)).any (·.1) = false := by with_unfolding_all rfl) : wE X (.Call (.Name x p) (e :: es) [] pos) σ H Q :=
  toE (pe_callTy hc (h.gl hg) (by rw [h.mm]; exact hm) hv cA hn hdb he hpl) q

/-! ### tests -/
theorem t_val (q : wE X e σ H fun x H1 => ∃ c, x = .bl c ∧ QB c H1) (he : ∀ whole, isTrue e X.env whole = (do let v ← whole; standAt e.pos; holding [v] (truthy v)) := by with_unfolding_all (intro _; rfl)) : wT X e σ H QB := toT (pt_val cE he) q
theorem t_cmp {op : CmpOp} {r : R2} (ho : OpR X (compareOp op) r) (hm : behindInMarks op b = false) (q : wE X a σ H fun x H1 => wE X b σ H1 fun y H2 => r x y H2 fun z H' => ∃ k, z = .bl k ∧ QB k H') : wT X (.Compare a [op] [b] pos) σ H QB := toT (pt_cmpR ho cE cE hm) q
theorem t_not (q : wT X a σ H fun c H1 => QB (!c) H1) : wT X (.UnaryOp .Not a pos) σ H QB := toT (pt_not cT) q
theorem t_and {rest : List Expr} (q : wW X (.BoolOp .And (a :: b :: rest) pos) σ H QB) : wT X (.BoolOp .And (a :: b :: rest) pos) σ H QB := toT (cW.pt) q
theorem t_or {rest : List Expr} (q : wW X (.BoolOp .Or (a :: b :: rest) pos) σ H QB) : wT X (.BoolOp .Or (a :: b :: rest) pos) σ H QB := toT (cW.pt) q
theorem k_and {rest : List Expr} (q : wT X a σ H fun c H1 => if c = true then wW X (.BoolOp .And (b :: rest) pos) σ H1 QB else QB false H1) : wW X (.BoolOp .And (a :: b :: rest) pos) σ H QB := toW (pw_and cT cW) q
theorem k_or {rest : List Expr} (q : wT X a σ H fun c H1 => if c = true then QB true H1 else wW X (.BoolOp .Or (b :: rest) pos) σ H1 QB) : wW X (.BoolOp .Or (a :: b :: rest) pos) σ H QB := toW (pw_or cT cW) q
theorem k_and1 (q : wT X a σ H QB) : wW X (.BoolOp .And [a] pos) σ H QB := toW (pw_and1 cT) q
theorem k_or1 (q : wT X a σ H QB) : wW X (.BoolOp .Or [a] pos) σ H QB := toW (pw_or1 cT) q
theorem t_truth (q : wE X a σ H fun x H1 => ∃ k, TruV X.K x H1 k ∧ QB k H1) (he : ∀ whole, isTrue a X.env whole = (do let v ← whole; standAt a.pos; holding [v] (truthy v)) := by with_unfolding_all (intro _; rfl)) : wT X a σ H QB := toT (pt_truth cE he) q

/-! ### statements: what is wanted behind is written out -/
variable {st : Stmt} {sts rest th el body : List Stmt} {nx : L2.St → Hp → Prop} {rt : VK} {bk ct : L2.St → Hp → Prop}
theorem b_nil (q : nx σ H) : wB X [] ⟨nx, rt, bk, ct⟩ σ H := toB pss_nil q
theorem b_cons (q : wS X st ⟨wB X rest ⟨nx, rt, bk, ct⟩, rt, bk, ct⟩ σ H) : wB X (st :: rest) ⟨nx, rt, bk, ct⟩ σ H := toB (pss_cons cS cB) q
theorem b_one (q : wS X st ⟨nx, rt, bk, ct⟩ σ H) : wB X [st] ⟨nx, rt, bk, ct⟩ σ H := toB (pss_one cS) q
theorem s_ret (q : wE X e σ H rt) : wS X (.Return (some e) pos) ⟨nx, rt, bk, ct⟩ σ H := toS (ps_ret cE) q
theorem s_retN (q : rt .non H) : wS X (.Return none pos) ⟨nx, rt, bk, ct⟩ σ H := toS ps_retN q
theorem s_if (q : wT X c σ H fun b H1 => if b = true then wB X th ⟨nx, rt, bk, ct⟩ σ H1 else wB X el ⟨nx, rt, bk, ct⟩ σ H1) : wS X (.If c th el pos) ⟨nx, rt, bk, ct⟩ σ H := toS (ps_if cT cB cB) q
theorem s_expr (q : wE X e σ H fun _ H1 => nx σ H1) (hs : swapsWith e none pos.line X.env = pure false := by with_unfolding_all rfl) : wS X (.Expr e pos) ⟨nx, rt, bk, ct⟩ σ H := toS (ps_expr cE hs) q
theorem s_set (h : At m N sc k X) (i : Nat) (hN : N[i]? = some x) (hl : sc.names.lookup x = some .local) (q : wE X e σ H fun v H1 => nx (σ.set i (some v)) H1) (hs : swapsWith e (some (.Name x p1)) pos.line X.env = pure false := by with_unfolding_all rfl) :
    wS X (.Assign [.Name x p1] e pos) ⟨nx, rt, bk, ct⟩ σ H :=
  toS (ps_set (by rw [h.nn]; exact h.nd) (by rw [h.nn]; exact hN) (by rw [h.ss]; exact .inl hl) cE hs (.inr (by rw [h.ss]; exact hl))) q
theorem s_nl (h : At m N sc k X) (n : NL N sc i x) (q : wE X e σ H fun v H1 => nx (σ.set i (some v)) H1) (hs : swapsWith e (some (.Name x p1)) pos.line X.env = pure false := by with_unfolding_all rfl) : wS X (.Assign [.Name x p1] e pos) ⟨nx, rt, bk, ct⟩ σ H := s_set h i n.ix n.loc q hs
theorem s_nc (h : At m N sc k X) (n : NC N sc i x) (hf : ∀ y, X.fn y = true) (q : wE X e σ H fun v H1 => nx (σ.set i (some v)) H1) (hs : swapsWith e (some (.Name x p1)) pos.line X.env = pure false := by with_unfolding_all rfl) : wS X (.Assign [.Name x p1] e pos) ⟨nx, rt, bk, ct⟩ σ H :=
  toS (ps_set (by rw [h.nn]; exact h.nd) (by rw [h.nn]; exact n.ix) (by rw [h.ss]; exact .inr n.cel) cE hs (.inl (hf x))) q
theorem pg_nl (h : At m N sc k X) (n : NL N sc i x) : PG X (.Name x pos) (gName i) := pg_name (by rw [h.nn]; exact h.nd) (by rw [h.nn]; exact n.ix) (by rw [h.ss]; exact .inl n.loc) (.inr (by rw [h.ss]; exact n.loc))
theorem pg_nc (h : At m N sc k X) (n : NC N sc i x) (hf : ∀ y, X.fn y = true) : PG X (.Name x pos) (gName i) := pg_name (by rw [h.nn]; exact h.nd) (by rw [h.nn]; exact n.ix) (by rw [h.ss]; exact .inr n.cel) (.inl (hf x))
/-- xs[i] = e -/
theorem s_sub {o ix : Expr} {t : TSet} (hs : PSet X t) (q : wE X e σ H fun v H1 => wE X o σ H1 fun x H2 => wE X ix σ H2 fun y H3 => t x y v H3 fun H4 => nx σ H4)
    (ha : ∀ v : Value, assign (.Subscript o ix p1) X.env v = (do
      let ov ← holding [v] (eval o X.env)
      let iv ← holding [v, ov] (eval ix X.env)
      standAt p1
      holding [v, ov, iv] (setItem ov iv v)
      release [v, ov, iv] []) := by with_unfolding_all (intro _; rfl))
    (h1 : swapsWithSole [.Subscript o ix p1] e pos.line X.env = pure false := by with_unfolding_all rfl) (h2 : swappedStores [.Subscript o ix p1] e X.env = pure none := by with_unfolding_all rfl) : wS X (.Assign [.Subscript o ix p1] e pos) ⟨nx, rt, bk, ct⟩ σ H :=
  toS (ps_asg cE (pg_sub cE cE hs ha) h1 h2) q
/-- xs[i] = e, xs a list -/
theorem s_subL {o ix : Expr} (q : wE X e σ H fun v H1 => wE X o σ H1 fun x H2 => wE X ix σ H2 fun y H3 => ∃ (p : Addr) (xs : List V) (z : Int) (j : Nat), x = .ref p ∧ y = .int z ∧ H3 p = some (.lst xs) ∧ ixN xs.length z = some j ∧ nx σ (upd H3 p (.lst (xs.set j v))))
    (ha : ∀ v : Value, assign (.Subscript o ix p1) X.env v = (do
      let ov ← holding [v] (eval o X.env)
      let iv ← holding [v, ov] (eval ix X.env)
      standAt p1
      holding [v, ov, iv] (setItem ov iv v)
      release [v, ov, iv] []) := by with_unfolding_all (intro _; rfl))
    (h1 : swapsWithSole [.Subscript o ix p1] e pos.line X.env = pure false := by with_unfolding_all rfl) (h2 : swappedStores [.Subscript o ix p1] e X.env = pure none := by with_unfolding_all rfl) : wS X (.Assign [.Subscript o ix p1] e pos) ⟨nx, rt, bk, ct⟩ σ H :=
  s_sub set_list q ha h1 h2
/-- for x in range(e) -/
theorem s_forR {tg : Expr} {g : TG} {po : Pos} (h : At m N sc k X) (hg : PG X tg g) (hm : m.mg "range" = none) (hgl : sc.names.lookup ("range" : Str) = some .globalImplicit)
    (q : wE X e σ H fun v H1 => ∃ z : Int, v = .int z ∧ -(2 ^ 62) ≤ z ∧ z < 2 ^ 62 ∧ ∃ Pv : Nat → L2.St → Hp → Prop, Pv 0 σ H1 ∧ (∀ i σ H, i < z.toNat → Pv i σ H → g (.int i) σ H fun σ2 H2 => wB X body ⟨Pv (i + 1), rt, nx, Pv (i + 1)⟩ σ2 H2) ∧ ∀ σ H, Pv z.toNat σ H → nx σ H)
    (hs : starEach [e] X.env = [(false, eval e X.env)] := by with_unfolding_all rfl) (hf : ∀ x, foldedSetIterable (.Call (.Name "range" p1) [e] [] p2) X.env x = pure x := by with_unfolding_all (intro _; rfl)) : wS X (.For tg (.Call (.Name "range" p1) [e] [] p2) body [] po) ⟨nx, rt, bk, ct⟩ σ H := by
  refine toS (ps_for h.pass h.calm (pi_range1 (h.gl hgl) (by rw [h.mm]; exact hm) (pa_cons cE pa_nil hs) hs) hg cB hf) ?_
  refine wE.mono q fun v H1 ⟨z, ez, z1, z2, Pv, p0, turn, fin⟩ => ⟨z, by rw [ez], z1, z2, ?_⟩
  exact for_range (lo := 0) (n := z.toNat) Pv p0 (fun i σ H hi hp => by simpa using turn i σ H hi hp) fin
/-- for x in xs, xs a list that stands still -/
theorem s_forL {tg : Expr} {g : TG} {po : Pos} (h : At m N sc k X) (hg : PG X tg g)
    (q : wE X e σ H fun v H1 => ∃ (a : Addr) (xs : List V), v = .ref a ∧ SqL m.K H1 a xs ∧ ∃ Pv : Nat → L2.St → Hp → Prop, Pv 0 σ H1 ∧ (∀ i σ H, i ≤ xs.length → Pv i σ H → SqL m.K H a xs) ∧ (∀ i x σ H, xs[i]? = some x → Pv i σ H → g x σ H fun σ2 H2 => wB X body ⟨Pv (i + 1), rt, nx, Pv (i + 1)⟩ σ2 H2) ∧ ∀ σ H, Pv xs.length σ H → nx σ H)
    (hf : ∀ x, foldedSetIterable e X.env x = pure x := by with_unfolding_all (intro _; rfl)) : wS X (.For tg e body [] po) ⟨nx, rt, bk, ct⟩ σ H := by
  refine toS (ps_for h.pass h.calm (pi_list cE) hg cB hf) ?_
  refine wE.mono q fun v H1 ⟨a, xs, ea, hs, Pv, p0, hl, turn, fin⟩ => ⟨a, ea, ⟨xs, by rw [h.kk]; exact hs⟩, ?_⟩
  exact for_list (K := X.K) (a := a) (xs := xs) Pv p0 (fun i σ H hi hp => by rw [h.kk]; exact hl i σ H hi hp) turn fin
/-- for x in t, t a tuple -/
theorem s_forT {tg : Expr} {g : TG} {po : Pos} (h : At m N sc k X) (hg : PG X tg g)
    (q : wE X e σ H fun v H1 => ∃ (a : Addr) (xs : List V), v = .ref a ∧ SqT m.K H1 a xs ∧ ∃ Pv : Nat → L2.St → Hp → Prop, Pv 0 σ H1 ∧ (∀ i σ H, i ≤ xs.length → Pv i σ H → SqT m.K H a xs) ∧ (∀ i x σ H, xs[i]? = some x → Pv i σ H → g x σ H fun σ2 H2 => wB X body ⟨Pv (i + 1), rt, nx, Pv (i + 1)⟩ σ2 H2) ∧ ∀ σ H, Pv xs.length σ H → nx σ H)
    (hf : ∀ x, foldedSetIterable e X.env x = pure x := by with_unfolding_all (intro _; rfl)) : wS X (.For tg e body [] po) ⟨nx, rt, bk, ct⟩ σ H := by
  refine toS (ps_for h.pass h.calm (pi_tup cE) hg cB hf) ?_
  refine wE.mono q fun v H1 ⟨a, xs, ea, hs, Pv, p0, hl, turn, fin⟩ => ⟨a, ea, ⟨xs, by rw [h.kk]; exact hs⟩, ?_⟩
  exact for_tup (K := X.K) (a := a) (xs := xs) Pv p0 (fun i σ H hi hp => by rw [h.kk]; exact hl i σ H hi hp) turn fin
end

/-! ### a def by its body -/
/-- what a def that makes lambdas knows of its place besides -/
structure AtM (X : Cx) (x : Str) (cdv : Value) : Prop where
  code : X.env.code = cdv
  qual : X.env.qual = x ++ ".<locals>."
  fn : ∀ y, X.fn y = true
  ex : X.ex = []
section
variable {m : Md} {N ps : List Str} {k : Nat} {x qual : Str} {st : Stmt} {f : Addr} {fd : FuncData} {sp : Sp}
/-- a def that lets no exception out, by its body -/
theorem fnG_of (F : C8.Fun m.K x qual st f fd) (S : FnScope N ps (C8.fnScope st)) (len : ∀ vs H Q E, sp vs H Q E → vs.length = ps.length)
    (hb : ∀ (X : Cx) (vs : List V) (H : Hp) (Q : VK) (E : XK), At m N (C8.fnScope st) k X → AtM X qual fd.code → sp vs H Q E → wB X (C8.fnBody st) { nx := fun _ H' => Q .non H', rt := Q } (start N vs) H) : FnG m C8.CX0 (k + 1) f fd ps sp := by
  obtain ⟨oc, od, dV, kV, doc, pm, an, cdv, ct, osl, rfl, lk, hc⟩ := F.ex
  refine ⟨len, fun A outer s H args us vs Q E hg hr e0 bt r q => ?_⟩
  refine LamX.run_ofS (CX := C8.CX0) (N := N) lk hc S hr e0 bt r (len _ _ _ _ q) fun hr' => ⟨_, PSs.nox cB, ?_⟩
  exact hb (cxOf C8.CX0 m.P m.w m.K m.mg m.base N qual (C8.fnScope st) f cdv A outer s H E).nox vs H Q E ⟨rfl, rfl, rfl, rfl, rfl, rfl, rfl, rfl, hr', PassesOwn.never, S.nd, hg⟩ ⟨rfl, rfl, fun _ => rfl, rfl⟩ q
theorem cal_ofM (F : C8.Def m.K m.mg x st f fd) (b : Binds m.K fd ps []) (S : FnScope N ps (C8.fnScope st)) (len : ∀ vs H Q E, sp vs H Q E → vs.length = ps.length)
    (hb : ∀ (X : Cx) (vs : List V) (H : Hp) (Q : VK) (E : XK), At m N (C8.fnScope st) k X → AtM X x fd.code → sp vs H Q E → wB X (C8.fnBody st) { nx := fun _ H' => Q .non H', rt := Q } (start N vs) H) : Cal m (k + 1) x sp :=
  ⟨f, fd, ps, [], fnG_of F.fn S len hb, F.mgf, F.kp, b, .nil⟩
theorem cal_of (F : C8.Def m.K m.mg x st f fd) (b : Binds m.K fd ps []) (S : FnScope N ps (C8.fnScope st)) (len : ∀ vs H Q E, sp vs H Q E → vs.length = ps.length)
    (hb : ∀ (X : Cx) (vs : List V) (H : Hp) (Q : VK) (E : XK), At m N (C8.fnScope st) k X → sp vs H Q E → wB X (C8.fnBody st) { nx := fun _ H' => Q .non H', rt := Q } (start N vs) H) : Cal m (k + 1) x sp :=
  cal_ofM F b S len fun X vs H Q E h _ q => hb X vs H Q E h q
end
theorem atI_at {α : Type} {xs : List α} {j : Nat} {v : α} (h : xs[j]? = some v) : atI xs (j : Int) = some v := atI_nat h
end Vf
set_option maxRecDepth 100000
set_option maxHeartbeats 4000000
/-! Lam: lambdas with parameters, made in a def's body and handed on. Own work. -/
namespace Vf
open PySem PySem.Spec PyProof.Rows L2 LamX NdefX

/-- a lambda's words -/
structure LF where
  qual : Str
  params : Arguments
  body : Expr
  scope : Scope
  cl : List (Str × Addr)
  c : Addr
abbrev LF.fd (F : LF) (pm ctv : Value) : FuncData := PySem.W.kla_fn "<lambda>" F.qual F.params F.body F.scope F.cl pm (.ref F.c) ctv
abbrev LF.nf (F : LF) : NF := ⟨"<lambda>", F.qual, F.params, [], F.scope, F.cl, F.c⟩
def LamO (f : Addr) (F : LF) : HO := .ext fun h => ∃ (od : Option Addr) (sl : Array (Option Value)) (pm ctv : Value), h.get? f = some (⟨.type "function", od, .func (F.fd pm ctv), sl⟩ : Obj)
theorem lamO_tbl {f : Addr} {F : LF} (ps : Array Value) : LamO f F ≠ .tbl ps := fun z => by unfold LamO at z; cases z
theorem lamO_at {P : Program} {w : World} {H : Hp} {h : Heap} {f : Addr} {F : LF} (hok : HOk P w H h) (e : H f = some (LamO f F)) : ∃ (od : Option Addr) (sl : Array (Option Value)) (pm ctv : Value), h.get? f = some (⟨.type "function", od, .func (F.fd pm ctv), sl⟩ : Obj) := by
  obtain ⟨z, _, _⟩ := hok f _ e
  exact z
theorem lamO_ok {P : Program} {w : World} {H : Hp} {h : Heap} {f : Addr} {F : LF} {od : Option Addr} {sl : Array (Option Value)} {pm ctv : Value} (e : h.get? f = some (⟨.type "function", od, .func (F.fd pm ctv), sl⟩ : Obj)) : ObjOk P w H h f (LamO f F) :=
  ⟨⟨od, sl, pm, ctv, e⟩, ⟨_, e⟩, fun h1 h2 ⟨od, sl, p, t, z⟩ st => ⟨od, sl, p, t, st _ z⟩⟩

section
variable {X : Cx} {pins : List (Addr × Obj)} {σ : L2.St} {H : Hp} {s : Shared}
theorem inv_lam {F : LF} {o : Obj} {t' : Nat} {pm ctv : Value} (I : Inv X pins σ H s) (ho : o = { cls := .type "function", data := .func (F.fd pm ctv) }) :
    Inv X pins σ (upd H s.heap.objs.size (LamO s.heap.objs.size F)) { s with heap := s.heap.push o, toks := t' } := by
  subst ho
  refine I.laid (a := s.heap.objs.size) (fun b u e => Heap.get?_push_of_some _ e) (Nat.le_refl _) ?_
  exact lamO_ok (Heap.get?_push_size _ rfl)
/-- the lambda is made and tracked -/
theorem lam_make3 {T : List (Addr × Str)} {c P : Addr} {params : Arguments} {body : Expr} {scope : Scope} {pos : Pos} {E : Value → Shared → Prop} {Q : Value → Shared → Prop} (I : Inv X pins σ H s) (TB : TabB X.base X.mg c P) (hcode : X.env.code = .ref c)
    (hm : (P, X.env.qual ++ "<lambda>") ∈ T) (hu : ∀ p ∈ T, p.1 = P → p.2 = X.env.qual ++ "<lambda>") (hT : Tabs T H) (hdef : defaultsOf params X.env = ([], [])) (hfree : ∀ y ∈ scope.names, y.2 = .free → ∃ c, X.env.cells.lookup y.1 = some c)
    (h : ∀ (f c' : Addr) (H1 : Hp) (s' : Shared), Inv X pins σ H1 s' → ExtN H H1 → Tabs T H1 → H f = none → H1 f = some (LamO f ⟨X.env.qual ++ "<lambda>", params, body, scope, cloFrom X.env.cells scope.names [], c'⟩) → H1 c' = some (CodeO c' (X.env.qual ++ "<lambda>")) → (∀ b, H1 b = none → H b = none) → Q (.ref f) s') :
    wpAny (model X.prog X.w) X.A (eval (.Lambda params body scope pos) X.env) Q E s := by
  obtain ⟨ps, hP, ht, ha⟩ := hT _ hm
  refine PySem.W.kla_eval hdef ?_
  have bP : s.heap.BuiltinsAt X.mg P := TB.bm.keeps I.bk
  have hP' : s.heap.get? P = some { cls := .none, data := .fields ps } := I.hok P _ hP
  cases hc : codeAmong pos ps.toList with
  | none =>
    refine PySem.W.kla_makeFunction (mg := X.mg) (c := c) (P := P) (ps := ps) (closure_ok hfree) I.ok.glob (I.mod.glob.keeps I.bk) hcode (TB.code.keeps I.bk) hP' ht hc TB.gP bP fun c' ctv h' tk hx hge hlt hrec htb => ?_
    obtain ⟨c2, oc, vs, t, e2, hoc, hd, hv⟩ := hrec
    cases e2
    have nC : H c' = none := I.hok.fresh hge
    have I1 := inv_table (t' := tk) (more := #[rawInt pos.line, rawInt pos.col, .ref c']) (h' := h') I hP (fun b o hb e => hx b o hb e) htb hge ⟨oc, vs, t, hoc, hd, hv⟩
    have hE : ExtN H (upd (upd H P (.tbl (ps ++ #[rawInt pos.line, rawInt pos.col, .ref c']))) c' (CodeO c' (X.env.qual ++ "<lambda>"))) := fun b o e n => by
      rw [upd_ne (ne_of_none e nC), upd_ne (fun z => n ps (Option.some.inj (e.symm.trans (by rw [z]; exact hP))))]
      exact e
    have eL : (ps ++ #[rawInt pos.line, rawInt pos.col, .ref c']).toList = ps.toList ++ [rawInt pos.line, rawInt pos.col, .ref c'] := by simp
    have T1 : Tabs T (upd (upd H P (.tbl (ps ++ #[rawInt pos.line, rawInt pos.col, .ref c']))) c' (CodeO c' (X.env.qual ++ "<lambda>"))) := fun p hp => by
      by_cases hb : p.1 = P
      · rw [hu p hp hb, hb]
        refine ⟨_, by rw [upd_ne (ne_of_none hP nC), upd_same], by rw [eL]; exact PySem.TriplesOk_snoc _ _ _ _ ht, fun p' cv hcv => ?_⟩
        rw [eL] at hcv
        rcases among_app _ ht hcv with z | z
        · obtain ⟨c0, e1, e2⟩ := ha p' cv z
          exact ⟨c0, e1, hE _ _ e2 codeO_ne⟩
        · exact ⟨c', z, upd_same⟩
      · obtain ⟨ps', a1, a2, a3⟩ := hT p hp
        refine ⟨ps', by rw [upd_ne (ne_of_none a1 nC), upd_ne hb]; exact a1, a2, fun p' cv hcv => ?_⟩
        obtain ⟨c0, e1, e2⟩ := a3 p' cv hcv
        exact ⟨c0, e1, hE _ _ e2 codeO_ne⟩
    have nF := I1.hok.fresh (Nat.le_refl _)
    have I2 := inv_lam (F := ⟨X.env.qual ++ "<lambda>", params, body, scope, cloFrom X.env.cells scope.names [], c'⟩) (t' := tk) (pm := (X.mg "__name__").getD .none) (ctv := ctv) I1 rfl
    refine h h'.objs.size c' _ _ I2 (fun b o e n => ?_) (T1.ext fun b o e => ?_) (I.hok.fresh (Nat.le_trans hge (Nat.le_of_lt hlt))) upd_same ?_ (fun b e => upd_none (upd_none (upd_none e)))
    · have e1 := hE b o e n
      exact (upd_ne (ne_of_none e1 nF)).trans e1
    · exact (upd_ne (ne_of_none e nF)).trans e
    · exact (upd_ne (Nat.ne_of_lt hlt)).trans upd_same
  | some cv =>
    obtain ⟨c', e, hco⟩ := ha pos cv hc
    subst e
    refine PySem.W.kla_makeFunctionHit (mg := X.mg) (c := c) (P := P) (ps := ps) (closure_ok hfree) I.ok.glob (I.mod.glob.keeps I.bk) hcode (TB.code.keeps I.bk) hP' ht hc bP fun ctv h' tk hx hsz => ?_
    have I1 : Inv X pins σ H { s with heap := h', toks := tk } := I.kept hx
    have nF : H h'.objs.size = none := I1.hok.fresh (Nat.le_refl _)
    have I2 := inv_lam (F := ⟨X.env.qual ++ "<lambda>", params, body, scope, cloFrom X.env.cells scope.names [], c'⟩) (t' := tk) (pm := (X.mg "__name__").getD .none) (ctv := ctv) I1 rfl
    refine h h'.objs.size c' _ _ I2 (fun b o e n => ?_) (hT.ext fun b o e => ?_) nF upd_same ?_ (fun b e => upd_none e)
    · exact (upd_ne (ne_of_none e nF)).trans e
    · exact (upd_ne (ne_of_none e nF)).trans e
    · exact (upd_ne (ne_of_none hco nF)).trans hco
end

/-! ### what calling a function value promises -/
/-- f, in every heap from H on, keeps the promise sp when it is called -/
structure Callable (m : Md) (k : Nat) (f : Addr) (sp : Sp) (H : Hp) : Prop where
  lam : ∃ F, H f = some (LamO f F)
  run : ∀ (H1 : Hp), ExtN H H1 → ∀ (A : Around) (outer : List Env) (s : Shared) (us : List Value) (vs : List V) (Q : VK), A.guards = some [] → Room k A → Env0 m.P m.w m.K m.mg m.base A outer s H1 → Vals vs us → sp vs H1 Q C8.E0 →
    codeAny (model m.P m.w) A (.call (.ref f) ⟨us, []⟩) (CR C8.CX0 outer m.P m.w H1 s Q C8.E0) s
theorem Callable.ext {m : Md} {k : Nat} {f : Addr} {sp : Sp} {H H' : Hp} (c : Callable m k f sp H) (e : ExtN H H') : Callable m k f sp H' :=
  ⟨by obtain ⟨F, h⟩ := c.lam; exact ⟨F, e _ _ h lamO_tbl⟩, fun H1 e1 => c.run H1 (e.trans e1)⟩
theorem Callable.mono {m : Md} {k j : Nat} {f : Addr} {sp : Sp} {H : Hp} (c : Callable m k f sp H) (h : k ≤ j) : Callable m j f sp H := ⟨c.lam, fun H1 e1 A outer s us vs Q hg hr => c.run H1 e1 A outer s us vs Q hg (hr.mono h)⟩
theorem Callable.imp {m : Md} {k : Nat} {f : Addr} {sp sp' : Sp} {H : Hp} (c : Callable m k f sp H) (h : ∀ H1, ExtN H H1 → ∀ vs Q E, sp' vs H1 Q E → sp vs H1 Q E) : Callable m k f sp' H := ⟨c.lam, fun H1 e1 A outer s us vs Q hg hr e0 r q => c.run H1 e1 A outer s us vs Q hg hr e0 r (h H1 e1 _ _ _ q)⟩

/-- the context of a lambda's body -/
abbrev lcx (m : Md) (N : List Str) (F : LF) (f : Addr) (A : Around) (outer : List Env) (s : Shared) (H : Hp) : Cx := (ncx C8.CX0 m.P m.w m.K m.mg m.base N F.nf f A outer s H C8.E0).nox
/-- a lambda called: its body in its own context; ws: what its captured cells hold -/
theorem lam_run {m : Md} {N ps fr : List Str} {F : LF} {f : Addr} {k : Nat} {A : Around} {outer : List Env} {s : Shared} {H : Hp} {us : List Value} {vs : List V} {ws : List (Option V)} {Q : VK} (S : NScope N ps fr F.scope)
    (hb : ∀ (pm ctv : Value) (us : List Value), us.length = ps.length → bindArgs (F.fd pm ctv) ⟨us, []⟩ = pure (ps.zip us)) (hg : A.guards = some []) (hr : Room (k + 1) A) (e0 : Env0 m.P m.w m.K m.mg m.base A outer s H) (hf : ∃ (od : Option Addr) (sl : Array (Option Value)) (pm ctv : Value), s.heap.get? f = some (⟨.type "function", od, .func (F.fd pm ctv), sl⟩ : Obj))
    (hc : H F.c = some (CodeO F.c F.qual)) (C : CellsAt F.cl fr ws s.heap H) (r : Vals vs us) (hl : vs.length = ps.length)
    (hbody : ∀ (X : Cx), At m N F.scope k X → wE X F.body (startF N vs ws) H Q) : codeAny (model m.P m.w) A (.call (.ref f) ⟨us, []⟩) (CR C8.CX0 outer m.P m.w H s Q C8.E0) s := by
  have lim : s.heap.NoLimit := e0.mod.nolimit.keeps fun b o e => (e0.bs b o e).1
  obtain ⟨od, sl, pm, ctv, ho⟩ := hf
  refine PySem.W.kla_callFunE hr.depth ho rfl S.co S.gen rfl (codeO_at e0.hok hc) ?_
  rw [hb pm ctv us (by rw [← r.length]; exact hl)]
  refine wpAny_pure (wpAny_newFunctionEnv S.nocell (fun ⟨n, _⟩ hy => S.par n (List.of_mem_zip hy).1) (fun h₁ hns hsb => ⟨lim.fresh _ hsb, ?_⟩) S.kind)
  show codeAny _ _ (.expr F.body (envF F.nf f s.heap.objs.size)) _ _
  have kp : ∀ b o, s.heap.get? b = some o → h₁.get? b = some o := fun b o e => hsb.extBut b o (Nat.ne_of_lt (Heap.lt_size e)) (Heap.get?_push_of_some _ e)
  have I : Inv (ncx C8.CX0 m.P m.w m.K m.mg m.base N F.nf f A outer s H C8.E0) [] (startF N vs ws) H { s with heap := h₁, toks := s.toks + (ps.zip us).length } := inv_startN S hr.hd e0 hl r C hns kp
  have hA : At m N F.scope k (lcx m N F f A outer s H) := ⟨rfl, rfl, rfl, rfl, rfl, rfl, rfl, rfl, hr.deeper _, PassesOwn.never, S.nd, hg⟩
  have q := hbody _ hA
  have pe : PE (ncx C8.CX0 m.P m.w m.K m.mg m.base N F.nf f A outer s H C8.E0) F.body (wE (lcx m N F f A outer s H) F.body) := PE.nox cE
  refine PySem.W.kla_codeExpr (wpAny_mono (pe.run [] _ _ H Q I q) (fun v s' hq => ?_) fun e s' hq => hq)
  obtain ⟨w', H', J', rv, q⟩ := hq
  exact ⟨w', H', J'.os, J'.bare, J'.base, J'.hok, rv, q⟩

/-- a name that holds a function value, called -/
theorem w_callv {m : Md} {N : List Str} {sc : Scope} {j k i : Nat} {X : Cx} {x : Str} {sp : Sp} {f : Addr} {σ : L2.St} {H : Hp} {Q : VK} {e : Expr} {es : List Expr} {p pos : Pos} (h : At m N sc j X) (hN : N[i]? = some x) (hv : visB sc x = true) (hs : σ[i]? = some (some (.ref f))) (c : Callable m k f sp H) (hk : k ≤ j)
    (q : wA X (e :: es) σ H fun vs H1 => ExtN H H1 ∧ sp vs H1 Q C8.E0) (hd : (x == ("__debug__" : Str)) = false := by with_unfolding_all decide) (hcd : (x == ("__classdict__" : Str)) = false := by with_unfolding_all decide)
    (he : starEach (e :: es) X.env = (false, eval e X.env) :: starEach es X.env := by with_unfolding_all rfl) (hpl : (backTo pos (starEach es X.env)).any (·.1) = false := by with_unfolding_all rfl) : wE X (.Call (.Name x p) (e :: es) [] pos) σ H Q := by
  unfold wE
  intro pins s I
  refine wpAny_Call_Name_kw (thn ((pe_var (pos := p) (by rw [h.nn]; exact hN) (h.vis hv) hd hcd).run pins s σ H (fun v H1 => v = .ref f ∧ H1 = H) I ⟨.ref f, hs, rfl, rfl⟩) fun u s1 ⟨v, H1, I1, r1, q1⟩ => ?_)
  obtain ⟨rfl, rfl⟩ := q1
  obtain rfl : u = Value.ref f := r1
  obtain ⟨F, hF⟩ := c.lam
  have fnAt : ∀ {H2 : Hp} {s2 : Shared}, Inv X pins σ H2 s2 → ExtN H1 H2 → PySem.W.FnAt f s2.heap := fun {H2 s2} I2 e2 => by
    obtain ⟨od, sl, pm, ctv, ho⟩ := lamO_at I2.hok (e2 _ _ hF lamO_tbl)
    exact ⟨_, od, _, sl, ho⟩
  refine PySem.W.callWith_F (first := []) (fnAt I1 (ExtN.refl _)) (thn ((cA (X := X) (es := e :: es)).run pos pins s1 σ _ _ I1 q) fun us s2 ⟨vs, H2, I2, r, e2, q2⟩ => ⟨fnAt I2 e2, ?_⟩) he hpl
  show wpAny _ _ (call (.ref f) us) _ _ _
  have e0 := I2.env0
  rw [h.pp, h.ww, h.kk, h.mm, h.bb] at e0
  have rc := c.run H2 e2 X.A X.stack s2 us vs Q h.gd (h.room.mono hk) e0 r q2
  rw [← h.pp, ← h.ww] at rc
  refine wpAny_call (codeAny_mono rc fun r s' hq => ?_)
  cases r with
  | error e => exact (show False from hq).elim
  | ok fl =>
    cases fl with
    | ret u => exact I2.after hq
    | next => exact False.elim hq
    | brk => exact False.elim hq
    | cont => exact False.elim hq

/-- a lambda that captures nothing, as a value -/
theorem w_lam0 {m : Md} {N : List Str} {sc : Scope} {j k : Nat} {X : Cx} {T : List (Addr × Str)} {c P : Addr} {qual : Str} {NL ps : List Str} {params : Arguments} {body : Expr} {scope : Scope} {pos : Pos} {sp : Sp} {σ : L2.St} {H : Hp} {Q : VK} (h : At m N sc j X)
    (TB : TabB m.base m.mg c P) (hcode : X.env.code = .ref c) (hqual : X.env.qual ++ "<lambda>" = qual) (hm : (P, qual) ∈ T) (hu : ∀ p ∈ T, p.1 = P → p.2 = qual) (S : NScope NL ps [] scope) (hb : ∀ (c' : Addr) (cl : List (Str × Addr)) (pm ctv : Value) (us : List Value), us.length = ps.length → bindArgs (LF.fd ⟨qual, params, body, scope, cl, c'⟩ pm ctv) ⟨us, []⟩ = pure (ps.zip us))
    (hlen : ∀ vs H Q E, sp vs H Q E → vs.length = ps.length)
    (hbody : ∀ (X : Cx) (vs : List V) (H : Hp) (Q : VK), At m NL scope k X → sp vs H Q C8.E0 → wE X body (startF NL vs []) H Q)
    (hT : Tabs T H) (q : ∀ f H1, ExtN H H1 → Tabs T H1 → (∀ b, H1 b = none → H b = none) → Callable m (k + 1) f sp H1 → Q (.ref f) H1) (hdef : defaultsOf params X.env = ([], []) := by with_unfolding_all rfl) : wE X (.Lambda params body scope pos) σ H Q := by
  unfold wE
  intro pins s I
  subst hqual
  have nofree : ∀ y ∈ scope.names, y.2 = .free → ∃ c, X.env.cells.lookup y.1 = some c := fun y hy e => absurd (S.free y hy e) (by simp)
  refine lam_make3 (T := T) (c := c) (P := P) I (by rw [h.bb, h.mm]; exact TB) hcode hm hu hT hdef nofree fun f c' H1 s' I1 eN T1 f0 f1 c1 nn => ?_
  refine ⟨.ref f, H1, I1, rfl, q f H1 eN T1 nn ⟨⟨_, f1⟩, fun H2 e2 A outer s2 us vs Q2 hg hr e0 r hsp => ?_⟩⟩
  refine lam_run (N := NL) (ps := ps) (fr := []) (ws := []) S (fun pm ctv us hl => hb c' _ pm ctv us hl) hg hr e0 (lamO_at e0.hok (e2 _ _ f1 lamO_tbl)) (e2 _ _ c1 codeO_ne) ?_ r (hlen _ _ _ _ hsp) fun X' hA => hbody X' vs H2 Q2 hA hsp
  have ecl : cloFrom X.env.cells scope.names [] = [] := by
    cases hcl : cloFrom X.env.cells scope.names [] with
    | nil => rfl
    | cons y r =>
      have hm2 : (y.1, y.2) ∈ cloFrom X.env.cells scope.names [] := by rw [hcl]; exact List.mem_cons_self
      rcases cloFrom_mem hm2 with z | ⟨z, _⟩
      · cases z
      · exact absurd (S.free _ z rfl) (by simp)
  refine ⟨rfl, fun y c e => ?_, fun x y c e => ?_, fun i y e => ?_⟩
  · rw [ecl] at e; cases e
  · rw [ecl] at e; cases e
  · simp at e

/-! ### one captured cell, locked while the function is handed on -/
def dl (H : Hp) (c : Addr) : Hp := fun b => if b = c then none else H b
theorem dl_same {H : Hp} {c : Addr} : dl H c c = none := if_pos rfl
theorem dl_ne {H : Hp} {b c : Addr} (h : b ≠ c) : dl H c b = H b := if_neg h
theorem dl_some {H : Hp} {b c : Addr} {o : HO} (h : dl H c b = some o) : b ≠ c ∧ H b = some o := by
  by_cases e : b = c
  · subst e; rw [dl_same] at h; cases h
  · rw [dl_ne e] at h; exact ⟨e, h⟩
abbrev lkO (o : Obj) : HO := .frz o (.own 0)
section
variable {P : Program} {w : World} {H H1 : Hp} {h h' : Heap} {c : Addr} {o : Obj} {fs ex : List Addr}
theorem HOk.lock (x : HOk P w H h) (n : H c = none) (e : h.get? c = some o) : HOk P w (upd H c (lkO o)) h := fun b u q => by
  by_cases hb : b = c
  · subst hb; rw [upd_same] at q; cases q; exact ⟨e, ⟨o, e⟩⟩
  · rw [upd_ne hb] at q
    exact (x b u q).stay (fun _ _ _ r => r) (fun d r => by rw [upd_ne (ne_of_none r n)]; exact r) fun d xs r => by rw [upd_ne (ne_of_none r n)]; exact r
theorem HOk.unlock (x : HOk P w H h) (e : H c = some (lkO o)) : HOk P w (dl H c) h := fun b u q => by
  obtain ⟨hb, q⟩ := dl_some q
  exact (x b u q).stay (fun _ _ _ r => r) (fun d r => by rw [dl_ne (fun z => by subst z; rw [e] at r; cases r)]; exact r) fun d xs r => by rw [dl_ne (fun z => by subst z; rw [e] at r; cases r)]; exact r
/-- behind a run that saw the lock -/
theorem Un.unlock (u : Un fs ex (upd H c (lkO o)) H1 h h') (ok : HOk P w H1 h') (n : H c = none) (e : h.get? c = some o) (hfs : c ∉ fs) (hex : c ∉ ex) : Un fs ex H (dl H1 c) h h' := by
  have hc1 : H1 c = some (lkO o) := u.frzs c o _ upd_same
  have hc' : h'.get? c = some o := (ok c _ hc1).1
  refine ⟨fun b ob q nb hf hx => ?_, fun b ob q nb hf hx => ?_, fun b ob q nb hx => ?_, fun b ob q hx => u.there b ob q hx, fun b xs q => ?_, fun b ob z q => ?_, fun b ps q => ?_⟩
  · by_cases hb : b = c
    · subst hb; rw [e] at q; cases q; exact hc'
    · exact u.keep b ob q (by rw [upd_ne hb]; exact nb) hf hx
  · by_cases hb : b = c
    · subst hb; exact absurd hf hfs
    · exact u.slot b ob q (by rw [upd_ne hb]; exact nb) hf hx
  · by_cases hb : b = c
    · subst hb; exact dl_same
    · rw [dl_ne hb]; exact u.free b ob q (by rw [upd_ne hb]; exact nb) hx
  · have hb : b ≠ c := ne_of_none q n
    rw [dl_ne hb]; exact u.tups b xs (by rw [upd_ne hb]; exact q)
  · have hb : b ≠ c := ne_of_none q n
    rw [dl_ne hb]; exact u.frzs b ob z (by rw [upd_ne hb]; exact q)
  · have hb : b ≠ c := ne_of_none q n
    obtain ⟨more, z⟩ := u.tbls b ps (by rw [upd_ne hb]; exact q)
    exact ⟨more, by rw [dl_ne hb]; exact z⟩
/-- a run from which the lock was taken away, with it again -/
theorem Un.relock (u : Un fs ex (dl H c) H1 h h') (e : H c = some (lkO o)) (ec : h.get? c = some o) (hfs : c ∉ fs) (hex : c ∉ ex) : Un fs ex H (upd H1 c (lkO o)) h h' := by
  refine ⟨fun b ob q nb hf hx => ?_, fun b ob q nb hf hx => ?_, fun b ob q nb hx => ?_, fun b ob q hx => u.there b ob q hx, fun b xs q => ?_, fun b ob z q => ?_, fun b ps q => ?_⟩
  · have hb : b ≠ c := fun z => by subst z; rw [e] at nb; cases nb
    exact u.keep b ob q (by rw [dl_ne hb]; exact nb) hf hx
  · have hb : b ≠ c := fun z => by subst z; rw [e] at nb; cases nb
    exact u.slot b ob q (by rw [dl_ne hb]; exact nb) hf hx
  · have hb : b ≠ c := fun z => by subst z; rw [e] at nb; cases nb
    rw [upd_ne hb]; exact u.free b ob q (by rw [dl_ne hb]; exact nb) hx
  · have hb : b ≠ c := fun z => by subst z; rw [e] at q; cases q
    rw [upd_ne hb]; exact u.tups b xs (by rw [dl_ne hb]; exact q)
  · by_cases hb : b = c
    · subst hb; rw [e] at q; cases q; exact upd_same
    · rw [upd_ne hb]; exact u.frzs b ob z (by rw [dl_ne hb]; exact q)
  · have hb : b ≠ c := fun z => by subst z; rw [e] at q; cases q
    obtain ⟨more, z⟩ := u.tbls b ps (by rw [dl_ne hb]; exact q)
    exact ⟨more, by rw [upd_ne hb]; exact z⟩
theorem HOk.relock (x : HOk P w H1 h') (u : Un fs ex (dl H c) H1 h h') (ec : h.get? c = some o) (hfs : c ∉ fs) (hex : c ∉ ex) : HOk P w (upd H1 c (lkO o)) h' := by
  have hn : H1 c = none := u.free c o ec dl_same hex
  exact HOk.lock x hn (u.keep c o ec dl_same hfs hex)
end
/-- the captured cell of a function value: its address, its object, what it holds -/
structure Cap1 (F : LF) (y : Str) (c : Addr) (o : Obj) (v : V) : Prop where
  look : F.cl.lookup y = some c
  only : ∀ y' c', F.cl.lookup y' = some c' → y' = y
  data : ∃ u, o.data = .cell (some u) ∧ RelV v u
theorem ExtN.frz {H H' : Hp} (e : ExtN H H') {c : Addr} {o : Obj} {u : HO} (h : H c = some (.frz o u)) : H' c = some (.frz o u) := e _ _ h (fun _ z => by cases z)
/-- a lambda that captures one name, handed to a def by its last argument: g(e1, lambda ..: ..) -/
theorem w_lam1 {m : Md} {N : List Str} {sc : Scope} {j k kg iy : Nat} {X : Cx} {T : List (Addr × Str)} {c P : Addr} {x y xg : Str} {cdv : Value} {NL ps : List Str} {params : Arguments} {body e1 : Expr} {scope : Scope} {lpos p pos : Pos} {spw spg : Sp} {v : V} {σ : L2.St} {H : Hp} {Q : VK}
    (h : At m N sc j X) (hm' : AtM X x cdv) (TB : TabB m.base m.mg c P) (hcode : cdv = .ref c) (hm : (P, x ++ ".<locals>." ++ "<lambda>") ∈ T) (hu : ∀ p ∈ T, p.1 = P → p.2 = x ++ ".<locals>." ++ "<lambda>") (S : NScope NL ps [y] scope) (hy : (y, NameKind.free) ∈ scope.names)
    (hyN : N[iy]? = some y) (hyc : sc.names.lookup y = some .cell) (hyv : σ[iy]? = some (some v))
    (hb : ∀ (c' : Addr) (cl : List (Str × Addr)) (pm ctv : Value) (us : List Value), us.length = ps.length → bindArgs (LF.fd ⟨x ++ ".<locals>." ++ "<lambda>", params, body, scope, cl, c'⟩ pm ctv) ⟨us, []⟩ = pure (ps.zip us))
    (hlen : ∀ vs H Q E, spw vs H Q E → vs.length = ps.length) (hbody : ∀ (X : Cx) (vs : List V) (H : Hp) (Q : VK), At m NL scope k X → spw vs H Q C8.E0 → wE X body (startF NL vs [some v]) H Q)
    (g : Cal m kg xg spg) (hkg : kg ≤ j) (hgl : sc.names.lookup xg = some .globalImplicit)
    (q : wE X e1 σ H fun v1 H1 => Tabs T H1 ∧ ∀ (f ca : Addr) (o : Obj) (H2 : Hp), H1 ca = none → ExtN H1 H2 → Tabs T H2 → H2 ca = some (lkO o) →
      Callable m (k + 1) f (fun vs H Q E => H ca = some (lkO o) ∧ spw vs (dl H ca) (fun v H' => Q v (upd H' ca (lkO o))) E) H2 → spg [v1, .ref f] H2 (fun v H3 => Q v (dl H3 ca)) C8.E0)
    (hdef : defaultsOf params X.env = ([], []) := by with_unfolding_all rfl) (hdb : (xg == ("__debug__" : Str)) = false := by with_unfolding_all decide)
    (he : starEach [e1, .Lambda params body scope lpos] X.env = (false, eval e1 X.env) :: starEach [.Lambda params body scope lpos] X.env := by with_unfolding_all rfl) (he2 : starEach [.Lambda params body scope lpos] X.env = [(false, eval (.Lambda params body scope lpos) X.env)] := by with_unfolding_all rfl)
    (hpl : (backTo pos (starEach [.Lambda params body scope lpos] X.env)).any (·.1) = false := by with_unfolding_all rfl) : wE X (.Call (.Name xg p) [e1, .Lambda params body scope lpos] [] pos) σ H Q := by
  subst hcode
  obtain ⟨fg, fdg, psg, dsg, Fg, hmg, kpg, bg, dg⟩ := g.ex
  unfold wE
  intro pins s I
  have bs0 := I.ok
  refine wpAny_Call_Name_kw (ld_glob (u := .ref fg) I (h.gl hgl) (by rw [h.mm]; exact hmg) ?_ hdb)
  refine PySem.W.callWith_K (h₀ := X.base) I.ok.mod.kin (by rw [h.kk]; exact kpg) ?_ he hpl
  rw [he]
  show wpAny _ _ (spliced ((false, eval e1 X.env) :: backTo pos (starEach [.Lambda params body scope lpos] X.env))) _ _ s
  refine Calls.spliced_cons (thn ((cE (X := X) (e := e1)).run pins s σ H _ I q) fun u1 s1 ⟨v1, H1, I1, r1, hT, q1⟩ => ?_)
  rw [he2]
  show wpAny _ _ (spliced ((false, eval (.Lambda params body scope lpos) X.env) :: backTo pos [])) _ _ s1
  have hq : X.env.qual ++ "<lambda>" = x ++ ".<locals>." ++ "<lambda>" := by rw [hm'.qual]
  have hfree : ∀ z ∈ scope.names, z.2 = .free → X.env.scope.names.lookup z.1 = some .cell ∨ X.env.scope.names.lookup z.1 = some .free := fun z hz e => by
    have := S.free z hz e
    simp only [List.mem_singleton] at this
    rw [this, h.ss]; exact .inl hyc
  have hfree' : ∀ z ∈ scope.names, z.2 = .free → ∃ c, X.env.cells.lookup z.1 = some c := fun z hz e => (hfree z hz e).elim (fun k => I1.ok.has _ (.inl k)) fun k => I1.ok.has _ (.inr k)
  refine Calls.spliced_cons (lam_make3 (T := T) (c := c) (P := P) I1 (by rw [h.bb, h.mm]; exact TB) hm'.code (by rw [hq]; exact hm) (by rw [hq]; exact hu) hT hdef hfree' fun f c' H2 s2 I2 eN T2 f0 f1 c1 nn => ?_)
  refine Calls.spliced_nil ⟨I2.kIn, ?_⟩
  rw [hq] at f1 c1
  -- the captured cell
  have cp : Caps X (cloFrom X.env.cells scope.names []) [y] [iy] := Caps.made I2.ok hfree (fun z hz => by simp only [List.mem_singleton] at hz; subst hz; exact hy) (by simp [h.nn, hyN])
  have C := cells_of I2 cp
  obtain ⟨ca, hca, hval⟩ := C.has 0 y rfl
  have eslot : slotAt σ iy = some v := slotAt_of hyv
  obtain ⟨u, ru, o, ho, hod⟩ := hval v (by show ([iy].map (slotAt σ))[0]? = _; simp [eslot])
  have nca : H2 ca = none := (C.all y ca hca).1
  have nca1 : H1 ca = none := nn ca nca
  have hX : X.env.cells.lookup y = some ca := cp.sub y ca hca
  have only : ∀ y' c'', (cloFrom X.env.cells scope.names []).lookup y' = some c'' → y' = y := fun y' c'' e => by
    rcases cloFrom_mem (PySem.mem_of_lookup e) with z | ⟨z, _⟩
    · cases z
    · simpa using S.free (y', .free) z rfl
  have cs0 : X.s_0.heap.objs.size ≤ ca := I2.ok.cab y ca (hm'.fn y) hX
  have ncb : ∀ b ob, X.base.get? b = some ob → b ≠ ca := fun b ob e z => by
    subst z
    exact absurd (Nat.lt_of_lt_of_le (Heap.lt_size e) (Nat.le_trans I2.ok.bsz cs0)) (Nat.lt_irrefl _)
  have nfs : ca ∉ frs X.stack := fun z => by
    rcases List.mem_cons.mp (I2.stkSub _ z) with e | hb'
    · exact I2.cne y ca hX e
    · obtain ⟨_, ob, hob, _⟩ := I2.ok.funs.mem hb'
      exact absurd (Nat.lt_of_lt_of_le (Heap.lt_size hob) cs0) (Nat.lt_irrefl _)
  let H3 := upd H2 ca (lkO o)
  have ok3 : HOk X.prog X.w H3 s2.heap := HOk.lock I2.hok nca ho
  have e0 := I2.env0
  have e03 : Env0 X.prog X.w X.K X.mg X.base X.A X.stack s2 H3 := ⟨e0.frames, e0.mod, fun b ob e => ⟨(e0.bs b ob e).1, by show upd H2 ca (lkO o) b = none; rw [upd_ne (ncb b ob e)]; exact (e0.bs b ob e).2⟩, e0.bsz, e0.funs,
    fun b hb' => by show upd H2 ca (lkO o) b = none; rw [upd_ne (fun z => nfs (by rw [← z]; exact hb'))]; exact e0.frf b hb', ok3, e0.bare⟩
  have x23 : ExtN H2 H3 := fun b ob e _ => by show upd H2 ca (lkO o) b = _; rw [upd_ne (ne_of_none e nca)]; exact e
  have t3 : Tabs T H3 := Tabs.ext T2 fun b ob e => by show upd H2 ca (lkO o) b = _; rw [upd_ne (ne_of_none e nca)]; exact e
  have F3 : H3 f = some (LamO f _) := x23 _ _ f1 lamO_tbl
  have C3 : H3 c' = some (CodeO c' _) := x23 _ _ c1 codeO_ne
  have hcall : Callable m (k + 1) f (fun vs H Q E => H ca = some (lkO o) ∧ spw vs (dl H ca) (fun v H' => Q v (upd H' ca (lkO o))) E) H3 := by
    refine ⟨⟨_, F3⟩, fun H4 e4 A outer s4 us vs Q4 hg hr e04 r hsp => ?_⟩
    obtain ⟨hc4, hsp⟩ := hsp
    have ho4 : s4.heap.get? ca = some o := (e04.hok ca _ hc4).1
    have nf4 : ca ∉ frs outer := fun z => by have := e04.frf ca z; rw [hc4] at this; cases this
    have e05 : Env0 m.P m.w m.K m.mg m.base A outer s4 (dl H4 ca) := ⟨e04.frames, e04.mod, fun b ob e => ⟨(e04.bs b ob e).1, by
        by_cases hb' : b = ca
        · subst hb'; exact dl_same
        · rw [dl_ne hb']; exact (e04.bs b ob e).2⟩, e04.bsz, e04.funs, fun b hb' => by rw [dl_ne (fun z => nf4 (by rw [← z]; exact hb'))]; exact e04.frf b hb', HOk.unlock e04.hok hc4, e04.bare⟩
    have nef : c' ≠ ca := ne_of C3 (show H3 ca = some (lkO o) from upd_same) (by unfold CodeO; intro z; cases z)
    have F4 := e4 _ _ F3 lamO_tbl
    have C4 : dl H4 ca c' = some (CodeO c' (x ++ ".<locals>." ++ "<lambda>")) := by rw [dl_ne nef]; exact e4 _ _ C3 codeO_ne
    have run := lam_run (m := m) (N := NL) (ps := ps) (fr := [y]) (ws := [some v]) (F := ⟨x ++ ".<locals>." ++ "<lambda>", params, body, scope, cloFrom X.env.cells scope.names [], c'⟩) (f := f) (Q := fun v H' => Q4 v (upd H' ca (lkO o))) S (fun pm ctv us hl => hb c' _ pm ctv us hl) hg hr e05 (lamO_at e04.hok F4) C4
      ⟨rfl, fun y' c'' e => ?_, fun a b c0 h1 h2 => by rw [only a c0 h1, only b c0 h2], fun i y' e => ?_⟩ r (hlen _ _ _ _ hsp) fun X' hA => hbody X' vs _ _ hA hsp
    · refine codeAny_mono run fun r s' hq => ?_
      cases r with
      | error e => exact hq
      | ok fl =>
        cases fl with
        | ret u' =>
          obtain ⟨v', H', os, bare, un, hok, rv, qq⟩ := hq
          exact ⟨v', upd H' ca (lkO o), os, bare, Un.relock un hc4 ho4 nf4 (by simp), HOk.relock hok un ho4 nf4 (by simp), rv, qq⟩
        | next => exact hq
        | brk => exact hq
        | cont => exact hq
    · have := only y' c'' e
      subst this
      rw [hca] at e; cases e
      exact ⟨dl_same, _, o, ho4, hod⟩
    · match i, e with
      | 0, e =>
        cases e
        exact ⟨ca, hca, fun v' ev => by cases ev; exact ⟨u, ru, o, ho4, hod⟩⟩
  have hsp := q1 f ca o H3 nca1 (eN.trans x23) t3 upd_same hcall
  have r2 : Vals ([v1, .ref f] ++ []) ([u1, .ref f] ++ dsg) := Vals.append (Paired.cons r1 (Paired.cons rfl .nil) : Vals [v1, .ref f] [u1, .ref f]) dg
  have rc := Fg.run X.A X.stack s2 H3 ⟨[u1, .ref f], []⟩ ([u1, .ref f] ++ dsg) [v1, .ref f] (fun v H3 => Q v (dl H3 ca)) C8.E0 h.gd (h.room.mono hkg) (by rw [← h.pp, ← h.ww, ← h.kk, ← h.mm, ← h.bb]; exact e03)
    (bg s2 [u1, .ref f] (by rw [← h.kk]; exact I2.kIn) (by rw [← r2.length]; have := Fg.len _ _ _ _ hsp; simpa using this)) (by simpa using r2) hsp
  show wpAny _ _ (call (.ref fg) [u1, .ref f]) _ _ _
  rw [← h.pp, ← h.ww] at rc
  refine wpAny_call (codeAny_mono rc fun r s' hq => ?_)
  cases r with
  | error e => exact (show False from hq).elim
  | ok fl =>
    cases fl with
    | ret u' =>
      obtain ⟨v', H', os, bare, un, hok, rv, qq⟩ := hq
      exact I2.after ⟨v', dl H' ca, os, bare, Un.unlock un hok nca ho nfs (by simp), HOk.unlock hok (un.frzs ca o _ upd_same), rv, qq⟩
    | next => exact False.elim hq
    | brk => exact False.elim hq
    | cont => exact False.elim hq
end Vf
set_option maxRecDepth 100000
set_option maxHeartbeats 4000000
/-! Dat: data at any depth in the abstract heap, with the addresses that it lies at. Own work. -/
namespace Vf
open PySem PySem.Spec PyProof.Rows L2 LamX

mutual
/-- v is the data d; all lists of it lie at addresses of A -/
inductive Da (K : PySem.W.Frag) (A : Addr → Prop) (H : Hp) : V → PyData → Prop
  | non : Da K A H .non .none
  | bl (b : Bool) : Da K A H (.bl b) (.bool b)
  | int (i : Int) : Da K A H (.int i) (.int i)
  | str (x : Str) : Da K A H (.str x) (.str x)
  | lst {a : Addr} {xs : List V} {ds : List PyData} : A a → SqL K H a xs → DaAll K A H xs ds → Da K A H (.ref a) (.list ds)
  | tup {a : Addr} {xs : List V} {ds : List PyData} : SqT K H a xs → DaAll K A H xs ds → Da K A H (.ref a) (.tuple ds)
inductive DaAll (K : PySem.W.Frag) (A : Addr → Prop) (H : Hp) : List V → List PyData → Prop
  | nil : DaAll K A H [] []
  | cons {v : V} {vs : List V} {d : PyData} {ds : List PyData} : Da K A H v d → DaAll K A H vs ds → DaAll K A H (v :: vs) (d :: ds)
end
section
variable {K : PySem.W.Frag} {A A' : Addr → Prop} {H H' : Hp}
mutual
theorem Da.dp : ∀ (d : PyData) (v : V), Da K A H v d → Dp K H v d
  | .none, _, h => by cases h; exact .non
  | .bool b, _, h => by cases h; exact .bl b
  | .int i, _, h => by cases h; exact .int i
  | .str x, _, h => by cases h; exact .str x
  | .list ds, _, h => by cases h with | lst _ s r => exact .lst s (DaAll.dp ds _ r)
  | .tuple ds, _, h => by cases h with | tup s r => exact .tup s (DaAll.dp ds _ r)
  | .dict _, _, h => by cases h
theorem DaAll.dp : ∀ (ds : List PyData) (vs : List V), DaAll K A H vs ds → DpAll K H vs ds
  | [], _, h => by cases h; exact .nil
  | d :: ds, _, h => by cases h with | cons a b => exact .cons (Da.dp d _ a) (DaAll.dp ds _ b)
end
mutual
theorem Da.mono (hA : ∀ a, A a → A' a) (hL : ∀ a xs, A a → SqL K H a xs → SqL K H' a xs) (hT : ∀ a xs, SqT K H a xs → SqT K H' a xs) : ∀ (d : PyData) (v : V), Da K A H v d → Da K A' H' v d
  | .none, _, h => by cases h; exact .non
  | .bool b, _, h => by cases h; exact .bl b
  | .int i, _, h => by cases h; exact .int i
  | .str x, _, h => by cases h; exact .str x
  | .list ds, _, h => by cases h with | lst a s r => exact .lst (hA _ a) (hL _ _ a s) (DaAll.mono hA hL hT ds _ r)
  | .tuple ds, _, h => by cases h with | tup s r => exact .tup (hT _ _ s) (DaAll.mono hA hL hT ds _ r)
  | .dict _, _, h => by cases h
theorem DaAll.mono (hA : ∀ a, A a → A' a) (hL : ∀ a xs, A a → SqL K H a xs → SqL K H' a xs) (hT : ∀ a xs, SqT K H a xs → SqT K H' a xs) : ∀ (ds : List PyData) (vs : List V), DaAll K A H vs ds → DaAll K A' H' vs ds
  | [], _, h => by cases h; exact .nil
  | d :: ds, _, h => by cases h with | cons a b => exact .cons (Da.mono hA hL hT d _ a) (DaAll.mono hA hL hT ds _ b)
end
mutual
theorem Dp.noDict : ∀ (d : PyData) (v : V), Dp K H v d → d.hasDict = false
  | .none, _, _ => rfl
  | .bool _, _, _ => rfl
  | .int _, _, _ => rfl
  | .str _, _, _ => rfl
  | .list ds, _, h => by cases h with | lst s r => show PyData.hasDictAll ds = false; exact DpAll.noDict ds _ r
  | .tuple ds, _, h => by cases h with | tup s r => show PyData.hasDictAll ds = false; exact DpAll.noDict ds _ r
  | .dict _, _, h => by cases h
theorem DpAll.noDict : ∀ (ds : List PyData) (vs : List V), DpAll K H vs ds → PyData.hasDictAll ds = false
  | [], _, _ => rfl
  | d :: ds, _, h => by cases h with | cons a b => show (d.hasDict || PyData.hasDictAll ds) = false; rw [Dp.noDict d _ a, DpAll.noDict ds _ b]; rfl
end
/-- everything -/
abbrev Any : Addr → Prop := fun _ => True
mutual
theorem Da.of : ∀ (d : PyData) (v : V), Dp K H v d → Da K Any H v d
  | .none, _, h => by cases h; exact .non
  | .bool b, _, h => by cases h; exact .bl b
  | .int i, _, h => by cases h; exact .int i
  | .str x, _, h => by cases h; exact .str x
  | .list ds, _, h => by cases h with | lst s r => exact .lst trivial s (DaAll.of ds _ r)
  | .tuple ds, _, h => by cases h with | tup s r => exact .tup s (DaAll.of ds _ r)
  | .dict _, _, h => by cases h
theorem DaAll.of : ∀ (ds : List PyData) (vs : List V), DpAll K H vs ds → DaAll K Any H vs ds
  | [], _, h => by cases h; exact .nil
  | d :: ds, _, h => by cases h with | cons a b => exact .cons (Da.of d _ a) (DaAll.of ds _ b)
end
theorem DaAll.length : ∀ {vs : List V} {ds : List PyData}, DaAll K A H vs ds → vs.length = ds.length
  | _, _, .nil => rfl
  | _, _, .cons _ r => congrArg (· + 1) (DaAll.length r)
theorem DaAll.get : ∀ {vs : List V} {ds : List PyData} {i : Nat} {d : PyData}, DaAll K A H vs ds → ds[i]? = some d → ∃ v, vs[i]? = some v ∧ Da K A H v d
  | _, _, i, _, .nil, e => by simp at e
  | _, _, 0, _, .cons a _, e => by simp at e; subst e; exact ⟨_, rfl, a⟩
  | _, _, i + 1, d, .cons _ r, e => by
    obtain ⟨v, h1, h2⟩ := DaAll.get (i := i) r (by simpa using e)
    exact ⟨v, by simpa using h1, h2⟩
theorem DaAll.getV : ∀ {vs : List V} {ds : List PyData} {i : Nat} {v : V}, DaAll K A H vs ds → vs[i]? = some v → ∃ d, ds[i]? = some d ∧ Da K A H v d
  | _, _, i, _, .nil, e => by simp at e
  | _, _, 0, _, .cons a _, e => by simp at e; subst e; exact ⟨_, rfl, a⟩
  | _, _, i + 1, d, .cons _ r, e => by
    obtain ⟨v, h1, h2⟩ := DaAll.getV (i := i) r (by simpa using e)
    exact ⟨v, by simpa using h1, h2⟩
theorem DaAll.append : ∀ {vs ws : List V} {ds es : List PyData}, DaAll K A H vs ds → DaAll K A H ws es → DaAll K A H (vs ++ ws) (ds ++ es)
  | _, _, _, _, .nil, s => s
  | _, _, _, _, .cons a r, s => .cons a (DaAll.append r s)
end

/-! ### how heaps grow -/
theorem SqL.ext {K : PySem.W.Frag} {H H' : Hp} {a : Addr} {xs : List V} (e : ExtN H H') (h : SqL K H a xs) : SqL K H' a xs := by
  rcases h with (h | ⟨o, h⟩) | h
  · exact .inl (.inl (e _ _ h (fun _ z => by cases z)))
  · exact .inl (.inr ⟨o, e _ _ h (fun _ z => by cases z)⟩)
  · exact .inr h
theorem SqT.ext {K : PySem.W.Frag} {H H' : Hp} {a : Addr} {xs : List V} (e : ExtN H H') (h : SqT K H a xs) : SqT K H' a xs := by
  rcases h with (h | ⟨o, h⟩) | h
  · exact .inl (.inl (e _ _ h (fun _ z => by cases z)))
  · exact .inl (.inr ⟨o, e _ _ h (fun _ z => by cases z)⟩)
  · exact .inr h
/-- what was tracked stays, but for the objects of S (and tables of code, which grow); the tables T stay tables; no tuple and nothing frozen changes -/
structure GrowX (T : List (Addr × Str)) (S : Addr → Prop) (H H' : Hp) : Prop where
  ext : ∀ b o, ¬ S b → H b = some o → (∀ ps, o ≠ .tbl ps) → H' b = some o
  tab : Tabs T H → Tabs T H'
  keep : ∀ b, H' b = none → H b = none
  tup : ∀ b xs, H b = some (.tup xs) → H' b = some (.tup xs)
  frz : ∀ b o u, H b = some (.frz o u) → H' b = some (.frz o u)
abbrev Grow (T : List (Addr × Str)) (H H' : Hp) : Prop := GrowX T (fun _ => False) H H'
section
variable {T : List (Addr × Str)} {S S' : Addr → Prop} {H H1 H2 : Hp} {K : PySem.W.Frag} {A : Addr → Prop}
theorem GrowX.refl : GrowX T S H H := ⟨fun _ _ _ h _ => h, id, fun _ h => h, fun _ _ h => h, fun _ _ _ h => h⟩
theorem GrowX.trans (a : GrowX T S H H1) (b : GrowX T S H1 H2) : GrowX T S H H2 := ⟨fun c o s h n => b.ext c o s (a.ext c o s h n) n, fun t => b.tab (a.tab t), fun c h => a.keep c (b.keep c h), fun c xs h => b.tup c xs (a.tup c xs h), fun c o u h => b.frz c o u (a.frz c o u h)⟩
theorem GrowX.weak (a : GrowX T S H H1) (h : ∀ b, S b → S' b) : GrowX T S' H H1 := ⟨fun c o s e n => a.ext c o (fun z => s (h c z)) e n, a.tab, a.keep, a.tup, a.frz⟩
theorem Grow.extN (a : Grow T H H1) : ExtN H H1 := fun b o h n => a.ext b o (fun z => z) h n
theorem Grow.of (a : ExtN H H1) (t : Tabs T H → Tabs T H1) (k : ∀ b, H1 b = none → H b = none) : Grow T H H1 := ⟨fun b o _ h n => a b o h n, t, k, fun b xs h => a b _ h (fun _ z => by cases z), fun b o u h => a b _ h (fun _ z => by cases z)⟩
theorem Grow.to (a : Grow T H H1) : GrowX T S H H1 := a.weak fun _ z => z.elim
theorem Grow.new {p : Addr} {o : HO} (h : H p = none) : Grow T H (upd H p o) := ⟨fun b u _ e _ => by rw [upd_ne (ne_of_none e h)]; exact e, fun t => t.ext fun b u e => by rw [upd_ne (ne_of_none e h)]; exact e, fun b e => NdefX.upd_none e, fun b xs e => by rw [upd_ne (ne_of_none e h)]; exact e, fun b u v e => by rw [upd_ne (ne_of_none e h)]; exact e⟩
theorem GrowX.set {p : Addr} {o u : HO} (hp : S p) (h : H p = some u) (n : ∀ ps, u ≠ .tbl ps) (hc : ∀ q, u ≠ CodeO p q) (ht : ∀ xs, u ≠ .tup xs) (hf : ∀ w v, u ≠ .frz w v) : GrowX T S H (upd H p o) := by
  refine ⟨fun b w s e _ => by rw [upd_ne (fun z => s (by rw [z]; exact hp))]; exact e, fun t q hq => ?_, fun b e => NdefX.upd_none e, fun b xs e => by rw [upd_ne (fun z => ht xs (Option.some.inj (h.symm.trans (by rw [← z]; exact e))))]; exact e, fun b w v e => by rw [upd_ne (fun z => hf w v (Option.some.inj (h.symm.trans (by rw [← z]; exact e))))]; exact e⟩
  obtain ⟨ps, h1, h2, h3⟩ := t q hq
  refine ⟨ps, by rw [upd_ne (fun z => n ps (Option.some.inj (h.symm.trans (by rw [← z]; exact h1))))]; exact h1, h2, fun pos cv hc' => ?_⟩
  obtain ⟨c, e1, e2⟩ := h3 pos cv hc'
  exact ⟨c, e1, by rw [upd_ne (fun z => hc q.2 (Option.some.inj (h.symm.trans (by rw [← z]; exact e2))))]; exact e2⟩
theorem GrowX.seqL {a : Addr} {xs : List V} (g : GrowX T S H H1) (h : SqL K H a xs) (n : ¬ S a) : SqL K H1 a xs := by
  rcases h with (h | ⟨o, h⟩) | h
  · exact .inl (.inl (g.ext _ _ n h (fun _ z => by cases z)))
  · exact .inl (.inr ⟨o, g.ext _ _ n h (fun _ z => by cases z)⟩)
  · exact .inr h
theorem GrowX.seqT {a : Addr} {xs : List V} (g : GrowX T S H H1) (h : SqT K H a xs) : SqT K H1 a xs := by
  rcases h with (h | ⟨o, h⟩) | h
  · exact .inl (.inl (g.tup _ _ h))
  · exact .inl (.inr ⟨o, g.frz _ _ _ h⟩)
  · exact .inr h
theorem GrowX.da {v : V} {d : PyData} (g : GrowX T S H H1) (h : Da K A H v d) (n : ∀ a, A a → ¬ S a) : Da K A H1 v d := Da.mono (fun _ z => z) (fun a xs ha e => g.seqL e (n a ha)) (fun a xs e => g.seqT e) d v h
theorem GrowX.daAll {v : List V} {d : List PyData} (g : GrowX T S H H1) (h : DaAll K A H v d) (n : ∀ a, A a → ¬ S a) : DaAll K A H1 v d := DaAll.mono (fun _ z => z) (fun a xs ha e => g.seqL e (n a ha)) (fun a xs e => g.seqT e) d v h
theorem Grow.da {v : V} {d : PyData} (g : Grow T H H1) (h : Da K A H v d) : Da K A H1 v d := GrowX.da g h fun _ _ z => z
theorem Grow.daAll {v : List V} {d : List PyData} (g : Grow T H H1) (h : DaAll K A H v d) : DaAll K A H1 v d := GrowX.daAll g h fun _ _ z => z
theorem Da.sub {A' : Addr → Prop} {v : V} {d : PyData} (h : Da K A H v d) (s : ∀ a, A a → A' a) : Da K A' H v d := Da.mono s (fun _ _ _ e => e) (fun _ _ e => e) d v h
theorem DaAll.sub {A' : Addr → Prop} {v : List V} {d : List PyData} (h : DaAll K A H v d) (s : ∀ a, A a → A' a) : DaAll K A' H v d := DaAll.mono s (fun _ _ _ e => e) (fun _ _ e => e) d v h
/-- free addresses -/
abbrev New (H : Hp) : Addr → Prop := fun a => H a = none
theorem GrowX.new {a : Addr} (g : GrowX T S H H1) (h : New H1 a) : New H a := g.keep a h
end

/-! ### repr of data -/
theorem call_reprD {X : Cx} (hg : X.A.guards = some []) (hu : X.A.units + 64 < cLine) : CallR X (.builtin "repr") (fun xs H Q => ∃ v d, xs = [v] ∧ Dp X.K H v d ∧ d.showable = true ∧ d.shown.length ≤ sizeLine ∧ d.depth ≤ 60 ∧ Q (.str d.shown) H) := by
  intro pins s σ H xs us Q I r h
  obtain ⟨v, d, rfl, hd, hs, hl, hdp, q⟩ := h
  obtain ⟨u, rfl, ru⟩ := vals1 r
  have fin : ∀ (h' : Heap) (u' tk : Tok), (∀ b o, s.heap.get? b = some o → h'.get? b = some o) → EP X pins σ Q (.str d.shown u') { s with heap := h', toks := tk } := fun h' u' tk kp => ⟨.str d.shown, H, I.kept kp, ⟨_, rfl⟩, q⟩
  cases hd with
  | non => cases ru; exact PySem.P.repr_of_none (fin _ _ _ fun _ _ e => e)
  | bl b => cases ru; exact PySem.P.repr_of_bool (fin _ _ _ fun _ _ e => e)
  | int i => obtain ⟨t, rfl⟩ := ru; exact PySem.P.repr_of_int (by simpa [PyData.showable] using hs) (fin _ _ _ fun _ _ e => e)
  | str x => obtain ⟨t, rfl⟩ := ru; exact PySem.P.repr_of_str (fin _ _ _ fun _ _ e => e) hl
  | lst hsq hda =>
    obtain ⟨as, rd⟩ := Dp.reads I _ _ _ (Dp.lst hsq hda) ru
    cases ru
    exact repr_of_reads' rd hs (PyData.noDict_hsm (Dp.noDict _ _ (Dp.lst hsq hda))) hg (by omega) (fun _ _ e => e) (fun h' u tk kp => fin h' u tk kp) hl
  | tup hsq hda =>
    obtain ⟨as, rd⟩ := Dp.reads I _ _ _ (Dp.tup hsq hda) ru
    cases ru
    exact repr_of_reads' rd hs (PyData.noDict_hsm (Dp.noDict _ _ (Dp.tup hsq hda))) hg (by omega) (fun _ _ e => e) (fun h' u tk kp => fin h' u tk kp) hl
end Vf
set_option maxRecDepth 100000
set_option maxHeartbeats 4000000
/-! Gen: operators, subscripts, calls at values: what is left of an expression when its parts are known. Own work. -/
namespace Vf
open PySem PySem.Spec PyProof.Rows L2 LamX
/-- a binary operator or comparison at two values -/
def gOp (X : Cx) (f : Value → Value → Sem Value) (x y : V) (H : Hp) (Q : VK) : Prop := ∀ (pins : List (Addr × Obj)) (s : Shared) (σ : L2.St) (v u : Value), Inv X pins σ H s → L2.RelV x v → L2.RelV y u → wpAny (model X.prog X.w) X.A (f v u) (EP X pins σ Q) X.xe s
/-- a subscript at two values -/
def gIx (X : Cx) (x y : V) (H : Hp) (Q : VK) : Prop := ∀ (value slice : Expr) (pins : List (Addr × Obj)) (s : Shared) (σ : L2.St) (v u : Value), Inv X pins σ H s → L2.RelV x v → L2.RelV y u →
  subscripted slice false v u = operate [v, u] (getItem v u) → wpAny (model X.prog X.w) X.A (subscriptTail value slice v u) (EP X pins σ Q) X.xe s
/-- a store x[y] = z at three values -/
def gSet (X : Cx) (x y z : V) (H : Hp) (Q : Hp → Prop) : Prop := ∃ t, PSet X t ∧ t x y z H Q
/-- a built-in's call at values -/
def gCall (X : Cx) (f : Value) (xs : List V) (H : Hp) (Q : VK) : Prop := ∃ r, CallR X f r ∧ r xs H Q
/-- truth -/
def gTru (X : Cx) (x : V) (H : Hp) (Q : Bool → Hp → Prop) : Prop := ∃ k, TruV X.K x H k ∧ Q k H
section
variable {m : Md} {N : List Str} {sc : Scope} {k : Nat} {X : Cx} {a b c e o : Expr} {es : List Expr} {σ : L2.St} {H : Hp} {Q : VK} {QB : Bool → Hp → Prop} {D : Ends} {pos p p1 p2 : Pos} {x y : Str} {i j : Nat} {v w : V}
theorem gOp_ok {f : Value → Value → Sem Value} : OpR X f (gOp X f) := fun pins s σ H x y v u Q I rx ry h => h pins s σ v u I rx ry
theorem gOp.of {f : Value → Value → Sem Value} {r : R2} (h : OpR X f r) {x y : V} (q : r x y H Q) : gOp X f x y H Q := fun pins s σ v u I rx ry => h pins s σ H x y v u Q I rx ry q
theorem gIx_ok : IxR X (gIx X) := fun value slice pins s σ H x y v u Q I rx ry h hs => h value slice pins s σ v u I rx ry hs
theorem gIx.of {r : R2} (h : IxR X r) {x y : V} (q : r x y H Q) : gIx X x y H Q := fun value slice pins s σ v u I rx ry hs => h value slice pins s σ H x y v u Q I rx ry q hs
theorem g_bin {op : Operator} (q : wE X a σ H fun x H1 => wE X b σ H1 fun y H2 => gOp X (binaryOp op) x y H2 Q) : wE X (.BinOp a op b pos) σ H Q := w_bin gOp_ok q
theorem g_cmp {op : CmpOp} (q : wE X a σ H fun x H1 => wE X b σ H1 fun y H2 => gOp X (compareOp op) x y H2 Q) (hm : behindInMarks op b = false := by with_unfolding_all first | exact nomark _ | rfl) : wE X (.Compare a [op] [b] pos) σ H Q := w_cmp gOp_ok hm q
theorem gt_cmp {op : CmpOp} (q : wE X a σ H fun x H1 => wE X b σ H1 fun y H2 => gOp X (compareOp op) x y H2 fun z H' => ∃ k, z = .bl k ∧ QB k H') (hm : behindInMarks op b = false := by with_unfolding_all first | exact nomark _ | rfl) : wT X (.Compare a [op] [b] pos) σ H QB := t_cmp gOp_ok hm q
theorem g_ix (q : wE X a σ H fun x H1 => wE X b σ H1 fun y H2 => gIx X x y H2 Q) (hs : PlainIx b := by with_unfolding_all exact fun _ _ => rfl) : wE X (.Subscript a b pos) σ H Q := w_ix gIx_ok hs q
theorem gt_tru (q : wE X a σ H fun x H1 => gTru X x H1 QB) (he : ∀ whole, isTrue a X.env whole = (do let v ← whole; standAt a.pos; holding [v] (truthy v)) := by with_unfolding_all (intro _; rfl)) : wT X a σ H QB := t_truth q he
theorem decI {i j : Int} : decide (V.int i = V.int j) = decide (i = j) := by rw [decide_eq_decide]; exact ⟨fun z => by injection z, fun z => by rw [z]⟩
theorem decS {i j : Str} : decide (V.str i = V.str j) = decide (i = j) := by rw [decide_eq_decide]; exact ⟨fun z => by injection z, fun z => by rw [z]⟩
/-- .. ints -/
theorem g_addI {i j : Int} (q : Q (.int (i + j)) H) : gOp X (binaryOp .Add) (.int i) (.int j) H Q := gOp.of op_add ⟨_, _, rfl, rfl, q⟩
theorem g_subI {i j : Int} (q : Q (.int (i - j)) H) : gOp X (binaryOp .Sub) (.int i) (.int j) H Q := gOp.of op_sub ⟨_, _, rfl, rfl, q⟩
theorem g_mulI {i j : Int} (hc : CMul i j) (q : Q (.int (i * j)) H) : gOp X (binaryOp .Mult) (.int i) (.int j) H Q := gOp.of op_mul ⟨_, _, rfl, rfl, hc, q⟩
theorem g_modI {i j : Int} (hj : 0 < j) (q : Q (.int (i % j)) H) : gOp X (binaryOp .Mod) (.int i) (.int j) H Q := gOp.of op_mod ⟨_, _, rfl, rfl, hj, q⟩
/-- the rest alone is known by its bounds -/
theorem g_modB {i j : Int} (hj : 0 < j) (q : ∀ r, 0 ≤ r → r < j → Q (.int r) H) : gOp X (binaryOp .Mod) (.int i) (.int j) H Q := g_modI hj (q _ (Int.emod_nonneg _ (by omega)) (Int.emod_lt_of_pos _ hj))
theorem g_divI {i j : Int} (hj : 0 < j ∧ j < 1073741824) (q : Q (.int (i / j)) H) : gOp X (binaryOp .FloorDiv) (.int i) (.int j) H Q := gOp.of op_fdiv ⟨_, _, rfl, rfl, hj, q⟩
theorem g_divW {i j : Int} (hj : CDivW i j) (q : Q (.int (i / j)) H) : gOp X (binaryOp .FloorDiv) (.int i) (.int j) H Q := gOp.of op_fdivW ⟨_, _, rfl, rfl, hj, q⟩
theorem g_powI {i j : Int} (hc : CPow i j) (q : Q (.int (i ^ j.toNat)) H) : gOp X (binaryOp .Pow) (.int i) (.int j) H Q := gOp.of op_pow ⟨_, _, rfl, rfl, hc, q⟩
theorem g_ltI {i j : Int} (q : Q (.bl (decide (i < j))) H) : gOp X (compareOp .Lt) (.int i) (.int j) H Q := gOp.of op_lt ⟨_, _, rfl, rfl, q⟩
theorem g_leI {i j : Int} (q : Q (.bl (decide (i ≤ j))) H) : gOp X (compareOp .LtE) (.int i) (.int j) H Q := gOp.of op_le ⟨_, _, rfl, rfl, q⟩
theorem g_gtI {i j : Int} (q : Q (.bl (decide (j < i))) H) : gOp X (compareOp .Gt) (.int i) (.int j) H Q := gOp.of op_gt ⟨_, _, rfl, rfl, q⟩
theorem g_geI {i j : Int} (q : Q (.bl (decide (j ≤ i))) H) : gOp X (compareOp .GtE) (.int i) (.int j) H Q := gOp.of op_ge ⟨_, _, rfl, rfl, q⟩
theorem g_eqI {i j : Int} (q : Q (.bl (decide (i = j))) H) : gOp X (compareOp .Eq) (.int i) (.int j) H Q := gOp.of op_eq ⟨rfl, by rw [decI]; exact q⟩
theorem g_neI {i j : Int} (q : Q (.bl (!decide (i = j))) H) : gOp X (compareOp .NotEq) (.int i) (.int j) H Q := gOp.of op_ne ⟨rfl, by rw [decI]; exact q⟩
theorem g_eqS {i j : Str} (q : Q (.bl (decide (i = j))) H) : gOp X (compareOp .Eq) (.str i) (.str j) H Q := gOp.of op_eq ⟨rfl, by rw [decS]; exact q⟩
theorem g_neS {i j : Str} (q : Q (.bl (!decide (i = j))) H) : gOp X (compareOp .NotEq) (.str i) (.str j) H Q := gOp.of op_ne ⟨rfl, by rw [decS]; exact q⟩
theorem g_leS {i j : Str} (q : Q (.bl (!decide (j.cps.toList < i.cps.toList))) H) (hr : OpR X (compareOp .LtE) (fun x y H Q => ∃ i j, x = .str i ∧ y = .str j ∧ Q (.bl (!decide (j.cps.toList < i.cps.toList))) H)) : gOp X (compareOp .LtE) (.str i) (.str j) H Q := gOp.of hr ⟨_, _, rfl, rfl, q⟩
theorem g_isN (q : Q (.bl (decide (v = .non))) H) : gOp X (compareOp .Is) v .non H Q := gOp.of op_isN ⟨rfl, q⟩
theorem g_notN (q : Q (.bl (!decide (v = .non))) H) : gOp X (compareOp .IsNot) v .non H Q := gOp.of op_notN ⟨rfl, q⟩
/-- .. texts -/
theorem g_addS {i j : Str} (hl : i.length + j.length ≤ sizeLine) (q : Q (.str (i ++ j)) H) : gOp X (binaryOp .Add) (.str i) (.str j) H Q := gOp.of op_add_str ⟨_, _, rfl, rfl, hl, q⟩
/-- .. lists -/
theorem g_cat {l r : Addr} {xs zs : List V} (h1 : H l = some (.lst xs)) (h2 : H r = some (.lst zs)) (hz : xs.length + zs.length ≤ sizeLine) (q : ∀ p, H p = none → Q (.ref p) (upd H p (.lst (xs ++ zs)))) : gOp X (binaryOp .Add) (.ref l) (.ref r) H Q := gOp.of op_cat ⟨_, _, _, _, rfl, rfl, h1, h2, hz, q⟩
theorem g_ixL (h : At m N sc k X) {l : Addr} {xs : List V} {i : Int} {v : V} (hs : SqL m.K H l xs) (e : atI xs i = some v) (q : Q v H) : gIx X (.ref l) (.int i) H Q := gIx.of ix_list ⟨_, _, _, _, rfl, rfl, by rw [h.kk]; exact hs, e, q⟩
theorem g_ixT (h : At m N sc k X) {l : Addr} {xs : List V} {i : Int} {v : V} (hs : SqT m.K H l xs) (e : atI xs i = some v) (q : Q v H) : gIx X (.ref l) (.int i) H Q := gIx.of ix_tup ⟨_, _, _, _, rfl, rfl, by rw [h.kk]; exact hs, e, q⟩
theorem g_ixS {z : Str} {i : Int} {c : Nat} (hz : z.length ≤ sizeLine) (e : atI z.cps.toList i = some c) (q : Q (.str ⟨#[c]⟩) H) : gIx X (.str z) (.int i) H Q := gIx.of ix_str ⟨_, _, _, rfl, rfl, hz, e, q⟩
theorem g_eqD (h : At m N sc k X) {v w : V} {d e : PyData} (hd : Dp m.K H v d) (he : Dp m.K H w e) (sd : SeqAt.shaped d = true) (se : SeqAt.shaped e = true) (q : Q (.bl (PyData.eqv d e)) H) : gOp X (compareOp .Eq) v w H Q := gOp.of (op_eqD h.room.units) ⟨d, e, by rw [h.kk]; exact hd, by rw [h.kk]; exact he, sd, se, q⟩
theorem g_neD (h : At m N sc k X) {v w : V} {d e : PyData} (hd : Dp m.K H v d) (he : Dp m.K H w e) (sd : SeqAt.shaped d = true) (se : SeqAt.shaped e = true) (q : Q (.bl (!PyData.eqv d e)) H) : gOp X (compareOp .NotEq) v w H Q := gOp.of (op_neD h.room.units) ⟨d, e, by rw [h.kk]; exact hd, by rw [h.kk]; exact he, sd, se, q⟩
theorem g_inF (h : At m N sc k X) {v : V} {l : Addr} {xs : List V} (hs : SqL m.K H l xs ∨ SqT m.K H l xs) (f1 : flatV v = true) (f2 : xs.all flatV = true) (q : Q (.bl (inV v xs)) H) : gOp X (compareOp .In) v (.ref l) H Q := gOp.of op_in_seq ⟨_, _, rfl, by rw [h.kk]; exact hs, f1, f2, q⟩
theorem g_notInF (h : At m N sc k X) {v : V} {l : Addr} {xs : List V} (hs : SqL m.K H l xs ∨ SqT m.K H l xs) (f1 : flatV v = true) (f2 : xs.all flatV = true) (q : Q (.bl (!inV v xs)) H) : gOp X (compareOp .NotIn) v (.ref l) H Q := gOp.of op_notIn_seq ⟨_, _, rfl, by rw [h.kk]; exact hs, f1, f2, q⟩
/-- a built-in function by its name -/
theorem g_blt {id : String} (h : At m N sc k X) (hm : m.mg x = none) (hg : sc.names.lookup x = some .globalImplicit) (hv : bootBuiltins x = some (.builtin id)) (q : wA X (e :: es) σ H fun vs H1 => gCall X (.builtin id) vs H1 Q)
    (hn : x ≠ "__name__" := by with_unfolding_all decide) (hdb : (x == ("__debug__" : Str)) = false := by with_unfolding_all decide) (he : starEach (e :: es) X.env = (false, eval e X.env) :: starEach es X.env := by with_unfolding_all rfl) (hpl : (backTo pos (starEach es X.env)).any (·.1) = false := by with_unfolding_all rfl) : wE X (.Call (.Name x p) (e :: es) [] pos) σ H Q :=
  w_blt (r := fun vs H1 Q => gCall X (.builtin id) vs H1 Q) h (fun pins s σ H xs us Q I r ⟨rr, hr, q⟩ => hr pins s σ H xs us Q I r q) hm hg hv q hn hdb he hpl
theorem g_typ {T : String} (h : At m N sc k X) (hm : m.mg x = none) (hg : sc.names.lookup x = some .globalImplicit) (hv : bootBuiltins x = some (.type T)) (q : wA X (e :: es) σ H fun vs H1 => gCall X (.type T) vs H1 Q)
    (hn : x ≠ "__name__" := by with_unfolding_all decide) (hdb : (x == ("__debug__" : Str)) = false := by with_unfolding_all decide) (he : starEach (e :: es) X.env = (false, eval e X.env) :: starEach es X.env := by with_unfolding_all rfl) (hpl : (backTo pos (starEach es X.env)).any (·.1) = false := by with_unfolding_all rfl) : wE X (.Call (.Name x p) (e :: es) [] pos) σ H Q :=
  w_ty (r := fun vs H1 Q => gCall X (.type T) vs H1 Q) h (fun pins s σ H xs us Q I r ⟨rr, hr, q⟩ => hr pins s σ H xs us Q I r q) hm hg hv q hn hdb he hpl
theorem g_sum (h : At m N sc k X) {l : Addr} {ns : List Int} (hs : SqL m.K H l (ns.map V.int)) (q : Q (.int ns.sum) H) : gCall X (.builtin "sum") [.ref l] H Q := ⟨_, cr_sum h.calm, _, _, rfl, by rw [h.kk]; exact hs, q⟩
theorem g_max2 (h : At m N sc k X) {i j : Int} (q : Q (.int (if j > i then j else i)) H) : gCall X (.builtin "max") [.int i, .int j] H Q := ⟨_, call_max2 h.calm, _, _, rfl, q⟩
theorem g_min2 (h : At m N sc k X) {i j : Int} (q : Q (.int (if j < i then j else i)) H) : gCall X (.builtin "min") [.int i, .int j] H Q := ⟨_, call_min2 h.calm, _, _, rfl, q⟩
theorem g_lenL (h : At m N sc k X) {l : Addr} {xs : List V} (hs : SqL m.K H l xs) (q : Q (.int xs.length) H) : gCall X (.builtin "len") [.ref l] H Q := ⟨_, call_len, _, xs.length, rfl, .inl ⟨_, by rw [h.kk]; exact hs, rfl⟩, q⟩
theorem g_lenT (h : At m N sc k X) {l : Addr} {xs : List V} (hs : SqT m.K H l xs) (q : Q (.int xs.length) H) : gCall X (.builtin "len") [.ref l] H Q := ⟨_, call_len, _, xs.length, rfl, .inr ⟨_, by rw [h.kk]; exact hs, rfl⟩, q⟩
theorem g_lenS {z : Str} (hz : z.length ≤ sizeLine) (q : Q (.int z.length) H) : gCall X (.builtin "len") [.str z] H Q := ⟨_, call_len, _, z.length, rfl, ⟨hz, rfl⟩, q⟩
theorem g_listOf (h : At m N sc k X) {l : Addr} {ys : List V} (hs : SqL m.K H l ys ∨ SqT m.K H l ys) (q : ∀ p, H p = none → Q (.ref p) (upd H p (.lst ys))) : gCall X (.type "list") [.ref l] H Q := ⟨_, call_list_of, _, _, rfl, by rw [h.kk]; exact hs, q⟩
theorem g_all (h : At m N sc k X) {l : Addr} {bs : List Bool} (hs : SqL m.K H l (bs.map V.bl)) (q : Q (.bl (bs.all id)) H) : gCall X (.builtin "all") [.ref l] H Q := ⟨_, cr_all h.calm, _, _, rfl, by rw [h.kk]; exact hs, q⟩
theorem g_any (h : At m N sc k X) {l : Addr} {bs : List Bool} (hs : SqL m.K H l (bs.map V.bl)) (q : Q (.bl (bs.any id)) H) : gCall X (.builtin "any") [.ref l] H Q := ⟨_, cr_any h.calm, _, _, rfl, by rw [h.kk]; exact hs, q⟩
theorem g_repr (h : At m N sc k X) {v : V} {d : PyData} (hd : Dp m.K H v d) (h1 : d.showable = true) (h2 : d.shown.length ≤ sizeLine) (h3 : d.depth ≤ 60) (q : Q (.str d.shown) H) : gCall X (.builtin "repr") [v] H Q := ⟨_, call_reprD h.gd h.room.units, _, _, rfl, by rw [h.kk]; exact hd, h1, h2, h3, q⟩
/-- n.bit_length() -/
theorem g_bits (q : wE X o σ H fun x H1 => ∃ i, x = .int i ∧ Q (.int (Builtin.Int.intBits i : Nat)) H1) (hbase : attributeBase o "bit_length" X.env (eval o X.env) = eval o X.env := by with_unfolding_all rfl) {apos : Pos} (hline : (apos.endLine == pos.line) = true := by with_unfolding_all rfl) : wE X (.Call (.Attribute o "bit_length" apos) [] [] pos) σ H Q := toE (pe_bits cE hbase hline) q
/-- xs.append(e) -/
theorem g_append (q : wE X o σ H fun x H1 => tyV X.K "list" x H1 ∧ wA X [e] σ H1 fun ys H2 => ∃ l xs y, x = .ref l ∧ ys = [y] ∧ H2 l = some (.lst xs) ∧ xs.length < sizeLine ∧ Q .non (upd H2 l (.lst (xs ++ [y])))) {apos : Pos}
    (hbase : attributeBase o "append" X.env (eval o X.env) = eval o X.env := by with_unfolding_all rfl)
    (hfew : ((backTo pos (starEach [e] X.env)).all (fun x => !x.1) && (backToKw pos (keywordEach [] X.env)).all (fun x => x.1.isSome) && decide ([e].length + ([] : List Keyword).length + (if ([] : List Keyword).isEmpty then 0 else 1) < 30)) = true := by with_unfolding_all rfl)
    (hline : (apos.endLine == pos.line) = true := by with_unfolding_all rfl) (hs : starEach [e] X.env = (false, eval e X.env) :: starEach [] X.env := by with_unfolding_all rfl) (hplain : (backTo pos (starEach [] X.env)).any (·.1) = false := by with_unfolding_all rfl) : wE X (.Call (.Attribute o "append" apos) [e] [] pos) σ H Q :=
  toE (pe_bm PySem.F.plainAttrs_list PySem.F.slot_list_append PySem.F.type_list_append mt_append cE cA hbase hfew hline hs hplain) q
/-- e[lo:hi] of a list -/
theorem tyL {l : Addr} {xs : List V} (h : H l = some (.lst xs)) : tyV X.K "list" (.ref l) H := .inl ⟨rfl, _, SqL.of h⟩
end
theorem bt_sum : bootBuiltins "sum" = some (.builtin "sum") := by decide +kernel
theorem bt_max : bootBuiltins "max" = some (.builtin "max") := by decide +kernel
theorem bt_min : bootBuiltins "min" = some (.builtin "min") := by decide +kernel
theorem bt_len : bootBuiltins "len" = some (.builtin "len") := by decide +kernel
theorem bt_all : bootBuiltins "all" = some (.builtin "all") := by decide +kernel
theorem bt_any : bootBuiltins "any" = some (.builtin "any") := by decide +kernel
theorem bt_repr : bootBuiltins "repr" = some (.builtin "repr") := by decide +kernel
theorem bt_sorted : bootBuiltins "sorted" = some (.builtin "sorted") := by decide +kernel
theorem bt_isinstance : bootBuiltins "isinstance" = some (.builtin "isinstance") := by decide +kernel
theorem bt_abs : bootBuiltins "abs" = some (.builtin "abs") := by decide +kernel
theorem bt_list : bootBuiltins "list" = some (.type "list") := by decide +kernel
theorem bt_int : bootBuiltins "int" = some (.type "int") := by decide +kernel
theorem bt_str : bootBuiltins "str" = some (.type "str") := by decide +kernel
theorem bt_set : bootBuiltins "set" = some (.type "set") := by decide +kernel
theorem bt_dict : bootBuiltins "dict" = some (.type "dict") := by decide +kernel
theorem bt_tuple : bootBuiltins "tuple" = some (.type "tuple") := by decide +kernel
theorem bt_bool : bootBuiltins "bool" = some (.type "bool") := by decide +kernel
end Vf
set_option maxRecDepth 100000
set_option maxHeartbeats 4000000
/-! Lc: list comprehensions, slices, powers. Own work. -/
namespace Vf
open PySem PySem.Spec PyProof.Rows L2 LamX
section
variable {m : Md} {N : List Str} {sc scope : Scope} {k : Nat} {X : Cx} {a b c e o elt iter : Expr} {es : List Expr} {σ : L2.St} {H : Hp} {Q : VK} {D : Ends} {pos p p1 p2 p3 : Pos} {x y : Str} {i j : Nat} {v w : V}
theorem blk_at (h : At m N sc k X) (s : Shared) (H : Hp) (C : Addr) (cl : List (Str × Addr)) (fp : List Addr) : At m N (relS scope sc) k (X.blk s H scope (compEnvC scope cl C X.env) fp) :=
  ⟨h.pp, h.ww, h.kk, h.mm, h.bb, h.nn, by show relS scope X.env.scope = _; rw [h.ss], h.calm, h.room, PassesOwn.never, h.nd, h.gd⟩
theorem wipe1 {u : Option V} : wipe (σ.set i u) [i] = wipe σ [i] := by simp [wipe, List.set_set]
/-- the new list's element, run wherever the block may stand -/
abbrev inBlk (m : Md) (N : List Str) (sc : Scope) (k : Nat) (e : Expr) : TE := fun σ H Q => ∀ X', At m N sc k X' → wE X' e σ H Q
abbrev inBlkT (m : Md) (N : List Str) (sc : Scope) (k : Nat) (e : Expr) : TT := fun σ H Q => ∀ X', At m N sc k X' → wT X' e σ H Q
theorem blk_pe (h : At m N sc k X) (s : Shared) (H : Hp) (C : Addr) (cl : List (Str × Addr)) (fp : List Addr) : PE (X.blk s H scope (compEnvC scope cl C X.env) fp) e (inBlk m N (relS scope sc) k e) := ⟨fun pins s' σ' H' Q I q => cE.run pins s' σ' H' Q I (q _ (blk_at h s H C cl fp))⟩
theorem blk_pt (h : At m N sc k X) (s : Shared) (H : Hp) (C : Addr) (cl : List (Str × Addr)) (fp : List Addr) : PT (X.blk s H scope (compEnvC scope cl C X.env) fp) e (inBlkT m N (relS scope sc) k e) := ⟨fun pins s' σ' H' Q I q => cT.run pins s' σ' H' Q I (q _ (blk_at h s H C cl fp))⟩
theorem set_wipe {z : V} : (wipe σ [i]).set i (some z) = σ.set i (some z) := by simp [wipe, List.set_set]
/-- what one turn of a block asks: the element is appended to the list at D, then the invariant -/
abbrev App (D : Addr) (P : Hp → Prop) : VK := fun y H4 => ∃ acc, H4 D = some (.lst acc) ∧ acc.length < sizeLine ∧ P (upd H4 D (.lst (acc ++ [y])))
/-- [elt for x in iter], iter a list that the block leaves as it is -/
theorem w_lcL (h : At m N sc k X) (ok : blkC N sc scope [(x, i)] = true) (n : NL N (relS scope sc) i x)
    (q : wE X iter σ H fun v H1 => ∃ (a : Addr) (xs : List V), v = .ref a ∧ SqL m.K H1 a xs ∧ ∀ D, H1 D = none → ∃ Pv : Nat → Hp → Prop, Pv 0 (upd H1 D (.lst [])) ∧ (∀ j H, j ≤ xs.length → Pv j H → SqL m.K H a xs) ∧
      (∀ j x H, xs[j]? = some x → Pv j H → ∀ X', At m N (relS scope sc) k X' → wE X' elt (σ.set i (some x)) H (App D (Pv (j + 1)))) ∧ ∀ H, Pv xs.length H → Q (.ref D) H)
    (hs : ∀ x, foldedSetIterable iter X.env x = pure x := by with_unfolding_all (intro _; rfl)) : wE X (.ListComp elt [⟨.Name x p1, iter, [], 0⟩] scope pos) σ H Q := by
  refine toE (pe_lc (own := [(x, i)]) (g := gName i) (tt := tYes) (te := inBlk m N (relS scope sc) k elt) h.calm (by rw [h.nn]; exact h.nd) (pi_list cE) (by rw [h.nn, h.ss]; exact blkOk_by ok) (fun s H C cl fp => pg_nl (blk_at h s H C cl fp) n) (fun _ _ _ _ _ => pts_nil) (fun s H C cl fp => blk_pe h s H C cl fp) hs) ?_
  refine wE.mono q fun v H1 ⟨a, xs, ea, hl, go⟩ => ⟨a, ea, ⟨xs, by rw [h.kk]; exact hl⟩, fun D hD => ?_⟩
  obtain ⟨Pv, p0, st, turn, fin⟩ := go D hD
  refine lc_list (K := X.K) (a := a) (xs := xs) (g := gName i) (tt := tYes) (te := inBlk m N (relS scope sc) k elt) (vs := [i]) (σ := σ) Pv p0 (fun j H hj hp => by rw [h.kk]; exact st j H hj hp) (fun j z H hz hp => ?_) fin
  refine ⟨by rw [wipe1]; simp [wipe, List.set_set], ?_⟩
  unfold tYes
  refine iteT fun X' hX' => ?_
  rw [set_wipe]
  exact turn j z H hz hp X' hX'
/-- [elt for x in iter if c] -/
theorem w_lcLi (h : At m N sc k X) (ok : blkC N sc scope [(x, i)] = true) (n : NL N (relS scope sc) i x)
    (q : wE X iter σ H fun v H1 => ∃ (a : Addr) (xs : List V), v = .ref a ∧ SqL m.K H1 a xs ∧ ∀ D, H1 D = none → ∃ Pv : Nat → Hp → Prop, Pv 0 (upd H1 D (.lst [])) ∧ (∀ j H, j ≤ xs.length → Pv j H → SqL m.K H a xs) ∧
      (∀ j x H, xs[j]? = some x → Pv j H → ∀ X', At m N (relS scope sc) k X' → wT X' c (σ.set i (some x)) H fun b H3 => if b = true then (∀ X', At m N (relS scope sc) k X' → wE X' elt (σ.set i (some x)) H3 (App D (Pv (j + 1)))) else Pv (j + 1) H3) ∧
      ∀ H, Pv xs.length H → Q (.ref D) H)
    (hs : ∀ x, foldedSetIterable iter X.env x = pure x := by with_unfolding_all (intro _; rfl)) : wE X (.ListComp elt [⟨.Name x p1, iter, [c], 0⟩] scope pos) σ H Q := by
  refine toE (pe_lc (own := [(x, i)]) (g := gName i) (tt := inBlkT m N (relS scope sc) k c) (te := inBlk m N (relS scope sc) k elt) h.calm (by rw [h.nn]; exact h.nd) (pi_list cE) (by rw [h.nn, h.ss]; exact blkOk_by ok) (fun s H C cl fp => pg_nl (blk_at h s H C cl fp) n) (fun s H C cl fp => pts_one (blk_pt h s H C cl fp)) (fun s H C cl fp => blk_pe h s H C cl fp) hs) ?_
  refine wE.mono q fun v H1 ⟨a, xs, ea, hl, go⟩ => ⟨a, ea, ⟨xs, by rw [h.kk]; exact hl⟩, fun D hD => ?_⟩
  obtain ⟨Pv, p0, st, turn, fin⟩ := go D hD
  refine lc_list (K := X.K) (a := a) (xs := xs) (g := gName i) (tt := inBlkT m N (relS scope sc) k c) (te := inBlk m N (relS scope sc) k elt) (vs := [i]) (σ := σ) Pv p0 (fun j H hj hp => by rw [h.kk]; exact st j H hj hp) (fun j z H hz hp => ?_) fin
  refine ⟨by rw [wipe1]; simp [wipe, List.set_set], fun X' hX' => ?_⟩
  have t := turn j z H hz hp X' hX'
  rw [set_wipe]
  exact t
/-- [elt for x in range(e)] -/
theorem w_lcR (h : At m N sc k X) (hm : m.mg "range" = none) (hgl : sc.names.lookup ("range" : Str) = some .globalImplicit) (ok : blkC N sc scope [(x, i)] = true) (n : NL N (relS scope sc) i x)
    (q : wE X e σ H fun v H1 => ∃ z : Int, v = .int z ∧ -(2 ^ 62) ≤ z ∧ z < 2 ^ 62 ∧ ∀ D, H1 D = none → ∃ Pv : Nat → Hp → Prop, Pv 0 (upd H1 D (.lst [])) ∧
      (∀ j H, j < z.toNat → Pv j H → ∀ X', At m N (relS scope sc) k X' → wE X' elt (σ.set i (some (.int j))) H (App D (Pv (j + 1)))) ∧ ∀ H, Pv z.toNat H → Q (.ref D) H)
    (hst : starEach [e] X.env = [(false, eval e X.env)] := by with_unfolding_all rfl) (hs : ∀ x, foldedSetIterable (.Call (.Name "range" p2) [e] [] p3) X.env x = pure x := by with_unfolding_all (intro _; rfl)) : wE X (.ListComp elt [⟨.Name x p1, .Call (.Name "range" p2) [e] [] p3, [], 0⟩] scope pos) σ H Q := by
  refine toE (pe_lc (own := [(x, i)]) (g := gName i) (tt := tYes) (te := inBlk m N (relS scope sc) k elt) h.calm (by rw [h.nn]; exact h.nd) (pi_range1 (h.gl hgl) (by rw [h.mm]; exact hm) (pa_cons cE pa_nil hst) hst) (by rw [h.nn, h.ss]; exact blkOk_by ok) (fun s H C cl fp => pg_nl (blk_at h s H C cl fp) n) (fun _ _ _ _ _ => pts_nil) (fun s H C cl fp => blk_pe h s H C cl fp) hs) ?_
  refine wE.mono q fun v H1 ⟨z, ez, z1, z2, go⟩ => ⟨z, by rw [ez], z1, z2, fun D hD => ?_⟩
  obtain ⟨Pv, p0, turn, fin⟩ := go D hD
  refine lc_range (lo := 0) (n := z.toNat) (g := gName i) (tt := tYes) (te := inBlk m N (relS scope sc) k elt) (vs := [i]) (σ := σ) Pv p0 (fun j H hj hp => ?_) fin
  refine ⟨by rw [wipe1]; simp [wipe, List.set_set], ?_⟩
  unfold tYes
  refine iteT fun X' hX' => ?_
  rw [set_wipe, Int.zero_add]
  exact turn j H hj hp X' hX'
/-- [elt for x in range(e) if c] -/
theorem w_lcRi (h : At m N sc k X) (hm : m.mg "range" = none) (hgl : sc.names.lookup ("range" : Str) = some .globalImplicit) (ok : blkC N sc scope [(x, i)] = true) (n : NL N (relS scope sc) i x)
    (q : wE X e σ H fun v H1 => ∃ z : Int, v = .int z ∧ -(2 ^ 62) ≤ z ∧ z < 2 ^ 62 ∧ ∀ D, H1 D = none → ∃ Pv : Nat → Hp → Prop, Pv 0 (upd H1 D (.lst [])) ∧
      (∀ j H, j < z.toNat → Pv j H → ∀ X', At m N (relS scope sc) k X' → wT X' c (σ.set i (some (.int j))) H fun b H3 => if b = true then (∀ X', At m N (relS scope sc) k X' → wE X' elt (σ.set i (some (.int j))) H3 (App D (Pv (j + 1)))) else Pv (j + 1) H3) ∧ ∀ H, Pv z.toNat H → Q (.ref D) H)
    (hst : starEach [e] X.env = [(false, eval e X.env)] := by with_unfolding_all rfl) (hs : ∀ x, foldedSetIterable (.Call (.Name "range" p2) [e] [] p3) X.env x = pure x := by with_unfolding_all (intro _; rfl)) : wE X (.ListComp elt [⟨.Name x p1, .Call (.Name "range" p2) [e] [] p3, [c], 0⟩] scope pos) σ H Q := by
  refine toE (pe_lc (own := [(x, i)]) (g := gName i) (tt := inBlkT m N (relS scope sc) k c) (te := inBlk m N (relS scope sc) k elt) h.calm (by rw [h.nn]; exact h.nd) (pi_range1 (h.gl hgl) (by rw [h.mm]; exact hm) (pa_cons cE pa_nil hst) hst) (by rw [h.nn, h.ss]; exact blkOk_by ok) (fun s H C cl fp => pg_nl (blk_at h s H C cl fp) n) (fun s H C cl fp => pts_one (blk_pt h s H C cl fp)) (fun s H C cl fp => blk_pe h s H C cl fp) hs) ?_
  refine wE.mono q fun v H1 ⟨z, ez, z1, z2, go⟩ => ⟨z, by rw [ez], z1, z2, fun D hD => ?_⟩
  obtain ⟨Pv, p0, turn, fin⟩ := go D hD
  refine lc_range (lo := 0) (n := z.toNat) (g := gName i) (tt := inBlkT m N (relS scope sc) k c) (te := inBlk m N (relS scope sc) k elt) (vs := [i]) (σ := σ) Pv p0 (fun j H hj hp => ?_) fin
  refine ⟨by rw [wipe1]; simp [wipe, List.set_set], fun X' hX' => ?_⟩
  have t := turn j H hj hp X' hX'
  rw [set_wipe, Int.zero_add]
  exact t
/-! ### slices of lists; powers of any size -/
theorem w_slice {lo hi : Expr} (h : At m N sc k X) (q : wE X e σ H fun x H1 => wE X lo σ H1 fun l H2 => ∃ i : Int, l = .int i ∧ wE X hi σ H2 fun u H3 => ∃ j : Int, u = .int j ∧ ∃ (a : Addr) (xs : List V), x = .ref a ∧ SqL m.K H3 a xs ∧ ∀ p, H3 p = none → Q (.ref p) (upd H3 p (.lst (cutV xs (some i) (some j))))) :
    wE X (.Subscript e (.Slice (some lo) (some hi) none p2) pos) σ H Q := by
  refine toE (pe_slice sl_list cE (po_some cE) (po_some cE)) ?_
  refine wE.mono q fun x H1 q1 => wE.mono q1 fun l H2 ⟨i, ei, q2⟩ => ⟨i, ei, wE.mono q2 fun u H3 ⟨j, ej, a, xs, ea, hs, q3⟩ => ⟨j, ej, a, xs, ea, by rw [h.kk]; exact hs, q3⟩⟩
theorem w_sliceTo {hi : Expr} (h : At m N sc k X) (q : wE X e σ H fun x H1 => wE X hi σ H1 fun u H3 => ∃ j : Int, u = .int j ∧ ∃ (a : Addr) (xs : List V), x = .ref a ∧ SqL m.K H3 a xs ∧ ∀ p, H3 p = none → Q (.ref p) (upd H3 p (.lst (cutV xs none (some j))))) :
    wE X (.Subscript e (.Slice none (some hi) none p2) pos) σ H Q := by
  refine toE (pe_slice sl_list cE po_none (po_some cE)) ?_
  refine wE.mono q fun x H1 q1 => ?_
  show wE X hi σ H1 _
  exact wE.mono q1 fun u H3 ⟨j, ej, a, xs, ea, hs, q3⟩ => ⟨j, ej, a, xs, ea, by rw [h.kk]; exact hs, q3⟩
theorem w_sliceFrom {lo : Expr} (h : At m N sc k X) (q : wE X e σ H fun x H1 => wE X lo σ H1 fun u H3 => ∃ j : Int, u = .int j ∧ ∃ (a : Addr) (xs : List V), x = .ref a ∧ SqL m.K H3 a xs ∧ ∀ p, H3 p = none → Q (.ref p) (upd H3 p (.lst (cutV xs (some j) none)))) :
    wE X (.Subscript e (.Slice (some lo) none none p2) pos) σ H Q := by
  refine toE (pe_slice sl_list cE (po_some cE) po_none) ?_
  exact wE.mono q fun x H1 q1 => wE.mono q1 fun u H3 ⟨j, ej, a, xs, ea, hs, q3⟩ => ⟨j, ej, a, xs, ea, by rw [h.kk]; exact hs, q3⟩
theorem cutV_map {α : Type} (f : α → V) (xs : List α) (lo hi : Option Int) : ∃ ys : List α, cutV (xs.map f) lo hi = ys.map f ∧ ys.length ≤ xs.length := by
  unfold cutV
  rw [List.length_map]
  exact ⟨(xs.drop (HT.sIx xs.length 0 lo)).take (HT.sIx xs.length xs.length hi - HT.sIx xs.length 0 lo), by rw [List.map_take, List.map_drop], by rw [List.length_take, List.length_drop]; omega⟩
theorem g_powW {i j : Int} (h0 : 0 ≤ j) (hb : (Builtin.Int.intBits i : Int) * j ≤ 2 ^ 27) (q : Q (.int (i ^ j.toNat)) H) : gOp X (binaryOp .Pow) (.int i) (.int j) H Q := fun pins s σ v u I rx ry => by
  obtain ⟨t, rfl⟩ := rx
  obtain ⟨t', rfl⟩ := ry
  exact PyProof.Rows.pow_int h0 hb ⟨.int _, H, I.tok _, ⟨_, rfl⟩, q⟩
end
end Vf
set_option maxRecDepth 100000
set_option maxHeartbeats 4000000
/-! Lcs: comprehensions that are stored at once. Own work. -/
namespace Vf
open PySem PySem.Spec PyProof.Rows L2 LamX
section
variable {m : Md} {N : List Str} {sc scope : Scope} {k l : Nat} {X : Cx} {a b c e o elt iter : Expr} {es : List Expr} {σ : L2.St} {H : Hp} {nx : L2.St → Hp → Prop} {rt : VK} {bk ct : L2.St → Hp → Prop} {pos p p1 p2 p3 py spos : Pos} {x y : Str} {i j : Nat} {v w : V}
/-- y = [..], y a name of this place alone -/
theorem s_lcL (h : At m N sc k X) (nl : NL N sc l y) (ok : blkC N sc scope [(x, i)] = true) (n : NL N (relS scope sc) i x)
    (q : wE X iter σ H fun v H1 => ∃ (a : Addr) (xs : List V), v = .ref a ∧ SqL m.K H1 a xs ∧ ∀ D, H1 D = none → ∃ Pv : Nat → Hp → Prop, Pv 0 (upd H1 D (.lst [])) ∧ (∀ j H, j ≤ xs.length → Pv j H → SqL m.K H a xs) ∧
      (∀ j x H, xs[j]? = some x → Pv j H → ∀ X', At m N (relS scope sc) k X' → wE X' elt (σ.set i (some x)) H (App D (Pv (j + 1)))) ∧ ∀ H, Pv xs.length H → nx (σ.set l (some (.ref D))) H)
    (hs : ∀ x, foldedSetIterable iter X.env x = pure x := by with_unfolding_all (intro _; rfl)) (hk : sc.kind = .function := by with_unfolding_all rfl) (hl : (py.line == pos.line) = true := by with_unfolding_all rfl) (ha : (scope.names.any fun (n, k) => n == y && (k == .local || k == .cell)) = false := by with_unfolding_all (decide +kernel)) : wS X (.Assign [.Name y py] (.ListComp elt [⟨.Name x p1, iter, [], 0⟩] scope pos) spos) ⟨nx, rt, bk, ct⟩ σ H := by
  refine toS (ps_setLc (i := l) (y := y) (py := py) (own := [(x, i)]) (g := gName i) (tt := tYes) (te := inBlk m N (relS scope sc) k elt) h.calm (by rw [h.nn]; exact h.nd) (by rw [h.nn]; exact nl.ix) (by rw [h.ss]; exact nl.loc) (sw_true (by rw [h.ss]; exact hk) (by rw [h.ss]; exact nl.loc) hl ha) (pi_list cE) (by rw [h.nn, h.ss]; exact blkOk_by ok) (fun s H C cl fp => pg_nl (blk_at h s H C cl fp) n) (fun _ _ _ _ _ => pts_nil) (fun s H C cl fp => blk_pe h s H C cl fp) hs) ?_
  refine wE.mono q fun v H1 ⟨a, xs, ea, hl, go⟩ => ⟨a, ea, ⟨xs, by rw [h.kk]; exact hl⟩, fun D hD => ?_⟩
  obtain ⟨Pv, p0, st, turn, fin⟩ := go D hD
  refine lc_list (K := X.K) (a := a) (xs := xs) (g := gName i) (tt := tYes) (te := inBlk m N (relS scope sc) k elt) (vs := [i]) (σ := σ) Pv p0 (fun j H hj hp => by rw [h.kk]; exact st j H hj hp) (fun j z H hz hp => ?_) fin
  refine ⟨by rw [wipe1]; simp [wipe, List.set_set], ?_⟩
  unfold tYes
  refine iteT fun X' hX' => ?_
  rw [set_wipe]
  exact turn j z H hz hp X' hX'
/-- y = [..], y a name of this place alone -/
theorem s_lcLi (h : At m N sc k X) (nl : NL N sc l y) (ok : blkC N sc scope [(x, i)] = true) (n : NL N (relS scope sc) i x)
    (q : wE X iter σ H fun v H1 => ∃ (a : Addr) (xs : List V), v = .ref a ∧ SqL m.K H1 a xs ∧ ∀ D, H1 D = none → ∃ Pv : Nat → Hp → Prop, Pv 0 (upd H1 D (.lst [])) ∧ (∀ j H, j ≤ xs.length → Pv j H → SqL m.K H a xs) ∧
      (∀ j x H, xs[j]? = some x → Pv j H → ∀ X', At m N (relS scope sc) k X' → wT X' c (σ.set i (some x)) H fun b H3 => if b = true then (∀ X', At m N (relS scope sc) k X' → wE X' elt (σ.set i (some x)) H3 (App D (Pv (j + 1)))) else Pv (j + 1) H3) ∧
      ∀ H, Pv xs.length H → nx (σ.set l (some (.ref D))) H)
    (hs : ∀ x, foldedSetIterable iter X.env x = pure x := by with_unfolding_all (intro _; rfl)) (hk : sc.kind = .function := by with_unfolding_all rfl) (hl : (py.line == pos.line) = true := by with_unfolding_all rfl) (ha : (scope.names.any fun (n, k) => n == y && (k == .local || k == .cell)) = false := by with_unfolding_all (decide +kernel)) : wS X (.Assign [.Name y py] (.ListComp elt [⟨.Name x p1, iter, [c], 0⟩] scope pos) spos) ⟨nx, rt, bk, ct⟩ σ H := by
  refine toS (ps_setLc (i := l) (y := y) (py := py) (own := [(x, i)]) (g := gName i) (tt := inBlkT m N (relS scope sc) k c) (te := inBlk m N (relS scope sc) k elt) h.calm (by rw [h.nn]; exact h.nd) (by rw [h.nn]; exact nl.ix) (by rw [h.ss]; exact nl.loc) (sw_true (by rw [h.ss]; exact hk) (by rw [h.ss]; exact nl.loc) hl ha) (pi_list cE) (by rw [h.nn, h.ss]; exact blkOk_by ok) (fun s H C cl fp => pg_nl (blk_at h s H C cl fp) n) (fun s H C cl fp => pts_one (blk_pt h s H C cl fp)) (fun s H C cl fp => blk_pe h s H C cl fp) hs) ?_
  refine wE.mono q fun v H1 ⟨a, xs, ea, hl, go⟩ => ⟨a, ea, ⟨xs, by rw [h.kk]; exact hl⟩, fun D hD => ?_⟩
  obtain ⟨Pv, p0, st, turn, fin⟩ := go D hD
  refine lc_list (K := X.K) (a := a) (xs := xs) (g := gName i) (tt := inBlkT m N (relS scope sc) k c) (te := inBlk m N (relS scope sc) k elt) (vs := [i]) (σ := σ) Pv p0 (fun j H hj hp => by rw [h.kk]; exact st j H hj hp) (fun j z H hz hp => ?_) fin
  refine ⟨by rw [wipe1]; simp [wipe, List.set_set], fun X' hX' => ?_⟩
  have t := turn j z H hz hp X' hX'
  rw [set_wipe]
  exact t
/-- y = [..], y a name of this place alone -/
theorem s_lcR (h : At m N sc k X) (hm : m.mg "range" = none) (hgl : sc.names.lookup ("range" : Str) = some .globalImplicit) (nl : NL N sc l y) (ok : blkC N sc scope [(x, i)] = true) (n : NL N (relS scope sc) i x)
    (q : wE X e σ H fun v H1 => ∃ z : Int, v = .int z ∧ -(2 ^ 62) ≤ z ∧ z < 2 ^ 62 ∧ ∀ D, H1 D = none → ∃ Pv : Nat → Hp → Prop, Pv 0 (upd H1 D (.lst [])) ∧
      (∀ j H, j < z.toNat → Pv j H → ∀ X', At m N (relS scope sc) k X' → wE X' elt (σ.set i (some (.int j))) H (App D (Pv (j + 1)))) ∧ ∀ H, Pv z.toNat H → nx (σ.set l (some (.ref D))) H)
    (hst : starEach [e] X.env = [(false, eval e X.env)] := by with_unfolding_all rfl) (hs : ∀ x, foldedSetIterable (.Call (.Name "range" p2) [e] [] p3) X.env x = pure x := by with_unfolding_all (intro _; rfl)) (hk : sc.kind = .function := by with_unfolding_all rfl) (hl : (py.line == pos.line) = true := by with_unfolding_all rfl) (ha : (scope.names.any fun (n, k) => n == y && (k == .local || k == .cell)) = false := by with_unfolding_all (decide +kernel)) : wS X (.Assign [.Name y py] (.ListComp elt [⟨.Name x p1, .Call (.Name "range" p2) [e] [] p3, [], 0⟩] scope pos) spos) ⟨nx, rt, bk, ct⟩ σ H := by
  refine toS (ps_setLc (i := l) (y := y) (py := py) (own := [(x, i)]) (g := gName i) (tt := tYes) (te := inBlk m N (relS scope sc) k elt) h.calm (by rw [h.nn]; exact h.nd) (by rw [h.nn]; exact nl.ix) (by rw [h.ss]; exact nl.loc) (sw_true (by rw [h.ss]; exact hk) (by rw [h.ss]; exact nl.loc) hl ha) (pi_range1 (h.gl hgl) (by rw [h.mm]; exact hm) (pa_cons cE pa_nil hst) hst) (by rw [h.nn, h.ss]; exact blkOk_by ok) (fun s H C cl fp => pg_nl (blk_at h s H C cl fp) n) (fun _ _ _ _ _ => pts_nil) (fun s H C cl fp => blk_pe h s H C cl fp) hs) ?_
  refine wE.mono q fun v H1 ⟨z, ez, z1, z2, go⟩ => ⟨z, by rw [ez], z1, z2, fun D hD => ?_⟩
  obtain ⟨Pv, p0, turn, fin⟩ := go D hD
  refine lc_range (lo := 0) (n := z.toNat) (g := gName i) (tt := tYes) (te := inBlk m N (relS scope sc) k elt) (vs := [i]) (σ := σ) Pv p0 (fun j H hj hp => ?_) fin
  refine ⟨by rw [wipe1]; simp [wipe, List.set_set], ?_⟩
  unfold tYes
  refine iteT fun X' hX' => ?_
  rw [set_wipe, Int.zero_add]
  exact turn j H hj hp X' hX'
/-- y = [..], y a name of this place alone -/
theorem s_lcRi (h : At m N sc k X) (hm : m.mg "range" = none) (hgl : sc.names.lookup ("range" : Str) = some .globalImplicit) (nl : NL N sc l y) (ok : blkC N sc scope [(x, i)] = true) (n : NL N (relS scope sc) i x)
    (q : wE X e σ H fun v H1 => ∃ z : Int, v = .int z ∧ -(2 ^ 62) ≤ z ∧ z < 2 ^ 62 ∧ ∀ D, H1 D = none → ∃ Pv : Nat → Hp → Prop, Pv 0 (upd H1 D (.lst [])) ∧
      (∀ j H, j < z.toNat → Pv j H → ∀ X', At m N (relS scope sc) k X' → wT X' c (σ.set i (some (.int j))) H fun b H3 => if b = true then (∀ X', At m N (relS scope sc) k X' → wE X' elt (σ.set i (some (.int j))) H3 (App D (Pv (j + 1)))) else Pv (j + 1) H3) ∧ ∀ H, Pv z.toNat H → nx (σ.set l (some (.ref D))) H)
    (hst : starEach [e] X.env = [(false, eval e X.env)] := by with_unfolding_all rfl) (hs : ∀ x, foldedSetIterable (.Call (.Name "range" p2) [e] [] p3) X.env x = pure x := by with_unfolding_all (intro _; rfl)) (hk : sc.kind = .function := by with_unfolding_all rfl) (hl : (py.line == pos.line) = true := by with_unfolding_all rfl) (ha : (scope.names.any fun (n, k) => n == y && (k == .local || k == .cell)) = false := by with_unfolding_all (decide +kernel)) : wS X (.Assign [.Name y py] (.ListComp elt [⟨.Name x p1, .Call (.Name "range" p2) [e] [] p3, [c], 0⟩] scope pos) spos) ⟨nx, rt, bk, ct⟩ σ H := by
  refine toS (ps_setLc (i := l) (y := y) (py := py) (own := [(x, i)]) (g := gName i) (tt := inBlkT m N (relS scope sc) k c) (te := inBlk m N (relS scope sc) k elt) h.calm (by rw [h.nn]; exact h.nd) (by rw [h.nn]; exact nl.ix) (by rw [h.ss]; exact nl.loc) (sw_true (by rw [h.ss]; exact hk) (by rw [h.ss]; exact nl.loc) hl ha) (pi_range1 (h.gl hgl) (by rw [h.mm]; exact hm) (pa_cons cE pa_nil hst) hst) (by rw [h.nn, h.ss]; exact blkOk_by ok) (fun s H C cl fp => pg_nl (blk_at h s H C cl fp) n) (fun s H C cl fp => pts_one (blk_pt h s H C cl fp)) (fun s H C cl fp => blk_pe h s H C cl fp) hs) ?_
  refine wE.mono q fun v H1 ⟨z, ez, z1, z2, go⟩ => ⟨z, by rw [ez], z1, z2, fun D hD => ?_⟩
  obtain ⟨Pv, p0, turn, fin⟩ := go D hD
  refine lc_range (lo := 0) (n := z.toNat) (g := gName i) (tt := inBlkT m N (relS scope sc) k c) (te := inBlk m N (relS scope sc) k elt) (vs := [i]) (σ := σ) Pv p0 (fun j H hj hp => ?_) fin
  refine ⟨by rw [wipe1]; simp [wipe, List.set_set], fun X' hX' => ?_⟩
  have t := turn j H hj hp X' hX'
  rw [set_wipe, Int.zero_add]
  exact t
end
end Vf
set_option maxRecDepth 100000
set_option maxHeartbeats 4000000
/-! St: stores into several names, insert. Own work. -/
namespace Vf
open PySem PySem.Spec PyProof.Rows L2 LamX
/-- what changes in objects that were not there is growth -/
theorem GrowX.into {T : List (Addr × Str)} {S S' : Addr → Prop} {H H1 H2 : Hp} (a : GrowX T S H H1) (b : GrowX T S' H1 H2) (h : ∀ c, S' c → New H c ∨ S c) : GrowX T S H H2 :=
  ⟨fun c o s e n => b.ext c o (fun z => (h c z).elim (fun z => by rw [z] at e; cases e) s) (a.ext c o s e n) n, fun t => b.tab (a.tab t), fun c z => a.keep c (b.keep c z), fun c xs z => b.tup c xs (a.tup c xs z), fun c o u z => b.frz c o u (a.frz c o u z)⟩
theorem Grow.intoNew {T : List (Addr × Str)} {S' : Addr → Prop} {H H1 H2 : Hp} (a : Grow T H H1) (b : GrowX T S' H1 H2) (h : ∀ c, S' c → New H c) : Grow T H H2 := a.into b fun c z => .inl (h c z)
/-- a list's new elements -/
theorem GrowX.lst {T : List (Addr × Str)} {H : Hp} {p : Addr} {xs ys : List V} (h : H p = some (.lst xs)) : GrowX T (· = p) H (upd H p (.lst ys)) := GrowX.set rfl h (fun _ z => by cases z) (fun _ z => by unfold CodeO at z; cases z) (fun _ z => by cases z) (fun _ _ z => by cases z)
theorem New.ne {H : Hp} {a p : Addr} {o : HO} (n : New H p) (h : H a = some o) : p ≠ a := fun z => by rw [← z, n] at h; cases h
section
variable {m : Md} {N : List Str} {sc : Scope} {k : Nat} {X : Cx} {a b c e o : Expr} {es : List Expr} {σ : L2.St} {H : Hp} {Q : VK} {nx : L2.St → Hp → Prop} {rt : VK} {bk ct : L2.St → Hp → Prop} {pos p1 p2 p3 p4 : Pos} {x y z : Str} {i j l : Nat} {k1 k2 : Nat}
theorem nl_of (h : At m N sc k X) (i : Nat) (x : Str) (a : N[i]? = some x := by rfl) (b : sc.names.lookup x = some .local := by rfl) : NL N sc i x := ⟨a, b⟩
theorem nc_of (h : At m N sc k X) (i : Nat) (x : Str) (a : N[i]? = some x := by rfl) (b : sc.names.lookup x = some .cell := by rfl) : NC N sc i x := ⟨a, b⟩
theorem env_sc {env : Env} (h : env.scope = sc) : { env with scope := sc } = env := by cases env; cases h; rfl
/-- x, y = a, b, both names of this place alone -/
theorem s_par (h : At m N sc k X) (n1 : NL N sc i x) (n2 : NL N sc j y) (q : wA X [a, b] σ H fun vs H1 => ∃ v w, vs = [v, w] ∧ nx ((σ.set i (some v)).set j (some w)) H1) (hij : i ≠ j := by decide)
    (hw : ∀ env : Env, swappedStores [.Tuple [.Name x p1, .Name y p2] k1 p3] (.Tuple [a, b] k2 p4) { env with scope := sc } = pure (some [x, y]) := by with_unfolding_all (intro _; rfl))
    (hs : swapsWithSole [.Tuple [.Name x p1, .Name y p2] k1 p3] (.Tuple [a, b] k2 p4) pos.line X.env = pure false := by with_unfolding_all rfl) : wS X (.Assign [.Tuple [.Name x p1, .Name y p2] k1 p3] (.Tuple [a, b] k2 p4) pos) ⟨nx, rt, bk, ct⟩ σ H :=
  toS (ps_par h.calm (by rw [h.nn]; exact h.nd) (by rw [h.nn]; exact n1.ix) (by rw [h.nn]; exact n2.ix) hij (by rw [h.ss]; exact n1.loc) (by rw [h.ss]; exact n2.loc) cA (by have := hw X.env; rw [env_sc h.ss] at this; exact this) hs) q
/-- x, y = e where the pair is made, then taken apart -/
theorem s_two {t1 t2 : Expr} (h : At m N sc k X) (hg1 : PG X t1 (gName i)) (hg2 : PG X t2 (gName j)) (q : wE X e σ H fun v H1 => ∃ (p : Addr) (v1 v2 : V), v = .ref p ∧ SqT m.K H1 p [v1, v2] ∧ nx ((σ.set i (some v1)).set j (some v2)) H1)
    (hw : ∀ env : Env, swappedStores [.Tuple [t1, t2] k1 p3] e { env with scope := sc } = pure none := by with_unfolding_all (intro _; rfl))
    (hs : swapsWithSole [.Tuple [t1, t2] k1 p3] e pos.line X.env = pure false := by with_unfolding_all rfl)
    (hz : (assignEach [t1, t2] X.env).map (·.2) = assign t1 X.env :: (assignEach [t2] X.env).map (·.2) := by with_unfolding_all rfl) (hz2 : (assignEach [t2] X.env).map (·.2) = assign t2 X.env :: (assignEach [] X.env).map (·.2) := by with_unfolding_all rfl)
    (hn : (assignEach [t1, t2] X.env).length = 2 := by with_unfolding_all rfl) (hst : (assignEach [t1, t2] X.env).findIdx? (·.1) = none := by with_unfolding_all rfl)
    (ho : (assignEach [.Tuple [t1, t2] k1 p3] X.env).map (·.2) = [assign (.Tuple [t1, t2] k1 p3) X.env] := by with_unfolding_all rfl) : wS X (.Assign [.Tuple [t1, t2] k1 p3] e pos) ⟨nx, rt, bk, ct⟩ σ H := by
  refine toS (ps_asg cE (pg_tup h.calm (pgs_cons hg1 (pgs_cons hg2 pgs_nil hz2) hz) hn hst) hs (by have := hw X.env; rw [env_sc h.ss] at this; exact this) ho) ?_
  exact wE.mono q fun v H1 ⟨p, v1, v2, ev, hp, q1⟩ => ⟨p, [v1, v2], ev, by rw [h.kk]; exact hp, rfl, v1, [v2], rfl, v2, [], rfl, rfl, q1⟩
theorem g_truB {b : Bool} {QB : Bool → Hp → Prop} (q : QB b H) : gTru X (.bl b) H QB := ⟨b, rfl, q⟩
theorem w_neg (q : wE X e σ H fun v H1 => ∃ i : Int, v = .int i ∧ Q (.int (-i)) H1) : wE X (.UnaryOp .USub e pos) σ H Q := toE (pe_un un_neg cE) q
/-- xs.insert(a, b) -/
theorem g_insert (q : wE X o σ H fun x H1 => tyV X.K "list" x H1 ∧ wA X [a, b] σ H1 fun ys H2 => ∃ (l : Addr) (xs : List V) (i : Int) (y : V), x = .ref l ∧ ys = [.int i, y] ∧ H2 l = some (.lst xs) ∧ xs.length < sizeLine ∧ 0 ≤ i ∧ i < 2 ^ 63 ∧ Q .non (upd H2 l (.lst (xs.take i.toNat ++ [y] ++ xs.drop i.toNat)))) {apos : Pos}
    (hbase : attributeBase o "insert" X.env (eval o X.env) = eval o X.env := by with_unfolding_all rfl)
    (hfew : ((backTo pos (starEach [a, b] X.env)).all (fun x => !x.1) && (backToKw pos (keywordEach [] X.env)).all (fun x => x.1.isSome) && decide ([a, b].length + ([] : List Keyword).length + (if ([] : List Keyword).isEmpty then 0 else 1) < 30)) = true := by with_unfolding_all rfl)
    (hline : (apos.endLine == pos.line) = true := by with_unfolding_all rfl) (hs : starEach [a, b] X.env = (false, eval a X.env) :: starEach [b] X.env := by with_unfolding_all rfl) (hplain : (backTo pos (starEach [b] X.env)).any (·.1) = false := by with_unfolding_all rfl) : wE X (.Call (.Attribute o "insert" apos) [a, b] [] pos) σ H Q :=
  toE (pe_bm PySem.F.plainAttrs_list PySem.F.slot_list_insert PySem.F.type_list_insert mt_insert cE cA hbase hfew hline hs hplain) q
end
end Vf
set_option maxRecDepth 100000
set_option maxHeartbeats 4000000
/-! Tm: terms of the program as data. Own work. -/
namespace Vf
open PySem PySem.Spec PyProof.Rows L2 LamX
/-- 1 to 8 signs a to z -/
def IsName (z : Str) : Prop := 1 ≤ z.length ∧ z.length ≤ 8 ∧ ∀ c ∈ z.cps.toList, 97 ≤ c ∧ c ≤ 122
inductive Tm
  | part (now : Bool) (z : Str) (w : Int)
  | all (first : Bool) (ts : List Tm)
  | rank (r : Int) (ts : List Tm)
namespace Tm
mutual
/-- the tuple that a term is -/
def py : Tm → PyData
  | .part n z w => .tuple [.str (if n then "now" else "of"), .str z, .int w]
  | .all f ts => .tuple [.str (if f then "first" else "last"), .list (pys ts)]
  | .rank r ts => .tuple [.str "rank", .int r, .list (pys ts)]
def pys : List Tm → List PyData
  | [] => []
  | t :: ts => py t :: pys ts
end
mutual
/-- names of the two lists, waits up to W, ranks in their bounds, no list empty -/
def ok (W : Int) (zs ns : List Str) : Tm → Prop
  | .part n z w => (if n then z ∈ ns else z ∈ zs) ∧ -W ≤ w ∧ w ≤ W
  | .all _ ts => ts ≠ [] ∧ oks W zs ns ts
  | .rank r ts => ts ≠ [] ∧ 1 ≤ r ∧ r ≤ ts.length ∧ oks W zs ns ts
def oks (W : Int) (zs ns : List Str) : List Tm → Prop
  | [] => True
  | t :: ts => ok W zs ns t ∧ oks W zs ns ts
end
mutual
def dep : Tm → Nat
  | .part _ _ _ => 0
  | .all _ ts => deps ts + 1
  | .rank _ ts => deps ts + 1
def deps : List Tm → Nat
  | [] => 0
  | t :: ts => max (dep t) (deps ts)
end
mutual
/-- parts -/
def cnt : Tm → Nat
  | .part _ _ _ => 1
  | .all _ ts => cnts ts
  | .rank _ ts => cnts ts
def cnts : List Tm → Nat
  | [] => 0
  | t :: ts => cnt t + cnts ts
end
mutual
/-- parts and lists -/
def siz : Tm → Nat
  | .part _ _ _ => 1
  | .all _ ts => sizs ts + 1
  | .rank _ ts => sizs ts + 1
def sizs : List Tm → Nat
  | [] => 0
  | t :: ts => siz t + sizs ts
end
mutual
/-- a term: no list empty or beyond bounds, ranks in their bounds -/
def wf : Tm → Prop
  | .part _ _ _ => True
  | .all _ ts => ts ≠ [] ∧ ts.length < 1000 ∧ wfs ts
  | .rank r ts => ts ≠ [] ∧ ts.length < 1000 ∧ 1 ≤ r ∧ r ≤ ts.length ∧ wfs ts
def wfs : List Tm → Prop
  | [] => True
  | t :: ts => wf t ∧ wfs ts
end
mutual
/-- the parts changed -/
def reb (g : Tm → Tm) : Tm → Tm
  | .part n z w => g (.part n z w)
  | .all f ts => .all f (rebs g ts)
  | .rank r ts => .rank r (rebs g ts)
def rebs (g : Tm → Tm) : List Tm → List Tm
  | [] => []
  | t :: ts => reb g t :: rebs g ts
end
mutual
theorem reb_id : ∀ t : Tm, reb (fun x => x) t = t
  | .part _ _ _ => rfl
  | .all f ts => by rw [reb, rebs_id ts]
  | .rank r ts => by rw [reb, rebs_id ts]
theorem rebs_id : ∀ ts : List Tm, rebs (fun x => x) ts = ts
  | [] => rfl
  | t :: ts => by rw [rebs, reb_id t, rebs_id ts]
end
theorem rebs_map (g : Tm → Tm) : ∀ ts : List Tm, rebs g ts = ts.map (reb g)
  | [] => rfl
  | t :: ts => by rw [rebs, rebs_map g ts]; rfl
theorem wfs_iff : ∀ {ts : List Tm}, wfs ts ↔ ∀ t ∈ ts, wf t
  | [] => by simp [wfs]
  | t :: ts => by rw [wfs, wfs_iff]; simp
theorem dep_mem : ∀ {ts : List Tm} {t : Tm}, t ∈ ts → dep t ≤ deps ts
  | [], _, h => by simp at h
  | a :: ts, t, h => by
    rw [deps]
    rcases List.mem_cons.1 h with e | e
    · rw [e]; omega
    · have := dep_mem e; omega
theorem pys_map : ∀ ts : List Tm, pys ts = ts.map py
  | [] => rfl
  | t :: ts => by rw [pys, pys_map ts]; rfl
theorem oks_iff {W : Int} {zs ns : List Str} : ∀ {ts : List Tm}, oks W zs ns ts ↔ ∀ t ∈ ts, ok W zs ns t
  | [] => by simp [oks]
  | t :: ts => by rw [oks, oks_iff]; simp
theorem pys_length (ts : List Tm) : (pys ts).length = ts.length := by rw [pys_map, List.length_map]
theorem cnts_sum : ∀ ts : List Tm, cnts ts = (ts.map cnt).sum
  | [] => rfl
  | t :: ts => by rw [cnts, cnts_sum ts]; rfl
theorem sizs_append : ∀ a b : List Tm, sizs (a ++ b) = sizs a + sizs b
  | [], b => by simp [sizs]
  | t :: a, b => by rw [List.cons_append, sizs, sizs, sizs_append a b]; omega
theorem cnts_append : ∀ a b : List Tm, cnts (a ++ b) = cnts a + cnts b
  | [], b => by simp [cnts]
  | t :: a, b => by rw [List.cons_append, cnts, cnts, cnts_append a b]; omega
theorem pys_append (a b : List Tm) : pys (a ++ b) = pys a ++ pys b := by rw [pys_map, pys_map, pys_map, List.map_append]
theorem oks_append {W : Int} {zs ns : List Str} {a b : List Tm} (h1 : oks W zs ns a) (h2 : oks W zs ns b) : oks W zs ns (a ++ b) := by
  rw [oks_iff] at *
  intro t ht
  rcases List.mem_append.1 ht with h | h
  · exact h1 t h
  · exact h2 t h
section
variable {W : Int} {zs ns : List Str} (hz : ∀ z ∈ zs, IsName z) (hn : ∀ z ∈ ns, IsName z)
include hz hn
theorem part_name {n : Bool} {z : Str} (h : if n = true then z ∈ ns else z ∈ zs) : IsName z := by
  cases n
  · exact hz z (by simpa using h)
  · exact hn z (by simpa using h)
mutual
theorem canLay : ∀ t : Tm, ok W zs ns t → (py t).canLay0 = true
  | .part n z w, h => by
    have e := (part_name hz hn h.1).2.2
    have e1 : PyData.strOk z = true := by
      unfold PyData.strOk
      rw [Array.all_eq_true']
      intro c hc
      have := e c (by simpa using hc)
      simp; omega
    have e2 : PyData.strOk (if n = true then "now" else "of") = true := by cases n <;> decide +kernel
    simp [py, PyData.canLay0, PyData.canLayAll0, e1, e2]
  | .all f ts, h => by
    have e2 : PyData.strOk (if f = true then "first" else "last") = true := by cases f <;> decide +kernel
    simp [py, PyData.canLay0, PyData.canLayAll0, e2, canLays ts h.2]
  | .rank r ts, h => by
    have e2 : PyData.strOk "rank" = true := by decide +kernel
    simp [py, PyData.canLay0, PyData.canLayAll0, e2, canLays ts h.2.2.2]
theorem canLays : ∀ ts : List Tm, oks W zs ns ts → PyData.canLayAll0 (pys ts) = true
  | [], _ => rfl
  | t :: ts, h => by
    rw [pys, PyData.canLayAll0, canLay t h.1, canLays ts h.2]; rfl
end
end
mutual
theorem depth_le : ∀ t : Tm, (py t).depth ≤ 2 * dep t + 1
  | .part n z w => by simp [py, PyData.depth, PyData.depthAll, dep]
  | .all f ts => by have := depths_le ts; simp [py, PyData.depth, PyData.depthAll, dep]; omega
  | .rank r ts => by have := depths_le ts; simp [py, PyData.depth, PyData.depthAll, dep]; omega
theorem depths_le : ∀ ts : List Tm, PyData.depthAll (pys ts) ≤ 2 * deps ts + 1
  | [] => by simp [pys, PyData.depthAll]
  | t :: ts => by have := depth_le t; have := depths_le ts; simp [pys, PyData.depthAll, deps]; omega
end
mutual
theorem dep_le : ∀ t : Tm, dep t ≤ siz t
  | .part n z w => by simp [dep]
  | .all f ts => by have := deps_le ts; simp [dep, siz]; omega
  | .rank r ts => by have := deps_le ts; simp [dep, siz]; omega
theorem deps_le : ∀ ts : List Tm, deps ts ≤ sizs ts
  | [] => by simp [deps]
  | t :: ts => by have := dep_le t; have := deps_le ts; simp [deps, sizs]; omega
end
mutual
theorem siz_pos : ∀ t : Tm, 1 ≤ siz t
  | .part n z w => by simp [siz]
  | .all f ts => by simp [siz]
  | .rank r ts => by simp [siz]
theorem len_le : ∀ ts : List Tm, ts.length ≤ sizs ts
  | [] => by simp
  | t :: ts => by have := siz_pos t; have := len_le ts; simp [sizs]; omega
end
mutual
theorem ok_wf {W : Int} {zs ns : List Str} : ∀ t : Tm, ok W zs ns t → siz t < 1000 → wf t
  | .part _ _ _, _, _ => trivial
  | .all f ts, h, l => by
    have := len_le ts
    simp only [siz] at l
    exact ⟨h.1, by omega, oks_wf ts h.2 (by omega)⟩
  | .rank r ts, h, l => by
    have := len_le ts
    simp only [siz] at l
    exact ⟨h.1, by omega, h.2.1, h.2.2.1, oks_wf ts h.2.2.2 (by omega)⟩
theorem oks_wf {W : Int} {zs ns : List Str} : ∀ ts : List Tm, oks W zs ns ts → sizs ts < 1000 → wfs ts
  | [], _, _ => trivial
  | t :: ts, h, l => by
    simp only [sizs] at l
    exact ⟨ok_wf t h.1 (by omega), oks_wf ts h.2 (by omega)⟩
end
mutual
theorem eqv_py : ∀ a b : Tm, PyData.eqv (py a) (py b) = true ↔ a = b
  | .part n z w, .part n' z' w' => by
    have : (if n = true then ("now" : Str) else "of") = (if n' = true then ("now" : Str) else "of") ↔ n = n' := by cases n <;> cases n' <;> decide +kernel
    simp [py, PyData.eqv, PyData.eqvAll, this]
  | .part n z w, .all f ts => by simp [py, PyData.eqv, PyData.eqvAll]
  | .part n z w, .rank r ts => by simp [py, PyData.eqv, PyData.eqvAll]
  | .all f ts, .part n z w => by simp [py, PyData.eqv, PyData.eqvAll]
  | .all f ts, .all f' ts' => by
    have : (if f = true then ("first" : Str) else "last") = (if f' = true then ("first" : Str) else "last") ↔ f = f' := by cases f <;> cases f' <;> decide +kernel
    simp [py, PyData.eqv, PyData.eqvAll, this, eqv_pys ts ts']
  | .all f ts, .rank r ts' => by simp [py, PyData.eqv, PyData.eqvAll]
  | .rank r ts, .part n z w => by simp [py, PyData.eqv, PyData.eqvAll]
  | .rank r ts, .all f ts' => by simp [py, PyData.eqv, PyData.eqvAll]
  | .rank r ts, .rank r' ts' => by simp [py, PyData.eqv, PyData.eqvAll, eqv_pys ts ts']
theorem eqv_pys : ∀ a b : List Tm, PyData.eqvAll (pys a) (pys b) = true ↔ a = b
  | [], [] => by simp [pys, PyData.eqvAll]
  | [], _ :: _ => by simp [pys, PyData.eqvAll]
  | _ :: _, [] => by simp [pys, PyData.eqvAll]
  | a :: as, b :: bs => by simp [pys, PyData.eqvAll, eqv_py a b, eqv_pys as bs]
end
theorem wt_int {i : Int} (h : i.natAbs < 2 ^ 47) : PyData.weight (.int i) ≤ 47 := by
  unfold PyData.weight
  split
  · omega
  · have : i.natAbs ≠ 0 := by rename_i g; intro w; exact g (by simpa using Int.natAbs_eq_zero.1 w)
    have := (Nat.log2_lt this).2 h
    omega
section
variable {W : Int} {zs ns : List Str} (hz : ∀ z ∈ zs, IsName z) (hn : ∀ z ∈ ns, IsName z) (hW : W < 10 ^ 12)
include hz hn hW
mutual
theorem weight_le : ∀ t : Tm, ok W zs ns t → sizs [t] ≤ 1000 → (py t).weight + 1 ≤ 100 * siz t
  | .part n z w, h, _ => by
    have e : z.cps.size ≤ 8 := (part_name hz hn h.1).2.1
    have e2 : (if n = true then ("now" : Str) else "of").cps.size ≤ 8 := by cases n <;> decide +kernel
    have e3 := wt_int (i := w) (by have := h.2; omega)
    simp only [py, PyData.weight, PyData.weightAll, siz] at e3 ⊢
    omega
  | .all f ts, h, l => by
    have e2 : (if f = true then ("first" : Str) else "last").cps.size ≤ 8 := by cases f <;> decide +kernel
    have := weights_le ts h.2 (by simp only [sizs, siz] at l; omega)
    simp only [py, PyData.weight, PyData.weightAll, siz] at this ⊢
    omega
  | .rank r ts, h, l => by
    have e2 : ("rank" : Str).cps.size ≤ 8 := by decide +kernel
    have := weights_le ts h.2.2.2 (by simp only [sizs, siz] at l; omega)
    have e4 : ts.length ≤ sizs ts := len_le ts
    have e3 := wt_int (i := r) (by have := h.2; simp only [sizs, siz] at l; omega)
    simp only [py, PyData.weight, PyData.weightAll, siz] at this e3 ⊢
    omega
theorem weights_le : ∀ ts : List Tm, oks W zs ns ts → sizs ts ≤ 1000 → PyData.weightAll (pys ts) ≤ 100 * sizs ts
  | [], _, _ => by simp [pys, PyData.weightAll]
  | t :: ts, h, l => by
    have l' : siz t + sizs ts ≤ 1000 := l
    have h1 := weight_le t h.1 (by simp only [sizs]; omega)
    have h2 := weights_le ts h.2 (by omega)
    have h3 := siz_pos t
    simp only [pys, PyData.weightAll, sizs]
    omega
end
mutual
theorem short : ∀ t : Tm, ok W zs ns t → siz t ≤ 1000 → (py t).intsShort 13 = true
  | .part n z w, h, _ => by
    have e3 := PyData.shown_int_le (i := w) (by have := h.2; omega)
    simp [py, PyData.intsShort, PyData.intsShortAll, e3]
  | .all f ts, h, l => by
    have := shorts ts h.2 (by simp only [siz] at l; omega)
    simp [py, PyData.intsShort, PyData.intsShortAll, this]
  | .rank r ts, h, l => by
    have := shorts ts h.2.2.2 (by simp only [siz] at l; omega)
    have e4 : ts.length ≤ sizs ts := len_le ts
    have e3 := PyData.shown_int_le (i := r) (by have := h.2; simp only [siz] at l; omega)
    simp [py, PyData.intsShort, PyData.intsShortAll, this, e3]
theorem shorts : ∀ ts : List Tm, oks W zs ns ts → sizs ts ≤ 1000 → PyData.intsShortAll 13 (pys ts) = true
  | [], _, _ => rfl
  | t :: ts, h, l => by
    have l' : siz t + sizs ts ≤ 1000 := l
    rw [pys, PyData.intsShortAll, short t h.1 (by omega), shorts ts h.2 (by omega)]; rfl
end
mutual
theorem shows : ∀ t : Tm, ok W zs ns t → siz t ≤ 1000 → (py t).showable = true
  | .part n z w, h, _ => by
    have e3 : w.natAbs.log2 < 1920 := by
      rcases Nat.eq_zero_or_pos w.natAbs with e | e
      · rw [e]; decide
      · exact (Nat.log2_lt (by omega)).2 (by have := h.2; omega)
    simp [py, PyData.showable, PyData.showableAll, e3]
  | .all f ts, h, l => by
    have := showss ts h.2 (by simp only [siz] at l; omega)
    simp [py, PyData.showable, PyData.showableAll, this]
  | .rank r ts, h, l => by
    have := showss ts h.2.2.2 (by simp only [siz] at l; omega)
    have e4 : ts.length ≤ sizs ts := len_le ts
    have e3 : r.natAbs.log2 < 1920 := (Nat.log2_lt (by have := h.2; omega)).2 (by have := h.2; simp only [siz] at l; omega)
    simp [py, PyData.showable, PyData.showableAll, this, e3]
theorem showss : ∀ ts : List Tm, oks W zs ns ts → sizs ts ≤ 1000 → PyData.showableAll (pys ts) = true
  | [], _, _ => rfl
  | t :: ts, h, l => by
    have l' : siz t + sizs ts ≤ 1000 := l
    rw [pys, PyData.showableAll, shows t h.1 (by omega), showss ts h.2 (by omega)]; rfl
end
/-- a term's text is of a size that repr makes -/
theorem shown_fits (t : Tm) (h : ok W zs ns t) (l : siz t ≤ 29) : (py t).showable = true ∧ (py t).shown.length ≤ sizeLine ∧ (py t).depth ≤ 60 := by
  have h1 := weight_le hz hn hW t h (by simp only [sizs]; omega)
  have h2 := depth_le t
  have h3 := dep_le t
  refine ⟨shows hz hn hW t h (by omega), ?_, by omega⟩
  have := shown_le13 (d := py t) ?_ (short hz hn hW t h (by omega))
  · rw [sizeLine_eq]; omega
  · unfold PyData.layable0
    rw [canLay hz hn t h]
    simp only [Bool.true_and, Bool.and_eq_true, decide_eq_true_eq]
    exact ⟨by omega, by omega⟩
end
end Tm
end Vf
set_option maxRecDepth 100000
set_option maxHeartbeats 4000000
/-! Own: instances of the text's own classes: fields, methods, making, ==, isinstance. Own work. -/
namespace Vf
open PySem PySem.Spec PyProof.Rows L2 LamX
section
variable {m : Md} {N : List Str} {sc : Scope} {j k : Nat} {X : Cx} {a b c e o : Expr} {es : List Expr} {σ : L2.St} {H : Hp} {Q : VK} {nx : L2.St → Hp → Prop} {rt : VK} {bk ct : L2.St → Hp → Prop} {pos p p1 p2 apos : Pos} {x mn f : Str} {C : Addr} {sp : Sp} {dvs : List V} {CX : CXT} {E : XK}
/-! ### fields -/
theorem w_fld (h : At m N sc k X) (c : Cls m.K C) (n : NoAttr m.K C f) (q : wE X e σ H fun x H1 => ∃ a dx fs v, x = .ref a ∧ H1 a = some (.ins C dx fs) ∧ fs.lookup f = some v ∧ Q v H1)
    (hb : attributeBase e f X.env (eval e X.env) = eval e X.env := by with_unfolding_all rfl) : wE X (.Attribute e f pos) σ H Q := by
  refine toE (pe_fld cE hb) (wE.mono q fun x H1 ⟨a, dx, fs, v, ex, ea, l, q1⟩ => ?_)
  exact ⟨a, C, dx, fs, v, ex, ea, by rw [h.kk]; exact c, by rw [h.kk]; exact n, l, q1⟩
theorem s_fld (h : At m N sc k X) (c : Cls m.K C) (n : NoAttr m.K C f) (q : wE X e σ H fun y H1 => wE X o σ H1 fun x H2 => ∃ a dx fs, x = .ref a ∧ H2 a = some (.ins C dx fs) ∧ fs.length < 1000 ∧ nx σ (upd H2 a (.ins C dx (putF f y fs))))
    (hs : swapsWith e (some (.Attribute o f p1)) pos.line X.env = pure false := by with_unfolding_all rfl) : wS X (.Assign [.Attribute o f p1] e pos) ⟨nx, rt, bk, ct⟩ σ H := by
  refine toS (ps_fld cE cE hs) (wE.mono q fun y H1 q1 => wE.mono q1 fun x H2 ⟨a, dx, fs, ex, ea, l, q2⟩ => ?_)
  exact ⟨a, C, dx, fs, ex, ea, by rw [h.kk]; exact c, by rw [h.kk]; exact n, l, q2⟩
/-! ### methods -/
/-- a method of the class at C that keeps sp -/
structure MetX (m : Md) (CX : CXT) (k : Nat) (C : Addr) (mn : Str) (sp : Sp) (dvs : List V) : Prop where
  ex : ∃ (f : Addr) (fd : FuncData) (ps : List Str) (ds : List Value), FnG m CX k f fd ps sp ∧ Cls m.K C ∧ Meth m.K C mn f ∧ Binds m.K fd ps ds ∧ Vals dvs ds
/-- the callee's run, as a call -/
theorem run_call {pins : List (Addr × Obj)} {s : Shared} {g : Addr} {fd : FuncData} {ps : List Str} {ds us : List Value} {vs : List V} (h : At m N sc k X) (F : FnG m CX j g fd ps sp) (hk : j ≤ k) (hx : Passes CX X E) (I : Inv X pins σ H s) (b : Binds m.K fd ps ds) (d : Vals dvs ds) (r : Vals vs us) (q : sp (vs ++ dvs) H Q E) :
    wpAny (model X.prog X.w) X.A (call (.ref g) us) (EP X pins σ Q) X.xe s := by
  have r2 := Vals.append r d
  refine wpAny_call (codeAny_mono (fnG_run (us := us ++ ds) (vs := vs ++ dvs) h F hk hx I (b s us (by rw [← h.kk]; exact I.kIn) (by rw [← r2.length]; exact F.len _ _ _ _ q)) r2 q) fun r s' hq => ?_)
  match r, hq with
  | .error e, hq => exact hq
  | .ok (.ret u), hq => exact hq
theorem w_metX {pl : Sem Bool} (h : At m N sc k X) (c : MetX m CX j C mn sp dvs) (hk : j ≤ k) (hx : Passes CX X E)
    (q : wE X o σ H fun x H1 => ∃ a dx fs, x = .ref a ∧ H1 a = some (.ins C dx fs) ∧ fs.lookup mn = none ∧ wA X (e :: es) σ H1 fun vs H2 => sp (x :: (vs ++ dvs)) H2 Q E)
    (hst : starEach (e :: es) X.env = (false, eval e X.env) :: starEach es X.env := by with_unfolding_all rfl) (hpl : (backTo pos (starEach es X.env)).any (·.1) = false := by with_unfolding_all rfl)
    (ht : eval (.Call (.Attribute o mn apos) (e :: es) [] pos) X.env = (do
      let ov ← eval o X.env
      standAt apos.atName
      let (f, first) ← holding [ov] (getMethod ov mn pl)
      callWith pos f first (backTo pos (starEach (e :: es) X.env)) (backToKw pos (keywordEach [] X.env))) := by with_unfolding_all rfl) : wE X (.Call (.Attribute o mn apos) (e :: es) [] pos) σ H Q := by
  obtain ⟨g, fd, ps, ds, F, cl, me, b, d⟩ := c.ex
  unfold wE
  intro pins s I
  refine PySem.W.methodCall_KW (pl := pl) (thn ((cE (X := X) (e := o)).run pins s σ H _ I q) fun u s1 ⟨x, H1, I1, rx, i, dx, fs, ex, ea, l, q1⟩ => ?_) ht
  subst ex
  obtain rfl : u = Value.ref i := rx
  refine getmeth_ok I1 ea (by rw [h.kk]; exact cl) (by rw [h.kk]; exact me) l ?_
  refine PySem.W.callWith_K (first := [.ref i]) (h₀ := X.base) I.ok.mod.kin (by rw [h.kk]; exact me.kp) (thn ((cA (X := X) (es := e :: es)).run pos pins s1 σ H1 _ I1 q1) fun us s2 ⟨vs, H2, I2, r, q2⟩ => ⟨I2.kIn, ?_⟩) hst hpl
  exact run_call (us := .ref i :: us) (vs := .ref i :: vs) h F hk hx I2 b d (.cons rfl r) q2
theorem w_met0 {pl : Sem Bool} (h : At m N sc k X) (c : MetX m CX j C mn sp dvs) (hk : j ≤ k) (hx : Passes CX X E)
    (q : wE X o σ H fun x H1 => ∃ a dx fs, x = .ref a ∧ H1 a = some (.ins C dx fs) ∧ fs.lookup mn = none ∧ sp (x :: dvs) H1 Q E)
    (ht : eval (.Call (.Attribute o mn apos) [] [] pos) X.env = (do
      let ov ← eval o X.env
      standAt apos.atName
      let (f, first) ← holding [ov] (getMethod ov mn pl)
      callWith pos f first (backTo pos (starEach [] X.env)) (backToKw pos (keywordEach [] X.env))) := by with_unfolding_all rfl) : wE X (.Call (.Attribute o mn apos) [] [] pos) σ H Q := by
  obtain ⟨g, fd, ps, ds, F, cl, me, b, d⟩ := c.ex
  unfold wE
  intro pins s I
  refine PySem.W.methodCall_KW (pl := pl) (thn ((cE (X := X) (e := o)).run pins s σ H _ I q) fun u s1 ⟨x, H1, I1, rx, i, dx, fs, ex, ea, l, q1⟩ => ?_) ht
  subst ex
  obtain rfl : u = Value.ref i := rx
  refine getmeth_ok I1 ea (by rw [h.kk]; exact cl) (by rw [h.kk]; exact me) l ?_
  exact PySem.W.callWith_K0 (first := [.ref i]) I1.kIn (by rw [h.kk]; exact me.kp) (run_call (us := [.ref i]) (vs := [.ref i]) h F hk hx I1 b d (.cons rfl .nil) q1)
/-! ### making -/
/-- the class x, at C, whose __init__ keeps sp -/
structure MakX (m : Md) (CX : CXT) (k : Nat) (x : Str) (C : Addr) (sp : Sp) (dvs : List V) : Prop where
  ex : ∃ (f : Addr) (fd : FuncData) (ps : List Str) (ds : List Value), FnG m CX k f fd ps sp ∧ Mk m.K C f ∧ m.mg x = some (.ref C) ∧ Binds m.K fd ps ds ∧ Vals dvs ds
theorem w_makX (h : At m N sc k X) (c : MakX m CX j x C sp dvs) (hk : j + 1 ≤ k) (hg : sc.names.lookup x = some .globalImplicit) (hx : L2.PassesAt CX X σ E)
    (q : wA X (e :: es) σ H fun vs H1 => ∀ i dx, H1 i = none → H1 dx = none → dx ≠ i → sp (.ref i :: (vs ++ dvs)) (upd (upd H1 dx (.own i)) i (.ins C dx [])) (fun v H2 => v = .non ∧ Q (.ref i) H2) E)
    (hdb : (x == ("__debug__" : Str)) = false := by with_unfolding_all decide) (he : starEach (e :: es) X.env = (false, eval e X.env) :: starEach es X.env := by with_unfolding_all rfl) (hpl : (backTo pos (starEach es X.env)).any (·.1) = false := by with_unfolding_all rfl) : wE X (.Call (.Name x p) (e :: es) [] pos) σ H Q := by
  obtain ⟨g, fd, ps, ds, F, M, hm, b, d⟩ := c.ex
  unfold wE
  intro pins s I
  refine wpAny_Call_Name_kw (ld_glob (u := .ref C) I (h.gl hg) (by rw [h.mm]; exact hm) ?_ hdb)
  refine PySem.W.callWith_K (h₀ := X.base) I.ok.mod.kin (by rw [h.kk]; exact M.kp) (thn ((cA (X := X) (es := e :: es)).run pos pins s σ H _ I q) fun us s1 ⟨vs, H1, I1, r, q1⟩ => ⟨I1.kIn, ?_⟩) he hpl
  have hq := q1 (s1.heap.objs.size + 1) s1.heap.objs.size (I1.hok.fresh (Nat.le_succ _)) (I1.hok.fresh (Nat.le_refl _)) (Nat.ne_of_lt (Nat.lt_succ_self _))
  have I2 := Inv.made (C := C) I1
  have r2 : Vals (V.ref (s1.heap.objs.size + 1) :: (vs ++ dvs)) (Value.ref (s1.heap.objs.size + 1) :: (us ++ ds)) := .cons rfl (Vals.append r d)
  have e0 := I2.env0.make C us []
  rw [h.pp, h.ww, h.kk, h.mm, h.bb] at e0
  have rc := F.run _ X.stack _ _ ⟨Value.ref (s1.heap.objs.size + 1) :: us, []⟩ (Value.ref (s1.heap.objs.size + 1) :: (us ++ ds)) _ _ E (by exact h.gd) ((h.room.mono hk).make C us []) e0
    (b _ (Value.ref (s1.heap.objs.size + 1) :: us) (by rw [← h.kk]; exact I2.kIn) (by have z := r2.length; rw [F.len _ _ _ _ hq] at z; exact z.symm)) r2 hq
  rw [← h.pp, ← h.ww] at rc
  refine wpAny_call (make_map (f := g) I1.kIn (by rw [h.kk]; exact M.makes) (by rw [h.kk]; exact M.init) (by rw [h.kk]; exact beq_iff_eq.mp M.fn) (codeAny_mono rc fun r s' hq' => ?_))
  match r, hq' with
  | .error e, hq' => exact hx pins _ _ e s' I2 hq'
  | .ok (.ret u), hq' =>
    obtain ⟨v, H', I3, rv, ev, q3⟩ := I2.after hq'
    subst ev
    exact ⟨rv, ⟨V.ref (s1.heap.objs.size + 1), H', I3, rfl, q3⟩⟩
/-! ### isinstance -/
theorem g_isi (h : At m N sc k X) {x c : V} {t u : Value} {r : Bool} (hc : ClsV c u) (ht : TyX m.K H x t) (hr : PySem.W.kitOne m.K t u = some r) (q : Q (.bl r) H) : gCall X (.builtin "isinstance") [x, c] H Q :=
  ⟨_, call_isi, x, c, t, u, r, rfl, hc, by rw [h.kk]; exact ht, by rw [h.kk]; exact hr, q⟩
/-- == by an own __eq__ -/
theorem g_eqIns (h : At m N sc k X) (c : MetX m CX j C "__eq__" sp []) (hk : j ≤ k) (hx : Passes CX X E) {i dx : Addr} {fs : List (Str × V)} {y : V} {t : Value} (hi : H i = some (.ins C dx fs)) (ty : TyX m.K H y t) (nf : PySem.W.notFirst m.K C t = true)
    (q : sp [.ref i, y] H (fun z H' => ∃ r, z = .bl r ∧ Q (.bl r) H') E) : gOp X (compareOp .Eq) (.ref i) y H Q := by
  obtain ⟨g, fd, ps, ds, F, cl, me, b, d⟩ := c.ex
  intro pins s σ v u I rx ry
  cases rx
  have ty' : TyX X.K H y t := by rw [h.kk]; exact ty
  obtain ⟨P, Z, p, _⟩ := kit_of I ry ty'
  obtain ⟨mA, J, _⟩ := ins_get I.hok hi
  obtain ⟨od, J, _⟩ := J.look
  obtain ⟨mm, hF⟩ := I.fr
  show wpAny (model X.prog X.w) X.A (richCompare .Eq (.ref i) u) (EP X pins σ Q) X.xe s
  have hu := h.hu
  refine PySem.W.cmp_K (op := .Eq) (tb := t) (by omega) hF I.ok.mod.kin J (Z.ty _ _ I.kIn p) (by rw [h.kk]; exact nf) (by rw [h.kk]; exact me.at_) (by rw [h.kk]; exact me.fn) ?_
  refine wpAny_mono (run_call (Q := fun z H' => ∃ r, z = .bl r ∧ Q (.bl r) H') (us := [.ref i, u]) (vs := [.ref i, y]) h F hk hx I b d (.cons rfl (.cons ry .nil)) (by cases d; simpa using q)) (fun w s' hq => ?_) fun _ _ x => x
  obtain ⟨z, H', I', rz, r, ez, q'⟩ := hq
  subst ez
  cases rz
  exact ⟨.bl r, _, I', rfl, q'⟩
/-! != where the class has an own __eq__ and no __ne__ -/
section
variable {M : Model} {prog : Program} {w : World} {A : Around} {EE : Value → Shared → Prop} {s : Shared} {K : PySem.W.Frag} {i g : Addr} {oi : Obj} {od : Option Obj} {u tb : Value}
theorem bound_ne {args : List Value} {R : Option Value → Shared → Prop} (KI : K.In s.heap) (J : PySem.W.InstAt s.heap i oi C od) (hs : PySem.W.findIn K (.ref C) "__ne__" = some (some (.builtin "object.__ne__")))
    (q : wpAny M A (call (.builtin "object.__ne__") (.ref i :: args)) (fun v => R (some v)) EE s) : wpAny M A (callSpecialIfBound? (.ref i) "__ne__" args) R EE s := by
  have last : wpAny M A (do let v ← call (.builtin "object.__ne__") ([.ref i] ++ args); pure (some v)) R EE s := wpAny_bind (wpAny_mono q (fun v s' z => wpAny_pure z) fun _ _ z => z)
  simp only [callSpecialIfBound?, bindSpecialIfBound?]
  refine wpAny_holding (wpAny_bind (wpAny_bind (wpAny_bind (J.type.here ((PySem.W.looks_findIn KI hs).here (wpAny_bind (wpAny_askSetting (wpAny_ite ?_))))))))
  split
  · exact wpAny_bind (wpAny_of_eq (F.cmp_object.ne.bind _) (wpAny_pure (by exact last)))
  · exact wpAny_tryCatch (wpAny_bind (wpAny_of_eq (F.cmp_object.ne.bind _) (wpAny_pure (by exact last))))
theorem body_ne (KI : K.In s.heap) (J : PySem.W.InstAt s.heap i oi C od) (he : PySem.W.findIn K (.ref C) "__eq__" = some (some (.ref g))) (hf : PySem.W.isFn K (.ref g) = true) (hu : A.units < cLine) {R : Fin → Shared → Prop}
    (q : wpAny M A (call (.ref g) [.ref i, u]) (fun v s' => ∃ b, v = .bool b ∧ R (.done (.ret (.bool (!b)))) s') EE s) : wpAny M A (Builtin.«object.__ne__» ⟨[.ref i, u], []⟩) R EE s := by
  unfold Builtin.«object.__ne__»
  repeat (first
    | with_reducible refine wpAny_cRoomFor hu ?_
    | (refine wpAny_bind (m := callSpecialIfBound? (.ref i) (Str.ofString "__eq__") [u]) (PySem.W.ifBound_K KI J he hf (wpAny_mono q (fun r s' z => by
          obtain ⟨b, rfl, hq⟩ := z
          repeat (first | exact hq | exact wpAny_pure hq | exact wpAny_truthy_bool hq | (refine wpAny_bind (m := truthy (.bool _)) (wpAny_truthy_bool ?_)) | wp_step)) fun _ _ z => z)))
    | wp_step)
end
/-- the callee's run one built-in deeper -/
theorem run_call1 {pins : List (Addr × Obj)} {s : Shared} {g : Addr} {fd : FuncData} {ps : List Str} {us : List Value} {vs : List V} (h : At m N sc k X) (F : FnG m CX j g fd ps sp) (hk : j + 1 ≤ k) (hx : Passes CX X E) (I : Inv X pins σ H s) (b : Binds m.K fd ps []) (r : Vals vs us) (q : sp vs H Q E) :
    wpAny (model X.prog X.w) X.A.in1 (call (.ref g) us) (EP X pins σ Q) X.xe s := by
  have e0 := I.env0.in1
  rw [h.pp, h.ww, h.kk, h.mm, h.bb] at e0
  have hl : us.length = ps.length := by rw [← r.length]; exact F.len _ _ _ _ q
  have rc := F.run X.A.in1 X.stack s H ⟨us, []⟩ us vs Q E (by exact h.gd) ((h.room.mono hk).in1) e0 (by have := b s us (by rw [← h.kk]; exact I.kIn) (by simpa using hl); simpa using this) r q
  rw [← h.pp, ← h.ww] at rc
  refine wpAny_call (codeAny_mono rc fun r s' hq => ?_)
  match r, hq with
  | .error e, hq => exact hx pins σ H s e s' I hq
  | .ok (.ret u), hq => exact I.after hq
/-- != where the class has an own __eq__ and no __ne__ -/
theorem g_neIns (h : At m N sc k X) (c : MetX m CX j C "__eq__" sp []) (hn : PySem.W.findIn m.K (.ref C) "__ne__" = some (some (.builtin "object.__ne__"))) (hm : PySem.W.mroIn m.K C (.type "object") = some true) (hk : j + 1 ≤ k) (hx : Passes CX X E) {i dx : Addr} {fs : List (Str × V)} {y : V} {t : Value} (hi : H i = some (.ins C dx fs)) (ty : TyX m.K H y t) (nf : PySem.W.notFirst m.K C t = true)
    (q : sp [.ref i, y] H (fun z H' => ∃ r, z = .bl r ∧ Q (.bl (!r)) H') E) : gOp X (compareOp .NotEq) (.ref i) y H Q := by
  obtain ⟨g, fd, ps, ds, F, cl, me, b, d⟩ := c.ex
  intro pins s σ v u I rx ry
  cases rx
  cases d
  have ty' : TyX X.K H y t := by rw [h.kk]; exact ty
  obtain ⟨P, Z, p, _⟩ := kit_of I ry ty'
  obtain ⟨mA, J, _⟩ := ins_get I.hok hi
  obtain ⟨od, J, _⟩ := J.look
  have hu := h.hu
  have KI := I.kIn
  have hb := Z.ty (model X.prog X.w) _ I.kIn p
  have run := run_call1 (Q := fun z H' => ∃ r, z = .bl r ∧ Q (.bl (!r)) H') (us := [.ref i, u]) (vs := [.ref i, y]) h F hk hx I b (.cons rfl (.cons ry .nil)) (by simpa using q)
  have one : wpAny (model X.prog X.w) X.A (tryCompare (.ref i) (cmpInfo .NotEq).2.1 u) (fun r s' => ∃ v, r = some v ∧ EP X pins σ Q v s') X.xe s := by
    unfold tryCompare
    refine wpAny_bind (bound_ne KI J (by rw [h.kk]; exact hn) (wpAny_call (codeAny_call_builtin PySem.F.cmp_object.ne.plain PySem.F.cmpEntry_ne (PySem.W.check_slot PySem.F.cmpKind_ne PySem.F.cmpSplit_ne (J.type.andThen (PySem.W.looks_mroIn KI (by rw [h.kk]; exact hm))) (PySem.F.cmpArgs_ne _ _)
      (body_ne (A := X.A.in1) KI J (by rw [h.kk]; exact me.at_) (by rw [h.kk]; exact me.fn) (by show X.A.units + 1 < cLine; omega) (wpAny_mono run (fun v s' hv => ?_) fun _ _ z => z))))))
    obtain ⟨z, H', I', rz, r, ez, q'⟩ := hv
    subst ez
    cases rz
    exact ⟨r, rfl, wpAny_pure ⟨_, rfl, .bl (!r), H', I', rfl, q'⟩⟩
  show wpAny (model X.prog X.w) X.A (richCompare .NotEq (.ref i) u) (EP X pins σ Q) X.xe s
  unfold richCompare
  simp only [oneThing_ref]
  refine wpAny_holding (wpAny_bind (wpAny_cRoomFor (by omega) ?_))
  refine wpAny_bind (J.type.here (wpAny_bind (hb.here ?_)))
  have nf' : PySem.W.notFirst X.K C t = true := by rw [h.kk]; exact nf
  split
  · rename_i w
    have e : PySem.W.subIn X.K t (.ref C) = some false := by
      rcases Bool.or_eq_true_iff.mp nf' with e | e
      · rw [beq_iff_eq.mp e] at w; simp at w
      · exact beq_iff_eq.mp e
    refine wpAny_bind ((PySem.W.looks_subIn KI e).here ?_)
    simp only [Bool.false_eq_true, if_false]
    refine wpAny_bind (wpAny_mono one (fun r s' z => ?_) fun _ _ z => z)
    obtain ⟨v, rfl, hq⟩ := z
    exact wpAny_pure hq
  · refine wpAny_bind (wpAny_pure ?_)
    simp only [Bool.false_eq_true, if_false]
    refine wpAny_bind (wpAny_mono one (fun r s' z => ?_) fun _ _ z => z)
    obtain ⟨v, rfl, hq⟩ := z
    exact wpAny_pure hq
end
end Vf
set_option maxRecDepth 100000
set_option maxHeartbeats 4000000
/-! Exn: defs that raise own errors with a field, and what catches them. Own work. -/
namespace Vf
open PySem PySem.Spec PyProof.Rows L2 LamX
/-- how the frame of a def stands -/
structure Frm (X : Cx) : Prop where
  stk : X.stack = X.env :: X.outer
  frm : X.env.frame = some X.env.locals
section
variable {m : Md} {N ps : List Str} {k : Nat} {x qual : Str} {st : Stmt} {f : Addr} {fd : FuncData} {sp : Sp}
/-- a def that may raise, by its body -/
theorem fnG_ofX (F : C8.Fun m.K x qual st f fd) (S : FnScope N ps (C8.fnScope st)) (len : ∀ vs H Q E, sp vs H Q E → vs.length = ps.length)
    (hb : ∀ (X : Cx) (vs : List V) (H : Hp) (Q : VK) (E : XK), At m N (C8.fnScope st) k X → AtM X qual fd.code → Frm X → L2.Takes X (fun cls d _ H => E cls d H) → sp vs H Q E → wB X (C8.fnBody st) { nx := fun _ H' => Q .non H', rt := Q } (start N vs) H) : FnG m (L2.CX m.P m.w) (k + 1) f fd ps sp := by
  obtain ⟨oc, od, dV, kV, doc, pm, an, cdv, ct, osl, rfl, lk, hc⟩ := F.ex
  refine ⟨len, fun A outer s H args us vs Q E hg hr e0 bt r q => ?_⟩
  refine LamX.run_ofS (CX := L2.CX m.P m.w) (N := N) lk hc S hr e0 bt r (len _ _ _ _ q) fun hr' => ⟨_, cB, ?_⟩
  exact hb (cxOf (L2.CX m.P m.w) m.P m.w m.K m.mg m.base N qual (C8.fnScope st) f cdv A outer s H E) vs H Q E ⟨rfl, rfl, rfl, rfl, rfl, rfl, rfl, rfl, hr', L2.passes_of rfl, S.nd, hg⟩ ⟨rfl, rfl, fun _ => rfl, rfl⟩ ⟨rfl, rfl⟩ (L2.takes_of rfl rfl rfl rfl) q
theorem calX_of (F : C8.Def m.K m.mg x st f fd) (b : Binds m.K fd ps []) (S : FnScope N ps (C8.fnScope st)) (len : ∀ vs H Q E, sp vs H Q E → vs.length = ps.length)
    (hb : ∀ (X : Cx) (vs : List V) (H : Hp) (Q : VK) (E : XK), At m N (C8.fnScope st) k X → AtM X x fd.code → Frm X → L2.Takes X (fun cls d _ H => E cls d H) → sp vs H Q E → wB X (C8.fnBody st) { nx := fun _ H' => Q .non H', rt := Q } (start N vs) H) : CalX m (L2.CX m.P m.w) (k + 1) x sp [] :=
  ⟨f, fd, ps, [], fnG_ofX F.fn S len hb, F.mgf, F.kp, b, .nil⟩
end
/-- an own error class x at C whose __init__ stores its one argument in the field fn -/
structure ErrC (m : Md) (x : Str) (C : Addr) (fn : Str) : Prop where
  oex : OexC m.K C
  xf : XfC m.K C
  no : PySem.W.findIn m.K (.ref C) fn = some none
  gC : m.mg x = some (.ref C)
  self : PySem.W.exmOne m.K (.ref C) (.ref C) = some true
  init : ∃ (fI : Addr) (fd : FuncData) (ps : List Str), PySem.W.findIn m.K (.ref C) "__init__" = some (some (.ref fI)) ∧ PySem.W.typeIn m.K (.ref fI) = some (.type "function") ∧ Binds m.K fd ps [] ∧
    FnOk m.P m.w m.K m.mg m.base C8.CX0 1 fI fd ps (fun vs H Q _ => ∃ (a : Addr) (v : V), vs = [.ref a, v] ∧ H a = some (exo a C none) ∧ ∀ dx, H dx = none → dx ≠ a → Q .non (upd (upd H dx (exd dx [(fn, v)])) a (exo a C (some dx))))
section
variable {m : Md} {N : List Str} {sc : Scope} {i k : Nat} {X : Cx} {a b c e o : Expr} {es : List Expr} {σ : L2.St} {H : Hp} {Q : VK} {D : Ends} {W Wout : WX} {pos p p1 p2 pos2 np pos' : Pos} {x nm fn : Str} {C : Addr}
/-- raise x(e) -/
theorem s_raise (h : At m N sc k X) (tk : L2.Takes X W) (c : ErrC m x C fn) (hk : 2 ≤ k) (hg : sc.names.lookup x = some .globalImplicit)
    (q : wE X e σ H fun v H1 => ∀ d, H1 d = none → W (.ref C) (some d) σ (upd H1 d (.xd [(fn, v)])))
    (hdb : (x == ("__debug__" : Str)) = false := by with_unfolding_all decide) (he : starEach [e] X.env = (false, eval e X.env) :: starEach [] X.env := by with_unfolding_all rfl) (hpl : (backTo pos (starEach [] X.env)).any (·.1) = false := by with_unfolding_all rfl) : wS X (.Raise (some (.Call (.Name x p) [e] [] pos)) none pos2) D σ H := by
  obtain ⟨fI, fd, ps, iC, tI, b, F⟩ := c.init
  have F' := F
  rw [← h.pp, ← h.ww, ← h.kk, ← h.mm, ← h.bb] at F'
  refine toS (L2.ps_raise h.calm tk (pmk_oex (dvs := []) (ds := []) (by rw [h.kk]; exact c.oex) (by rw [h.kk]; exact iC) (by rw [h.kk]; exact tI) F' (h.room.mono hk) (by rw [h.kk]; exact b) .nil C8.pass0 (h.gl hg) (by rw [h.mm]; exact c.gC) (pa_cons (cE (e := e)) pa_nil he) hdb he hpl)) ?_
  show tCons (wE X e) tNil σ H _
  refine wE.mono q fun v H1 q1 => ?_
  refine ⟨(show 1 ≤ 1000 by decide), fun a ha => ⟨a, v, rfl, upd_same, fun dx hdx hne => ⟨rfl, dx, [(fn, v)], upd_same, by rw [upd_ne hne, upd_same], by rw [upd_ne hne] at hdx; exact hdx, ?_⟩⟩⟩
  have hdx1 : H1 dx = none := by rw [upd_ne hne] at hdx; exact hdx
  have e1 : upd (del (upd (upd (upd H1 a (exo a C none)) dx (exd dx [(fn, v)])) a (exo a C (some dx))) a) dx (.xd [(fn, v)]) = upd H1 dx (.xd [(fn, v)]) := by
    funext z
    by_cases z1 : z = dx
    · rw [z1, upd_same, upd_same]
    · rw [upd_ne z1, upd_ne z1]
      by_cases z2 : z = a
      · rw [z2, del_same, ha]
      · rw [del_ne z2, upd_ne z2, upd_ne z1, upd_ne z2]
  rw [e1]
  exact q1 dx hdx1
theorem At.tr (h : At m N sc k X) {pn : List (Addr × Obj)} {xe : Value → Shared → Prop} (hp : PassesOwn (model X.prog X.w) X.A X.env xe) : At m N sc k (X.tr pn xe) := ⟨h.pp, h.ww, h.kk, h.mm, h.bb, h.nn, h.ss, h.calm, h.room, hp, h.nd, h.gd⟩
theorem Frm.tr (h : Frm X) {pn : List (Addr × Obj)} {xe : Value → Shared → Prop} : Frm (X.tr pn xe) := ⟨h.stk, h.frm⟩
/-- the place of an except suite: a the exception, cls its class, d its dict -/
structure Sui (m : Md) (N : List Str) (sc : Scope) (a : Addr) (cls : Value) (d : Option Addr) (X : Cx) : Prop where
  ex : ∃ (X0 : Cx) (oe : Obj) (pn : List (Addr × Obj)), X = X0.suite a ((a, oe) :: pn) ∧ Zc cls d oe ∧ (∃ vs, oe.data = .fields vs)
  kk : X.K = m.K
  nn : X.N = N
  ss : X.env.scope = sc
  nd : N.Nodup
/-- try: .. except x as nm: .. -/
theorem s_tryAs {body suite : List Stmt} {b0 : Stmt} (h : At m N sc k X) (fr : Frm X) (n : NL N sc i nm) (hx : sc.names.lookup x = some .globalImplicit) (hC : m.mg x = some (.ref C)) (tk : L2.Takes X Wout)
    (q : ∀ X', At m N sc k X' → Frm X' → L2.Takes X' (fun cls d σ H => ∃ r, PySem.W.exmOne m.K cls (.ref C) = some r ∧
        (r = true → ∀ a, H a = none → ∀ X2, Sui m N sc a cls d X2 → wB X2 (b0 :: suite) { nx := fun σ' H' => D.nx (σ'.set i none) H', rt := D.rt, bk := fun σ' H' => D.bk (σ'.set i none) H', ct := fun σ' H' => D.ct (σ'.set i none) H' } (σ.set i (some (.ref a))) H) ∧ (r = false → Wout cls d σ H)) → wB X' body D σ H)
    (hdb : (x == ("__debug__" : Str)) = false := by with_unfolding_all decide) : wS X (.Try body [.ExceptHandler (some (.Name x np)) (some nm) (b0 :: suite) pos'] [] [] pos) D σ H := by
  refine toS (L2.ps_try_as (c := .ref C) (i := i) (Wout := Wout) (tb := fun W D σ H => ∀ X', At m N sc k X' → Frm X' → L2.Takes X' W → wB X' body D σ H) (ts := fun a cls d D σ H => ∀ X2, Sui m N sc a cls d X2 → wB X2 (b0 :: suite) D σ H)
    fr.stk fr.frm (by rw [h.nn]; exact h.nd) (by rw [h.nn]; exact n.ix) (by show X.env.scope.names.lookup nm = _; rw [h.ss]; exact n.loc) ⟨h.gl hx, hdb, .inl (by rw [h.mm]; exact hC)⟩ tk
    (fun W pn xe tk' ps => ⟨fun pins s σ H D I z => (cB (X := X.tr pn xe) (sts := body)).run pins s σ H D I (z _ (h.tr ps) fr.tr tk')⟩) (fun a oe cls d pn hz hf => ⟨fun pins s σ H D I z => (cB (X := X.suite a ((a, oe) :: pn)) (sts := b0 :: suite)).run pins s σ H D I (z _ ⟨⟨X, oe, pn, rfl, hz, hf⟩, h.kk, h.nn, h.ss, h.nd⟩)⟩)) ?_
  intro X' hX' fr' tk'
  refine q X' hX' fr' (L2.Takes.imp tk' fun cls d σ H z => ?_)
  unfold wAs
  rw [h.kk]
  exact z
/-! in a suite -/
theorem w_nlS {cls : Value} {d : Option Addr} {z : Addr} {v : V} (h : Sui m N sc z cls d X) (n : NL N sc i nm) (hs : σ[i]? = some (some v)) (q : Q v H) (hd : (nm == ("__debug__" : Str)) = false := by with_unfolding_all decide) (hcd : (nm == ("__classdict__" : Str)) = false := by with_unfolding_all decide) : wE X (.Name nm pos) σ H Q :=
  toE (pe_var (by rw [h.nn]; exact n.ix) (by rw [h.ss]; exact .inl n.loc) hd hcd) ⟨v, hs, q⟩
theorem s_nlS {cls : Value} {d : Option Addr} {z : Addr} (h : Sui m N sc z cls d X) (n : NL N sc i nm) (q : wE X e σ H fun v H1 => D.nx (σ.set i (some v)) H1) (hs : swapsWith e (some (.Name nm p1)) pos.line X.env = pure false := by with_unfolding_all rfl) : wS X (.Assign [.Name nm p1] e pos) D σ H :=
  toS (ps_set (by rw [h.nn]; exact h.nd) (by rw [h.nn]; exact n.ix) (by rw [h.ss]; exact .inl n.loc) cE hs (.inr (by rw [h.ss]; exact n.loc))) q
/-- e.fn of the caught error -/
theorem w_errS {cls : Value} {d : Option Addr} {z : Addr} (h : Sui m N sc z cls d X) (c : ErrC m x C fn) (hcls : cls = .ref C) (q : wE X e σ H fun y H1 => y = .ref z ∧ ∃ (dd : Addr) (v : V), d = some dd ∧ H1 dd = some (.xd [(fn, v)]) ∧ Q v H1)
    (hb : attributeBase e fn X.env (eval e X.env) = eval e X.env := by with_unfolding_all rfl) : wE X (.Attribute e fn pos) σ H Q := by
  obtain ⟨X0, oe, pn, rfl, hz, hf⟩ := h.ex
  have kk : X0.K = m.K := h.kk
  refine toE (pe_xf (C := C) (by rw [kk]; exact c.xf) (by rw [kk]; exact c.no) hz hf cE hb) ?_
  refine wE.mono q fun y H1 ⟨ey, dd, v, ed, hd, q1⟩ => ?_
  exact ⟨ey, hcls, dd, [(fn, v)], v, ed, hd, by simp [List.lookup], q1⟩
end
end Vf
set_option maxRecDepth 100000
set_option maxHeartbeats 4000000
/-! Fin: the end of a row, where nothing is being shown. Own work. -/
namespace Vf
open PySem PySem.Spec PyProof.Rows L2 LamX
/-- the script's own object -/
def scrO (vs : List Value) : Obj := { cls := .type "list", data := .seq vs.toArray }
/-- an empty table of a code object -/
def tabO : Obj := { cls := .none, data := .fields #[] }
/-- what is tracked where the law is called: the tables of ts, and the script, if it stands in no written part -/
def hp0 (K : PySem.W.Frag) (ts : List Addr) (a : Addr) (vs : List Value) (ns : List Int) : Hp := fun b => if b ∈ ts then some (.tbl #[]) else if b = a ∧ K.lookup a = none then some (.frz (scrO vs) (.lst (ns.map V.int))) else none
section
variable {K : PySem.W.Frag} {ts : List Addr} {a b : Addr} {vs : List Value} {ns : List Int} {h : Heap}
theorem hp0_tab (z : b ∈ ts) : hp0 K ts a vs ns b = some (.tbl #[]) := if_pos z
theorem hp0_some {u : HO} (z : hp0 K ts a vs ns b = some u) : b ∈ ts ∧ u = .tbl #[] ∨ b ∉ ts ∧ b = a ∧ K.lookup a = none ∧ u = .frz (scrO vs) (.lst (ns.map V.int)) := by
  unfold hp0 at z
  split at z
  · rename_i c; exact .inl ⟨c, (Option.some.inj z).symm⟩
  · rename_i c
    split at z
    · rename_i e; exact .inr ⟨c, e.1, e.2, (Option.some.inj z).symm⟩
    · cases z
/-- a heap with the script at a and the tables ts -/
structure Scr (h : Heap) (ts : List Addr) (a : Addr) (vs : List Value) : Prop where
  scr : h.get? a = some (scrO vs)
  tab : ∀ b ∈ ts, h.get? b = some tabO
theorem Scr.at_ (S : Scr h ts a vs) {u : HO} (z : hp0 K ts a vs ns b = some u) : h.get? b = some tabO ∨ h.get? b = some (scrO vs) ∧ K.lookup b = none := by
  rcases hp0_some z with ⟨m, _⟩ | ⟨_, e, k, _⟩
  · exact .inl (S.tab b m)
  · subst e; exact .inr ⟨S.scr, k⟩
/-- what is neither a sequence nor an object of fields without any is not tracked -/
theorem Scr.free (S : Scr h ts a vs) {o : Obj} (e : h.get? b = some o) (n1 : ∀ xs k, o.data ≠ .seq xs k) (n2 : o.data ≠ .fields #[]) : hp0 K ts a vs ns b = none := by
  cases z : hp0 K ts a vs ns b with
  | none => rfl
  | some u =>
    rcases S.at_ z with g | ⟨g, _⟩
    · rw [g] at e; cases e; exact absurd rfl n2
    · rw [g] at e; cases e; exact absurd rfl (n1 _ _)
theorem Scr.ok {P : Program} {w : World} (S : Scr h ts a vs) (hi : IntsAre vs ns) (hl : ns.length ≤ sizeLine) : HOk P w (hp0 K ts a vs ns) h := fun b u z => by
  rcases hp0_some z with ⟨m, rfl⟩ | ⟨_, rfl, _, rfl⟩
  · exact S.tab b m
  · exact ⟨S.scr, by rw [List.length_map]; exact hl, vs, _, vals_ints hi, S.scr⟩
theorem Scr.seq (S : Scr h ts a vs) (hi : IntsAre vs ns) (hl : ns.length ≤ sizeLine) (KX : K.In h) : SqL K (hp0 K ts a vs ns) a (ns.map V.int) := by
  have na : a ∉ ts := fun z => by
    have := S.tab a z
    rw [S.scr] at this
    have q := congrArg Obj.data (Option.some.inj this)
    cases q
  cases k : K.lookup a with
  | none => exact .inl (.inr ⟨_, by unfold hp0; rw [if_neg na, if_pos ⟨rfl, k⟩]⟩)
  | some o =>
    have e := KX a o k
    rw [S.scr] at e
    cases e
    exact .inr ⟨_, vs.toArray, _, k, rfl, rfl, rfl, by rw [List.size_toArray, hi.length]; exact hl, by simpa using vals_ints hi⟩
end
section
variable {m : Md} {mb : Str → Option Value} {CX : CXT} {k : Nat} {fa a : Addr} {cs : List (Addr × Addr)} {fd : FuncData} {x : Str} {sp : Sp} {vs : List Value} {ns : List Int}
/-- the written part and the globals as the law's call finds them -/
structure Gnd (K : PySem.W.Frag) (mg mb : Str → Option Value) (cs : List (Addr × Addr)) (h : Heap) : Prop where
  kin : K.In h
  glb : h.Ns mainGlobals mg
  blt : h.Ns builtinsNs mb
  bot : ∀ y : Str, y ≠ "__name__" → mb y = bootBuiltins y
  lim : h.NoLimit
  off : ∀ p ∈ cs, K.lookup p.2 = none
  cod : ∀ p ∈ cs, PySem.W.CodeHd h p.1 p.2
  mod : ∃ (bm : Addr) (ob : Obj), mg "__builtins__" = some (.ref bm) ∧ bm ≠ builtinsNs ∧ h.get? bm = some ob ∧ ob.cls = .type "module" ∧ ob.dict = some builtinsNs ∧ ob.data = .plain
/-- the tables' addresses -/
abbrev tbs (cs : List (Addr × Addr)) : List Addr := cs.map (·.2)
theorem mem_tbs {p : Addr × Addr} (h : p ∈ cs) : p.2 ∈ tbs cs := List.mem_map.2 ⟨p, h, rfl⟩
/-- the base: the heap without what is tracked -/
abbrev bas (K : PySem.W.Frag) (cs : List (Addr × Addr)) (a : Addr) (vs : List Value) (ns : List Int) (h : Heap) : Heap := hidT h (hp0 K (tbs cs) a vs ns)
theorem Gnd.nsB {K : PySem.W.Frag} {h : Heap} (S : Scr h (tbs cs) a vs) {b : Addr} {f : Str → Option Value} (z : h.Ns b f) : (bas K cs a vs ns h).Ns b f := by
  obtain ⟨o, es, ep, e, d, r⟩ := z
  exact ⟨o, es, ep, hidT_get e (S.free e (fun xs j w => by rw [d] at w; cases w) fun w => by rw [d] at w; cases w), d, r⟩
theorem Gnd.kinB {K : PySem.W.Frag} {mg : Str → Option Value} {h : Heap} (G : Gnd K mg mb cs h) (S : Scr h (tbs cs) a vs) : K.In (bas K cs a vs ns h) := fun b o e => by
  refine hidT_get (G.kin b o e) ?_
  cases z : hp0 K (tbs cs) a vs ns b with
  | none => rfl
  | some u =>
    rcases hp0_some z with ⟨w, _⟩ | ⟨_, w, n, _⟩
    · obtain ⟨p, hp, w⟩ := List.mem_map.1 w
      have n := G.off p hp
      rw [w, e] at n; cases n
    · rw [w, n] at e; cases e
theorem Gnd.tabB {K : PySem.W.Frag} {mg : Str → Option Value} {h : Heap} (G : Gnd K mg mb cs h) (S : Scr h (tbs cs) a vs) : ∀ p ∈ cs, TabB (bas K cs a vs ns h) mg p.1 p.2 := fun p hp => by
  have hT := S.tab _ (mem_tbs hp)
  have nG : ∀ b, mainGlobals = b → h.get? b ≠ some tabO := fun b z w => by
    obtain ⟨o, es, ep, e, hd, _⟩ := G.glb
    rw [z, w] at e
    cases e
    cases hd
  refine ⟨?_, ?_, fun z => nG _ z hT⟩
  · obtain ⟨o, us, fl, tf, fg, tg, inF, tx, tt, at1, kind, dat, el, more⟩ := G.cod p hp
    refine ⟨o, us, fl, tf, fg, tg, inF, tx, tt, hidT_get at1 (S.free at1 (fun xs j w => by rw [dat] at w; cases w) fun w => ?_), kind, dat, el, more⟩
    rw [dat] at w
    cases w
    simp at el
  · obtain ⟨bm, ob, b1, b2, b3, b4, b5, b6⟩ := G.mod
    refine ⟨bm, ob, b1, b2, fun q => ?_, fun q => ?_, hidT_get b3 (S.free b3 (fun xs j w => by rw [b6] at w; cases w) fun w => by rw [b6] at w; cases w), b4, b5, b6⟩
    · obtain ⟨o, es, ep, e, hd, _⟩ := G.glb
      rw [← q, b3] at e
      cases e
      rw [b6] at hd; cases hd
    · rw [q, hT] at b3
      cases b3
      cases b6
/-- the call of the law -/
theorem law_run {h : Heap} {s : Shared} (es : s.heap = h) (G : Gnd m.K m.mg mb cs h) (S : Scr h (tbs cs) a vs) (hg : s.gens = #[]) (hi : IntsAre vs ns) (hl : ns.length ≤ sizeLine) (hr : Room k callerA)
    (F : (bas m.K cs a vs ns h).Ns mainGlobals m.mg → m.K.In (bas m.K cs a vs ns h) → (∀ p ∈ cs, TabB (bas m.K cs a vs ns h) m.mg p.1 p.2) → FnG { m with base := bas m.K cs a vs ns h } CX k fa fd [x] sp) (hb : ∀ (s : Shared) (u : Value), BindsTo s fd ⟨[u], []⟩ [(x, u)])
    (q : ∀ H : Hp, (∀ p ∈ cs, H p.2 = some (.tbl #[])) → SqL m.K H a (ns.map V.int) → sp [.ref a] H (fun v _ => v = .bl true) fun _ _ _ => False) (hCX : ∀ H e s', CX [] H s (fun _ _ _ => False) e s' → False) :
    codeAny (model m.P m.w) callerA (.call (.ref fa) ⟨[.ref a], []⟩) (fun r s' => r = .ok (.ret (.bool true)) ∧ OldK s.heap s'.heap ∧ s'.os = s.os ∧ AllBare s'.gens) s := by
  subst es
  have M : L2.Mod m.K m.mg (bas m.K cs a vs ns s.heap) := ⟨G.kinB S, Gnd.nsB S G.glb, ⟨mb, Gnd.nsB S G.blt, G.bot⟩, by obtain ⟨c, h1, h2⟩ := G.lim; exact ⟨c, Gnd.nsB S h1, h2⟩⟩
  have ok := S.ok (P := m.P) (w := m.w) (K := m.K) hi hl
  have e0 : Env0 m.P m.w m.K m.mg (bas m.K cs a vs ns s.heap) callerA [] s (hp0 m.K (tbs cs) a vs ns) :=
    ⟨rfl, M, fun b o e => of_hidT e, Nat.le_of_eq (hidT_size _ _), trivial, fun b hb => absurd (show b ∈ ([] : List Addr) from hb) (by simp), ok, .of_eq hg⟩
  have run := (F (Gnd.nsB S G.glb) (G.kinB S) (G.tabB S)).run callerA [] s (hp0 m.K (tbs cs) a vs ns) ⟨[.ref a], []⟩ [.ref a] [.ref a] _ _ rfl hr e0 (hb s (.ref a)) (.cons rfl .nil) (q _ (fun p hp => hp0_tab (mem_tbs hp)) (S.seq hi hl G.kin))
  refine codeAny_mono run fun r s' z => ?_
  match r, z with
  | .error e, z => exact (hCX _ e s' z).elim
  | .ok (.ret u), z =>
    obtain ⟨v, H', os, bare, un, ok', rv, ev⟩ := z
    subst ev
    obtain rfl : u = Value.bool true := rv
    have grown : ∀ p ∈ cs, ∃ more : Array Value, s'.heap.get? p.2 = some { cls := .none, data := .fields more } := fun p hp => by
      obtain ⟨more, w⟩ := un.tbls p.2 #[] (hp0_tab (mem_tbs hp))
      exact ⟨_, ok' p.2 _ w⟩
    have stays : ∀ b o, b ∉ tbs cs → s.heap.get? b = some o → s'.heap.get? b = some o := fun b o nb e => by
      cases w : hp0 m.K (tbs cs) a vs ns b with
      | none => exact un.keep b o e w (fun y => absurd (show b ∈ ([] : List Addr) from y) (by simp)) (by simp)
      | some u =>
        rcases hp0_some w with ⟨y, _⟩ | ⟨_, rfl, _, rfl⟩
        · exact absurd y nb
        · have y := un.frzs b _ _ w
          obtain ⟨y2, _⟩ := ok' b _ y
          rw [S.scr] at e
          cases e
          exact y2
    refine ⟨rfl, ⟨fun b o e => ?_, fun b o e => ?_⟩, os, bare⟩
    · by_cases y : b ∈ tbs cs
      · obtain ⟨p, hp, rfl⟩ := List.mem_map.1 y
        obtain ⟨more, hm⟩ := grown p hp
        have t := S.tab _ y
        rw [t] at e
        cases e
        exact .inr (.inl ⟨((G.cod p hp).tab t).isCodeTable, rfl, #[], more, rfl, by rw [Array.empty_append]; exact hm⟩)
      · exact .inl (stays b o y e)
    · by_cases y : b ∈ tbs cs
      · obtain ⟨p, hp, rfl⟩ := List.mem_map.1 y
        obtain ⟨more, hm⟩ := grown p hp
        exact ⟨_, hm⟩
      · exact ⟨o, stays b o y e⟩
end
/-- what is to be shown of the law at the head's heap h -/
structure LawG (P : Program) (w : World) (K : PySem.W.Frag) (CX : CXT) (k n : Nat) (x : Str) (mg : Str → Option Value) (fa : Addr) (h : Heap) (fd : FuncData) (cs : List (Addr × Addr)) (T : List (Addr × Str)) (sp : Sp) : Prop where
  tab : ∀ p ∈ cs, h.get? p.2 = some tabO
  off : ∀ p ∈ cs, K.lookup p.2 = none
  cod : ∀ p ∈ cs, PySem.W.CodeHd h p.1 p.2
  bnd : ∀ (s : Shared) (u : Value), BindsTo s fd ⟨[u], []⟩ [(x, u)]
  pre : ∀ (H : Hp) (a : Addr) (ns : List Int), ns.length ≤ n → (∀ z ∈ ns, Builtin.Int.intBits z ≤ 1048576) → (∀ p ∈ cs, H p.2 = some (.tbl #[])) → SqL K H a (ns.map V.int) → sp [.ref a] H (fun v _ => v = .bl true) fun _ _ _ => False
  run : ∀ base : Heap, base.Ns mainGlobals mg → K.In base → (∀ p ∈ cs, TabB base mg p.1 p.2) → FnG ⟨P, w, K, mg, base, T⟩ CX k fa fd [x] sp
theorem walkG {l : PySem.W.OpenLaw} {n k : Nat} {q : Program} {loose : List Str} {XP : (Str → Option Value) → Heap → Prop} {YP : World → Heap → Prop} {d : DefRec} {K : Params → PySem.W.Frag} {CX : World → CXT} {x : Str}
    (hn : l.most = some n) (hn2 : n ≤ sizeLine) (hdf : d.params.defaults = []) (hr : Room k callerA) (hY : ∀ (w : World) (h : Heap), YP w h → (K w.params).In h)
    (F : ∀ (w : World) (mg : Str → Option Value) (fa : Addr) (h : Heap), YP w h → (K w.params).In h → h.Ns mainGlobals mg → mg d.name = some (.ref fa) → ∃ fd cs T sp, LawG l.prog w (K w.params) (CX w) k n x mg fa h fd cs T sp)
    (hCX : ∀ (w : World) (H : Hp) (s : Shared) (e : Value) (s' : Shared), CX w [] H s (fun _ _ _ => False) e s' → False) :
    PySem.W.WalkO q loose XP YP l.row.toRowW d [] (fun f vs => PySem.call f vs) := by
  refine Att.attach_callB hn hdf fun w s0 s1 mg mb fa o pm cd doc a vs ns G Y _ _ _ hmg hobj hints hlen hbits hg => ?_
  have KX := hY w _ Y
  obtain ⟨fd, cs, T, sp, L⟩ := F w mg fa _ Y KX G.T.g hmg
  exact law_run (m := ⟨l.prog, w, K w.params, mg, s1.heap, T⟩) (h := s1.heap) rfl ⟨KX, G.T.g, G.T.b, G.T.builtins, G.T.nolimit, L.off, L.cod, G.T.bmain⟩ ⟨hobj, fun b hb => by
    obtain ⟨p, hp, e⟩ := List.mem_map.1 hb
    rw [← e]; exact L.tab p hp⟩ hg hints (Nat.le_trans hlen hn2) hr (fun h1 h2 h3 => L.run _ h1 h2 h3) L.bnd (fun H h1 h2 => L.pre H a ns hlen hbits h1 h2) fun H e s' z => hCX w H s1 e s' z
end Vf
set_option maxRecDepth 100000
set_option maxHeartbeats 4000000
/-! Ob: any object that is handed: data with dicts in it, of which only is known that they are dicts. Own work. -/
namespace Vf
open PySem PySem.Spec PyProof.Rows L2 LamX
mutual
inductive Ob (K : PySem.W.Frag) (A : Addr → Prop) (H : Hp) : V → PyData → Prop
  | non : Ob K A H .non .none
  | bl (b : Bool) : Ob K A H (.bl b) (.bool b)
  | int (i : Int) : Ob K A H (.int i) (.int i)
  | str (x : Str) : x.length ≤ sizeLine → Ob K A H (.str x) (.str x)
  | lst {a : Addr} {xs : List V} {ds : List PyData} : A a → SqL K H a xs → ObAll K A H xs ds → xs.length < 1000000 → Ob K A H (.ref a) (.list ds)
  | tup {a : Addr} {xs : List V} {ds : List PyData} : SqT K H a xs → ObAll K A H xs ds → Ob K A H (.ref a) (.tuple ds)
  | dct {a : Addr} {kvs : List (Key × V)} : A a → H a = some (.dK kvs) → Ob K A H (.ref a) (.dict [])
inductive ObAll (K : PySem.W.Frag) (A : Addr → Prop) (H : Hp) : List V → List PyData → Prop
  | nil : ObAll K A H [] []
  | cons {v : V} {vs : List V} {d : PyData} {ds : List PyData} : Ob K A H v d → ObAll K A H vs ds → ObAll K A H (v :: vs) (d :: ds)
end
section
variable {K : PySem.W.Frag} {A A' : Addr → Prop} {H H' : Hp}
theorem ObAll.length : ∀ {vs : List V} {ds : List PyData}, ObAll K A H vs ds → vs.length = ds.length
  | _, _, .nil => rfl
  | _, _, .cons _ r => congrArg (· + 1) (ObAll.length r)
theorem ObAll.getV : ∀ {vs : List V} {ds : List PyData} {i : Nat} {v : V}, ObAll K A H vs ds → vs[i]? = some v → ∃ d, ds[i]? = some d ∧ Ob K A H v d
  | _, _, i, _, .nil, e => by simp at e
  | _, _, 0, _, .cons a _, e => by simp at e; subst e; exact ⟨_, rfl, a⟩
  | _, _, i + 1, d, .cons _ r, e => by
    obtain ⟨v, h1, h2⟩ := ObAll.getV (i := i) r (by simpa using e)
    exact ⟨v, by simpa using h1, h2⟩
mutual
theorem Ob.mono (hA : ∀ a, A a → A' a) (hL : ∀ a xs, A a → SqL K H a xs → SqL K H' a xs) (hT : ∀ a xs, SqT K H a xs → SqT K H' a xs) (hD : ∀ a (kvs : List (Key × V)), A a → H a = some (.dK kvs) → H' a = some (.dK kvs)) : ∀ (d : PyData) (v : V), Ob K A H v d → Ob K A' H' v d
  | .none, _, h => by cases h; exact .non
  | .bool b, _, h => by cases h; exact .bl b
  | .int i, _, h => by cases h; exact .int i
  | .str x, _, h => by cases h with | str _ l => exact .str x l
  | .list ds, _, h => by cases h with | lst a s r l => exact .lst (hA _ a) (hL _ _ a s) (ObAll.mono hA hL hT hD ds _ r) l
  | .tuple ds, _, h => by cases h with | tup s r => exact .tup (hT _ _ s) (ObAll.mono hA hL hT hD ds _ r)
  | .dict _, _, h => by cases h with | dct a e => exact .dct (hA _ a) (hD _ _ a e)
theorem ObAll.mono (hA : ∀ a, A a → A' a) (hL : ∀ a xs, A a → SqL K H a xs → SqL K H' a xs) (hT : ∀ a xs, SqT K H a xs → SqT K H' a xs) (hD : ∀ a (kvs : List (Key × V)), A a → H a = some (.dK kvs) → H' a = some (.dK kvs)) : ∀ (ds : List PyData) (vs : List V), ObAll K A H vs ds → ObAll K A' H' vs ds
  | [], _, h => by cases h; exact .nil
  | d :: ds, _, h => by cases h with | cons a b => exact .cons (Ob.mono hA hL hT hD d _ a) (ObAll.mono hA hL hT hD ds _ b)
end
mutual
/-- texts of a size that len asks -/
def txOk : PyData → Prop
  | .str x => x.length ≤ sizeLine
  | .list ds => ds.length < 1000000 ∧ txOks ds
  | .tuple ds => txOks ds
  | .none | .bool _ | .int _ | .dict _ => True
def txOks : List PyData → Prop
  | [] => True
  | d :: ds => txOk d ∧ txOks ds
end
mutual
theorem Da.ob : ∀ (d : PyData) (v : V), Da K A H v d → txOk d → Ob K A H v d
  | .none, _, h, _ => by cases h; exact .non
  | .bool b, _, h, _ => by cases h; exact .bl b
  | .int i, _, h, _ => by cases h; exact .int i
  | .str x, _, h, t => by cases h; exact .str x t
  | .list ds, _, h, t => by cases h with | lst a s r => exact .lst a s (DaAll.ob ds _ r t.2) (by rw [r.length]; exact t.1)
  | .tuple ds, _, h, t => by cases h with | tup s r => exact .tup s (DaAll.ob ds _ r t)
  | .dict _, _, h, _ => by cases h
theorem DaAll.ob : ∀ (ds : List PyData) (vs : List V), DaAll K A H vs ds → txOks ds → ObAll K A H vs ds
  | [], _, h, _ => by cases h; exact .nil
  | d :: ds, _, h, t => by cases h with | cons a b => exact .cons (Da.ob d _ a t.1) (DaAll.ob ds _ b t.2)
end
/-- the type of data -/
def tyD : PyData → String
  | .none => "NoneType"
  | .bool _ => "bool"
  | .int _ => "int"
  | .str _ => "str"
  | .list _ => "list"
  | .tuple _ => "tuple"
  | .dict _ => "dict"
theorem tyx_lst {a : Addr} {xs : List V} (h : SqL K H a xs) : TyX K H (.ref a) (.type "list") := by
  rcases h with (h | ⟨o, h⟩) | ⟨o, its, n, e, c, _⟩
  · exact .base (.lst h)
  · exact .base (.frz h)
  · exact .kList e c
theorem tyx_tup {a : Addr} {xs : List V} (h : SqT K H a xs) : TyX K H (.ref a) (.type "tuple") := by
  rcases h with (h | ⟨o, h⟩) | ⟨o, its, n, e, c, _⟩
  · exact .base (.tup h)
  · exact .fTuple h
  · exact .kTuple e c
theorem Ob.ty {v : V} {d : PyData} (h : Ob K A H v d) : TyX K H v (.type (tyD d)) := by
  cases h with
  | non => exact .base .non
  | bl b => exact .base (.bl b)
  | int i => exact .base (.int i)
  | str x _ => exact .base (.str x)
  | lst _ s _ _ => exact tyx_lst s
  | tup s _ => exact tyx_tup s
  | dct _ e => exact .base (.dK e)
end
/-! ### what is a term -/
/-- the text z -/
def isS (z : Str) : PyData → Bool
  | .str y => y == z
  | _ => false
def isWh : PyData → Bool
  | .int _ => true
  | _ => false
def nmB (z : Str) : Bool := decide (1 ≤ z.length) && decide (z.length ≤ 8) && z.cps.toList.all fun c => decide (97 ≤ c) && decide (c ≤ 122)
theorem nmB_iff {z : Str} : nmB z = true ↔ IsName z := by
  unfold nmB IsName
  rw [Bool.and_eq_true, Bool.and_eq_true, decide_eq_true_eq, decide_eq_true_eq, List.all_eq_true, and_assoc]
  simp only [Bool.and_eq_true, decide_eq_true_eq]
def isNm : PyData → Bool
  | .str z => nmB z
  | _ => false
def rkOk : PyData → PyData → Bool
  | .int r, .list ds => decide (1 ≤ r) && decide (r ≤ ds.length)
  | _, _ => false
mutual
def isTm : PyData → Bool
  | .tuple ds => isTm3 ds
  | _ => false
def isTm3 : List PyData → Bool
  | [d, x] => (isS "first" d || isS "last" d) && isTl x
  | [d, x, y] => ((isS "of" d || isS "now" d) && isNm x && isWh y) || (isS "rank" d && isTl y && rkOk x y)
  | _ => false
def isTl : PyData → Bool
  | .list ds => !ds.isEmpty && isTms ds
  | _ => false
def isTms : List PyData → Bool
  | [] => true
  | d :: ds => isTm d && isTms ds
end
/-! isinstance of any object -/
def isIn (T : String) (d : PyData) : Bool := decide (tyD d = T) || (T == "int" && decide (tyD d = "bool"))
theorem kit_all (T : String) (hT : T ∈ ["int", "bool", "str", "tuple", "list", "dict"]) : ∀ d : PyData, kitB (tyD d) T = some (isIn T d) := by
  have all : ∀ t ∈ ["NoneType", "bool", "int", "str", "list", "tuple", "dict"], ∀ T ∈ ["int", "bool", "str", "tuple", "list", "dict"], kitB t T = some (decide (t = T) || (T == "int" && decide (t = "bool"))) := by decide +kernel
  intro d
  exact all (tyD d) (by cases d <;> simp [tyD]) T hT
theorem isWh_eq (d : PyData) : isWh d = (isIn "int" d && !isIn "bool" d) := by cases d <;> simp [isWh, isIn, tyD]
end Vf
set_option maxRecDepth 100000
set_option maxHeartbeats 4000000
/-! Ex: names of types, constants of modules, chains, comprehensions over texts. Own work. -/
namespace Vf
open PySem PySem.Spec PyProof.Rows L2 LamX
section
variable {m : Md} {N : List Str} {sc scope : Scope} {i j k : Nat} {X : Cx} {a b c e o elt iter : Expr} {es : List Expr} {σ : L2.St} {H : Hp} {Q : VK} {QB : Bool → Hp → Prop} {pos p p1 p2 : Pos} {x y : Str}
/-- a built-in type as a value -/
theorem w_tyn {T : String} (h : At m N sc k X) (hm : m.mg x = none) (hg : sc.names.lookup x = some .globalImplicit) (hv : bootBuiltins x = some (.type T)) (q : Q (.ty T) H) (hn : x ≠ "__name__" := by with_unfolding_all decide) (hd : (x == ("__debug__" : Str)) = false := by with_unfolding_all decide) : wE X (.Name x pos) σ H Q :=
  toE (pe_bltn (v := .ty T) (h.gl hg) (by rw [h.mm]; exact hm) hv rfl hn hd) q
/-- a name of the module -/
theorem w_glb {v : V} {u : Value} (h : At m N sc k X) (hm : m.mg x = some u) (r : L2.RelV v u) (hg : sc.names.lookup x = some .globalImplicit) (q : Q v H) (hd : (x == ("__debug__" : Str)) = false := by with_unfolding_all decide) : wE X (.Name x pos) σ H Q :=
  toE (pe_glob (h.gl hg) (by rw [h.mm]; exact hm) r hd) q
theorem w_chain {op op' : CmpOp} (q : wE X a σ H fun x H1 => wE X b σ H1 fun y H2 => gOp X (compareOp op) x y H2 fun z H3 => ∃ k, z = .bl k ∧ (if k = true then wE X c σ H3 fun w H4 => gOp X (compareOp op') y w H4 Q else Q (.bl false) H3))
    (hm : lastMarks [op, op'] [b, c] = false := by with_unfolding_all rfl) : wE X (.Compare a [op, op'] [b, c] pos) σ H Q := toE (pe_chain gOp_ok gOp_ok cE cE cE hm) q
theorem t_chain {op op' : CmpOp} (q : wE X a σ H fun x H1 => wE X b σ H1 fun y H2 => gOp X (compareOp op) x y H2 fun z H3 => ∃ k, z = .bl k ∧ (if k = true then wE X c σ H3 fun w H4 => gOp X (compareOp op') y w H4 fun r H5 => ∃ k', r = .bl k' ∧ QB k' H5 else QB false H3))
    (hm : lastMarks [op, op'] [b, c] = false := by with_unfolding_all rfl) : wT X (.Compare a [op, op'] [b, c] pos) σ H QB := by
  refine toT (pt_chain gOp_ok gOp_ok cE cE cE hm) ?_
  refine wE.mono q fun x H1 q1 => wE.mono q1 fun y H2 q2 => ?_
  refine fun pins s σ v u I rx ry => wpAny_mono (q2 pins s σ v u I rx ry) (fun w s' z => ?_) fun _ _ z => z
  obtain ⟨z', H', I', rz, k, ez, q3⟩ := z
  refine ⟨z', H', I', rz, k, ez, ?_⟩
  cases k with
  | true => exact q3
  | false => exact ⟨false, rfl, q3⟩
theorem g_leT {i j : Str} (q : Q (.bl (!decide (j.cps.toList < i.cps.toList))) H) : gOp X (compareOp .LtE) (.str i) (.str j) H Q := gOp.of op_le_str ⟨_, _, rfl, rfl, q⟩
/-- [elt for x in z], z a text -/
theorem w_lcS (h : At m N sc k X) (ok : blkC N sc scope [(x, i)] = true) (n : NL N (relS scope sc) i x)
    (q : wE X iter σ H fun v H1 => ∃ z : Str, v = .str z ∧ ∀ D, H1 D = none → ∃ Pv : Nat → Hp → Prop, Pv 0 (upd H1 D (.lst [])) ∧
      (∀ j c H, z.cps[j]? = some c → Pv j H → ∀ X', At m N (relS scope sc) k X' → wE X' elt (σ.set i (some (.str ⟨#[c]⟩))) H (App D (Pv (j + 1)))) ∧ ∀ H, Pv z.cps.size H → Q (.ref D) H)
    (hs : ∀ x, foldedSetIterable iter X.env x = pure x := by with_unfolding_all (intro _; rfl)) : wE X (.ListComp elt [⟨.Name x p1, iter, [], 0⟩] scope pos) σ H Q := by
  refine toE (pe_lc (own := [(x, i)]) (g := gName i) (tt := tYes) (te := inBlk m N (relS scope sc) k elt) h.calm (by rw [h.nn]; exact h.nd) (pi_str cE) (by rw [h.nn, h.ss]; exact blkOk_by ok) (fun s H C cl fp => pg_nl (blk_at h s H C cl fp) n) (fun _ _ _ _ _ => pts_nil) (fun s H C cl fp => blk_pe h s H C cl fp) hs) ?_
  refine wE.mono q fun v H1 ⟨z, ev, go⟩ => ⟨z, ev, fun D hD => ?_⟩
  obtain ⟨Pv, p0, turn, fin⟩ := go D hD
  refine lc_it walk_str (g := gName i) (tt := tYes) (te := inBlk m N (relS scope sc) k elt) (vs := [i]) (σ := σ) Pv p0 (fun _ _ _ _ => trivial) (fun j y H H' hj hp hy => ?_) fin
  obtain ⟨rfl, c, hc, rfl⟩ := hy
  refine ⟨by rw [wipe1]; simp [wipe, List.set_set], ?_⟩
  unfold tYes
  refine iteT fun X' hX' => ?_
  rw [set_wipe]
  exact turn j c _ hc hp X' hX'
end
end Vf
set_option maxRecDepth 100000
set_option maxHeartbeats 4000000
/-! InOb: is an object one of two texts; is it a text. Own work. -/
namespace Vf
open PySem PySem.Spec PyProof.Rows L2 LamX
theorem str_dec (z : Str) (tk : Tok) (l : Addr) (c : Value) (es : Array DictEntry) (ep : Nat) (dd : Option Addr) (sl : Array (Option Value)) :
    Meets (Builtin.«str.__eq__» ⟨[.str z tk, .ref l], []⟩) (fun _ R s => s.heap.get? l = some { cls := c, dict := dd, data := .dict es ep, slots := sl } ∧ R (.ok (.ret .notImplemented)) s) :=
  .of_wp fun prog w A R s q => by
    obtain ⟨hp, g, d, t, os⟩ := s
    obtain ⟨at1, q⟩ := q
    wp_walk using wpAny_loadPart' at1, wpAny_load at1
    exact ⟨_, rfl, q⟩
theorem dict_dec (l : Addr) (es : Array DictEntry) (ep : Nat) (dd : Option Addr) (sl : Array (Option Value)) (z : Str) (tk : Tok) :
    Meets (Builtin.«dict.__eq__» ⟨[.ref l, .str z tk], []⟩) (fun _ R s => s.heap.get? l = some { cls := .type "dict", dict := dd, data := .dict es ep, slots := sl } ∧ R (.ok (.ret .notImplemented)) s) :=
  .of_wp fun prog w A R s q => by
    obtain ⟨hp, g, d, t, os⟩ := s
    obtain ⟨at1, q⟩ := q
    have f1 := F.sub_str_dict
    wp_walk using wpAny_loadPart' at1, wpAny_load at1
    exact ⟨_, rfl, q⟩
section
variable {A : Around} {s : Shared} {l : Addr} {es : Array DictEntry} {ep : Nat} {dd : Option Addr} {sl : Array (Option Value)}
theorem rc_str_dict (z : Str) (tk : Tok) (ho : s.heap.get? l = some { cls := .type "dict", dict := dd, data := .dict es ep, slots := sl }) (hu : A.units < cLine) : SeqAt.RcAt A s (.str z tk) (.ref l) false := fun prog w E Q q =>
  SeqAt.rc_eq_decline_or (k := false) (typeIs_str s z tk) ⟨_, ho, rfl⟩ (by decide) F.sub_dict_str F.slot_str_eq F.slot_dict_eq_refl
    (fun _ hq => call_meets F.slot_str_eq (typeIs_str s z tk) F.entry_str_eq (F.args_str_eq_2 _ _) (str_dec z tk l (.type "dict") es ep dd sl) ⟨ho, hq⟩)
    (fun _ hq => call_meets F.slot_dict_eq_refl ⟨_, ho, rfl⟩ F.entry_dict_eq (F.args_dict_eq_2 _ _) (dict_dec l es ep dd sl z tk) ⟨ho, hq⟩)
    (fun _ hq => wpAny_of_eq (rfl : isSame (.str z tk) (.ref l) = pure false) hq) (.inr hu) q
theorem rc_dict_str (z : Str) (tk : Tok) (ho : s.heap.get? l = some { cls := .type "dict", dict := dd, data := .dict es ep, slots := sl }) (hu : A.units < cLine) : SeqAt.RcAt A s (.ref l) (.str z tk) false := fun prog w E Q q =>
  SeqAt.rc_eq_decline_or (k := false) ⟨_, ho, rfl⟩ (typeIs_str s z tk) (by decide) F.sub_str_dict F.slot_dict_eq F.slot_str_eq_refl
    (fun _ hq => call_meets F.slot_dict_eq ⟨_, ho, rfl⟩ F.entry_dict_eq (F.args_dict_eq_2 _ _) (dict_dec l es ep dd sl z tk) ⟨ho, hq⟩)
    (fun _ hq => call_meets F.slot_str_eq_refl (typeIs_str s z tk) F.entry_str_eq (F.args_str_eq_2 _ _) (str_dec z tk l (.type "dict") es ep dd sl) ⟨ho, hq⟩)
    (fun _ hq => wpAny_of_eq (rfl : isSame (.ref l) (.str z tk) = pure false) hq) (.inr hu) q
theorem eqAt_str_dict (z : Str) (tk : Tok) (ho : s.heap.get? l = some { cls := .type "dict", dict := dd, data := .dict es ep, slots := sl }) (hu : A.units < cLine) : SeqAt.EqAt A s (.str z tk) (.ref l) false := fun prog w E Q q => by
  unfold eqBool
  refine wpAny_holding ?_
  refine wpAny_ite_split (fun e => absurd (eq_of_beq e) nofun) (fun _ => ?_)
  exact wpAny_bind (rc_str_dict z tk ho hu prog w E _ (wpAny_truthy_bool q))
end
section
variable {X : Cx} {pins : List (Addr × Obj)} {σ : L2.St} {H : Hp} {s : Shared} {A : Addr → Prop} {v : V} {d : PyData} {u : Value}
theorem dct_at {a : Addr} {kvs : List (Key × V)} (I : Inv X pins σ H s) (e : H a = some (.dK kvs)) : ∃ dd es ep sl, s.heap.get? a = some ({ cls := .type "dict", dict := dd, data := .dict es ep, slots := sl } : Obj) := by
  obtain ⟨_, _, vs, _, ob, es, ep, h1, h2, h3, _⟩ := (show ObjOk X.prog X.w H s.heap a (.dK kvs) from I.hok a _ e)
  obtain ⟨c, dd, dat, sl⟩ := ob
  have hc : c = .type "dict" := h2.1
  have hd : dat = .dict es ep := h3
  subst hc hd
  exact ⟨dd, es, ep, sl, h1⟩
theorem ob_rc (I : Inv X pins σ H s) (o : Ob X.K A H v d) (r : L2.RelV v u) (hu : X.A.units < cLine) (z : Str) (tk : Tok) : SeqAt.RcAt X.A s u (.str z tk) (isS z d) := by
  cases o with
  | non => cases r; exact SeqAt.RcAt.none_str z tk
  | bl b => cases r; exact SeqAt.RcAt.bool_str b z tk
  | int i => obtain ⟨t, rfl⟩ := r; exact SeqAt.RcAt.int_str i t z tk
  | str y _ => obtain ⟨t, rfl⟩ := r; exact SeqAt.RcAt.str_str y t z tk
  | lst _ hs _ _ => cases r; obtain ⟨its, _, pl, _⟩ := I.list hs; exact SeqAt.RcAt.list_str z tk pl.isList hu
  | tup hs _ => cases r; obtain ⟨its, _, pl, _⟩ := I.tuple hs; exact SeqAt.RcAt.tuple_str z tk pl hu
  | dct _ e =>
    cases r
    obtain ⟨dd, es, ep, sl, h1⟩ := dct_at I e
    exact rc_dict_str z tk h1 hu
theorem ob_eq {A0 : Around} (I : Inv X pins σ H s) (o : Ob X.K A H v d) (r : L2.RelV v u) (hu : A0.units < cLine) (z : Str) (tk : Tok) : SeqAt.EqAt A0 s (.str z tk) u (isS z d) := by
  cases o with
  | non => cases r; exact SeqAt.EqAt.str_none z tk
  | bl b => cases r; exact SeqAt.EqAt.str_bool z tk b
  | int i => obtain ⟨t, rfl⟩ := r; exact SeqAt.EqAt.str_int z tk i t
  | str y _ =>
    obtain ⟨t, rfl⟩ := r
    have e : isS z (.str y) = (z == y) := by
      show (y == z) = (z == y)
      rw [Bool.eq_iff_iff, beq_iff_eq, beq_iff_eq]; exact eq_comm
    rw [e]
    exact SeqAt.EqAt.str_str z tk y t
  | lst _ hs _ _ => cases r; obtain ⟨its, _, pl, _⟩ := I.list hs; exact SeqAt.EqAt.str_list z tk pl.isList hu
  | tup hs _ => cases r; obtain ⟨its, _, pl, _⟩ := I.tuple hs; exact SeqAt.EqAt.str_tuple z tk pl hu
  | dct _ e =>
    cases r
    obtain ⟨dd, es, ep, sl, h1⟩ := dct_at I e
    exact eqAt_str_dict z tk h1 hu
end
section
variable {m : Md} {N : List Str} {sc : Scope} {k : Nat} {X : Cx} {H : Hp} {Q : VK} {A : Addr → Prop} {v : V} {d : PyData}
/-- x == z, z a text -/
theorem g_eqOb (h : At m N sc k X) {z : Str} (o : Ob m.K A H v d) (q : Q (.bl (isS z d)) H) : gOp X (compareOp .Eq) v (.str z) H Q := fun pins s σ u w I r rz => by
  obtain ⟨tk, rfl⟩ := rz
  have hu := h.hu
  exact ob_rc I (by rw [h.kk]; exact o) r (by omega) z tk X.prog X.w X.xe _ ⟨.bl (isS z d), H, I, rfl, q⟩
/-- x in (z1, z2), two texts -/
theorem g_inOb (h : At m N sc k X) {a : Addr} {z1 z2 : Str} (o : Ob m.K A H v d) (ht : H a = some (.tup [.str z1, .str z2])) (q : Q (.bl (isS z1 d || isS z2 d)) H) : gOp X (compareOp .In) v (.ref a) H Q := fun pins s σ u w I r rz => by
  cases rz
  have hu := h.hu
  obtain ⟨its, rv, pl, hz⟩ := I.tuple (SqT.of ht)
  cases rv with | cons r1 rv => cases rv with | cons r2 rv =>
  cases rv
  obtain ⟨t1, rfl⟩ := r1
  obtain ⟨t2, rfl⟩ := r2
  have o' : Ob X.K A H v d := by rw [h.kk]; exact o
  refine SeqAt.in_tupleAt (fun y => match y with | .str z _ => isS z d | _ => false) pl (fun y hy => ?_) ⟨.bl (isS z1 d || isS z2 d), H, I, by simp [L2.RelV], q⟩
  have hy2 : y = .str z1 t1 ∨ y = .str z2 t2 := by simpa using hy
  rcases hy2 with e | e
  · subst e; exact ob_eq I o' r (by show X.A.units + 1 < cLine; omega) z1 t1
  · subst e; exact ob_eq I o' r (by show X.A.units + 1 < cLine; omega) z2 t2
end
end Vf
set_option maxRecDepth 100000
set_option maxHeartbeats 4000000
/-! Tp: slices and sums of tuples. Own work. -/
namespace Vf
open PySem PySem.Spec PyProof.Rows L2 LamX
section
variable {m : Md} {N : List Str} {sc : Scope} {k : Nat} {X : Cx} {a b c e o : Expr} {σ : L2.St} {H : Hp} {Q : VK} {pos p2 : Pos}
/-- e[:hi] of a tuple, not the whole of it -/
theorem w_sliceToT {hi : Expr} (h : At m N sc k X) (q : wE X e σ H fun x H1 => wE X hi σ H1 fun u H3 => ∃ j : Int, u = .int j ∧ ∃ (a : Addr) (xs : List V), x = .ref a ∧ SqT m.K H3 a xs ∧ HT.sIx xs.length xs.length (some j) ≠ xs.length ∧ ∀ p, H3 p = none → Q (.ref p) (upd H3 p (.tup (cutV xs none (some j))))) :
    wE X (.Subscript e (.Slice none (some hi) none p2) pos) σ H Q := by
  refine toE (pe_slice sl_tup cE po_none (po_some cE)) ?_
  refine wE.mono q fun x H1 q1 => ?_
  show wE X hi σ H1 _
  exact wE.mono q1 fun u H3 ⟨j, ej, a, xs, ea, hs, hn, q3⟩ => ⟨j, ej, a, xs, ea, by rw [h.kk]; exact hs, fun z => hn z.2, q3⟩
theorem g_catT (h : At m N sc k X) {l r : Addr} {xs ys : List V} (h1 : SqT m.K H l xs) (h2 : SqT m.K H r ys) (n1 : xs ≠ []) (n2 : ys ≠ []) (hz : xs.length + ys.length ≤ sizeLine) (q : ∀ p, H p = none → Q (.ref p) (upd H p (.tup (xs ++ ys)))) : gOp X (binaryOp .Add) (.ref l) (.ref r) H Q :=
  gOp.of op_catT ⟨l, r, xs, ys, rfl, rfl, by rw [h.kk]; exact h1, by rw [h.kk]; exact h2, n1, hz, fun e => absurd e n2, fun _ => q⟩
end
theorem six_val (hd : List V) (x : V) : HT.sIx (hd ++ [x]).length (hd ++ [x]).length (some (-1)) = hd.length := by
  have e : (hd ++ [x]).length = hd.length + 1 := by simp
  rw [e]
  unfold HT.sIx
  dsimp only
  rw [if_pos (by decide)]
  omega
theorem cut_last (hd : List V) (x : V) : cutV (hd ++ [x]) none (some (-1)) = hd := by
  unfold cutV
  rw [HT.sIx_none, List.drop_zero, Nat.sub_zero, six_val, List.take_left']
  rfl
theorem six_last (hd : List V) (x : V) : HT.sIx (hd ++ [x]).length (hd ++ [x]).length (some (-1)) ≠ (hd ++ [x]).length := by
  rw [six_val]
  simp
theorem at_last (hd : List V) (x : V) : atI (hd ++ [x]) (-1) = some x := by
  unfold atI ixN
  rw [if_neg (by decide), List.length_append, List.length_singleton, if_pos (by omega)]
  show (hd ++ [x])[((-1 : Int) + ((hd.length + 1 : Nat) : Int)).toNat]? = some x
  rw [show ((-1 : Int) + ((hd.length + 1 : Nat) : Int)).toNat = hd.length from by omega]
  simp
end Vf
set_option maxRecDepth 100000
set_option maxHeartbeats 4000000
/-! Dn: data with the places of its lists, told one by one. Own work. -/
namespace Vf
open PySem PySem.Spec PyProof.Rows L2 LamX
mutual
/-- v is the data d; L: where its lists lie, from the left -/
inductive Dn (K : PySem.W.Frag) (H : Hp) : V → PyData → List Addr → Prop
  | non : Dn K H .non .none []
  | bl (b : Bool) : Dn K H (.bl b) (.bool b) []
  | int (i : Int) : Dn K H (.int i) (.int i) []
  | str (x : Str) : Dn K H (.str x) (.str x) []
  | lst {a : Addr} {xs : List V} {ds : List PyData} {L : List Addr} : H a = some (.lst xs) → DnAll K H xs ds L → Dn K H (.ref a) (.list ds) (a :: L)
  | tup {a : Addr} {xs : List V} {ds : List PyData} {L : List Addr} : SqT K H a xs → DnAll K H xs ds L → Dn K H (.ref a) (.tuple ds) L
inductive DnAll (K : PySem.W.Frag) (H : Hp) : List V → List PyData → List Addr → Prop
  | nil : DnAll K H [] [] []
  | cons {v : V} {vs : List V} {d : PyData} {ds : List PyData} {L M : List Addr} : Dn K H v d L → DnAll K H vs ds M → DnAll K H (v :: vs) (d :: ds) (L ++ M)
end
section
variable {K : PySem.W.Frag} {H H' : Hp} {A : Addr → Prop}
mutual
theorem Dn.da : ∀ {v : V} {d : PyData} {L : List Addr}, Dn K H v d L → (∀ a ∈ L, A a) → Da K A H v d
  | _, _, _, .non, _ => .non
  | _, _, _, .bl b, _ => .bl b
  | _, _, _, .int i, _ => .int i
  | _, _, _, .str x, _ => .str x
  | _, _, _, .lst h r, z => .lst (z _ (by simp)) (SqL.of h) (DnAll.da r fun a ha => z a (by simp [ha]))
  | _, _, _, .tup h r, z => .tup h (DnAll.da r z)
theorem DnAll.da : ∀ {v : List V} {d : List PyData} {L : List Addr}, DnAll K H v d L → (∀ a ∈ L, A a) → DaAll K A H v d
  | _, _, _, .nil, _ => .nil
  | _, _, _, .cons a r, z => .cons (Dn.da a fun b hb => z b (by simp [hb])) (DnAll.da r fun b hb => z b (by simp [hb]))
end
mutual
theorem Dn.mono (hL : ∀ a xs, H a = some (.lst xs) → A a → H' a = some (.lst xs)) (hT : ∀ a xs, SqT K H a xs → SqT K H' a xs) : ∀ {v : V} {d : PyData} {L : List Addr}, Dn K H v d L → (∀ a ∈ L, A a) → Dn K H' v d L
  | _, _, _, .non, _ => .non
  | _, _, _, .bl b, _ => .bl b
  | _, _, _, .int i, _ => .int i
  | _, _, _, .str x, _ => .str x
  | _, _, _, .lst h r, z => .lst (hL _ _ h (z _ (by simp))) (DnAll.mono hL hT r fun a ha => z a (by simp [ha]))
  | _, _, _, .tup h r, z => .tup (hT _ _ h) (DnAll.mono hL hT r z)
theorem DnAll.mono (hL : ∀ a xs, H a = some (.lst xs) → A a → H' a = some (.lst xs)) (hT : ∀ a xs, SqT K H a xs → SqT K H' a xs) : ∀ {v : List V} {d : List PyData} {L : List Addr}, DnAll K H v d L → (∀ a ∈ L, A a) → DnAll K H' v d L
  | _, _, _, .nil, _ => .nil
  | _, _, _, .cons a r, z => .cons (Dn.mono hL hT a fun b hb => z b (by simp [hb])) (DnAll.mono hL hT r fun b hb => z b (by simp [hb]))
end
mutual
theorem Dn.some : ∀ {v : V} {d : PyData} {L : List Addr}, Dn K H v d L → ∀ a ∈ L, ∃ xs, H a = some (.lst xs)
  | _, _, _, .non, _, h => by simp at h
  | _, _, _, .bl _, _, h => by simp at h
  | _, _, _, .int _, _, h => by simp at h
  | _, _, _, .str _, _, h => by simp at h
  | _, _, _, .lst h r, a, ha => by
    rcases List.mem_cons.1 ha with e | e
    · exact ⟨_, e ▸ h⟩
    · exact DnAll.some r a e
  | _, _, _, .tup _ r, a, ha => DnAll.some r a ha
theorem DnAll.some : ∀ {v : List V} {d : List PyData} {L : List Addr}, DnAll K H v d L → ∀ a ∈ L, ∃ xs, H a = some (.lst xs)
  | _, _, _, .nil, _, h => by simp at h
  | _, _, _, .cons a r, b, hb => by
    rcases List.mem_append.1 hb with e | e
    · exact Dn.some a b e
    · exact DnAll.some r b e
end
theorem DnAll.length : ∀ {vs : List V} {ds : List PyData} {L : List Addr}, DnAll K H vs ds L → vs.length = ds.length
  | _, _, _, .nil => rfl
  | _, _, _, .cons _ r => congrArg (· + 1) (DnAll.length r)
theorem DnAll.append : ∀ {vs ws : List V} {ds es : List PyData} {L M : List Addr}, DnAll K H vs ds L → DnAll K H ws es M → DnAll K H (vs ++ ws) (ds ++ es) (L ++ M)
  | _, _, _, _, _, _, .nil, s => s
  | _, _, _, _, _, _, .cons a r, s => by rw [List.append_assoc]; exact .cons a (DnAll.append r s)
theorem GrowX.dn {T : List (Addr × Str)} {S : Addr → Prop} {v : V} {d : PyData} {L : List Addr} (g : GrowX T S H H') (h : Dn K H v d L) (n : ∀ a ∈ L, ¬ S a) : Dn K H' v d L :=
  Dn.mono (A := fun a => ¬ S a) (fun a xs e z => g.ext _ _ z e (fun _ w => by cases w)) (fun a xs e => g.seqT e) h n
theorem GrowX.dnAll {T : List (Addr × Str)} {S : Addr → Prop} {v : List V} {d : List PyData} {L : List Addr} (g : GrowX T S H H') (h : DnAll K H v d L) (n : ∀ a ∈ L, ¬ S a) : DnAll K H' v d L :=
  DnAll.mono (A := fun a => ¬ S a) (fun a xs e z => g.ext _ _ z e (fun _ w => by cases w)) (fun a xs e => g.seqT e) h n
/-- fresh data: all its lists are new and apart -/
def Fr (K : PySem.W.Frag) (H H' : Hp) (v : V) (d : PyData) : Prop := ∃ L, Dn K H' v d L ∧ L.Nodup ∧ ∀ a ∈ L, New H a
theorem Fr.da {v : V} {d : PyData} (h : Fr K H H' v d) : Da K (New H) H' v d := by
  obtain ⟨L, h, _, n⟩ := h
  exact h.da n
theorem Fr.pre {T : List (Addr × Str)} {H0 : Hp} {v : V} {d : PyData} (g : Grow T H0 H) (h : Fr K H H' v d) : Fr K H0 H' v d := by
  obtain ⟨L, h, nd, n⟩ := h
  exact ⟨L, h, nd, fun a ha => g.keep _ (n a ha)⟩
theorem Fr.post {T : List (Addr × Str)} {H2 : Hp} {v : V} {d : PyData} (h : Fr K H H' v d) (g : Grow T H' H2) : Fr K H H2 v d := by
  obtain ⟨L, h, nd, n⟩ := h
  exact ⟨L, GrowX.dn g h fun _ _ z => z, nd, n⟩
end
end Vf
set_option maxRecDepth 100000
set_option maxHeartbeats 4000000
/-! Lit: displays of constants, tuples, lists and known names, at once. Own work. -/
namespace Vf
open PySem PySem.Spec PyProof.Rows L2 LamX
mutual
/-- the data that a display is; env: what names hold -/
def lit (env : List (Str × PyData)) : Expr → Option PyData
  | .Constant (.int i) _ _ => some (.int i)
  | .Constant (.bool b) _ _ => some (.bool b)
  | .Constant (.str z) _ _ => if z.length ≤ 1000 then some (.str z) else none
  | .Constant .none _ _ => some .none
  | .Tuple es _ _ => (lits env es).bind fun ds => if ds.length ≤ 1000 then some (.tuple ds) else none
  | .UnaryOp .USub (.Constant (.int i) _ _) _ => some (.int (-i))
  | .List es _ => (lits env es).bind fun ds => if ds.length ≤ 1000 then some (.list ds) else none
  | .Dict [] [] _ => some (.dict [])
  | .Dict [some (.Constant (.str _) _ _)] [e] _ => (lit env e).map fun _ => .dict []
  | .Name x _ => env.lookup x
  | _ => none
def lits (env : List (Str × PyData)) : List Expr → Option (List PyData)
  | [] => some []
  | e :: es => (lit env e).bind fun d => (lits env es).map fun ds => d :: ds
end
section
variable {m : Md} {X : Cx} {σ : L2.St} {env : List (Str × PyData)} {H0 : Hp}
/-- the names of env hold their data, wherever the heap has grown -/
def EnvOk (m : Md) (X : Cx) (σ : L2.St) (env : List (Str × PyData)) (A : Addr → Prop) (H0 : Hp) : Prop := ∀ x d pos, env.lookup x = some d → ∃ v, Ob m.K A H0 v d ∧ ∀ H Q, Q v H → wE X (.Name x pos) σ H Q
theorem starPlain {e : Expr} {es : List Expr} {d : PyData} (h : lit env e = some d) : starEach (e :: es) X.env = (false, eval e X.env) :: starEach es X.env := by
  cases e <;> first | rfl | (simp [lit] at h)
theorem lit_neg {op : UnaryOp} {e : Expr} {pos : Pos} {d : PyData} (h : lit env (.UnaryOp op e pos) = some d) : ∃ i k ps, op = .USub ∧ e = .Constant (.int i) k ps ∧ d = .int (-i) := by
  unfold lit at h
  split at h <;> first | (cases h; done) | skip
  all_goals first
    | (rename_i hh; cases hh; cases h; exact ⟨_, _, _, rfl, rfl, rfl⟩)
    | (simp at *)
theorem lit_d0 {ks : List (Option Expr)} {pos : Pos} {d : PyData} (h : lit env (.Dict ks [] pos) = some d) : ks = [] ∧ d = .dict [] := by
  unfold lit at h
  split at h <;> first | (cases h; done) | skip
  all_goals first
    | (rename_i hh; cases hh; cases h; exact ⟨rfl, rfl⟩)
    | (simp at *)
theorem lit_d1 {ks : List (Option Expr)} {e : Expr} {pos : Pos} {d : PyData} (h : lit env (.Dict ks [e] pos) = some d) : (∃ z k ps, ks = [some (.Constant (.str z) k ps)]) ∧ (∃ d', lit env e = some d') ∧ d = .dict [] := by
  unfold lit at h
  split at h <;> first | (cases h; done) | skip
  all_goals first
    | (rename_i hh; cases hh; obtain ⟨d', h1, h2⟩ := Option.map_eq_some_iff.1 h; cases h2; exact ⟨⟨_, _, _, rfl⟩, ⟨d', h1⟩, rfl⟩)
    | (simp at *)
theorem lit_d2 {ks : List (Option Expr)} {e e2 : Expr} {es : List Expr} {pos : Pos} {d : PyData} (h : lit env (.Dict ks (e :: e2 :: es) pos) = some d) : False := by
  unfold lit at h
  split at h <;> first | (cases h; done) | skip
  all_goals first
    | (rename_i hh; cases hh; done)
    | (simp at *)
theorem grow_ob {T : List (Addr × Str)} {K : PySem.W.Frag} {A : Addr → Prop} {H H1 : Hp} {v : V} {d : PyData} (g : Grow T H H1) (h : Ob K A H v d) : Ob K A H1 v d :=
  Ob.mono (fun _ z => z) (fun a xs _ e => GrowX.seqL g e fun z => z) (fun a xs e => GrowX.seqT g e) (fun a kvs _ e => g.extN _ _ e (fun _ z => by cases z)) d v h
theorem grow_obs {T : List (Addr × Str)} {K : PySem.W.Frag} {A : Addr → Prop} {H H1 : Hp} {v : List V} {d : List PyData} (g : Grow T H H1) (h : ObAll K A H v d) : ObAll K A H1 v d :=
  ObAll.mono (fun _ z => z) (fun a xs _ e => GrowX.seqL g e fun z => z) (fun a xs e => GrowX.seqT g e) (fun a kvs _ e => g.extN _ _ e (fun _ z => by cases z)) d v h
theorem obs_sub {K : PySem.W.Frag} {A A' : Addr → Prop} {H : Hp} {v : List V} {d : List PyData} (h : ObAll K A H v d) (s : ∀ a, A a → A' a) : ObAll K A' H v d := ObAll.mono s (fun _ _ _ e => e) (fun _ _ e => e) (fun _ _ _ e => e) d v h
theorem ob_sub {K : PySem.W.Frag} {A A' : Addr → Prop} {H : Hp} {v : V} {d : PyData} (h : Ob K A H v d) (s : ∀ a, A a → A' a) : Ob K A' H v d := Ob.mono s (fun _ _ _ e => e) (fun _ _ e => e) (fun _ _ _ e => e) d v h
/-- new in H, and there in H' -/
abbrev Nw (H H' : Hp) : Addr → Prop := fun a => New H a ∧ H' a ≠ none
theorem nw_up {T : List (Addr × Str)} {A : Addr → Prop} {H H1 H2 : Hp} (g : Grow T H1 H2) : ∀ a, A a ∨ Nw H H1 a → A a ∨ Nw H H2 a := fun a z => z.imp id fun w => ⟨w.1, fun e => w.2 (g.keep _ e)⟩
mutual
theorem w_lit {A : Addr → Prop} (hE : EnvOk m X σ env A H0) : ∀ (e : Expr) (d : PyData) (H : Hp) (Q : VK), lit env e = some d → Grow m.T H0 H → (∀ v H', Grow m.T H H' → Ob m.K (fun a => A a ∨ Nw H H' a) H' v d → Q v H') → wE X e σ H Q
  | .Constant (.int i) _ _, d, H, Q, h, g0, q => by
    rw [lit] at h; cases h
    exact w_int (q _ _ GrowX.refl (.int i))
  | .Constant (.bool i) _ _, d, H, Q, h, g0, q => by
    rw [lit] at h; cases h
    exact w_bl (q _ _ GrowX.refl (.bl i))
  | .Constant .none _ _, d, H, Q, h, g0, q => by
    rw [lit] at h; cases h
    exact w_non (q _ _ GrowX.refl .non)
  | .Constant (.str z) _ _, d, H, Q, h, g0, q => by
    rw [lit] at h
    split at h
    · cases h
      refine w_str (q _ _ GrowX.refl (.str z ?_))
      rw [sizeLine_eq]; omega
    · cases h
  | .Name x _, d, H, Q, h, g0, q => by
    rw [lit] at h
    obtain ⟨v, o, r⟩ := hE x d _ h
    refine r H Q (q v H GrowX.refl ?_)
    exact Ob.mono (fun _ z => .inl z) (fun a xs _ e => GrowX.seqL g0 e fun z => z) (fun a xs e => GrowX.seqT g0 e) (fun a kvs _ e => g0.extN _ _ e (fun _ z => by cases z)) d v o
  | .Tuple es _ _, d, H, Q, h, g0, q => by
    rw [lit] at h
    obtain ⟨ds, h1, h2⟩ := Option.bind_eq_some_iff.1 h
    split at h2
    · rename_i hl
      cases h2
      refine w_tup (w_lits hE es ds H _ h1 g0 fun vs H' g o => ⟨by rw [o.length, sizeLine_eq]; omega, fun p hp => ?_⟩)
      have gn := Grow.new (T := m.T) (o := .tup vs) hp
      exact q _ _ (g.trans gn) (.tup (SqT.of upd_same) (obs_sub (grow_obs gn o) (nw_up gn)))
    · cases h2
  | .List es _, d, H, Q, h, g0, q => by
    rw [lit] at h
    obtain ⟨ds, h1, h2⟩ := Option.bind_eq_some_iff.1 h
    split at h2
    · rename_i hl
      cases h2
      refine w_lst (w_lits hE es ds H _ h1 g0 fun vs H' g o => ⟨by rw [o.length, sizeLine_eq]; omega, fun p hp => ?_⟩)
      have gn := Grow.new (T := m.T) (o := .lst vs) hp
      exact q _ _ (g.trans gn) (.lst (.inr ⟨g.keep _ hp, by rw [upd_same]; exact fun z => by cases z⟩) (SqL.of upd_same) (obs_sub (grow_obs gn o) (nw_up gn)) (by rw [o.length]; omega))
    · cases h2
  | .UnaryOp op e _, d, H, Q, h, g0, q => by
    obtain ⟨i, k, ps, rfl, rfl, rfl⟩ := lit_neg h
    exact w_neg (w_int ⟨i, rfl, q _ _ GrowX.refl (.int (-i))⟩)
  | .Constant (.float _) _ _, d, H, Q, h, g0, q => by simp [lit] at h
  | .Constant (.complex _ _) _ _, d, H, Q, h, g0, q => by simp [lit] at h
  | .Constant (.bytes _) _ _, d, H, Q, h, g0, q => by simp [lit] at h
  | .Constant .ellipsis _ _, d, H, Q, h, g0, q => by simp [lit] at h
  | .BoolOp .., d, H, Q, h, g0, q => by simp [lit] at h
  | .NamedExpr .., d, H, Q, h, g0, q => by simp [lit] at h
  | .BinOp .., d, H, Q, h, g0, q => by simp [lit] at h
  | .Lambda .., d, H, Q, h, g0, q => by simp [lit] at h
  | .IfExp .., d, H, Q, h, g0, q => by simp [lit] at h
  | .Dict ks [] _, d, H, Q, h, g0, q => by
    obtain ⟨rfl, rfl⟩ := lit_d0 h
    refine toE pe_dnewK fun p hp => ?_
    exact q _ _ (Grow.new hp) (.dct (.inr ⟨hp, by rw [upd_same]; exact fun z => by cases z⟩) upd_same)
  | .Dict ks [e] _, d, H, Q, h, g0, q => by
    obtain ⟨⟨z, k, ps, rfl⟩, ⟨d', h1⟩, rfl⟩ := lit_d1 h
    refine toE (pe_disp (pps_cons (cE (e := .Constant (.str z) k ps)) (cE (e := e)) pps_nil) rfl rfl (by simp) (show 1 ≤ 15 by decide)) fun p hp => ?_
    have g1 := Grow.new (T := m.T) (o := .dK []) hp
    refine w_str ?_
    refine w_lit hE e d' _ _ h1 (g0.trans g1) fun v H1 g2 _ => ?_
    have h2 : H1 p = some (.dK []) := g2.extN _ _ upd_same (fun _ w => by cases w)
    refine ⟨h2, [(.inr z, v)], rfl, by simp, ?_⟩
    have gX : GrowX m.T (· = p) H1 (upd H1 p (.dK (mergeK [] [(.inr z, v)]))) := GrowX.set rfl h2 (fun _ z => by cases z) (fun _ z => by unfold CodeO at z; cases z) (fun _ z => by cases z) (fun _ _ z => by cases z)
    exact q _ _ (Grow.intoNew (g1.trans g2) gX fun c w => by rw [w]; exact hp) (.dct (.inr ⟨hp, by rw [upd_same]; exact fun z => by cases z⟩) upd_same)
  | .Dict ks (e :: e2 :: es) _, d, H, Q, h, g0, q => (lit_d2 h).elim
  | .Set .., d, H, Q, h, g0, q => by simp [lit] at h
  | .ListComp .., d, H, Q, h, g0, q => by simp [lit] at h
  | .SetComp .., d, H, Q, h, g0, q => by simp [lit] at h
  | .DictComp .., d, H, Q, h, g0, q => by simp [lit] at h
  | .GeneratorExp .., d, H, Q, h, g0, q => by simp [lit] at h
  | .Await .., d, H, Q, h, g0, q => by simp [lit] at h
  | .Yield .., d, H, Q, h, g0, q => by simp [lit] at h
  | .YieldFrom .., d, H, Q, h, g0, q => by simp [lit] at h
  | .Compare .., d, H, Q, h, g0, q => by simp [lit] at h
  | .Call .., d, H, Q, h, g0, q => by simp [lit] at h
  | .FormattedValue .., d, H, Q, h, g0, q => by simp [lit] at h
  | .JoinedStr .., d, H, Q, h, g0, q => by simp [lit] at h
  | .Attribute .., d, H, Q, h, g0, q => by simp [lit] at h
  | .Subscript .., d, H, Q, h, g0, q => by simp [lit] at h
  | .Starred .., d, H, Q, h, g0, q => by simp [lit] at h
  | .Slice .., d, H, Q, h, g0, q => by simp [lit] at h
theorem w_lits {A : Addr → Prop} (hE : EnvOk m X σ env A H0) : ∀ (es : List Expr) (ds : List PyData) (H : Hp) (Q : List V → Hp → Prop), lits env es = some ds → Grow m.T H0 H → (∀ vs H', Grow m.T H H' → ObAll m.K (fun a => A a ∨ Nw H H' a) H' vs ds → Q vs H') → wA X es σ H Q
  | [], ds, H, Q, h, g0, q => by
    rw [lits] at h; cases h
    exact w_nil (q [] H GrowX.refl .nil)
  | e :: es, ds, H, Q, h, g0, q => by
    rw [lits] at h
    obtain ⟨d, h1, h2⟩ := Option.bind_eq_some_iff.1 h
    obtain ⟨ds', h3, rfl⟩ := Option.map_eq_some_iff.1 h2
    refine w_cons (w_lit hE e d H _ h1 g0 fun v H1 g1 o => ?_) (starPlain h1)
    refine w_lits hE es ds' H1 _ h3 (g0.trans g1) fun vs H2 g2 os => ?_
    refine q (v :: vs) H2 (g1.trans g2) (.cons (ob_sub (grow_ob g2 o) (nw_up g2)) (obs_sub os fun a z => ?_))
    rcases z with z | z
    · exact .inl z
    · exact .inr ⟨g1.keep _ z.1, z.2⟩
end
end
end Vf
set_option maxRecDepth 100000
set_option maxHeartbeats 4000000
/-! Zs: while, zip, reversed slices, range of two, properties. Own work. -/
namespace Vf
open PySem PySem.Spec PyProof.Rows L2 LamX
section
variable {m : Md} {N : List Str} {sc scope : Scope} {i j k : Nat} {X : Cx} {a b c e e2 o elt : Expr} {es : List Expr} {σ : L2.St} {H : Hp} {Q : VK} {pos p p1 p2 p3 tpos : Pos} {x y : Str} {body : List Stmt} {nx : L2.St → Hp → Prop} {rt : VK} {bk ct : L2.St → Hp → Prop}
/-- while c: body, by a measure; what is wanted of a turn is written out -/
theorem s_while (h : At m N sc k X) (q : ∃ (Pv : L2.St → Hp → Prop) (μ : L2.St → Hp → Nat), Pv σ H ∧ ∀ σ H, Pv σ H → wT X c σ H fun b H1 => if b = true then wB X body ⟨fun σ' H' => Pv σ' H' ∧ μ σ' H' < μ σ H, rt, nx, fun σ' H' => Pv σ' H' ∧ μ σ' H' < μ σ H⟩ σ H1 else nx σ H1) : wS X (.While c body [] pos) ⟨nx, rt, bk, ct⟩ σ H := by
  refine toS (ps_while h.pass cT cB) ?_
  obtain ⟨Pv, μ, h0, hs⟩ := q
  refine ⟨fun n σ H => n = μ σ H ∧ Pv σ H, ⟨_, rfl, h0⟩, ?_⟩
  rintro n σ H ⟨rfl, p⟩
  have t := hs σ H p
  unfold wT at t ⊢
  refine fun pins s I => wpAny_mono (t pins s I) (fun v s' z => ?_) fun _ _ z => z
  obtain ⟨H1, I1, q1⟩ := z
  refine ⟨H1, I1, ?_⟩
  cases v with
  | true => exact ⟨fun σ' H' => Pv σ' H' ∧ μ σ' H' < μ σ H, fun σ' H' ⟨p', l⟩ => ⟨_, l, rfl, p'⟩, q1⟩
  | false => exact q1
/-- for t in zip(e, e2), of two lists of one length that stand still -/
theorem s_forZ {elts : List Expr} {kk : Nat} {g : TG} {po : Pos} (h : At m N sc k X) (hg : PG X (.Tuple elts kk tpos) g) (hm : m.mg "zip" = none) (hgl : sc.names.lookup ("zip" : Str) = some .globalImplicit)
    (q : wA X [e, e2] σ H fun vs H1 => ∃ (a b : Addr) (xs ys : List V), vs = [.ref a, .ref b] ∧ SqL m.K H1 a xs ∧ SqL m.K H1 b ys ∧ xs.length = ys.length ∧ ∃ Pv : Nat → L2.St → Hp → Prop, Pv 0 σ H1 ∧ (∀ i σ H, Pv i σ H → SqL m.K H a xs ∧ SqL m.K H b ys) ∧
      (∀ (i : Nat) (x y : V) (T : Addr) (σ : L2.St) (H : Hp), xs[i]? = some x → ys[i]? = some y → Pv i σ H → H T = none → g (.ref T) σ (upd H T (.tup [x, y])) fun σ2 H2 => wB X body ⟨Pv (i + 1), rt, nx, Pv (i + 1)⟩ σ2 H2) ∧ ∀ σ H, Pv xs.length σ H → nx σ H)
    (hs : starEach [e, e2] X.env = (false, eval e X.env) :: starEach [e2] X.env := by with_unfolding_all rfl) (hpl : (backTo p2 (starEach [e2] X.env)).any (·.1) = false := by with_unfolding_all rfl)
    (hf : ∀ x, foldedSetIterable (.Call (.Name "zip" p1) [e, e2] [] p2) X.env x = pure x := by with_unfolding_all (intro _; rfl)) : wS X (.For (.Tuple elts kk tpos) (.Call (.Name "zip" p1) [e, e2] [] p2) body [] po) ⟨nx, rt, bk, ct⟩ σ H := by
  refine toS (ps_for h.pass h.calm (pi_zip (h.gl hgl) (by rw [h.mm]; exact hm) (cA (es := [e, e2])) hs hpl) hg cB hf) ?_
  unfold wA at q ⊢
  refine fun pos pins s I => wpAny_mono (q pos pins s I) (fun v s' z => ?_) fun _ _ z => z
  obtain ⟨vs, H1, I1, r1, a, b, xs, ys, ev, ha, hb, hl, Pv, p0, hq, turn, fin⟩ := z
  exact ⟨vs, H1, I1, r1, a, b, xs, ys, ev, by rw [h.kk]; exact ha, by rw [h.kk]; exact hb, RZ.for_zipL (K := X.K) hl Pv p0 (fun i σ H z => by rw [h.kk]; exact hq i σ H z) turn fin⟩
/-- e[::-1] of a list -/
theorem w_rev {k1 : Nat} (h : At m N sc k X) (q : wE X e σ H fun x H1 => ∃ (a : Addr) (xs : List V), x = .ref a ∧ SqL m.K H1 a xs ∧ ∀ p, H1 p = none → Q (.ref p) (upd H1 p (.lst xs.reverse))) :
    wE X (.Subscript e (.Slice none none (some (.UnaryOp .USub (.Constant (.int 1) k1 p1) p2)) p3) pos) σ H Q := by
  refine toE (pe_revL cE) ?_
  exact wE.mono q fun x H1 ⟨a, xs, ea, hs, q1⟩ => ⟨a, xs, ea, by rw [h.kk]; exact hs, q1⟩
/-- [elt for x in range(a, b)] -/
theorem w_lcR2 (h : At m N sc k X) (hm : m.mg "range" = none) (hgl : sc.names.lookup ("range" : Str) = some .globalImplicit) (ok : blkC N sc scope [(x, i)] = true) (n : NL N (relS scope sc) i x)
    (q : wA X [a, b] σ H fun vs H1 => ∃ z w : Int, vs = [.int z, .int w] ∧ (-(2 ^ 62) ≤ z ∧ z < 2 ^ 62 ∧ -(2 ^ 62) ≤ w ∧ w < 2 ^ 62) ∧ ∀ D, H1 D = none → ∃ Pv : Nat → Hp → Prop, Pv 0 (upd H1 D (.lst [])) ∧
      (∀ j H, j < (w - z).toNat → Pv j H → ∀ X', At m N (relS scope sc) k X' → wE X' elt (σ.set i (some (.int (z + j)))) H (App D (Pv (j + 1)))) ∧ ∀ H, Pv (w - z).toNat H → Q (.ref D) H)
    (hst : starEach [a, b] X.env = [(false, eval a X.env), (false, eval b X.env)] := by with_unfolding_all rfl) (hst2 : starEach [b] X.env = [(false, eval b X.env)] := by with_unfolding_all rfl) (hs : ∀ x, foldedSetIterable (.Call (.Name "range" p2) [a, b] [] p3) X.env x = pure x := by with_unfolding_all (intro _; rfl)) : wE X (.ListComp elt [⟨.Name x p1, .Call (.Name "range" p2) [a, b] [] p3, [], 0⟩] scope pos) σ H Q := by
  refine toE (pe_lc (own := [(x, i)]) (g := gName i) (tt := tYes) (te := inBlk m N (relS scope sc) k elt) h.calm (by rw [h.nn]; exact h.nd) (pi_range2 (h.gl hgl) (by rw [h.mm]; exact hm) (cA (es := [a, b])) hst hst2) (by rw [h.nn, h.ss]; exact blkOk_by ok) (fun s H C cl fp => pg_nl (blk_at h s H C cl fp) n) (fun _ _ _ _ _ => pts_nil) (fun s H C cl fp => blk_pe h s H C cl fp) hs) ?_
  unfold wA at q ⊢
  refine fun pos pins s I => wpAny_mono (q pos pins s I) (fun v s' z => ?_) fun _ _ z => z
  obtain ⟨vs, H1, I1, r1, z, w, ev, hb, go⟩ := z
  refine ⟨vs, H1, I1, r1, z, w, ev, hb, fun D hD => ?_⟩
  obtain ⟨Pv, p0, turn, fin⟩ := go D hD
  refine lc_range (lo := z) (n := (w - z).toNat) (g := gName i) (tt := tYes) (te := inBlk m N (relS scope sc) k elt) (vs := [i]) (σ := σ) Pv p0 (fun j H hj hp => ?_) fin
  refine ⟨by rw [wipe1]; simp [wipe, List.set_set], ?_⟩
  unfold tYes
  refine iteT fun X' hX' => ?_
  rw [set_wipe]
  exact turn j H hj hp X' hX'
/-- e.f, a property whose getter keeps sp -/
theorem w_prop {f : Str} {C q g : Addr} {fd : FuncData} {ps : List Str} {sp : Sp} (h : At m N sc k X) (c : Cls m.K C) (hp : PropOf m.K C f q g) (F : FnG m C8.CX0 j g fd ps sp) (hb : L2.Binds m.K fd ps []) (hk : j + 1 ≤ k)
    (z : wE X e σ H fun x H1 => ∃ a dx fs, x = .ref a ∧ H1 a = some (.ins C dx fs) ∧ sp [.ref a] H1 Q C8.E0)
    (hab : attributeBase e f X.env (eval e X.env) = eval e X.env := by with_unfolding_all rfl) : wE X (.Attribute e f pos) σ H Q := by
  unfold wE
  intro pins s I
  refine attr_of hab (thn ((cE (X := X) (e := e)).run pins s σ H _ I z) fun u s1 ⟨x, H1, I1, rx, a, dx, fs, ex, ea, q1⟩ => ?_)
  subst ex
  obtain rfl : u = Value.ref a := rx
  obtain ⟨mA, O, _, _, _, _⟩ := ins_get I1.hok ea
  obtain ⟨od, J, _⟩ := O.look
  obtain ⟨rest, hrec⟩ := hp.rec_
  have I2 := I1.tok (s1.toks + 1)
  have c' : Cls X.K C := by rw [h.kk]; exact c
  have hc : (PySem.W.clsIn X.K C).isSome = true := by
    obtain ⟨cd, hc, _⟩ := PySem.W.any_some c'.hd
    rw [hc]; rfl
  refine PySem.W.get_bind I1.kIn J (PySem.W.plainGet_of (c'.get f)).1 (PySem.W.findObj_data hc (by rw [h.kk]; exact hp.at_) (by rw [h.kk]; exact hp.get) (by rw [h.kk]; exact hp.tak)) (PySem.W.plainGet_of (c'.get f)).2 (wpAny_call (PySem.W.prop_get (s := { s1 with toks := s1.toks + 1 }) I1.kIn (by rw [h.kk]; exact hrec) ?_))
  have e0 := I2.env0.in1
  rw [h.pp, h.ww, h.kk, h.mm, h.bb] at e0
  have hl : [Value.ref a].length = ps.length := by
    rw [← F.len _ _ _ _ q1]; rfl
  have rc := F.run X.A.in1 X.stack { s1 with toks := s1.toks + 1 } H1 ⟨[.ref a], []⟩ [.ref a] [.ref a] Q C8.E0 (by exact h.gd) ((h.room.mono hk).in1) e0 (by have := hb { s1 with toks := s1.toks + 1 } [.ref a] (by rw [← h.kk]; exact I2.kIn) (by simpa using hl); simpa using this) (.cons rfl .nil) q1
  rw [← h.pp, ← h.ww] at rc
  refine codeAny_mono rc fun r s' hq => ?_
  match r, hq with
  | .error er, hq => exact hq.elim
  | .ok (.ret u), hq =>
    obtain ⟨v, H', I3, rv, q3⟩ := I2.after hq
    show wpAny _ _ (handedOut u) _ _ _
    rw [PySem.W.handedOut_of (handed_of rv)]
    exact wpAny_pure ⟨v, H', I3, rv, q3⟩
end
end Vf
set_option maxRecDepth 100000
set_option maxHeartbeats 4000000
/-! Sst: set(list) of texts, of whole numbers; sorted(set), len(set). Own work. -/
namespace Vs
open PySem PySem.Spec PyProof.Rows L2
/-- what set.__new__ lays -/
abbrev nSet (w : World) : Obj := { cls := .type "set", dict := none, data := .set #[] 0 (.fresh 0 0 (!w.params.followText "set-order")) }
section
variable {P : Program} {w : World} {A : Around} {E : Value → Shared → Prop} {s : Shared}
/-- what one add keeps going -/
abbrev Step (P : Program) (w : World) (S : Addr) (J : Nat → Heap → Prop) (i : Nat) (v : Value) : Prop :=
  ∀ (A' : Around) (E' : Value → Shared → Prop) (s' : Shared) (Q' : Bool → Shared → Prop), J i s'.heap → (∀ b h' tk, Heap.SameBut S s'.heap h' → s'.toks ≤ tk → J (i + 1) h' → Q' b { s' with heap := h', toks := tk }) → wpAny (model P w) A' (setAdd S v) Q' E' s'
theorem upd_loop {I : Addr} {fp wr : List Addr} {G : Array GenState → Array GenState → Prop} {n : Nat} {Pv : Nat → Value → Prop} {St : Nat → Shared → Prop} {R : Result → Shared → Prop}
    (W : WalksS P w A.in1 I fp wr G n Pv St) (S : Addr) (hSf : S ∉ fp) (J : Nat → Heap → Prop) (jk : ∀ i h h', J i h → (∀ o, h.get? S = some o → h'.get? S = some o) → J i h')
    (js : ∀ i v, i < n → Pv i v → Step P w S J i v) : ∀ (k i : Nat) (s : Shared), n - i = k → i ≤ n → St i s → J i s.heap →
      (∀ s', Moved (S :: wr) G s s' → J n s'.heap → R (.ok (.ret .none)) s') → codeAny (model P w) A (.builtin "set.update.loop" ⟨[.ref S, .ref I], []⟩) R s := by
  have nw : S ∉ wr := fun z => hSf (W.sub _ z)
  have up : ∀ b ∈ wr, b ∈ S :: wr := fun b z => List.mem_cons_of_mem _ z
  intro k
  induction k with
  | zero =>
    intro i s e hi st j hR
    obtain rfl : i = n := by omega
    refine codeAny_builtin F.entry_set_update_loop ?_
    rw [Around.under_plainId F.plain_set_update_loop _]
    show wpAny _ A.in1 (pyNext (.ref I) >>= _) _ _ s
    refine wpAny_bind (W.done s _ _ st fun s1 mv => ?_)
    show wpAny _ A.in1 (ret Value.none) _ _ s1
    exact wpAny_pure (hR s1 (mv.mono up) (jk _ _ _ j fun o z => mv.heap S o nw z))
  | succ k ih =>
    intro i s e hi st j hR
    have lt : i < n := by omega
    refine codeAny_builtin F.entry_set_update_loop ?_
    rw [Around.under_plainId F.plain_set_update_loop _]
    show wpAny _ A.in1 (pyNext (.ref I) >>= _) _ _ s
    refine wpAny_bind (W.item i s _ _ lt st fun v s1 pv st1 mv => ?_)
    show wpAny _ A.in1 (holding [v] (setAdd S v) >>= _) _ _ s1
    refine wpAny_bind (wpAny_holding (js i v lt pv _ _ s1 _ (jk _ _ _ j fun o z => mv.heap S o nw z) fun b h1 tk sb ht j1 => ?_))
    have away : ∀ c, c ≠ S → ∀ o, s1.heap.get? c = some o → h1.get? c = some o := fun c hc o z => (sb.2 c hc).trans z
    refine wpAny_pure ⟨plainId_quiet F.plain_set_update_loop _, ih (i + 1) _ (by omega) lt (W.frame _ s1 _ _ st1 ht fun b hb o z => away b (fun q => hSf (q ▸ hb)) o z) j1 fun s2 mv2 j2 => hR s2 (Moved.trans W.gtrans ((mv.mono up).then_heap ht fun b o hb z => away b (fun q => hb (q ▸ List.mem_cons_self)) o z) mv2) j2⟩

set_option maxHeartbeats 4000000 in
/-- set(xs) of a list, by what is known of the set after each item -/
theorem set_of_list {l : Addr} {items : Array Value} {Q : Value → Shared → Prop} (J : Nat → Heap → Prop) (hh : A.handled = none) (hl : s.heap.IsList l items)
    (jk : ∀ i h h', J i h → (∀ o, h.get? s.heap.objs.size = some o → h'.get? s.heap.objs.size = some o) → J i h') (j0 : ∀ h, h.get? s.heap.objs.size = some (nSet w) → J 0 h)
    (js : ∀ i v, items[i]? = some v → Step P w s.heap.objs.size J i v)
    (q : ∀ (h' : Heap) (tk : Nat), J items.size h' → (∀ b o, s.heap.get? b = some o → h'.get? b = some o) → Q (.ref s.heap.objs.size) { s with heap := h', toks := tk }) :
    wpAny (model P w) A (call (.type "set") [.ref l]) Q E s := by
  obtain ⟨c, tl, hmro⟩ := F.called_set.mro
  have hmade := F.called_set.made
  have hsub := F.called_set.sub
  refine wpAny_call (codeAny_of_tree ?_)
  show wpAny _ _ (callAny (.type "set") _) _ _ _
  refine wpAny_pure ⟨Code.quiet_builtin _ (by decide +kernel), codeAny_builtin F.entry_type_call ?_⟩
  rw [Around.under_plain (weight_type_call_type "set" [.ref l] []) rfl]
  have h1 := F.called_set.notType
  have h2 := F.called_set.canCreate
  have h3 := F.typeCall_set_1 (.ref l)
  repeat (any_goals (first | assumption | wp_step))
  refine codeAny_mono (code_set_led1 (.ref l) (E := E) (Q₁ := fun v s1 => v = .ref s.heap.objs.size ∧ s1 = { s with heap := s.heap.push (nSet w) }) ⟨rfl, rfl⟩) fun r s1 hr => ?_
  cases r with
  | error e => exact hr
  | ok fl =>
    cases fl with
    | ret obj =>
      obtain ⟨rfl, rfl⟩ := hr
      have at1 : (s.heap.push (nSet w)).get? s.heap.objs.size = some (nSet w) := Heap.get?_push_size _ rfl
      have ty1 : Shared.TypeIs { s with heap := s.heap.push (nSet w) } (.ref s.heap.objs.size) "set" := ⟨_, at1, rfl⟩
      have h4 := F.called_set.init.lookup
      have h5 := F.called_set.init.bind (.ref s.heap.objs.size)
      repeat (any_goals (first | assumption | wp_step))
      refine codeAny_mono (codeAny_call_builtin (R := wants (fun r s2 => r = .none ∧ ∃ h' tk, s2 = { s with heap := h', toks := tk } ∧ J items.size h' ∧ ∀ b o, s.heap.get? b = some o → h'.get? b = some o) E)
        F.called_set.init.plain F.entry_set_init (check_set_init_1 ty1 ?_)) fun r2 s2 hr2 => ?_
      · obtain ⟨⟨cls, dict, data, slots⟩, ol, hc, nl, hd⟩ := hl
        simp only at hc hd
        subst hc
        subst hd
        have ol' : (s.heap.push (nSet w)).get? l = some { cls := .type "list", dict := dict, data := .seq items nl, slots := slots } := Heap.get?_push_of_some _ ol
        have h6 := F.sub_list_set
        have h7 := F.sub_list_frozenset
        have h8 : (Value.type "list" == Value.type "dict") = false := by decide
        have il : (s.heap.push (nSet w)).IsList l items := ⟨_, ol', rfl, nl, rfl⟩
        unfold Builtin.«set.__init__» noKeywords Builtin.Frozenset.updateFrom
        generalize hPI : pyIter = PI
        wp_walk
        subst hPI
        refine wpAny_pyIter_list il (wpAny_bind (wpAny_runValue ?_))
        have lS : l < s.heap.objs.size := Heap.lt_size ol
        have h9 : A.in1.in1.in1.handled = none := by simp [hh]
        have sz : (s.heap.push (nSet w)).objs.size = s.heap.objs.size + 1 := Heap.size_push ..
        have neI : l ≠ (s.heap.push (nSet w)).objs.size := by rw [sz]; exact Nat.ne_of_lt (Nat.lt_succ_of_lt lS)
        have nf : s.heap.objs.size ∉ [(s.heap.push (nSet w)).objs.size, l] := by
          rw [sz]
          simp only [List.mem_cons, List.not_mem_nil, or_false, not_or]
          exact ⟨Nat.ne_of_lt (Nat.lt_succ_self _), Nat.ne_of_gt lS⟩
        refine upd_loop ((Walks.list h9 _ l neI items).toS) s.heap.objs.size nf J jk (fun i v _ pv => js i v pv) (items.size - 0) 0 _ rfl (Nat.zero_le _) ⟨⟨_, Heap.get?_push_size _ rfl, rfl, rfl⟩, il.push _⟩
          (j0 _ (Heap.get?_push_of_some _ at1)) fun s' mv j => ?_
        obtain ⟨h', g', d', tk', os'⟩ := s'
        have eg : g' = s.gens := mv.gens
        have ed : d' = s.drawn := mv.drawn
        have eo : os' = s.os := mv.os
        subst eg
        subst ed
        subst eo
        show wpAny _ _ _ _ _ _
        refine wpAny_pure ?_
        show wpAny _ _ (ret Value.none) _ _ _
        refine wpAny_pure ⟨rfl, h', tk', rfl, j, fun b o z => ?_⟩
        have b0 : b < s.heap.objs.size := Heap.lt_size z
        refine mv.heap b o ?_ (Heap.get?_push_of_some _ (Heap.get?_push_of_some _ z))
        rw [sz]
        simp only [List.mem_cons, List.not_mem_nil, or_false, not_or]
        exact ⟨Nat.ne_of_lt b0, Nat.ne_of_lt (Nat.lt_succ_of_lt b0)⟩
      · cases r2 with
        | error e => exact hr2
        | ok fl2 =>
          cases fl2 with
          | ret r =>
            obtain ⟨rfl, h', tk, rfl, j, k⟩ := hr2
            repeat (any_goals (first | assumption | wp_step))
            exact q _ _ j k
          | _ => exact hr2.elim
    | _ => exact hr.elim
end

/-! ### sets of texts -/
open PySem.Froz
/-- the set of the texts l at a: its table rises -/
def SetX (P : Program) (w : World) (h : Heap) (a : Addr) (l : List Str) : Prop :=
  l.Nodup ∧ ∃ D : SD, h.get? a = some (sObj "set" D) ∧ TxOk P w D l ∧ Ris D.2.2.place.toList ∧ (w.params.followText "set-order" = true ∨ D.2.2.led = true)
theorem tail_rl (ep : Nat) (es : Array (Int × Value)) (t : SetTable) (b : Bool) (r : Ris t.place.toList) : Ris (tailTx ep es t b).2.2.place.toList ∧ (tailTx ep es t b).2.2.led = t.led := by
  unfold tailTx
  split
  · exact ⟨relayAll_ris _ _ _, relayAll_led _ _ _⟩
  · exact ⟨r, rfl⟩
theorem add_rl (x : Int) (v : Value) (D : SD) (r : Ris D.2.2.place.toList) : Ris (addTx x v D).2.2.place.toList ∧ (addTx x v D).2.2.led = D.2.2.led := by
  have r1 := layNew_ris D.2.2 D.1 x v r
  have l1 := layNew_led D.2.2 D.1 x v
  unfold addTx
  split
  · have z := tail_rl D.2.1 (layNew D.2.2 D.1 x v).1 { (layNew D.2.2 D.1 x v).2.1 with plain := false } (layNew D.2.2 D.1 x v).2.2.1 r1
    exact ⟨z.1, z.2.trans l1⟩
  · have z := tail_rl D.2.1 (layNew D.2.2 D.1 x v).1 (layNew D.2.2 D.1 x v).2.1 (layNew D.2.2 D.1 x v).2.2.1 r1
    exact ⟨z.1, z.2.trans l1⟩
section
variable {P : Program} {w : World} {A : Around} {E : Value → Shared → Prop} {s : Shared}
theorem SetX.keep {h h' : Heap} {a : Addr} {l : List Str} (x : SetX P w h a l) (k : ∀ o, h.get? a = some o → h'.get? a = some o) : SetX P w h' a l := by
  obtain ⟨n, D, h1, r⟩ := x
  exact ⟨n, D, k _ h1, r⟩
theorem setX_new {h : Heap} {a : Addr} (z : h.get? a = some (nSet w)) : SetX P w h a [] :=
  ⟨List.nodup_nil, (#[], 0, .fresh 0 0 (!w.params.followText "set-order")), z, TxOk.nil (by rfl), List.Pairwise.nil, by
    show _ ∨ (!w.params.followText "set-order") = true
    cases w.params.followText "set-order"
    · exact .inr rfl
    · exact .inl rfl⟩
/-- a text that is there -/
theorem add_there {a : Addr} {D : SD} {l : List Str} {k : Str} {u : Tok} {Q : Bool → Shared → Prop} (ho : s.heap.get? a = some (sObj "set" D)) (F : TxOk P w D l) (hk : k ∈ l) (hb : l.length < scanBound) (h : Q false s) :
    wpAny (model P w) A (setAddHashed a (.str k u) (hashStr w k)) Q E s := by
  obtain ⟨es, ep, t⟩ := D
  have hd : (sObj "set" (es, ep, t)).data = .set es ep t := rfl
  have hf : t.fits es.size = true := F.fit
  have hel : ElemsOf (PySem.strKind P w) es.toList := F.el
  have hsz : es.size = l.length := F.sz
  have hkey : (PySem.strKind P w).is k (.str k u) = true := is_str k u
  unfold setAddHashed setAddHashedIn
  refine wpAny_holding (wpAny_bind (wpAny_setState_of ho hd hf ?_))
  dsimp only
  rw [byScan_of rfl (by rw [hsz]; exact hb) hel]
  simp only [↓reduceIte]
  unfold setAddByScan
  refine wpAny_bind (wpAny_bind (wpAny_rule ?_))
  refine wpAny_bind (wpAny_setScan_of (knd := PySem.strKind P w) (k := k) hkey ho hd hf hel ?_)
  cases hfi : List.findIdx? (fun e => (PySem.strKind P w).is k e.2) es.toList with
  | some j =>
    dsimp only
    exact wpAny_pure (wpAny_pure h)
  | none =>
    obtain ⟨e, he, z⟩ := (F.mem k).mp hk
    have c := List.findIdx?_eq_none_iff.mp hfi e he
    rw [z] at c
    cases c
/-- found.add(text) -/
theorem setX_add {a : Addr} {l : List Str} {k : Str} {u : Tok} {Q : Bool → Shared → Prop} (x : SetX P w s.heap a l) (hb : l.length + 1 < scanBound)
    (q : ∀ b h', Heap.SameBut a s.heap h' → SetX P w h' a (if k ∈ l then l else k :: l) → Q b { s with heap := h', toks := s.toks + 1 }) : wpAny (model P w) A (setAdd a (.str k u)) Q E s := by
  obtain ⟨n, D, ho, F, r, ld⟩ := x
  unfold setAdd
  refine wpAny_holding (wpAny_bind ((PySem.strKind P w).pyHash (k := k) (is_str k u) ?_))
  by_cases c : k ∈ l
  · rw [if_pos c] at q
    exact add_there (s := { s with toks := s.toks + 1 }) ho F c (by omega) (q false s.heap (Heap.SameBut.refl a s.heap) ⟨n, D, ho, F, r, ld⟩)
  · rw [if_neg c] at q
    refine add_x (s := { s with toks := s.toks + 1 }) ho F c hb (q true _ (Heap.SameBut.update ..) ⟨List.nodup_cons.mpr ⟨c, n⟩, _, get_upd _ ho rfl, add_ok u F, (add_rl _ _ _ r).1, ld.imp id fun z => (add_rl _ _ _ r).2.trans z⟩)
/-- set(xs) of a list of texts -/
theorem set_texts {p : Addr} {items : Array Value} {xs : List Str} {Q : Value → Shared → Prop} (hh : A.handled = none) (hl : s.heap.IsList p items) (hx : StrsAre items.toList xs) (hb : xs.length + 1 < scanBound)
    (q : ∀ (h' : Heap) (tk : Nat) (l : List Str), SetX P w h' s.heap.objs.size l → (∀ y, y ∈ l ↔ y ∈ xs) → l.length ≤ xs.length → (∀ b o, s.heap.get? b = some o → h'.get? b = some o) → Q (.ref s.heap.objs.size) { s with heap := h', toks := tk }) :
    wpAny (model P w) A (call (.type "set") [.ref p]) Q E s := by
  have sz : items.size = xs.length := by rw [← Array.length_toList]; exact hx.length
  refine set_of_list (fun i h => ∃ l, SetX P w h s.heap.objs.size l ∧ (∀ y, y ∈ l ↔ y ∈ xs.take i) ∧ l.length ≤ i) hh hl (fun i h h' ⟨l, x, r⟩ k => ⟨l, x.keep k, r⟩) (fun h z => ⟨[], setX_new z, by simp, Nat.le_refl _⟩)
    (fun i v hv A' E' s' Q' ⟨l, x, m, ln⟩ q' => ?_) (fun h' tk ⟨l, x, m, ln⟩ k => q h' tk l x (fun y => by rw [m y, List.take_of_length_le (by omega)]) (by omega) k)
  have hi : i < xs.length := by rw [← sz]; exact (Array.getElem?_eq_some_iff.mp hv).1
  obtain ⟨y, t, rfl, hy⟩ := hx.item i v (by rw [Array.getElem?_toList]; exact hv)
  refine setX_add x (by omega) fun b h' sb x' => q' b h' _ sb (Nat.le_succ _) ⟨_, x', fun z => ?_, ?_⟩
  · rw [List.take_add_one, hy]
    simp only [Option.toList, List.mem_append, List.mem_singleton]
    by_cases c : y ∈ l
    · rw [if_pos c, m z]
      refine ⟨.inl, fun h => h.elim id fun e => ?_⟩
      rw [e]
      exact (m y).1 c
    · rw [if_neg c, List.mem_cons, m z]
      exact Or.comm
  · split
    · omega
    · rw [List.length_cons]; omega
theorem strsAre_all : ∀ (vs : List Value), (∀ v ∈ vs, ∃ k t, v = Value.str k t) → ∃ xs, StrsAre vs xs ∧ xs = vs.map strOf
  | [], _ => ⟨[], .nil, rfl⟩
  | v :: vs, h => by
    obtain ⟨k, t, rfl⟩ := h v List.mem_cons_self
    obtain ⟨xs, h1, h2⟩ := strsAre_all vs fun u hu => h u (List.mem_cons_of_mem _ hu)
    exact ⟨k :: xs, .cons k t h1, by rw [h2]; rfl⟩
theorem perm_sub : ∀ (l r : List Str), l.Nodup → (∀ k ∈ l, k ∈ r) → r.length ≤ l.length → r.Perm l
  | [], r, _, _, h => by
    have z : r = [] := List.length_eq_zero_iff.mp (Nat.le_zero.mp h)
    rw [z]
  | k :: l, r, n, s, h => by
    obtain ⟨n1, n2⟩ := List.nodup_cons.mp n
    have hk := s k List.mem_cons_self
    have e := List.length_erase_of_mem hk
    have ih := perm_sub l (r.erase k) n2 (fun y hy => (List.mem_erase_of_ne fun (z : y = k) => n1 (by rw [← z]; exact hy)).2 (s y (List.mem_cons_of_mem _ hy))) (by rw [List.length_cons] at h; omega)
    exact (List.perm_cons_erase hk).trans (ih.cons k)
theorem tx_strs {D : SD} {l : List Str} (n : l.Nodup) (F : TxOk P w D l) : (∀ v ∈ D.1.toList.map (·.2), ∃ k t, v = Value.str k t) ∧ ((D.1.toList.map (·.2)).map strOf).Perm l := by
  have h1 : ∀ e ∈ D.1.toList, ∃ k t, e.2 = Value.str k t := fun e he => by
    obtain ⟨⟨k, z, _⟩, _⟩ := F.el e he
    obtain ⟨t, z2⟩ := Value.isStrOf_shape z
    exact ⟨k, t, z2⟩
  have h2 : ∀ e ∈ D.1.toList, ∀ k, (PySem.strKind P w).is k e.2 = true ↔ strOf e.2 = k := fun e he k => by
    obtain ⟨k0, t, z⟩ := h1 e he
    rw [z]
    exact ⟨fun q => ((PySem.strKind P w).inj (.str k0 t) k k0 q (is_str k0 t)).symm, fun q => by rw [← show k0 = k from q]; exact is_str k0 t⟩
  have hm : ∀ k, k ∈ l ↔ k ∈ (D.1.toList.map (·.2)).map strOf := fun k => by
    rw [F.mem k, List.map_map, List.mem_map]
    exact ⟨fun ⟨e, he, z⟩ => ⟨e, he, (h2 e he k).1 z⟩, fun ⟨e, he, z⟩ => ⟨e, he, (h2 e he k).2 z⟩⟩
  refine ⟨fun v hv => ?_, ?_⟩
  · obtain ⟨e, he, rfl⟩ := List.mem_map.mp hv
    exact h1 e he
  · refine perm_sub _ _ n (fun k hk => (hm k).1 hk) ?_
    have z : D.1.size = l.length := F.sz
    rw [List.length_map, List.length_map, Array.length_toList, z]
    exact Nat.le_refl _
/-- sorted(found) -/
theorem sorted_setX {a : Addr} {l : List Str} {Q : Value → Shared → Prop} (x : SetX P w s.heap a l) (hh : A.handled = none) (hb : l.length < scanBound)
    (q : ∀ s' p (out : Array Value) (c : Nat) (ys : List Str), (∀ b o, s.heap.get? b = some o → s'.heap.get? b = some o) → s'.gens = s.gens → s'.os = s.os → s.heap.objs.size ≤ p →
      s'.heap.get? p = some (seqObj "list" out c) → StrsAre out.toList ys → ys.Perm l → sortedS ys = true → Q (.ref p) s') :
    wpAny (model P w) A (call (.builtin "sorted") [.ref a]) Q E s := by
  obtain ⟨n, ⟨es, ep, t⟩, ho, F, r, ld⟩ := x
  have sz : es.size = l.length := F.sz
  obtain ⟨st, pl⟩ := tx_strs n F
  refine Calls.call_function_entry kind_sorted plain_sorted entry_sorted (args_sorted1 _) ?_
  unfold Builtin.«sorted»
  refine wpAny_bind (m := checkCount "sorted" 1 1 _) (wpAny_pure ?_)
  refine wpAny_bind (collect_set (A := A.in1) hh ⟨_, ho, rfl, rfl⟩ F.fit (by rw [sz]; exact hb) r ld fun s1 vs k1 hz g1 o1 pm => ?_)
  obtain ⟨xs, hS, ex⟩ := strsAre_all vs fun v hv => st v (pm.mem_iff.mp hv)
  have px : xs.Perm l := by rw [ex]; exact (pm.map strOf).trans pl
  have hL : vs.length ≤ sizeLine := by
    have z : scanBound ≤ sizeLine := by rw [sizeLine_eq]; decide
    rw [hS.length, px.length_eq]
    omega
  refine wpAny_bind (wpAny_newList ?_ hL)
  have hoL : (s1.heap.push (seqObj "list" vs.toArray 0)).get? s1.heap.objs.size = some (seqObj "list" vs.toArray 0) := Heap.get?_push_size _ rfl
  refine wpAny_bind (wpAny_holding (wpAny_call_entry slot_list_sort ⟨_, hoL, rfl⟩ entry_list_sort (list_sort_treeKAny strKind_oneLt hoL hS.keysOf (fun v₁ v₂ rest e => keyKind_strs (by rw [← e]; exact hS)) hL fun st' hp hs => ⟨_, rfl, ?_⟩) (args_list_sort _)))
  obtain ⟨ys, h1, h2, h3⟩ := sorted_out_str hS hp hs
  generalize (arrOf st').map (·.2) = out at h1 ⊢
  obtain ⟨c, hc⟩ := sortedHeap_at (vs := vs) (out := out) hoL
  refine wpAny_pure ⟨_, rfl, q _ s1.heap.objs.size out c ys (fun b u e => ?_) g1 o1 hz hc h1 (h2.trans px) h3⟩
  have z := k1 b u e
  have lt := Heap.lt_size z
  show (sortedHeap (s1.heap.push (seqObj "list" vs.toArray 0)) s1.heap.objs.size vs out).get? b = some u
  rw [sortedHeap_old (Nat.ne_of_lt lt) (by rw [size_push']; exact Nat.lt_succ_of_lt lt)]
  exact Heap.get?_push_of_some _ z
end
end Vs

namespace Vf
open PySem PySem.Spec PyProof.Rows L2 LamX Vs
/-- the set of the texts l, as an object -/
def SetH (P : Program) (w : World) (a : Addr) (l : List Str) : HO := .ext fun h => SetX P w h a l
theorem setH_new {P : Program} {w : World} {H : Hp} {h : Heap} {a : Addr} {l : List Str} (R : SetX P w h a l) : ObjOk P w H h a (SetH P w a l) := by
  have ⟨_, D, ho, _⟩ := R
  exact ⟨R, ⟨_, ho⟩, fun h1 h2 p k => SetX.keep p k⟩
theorem setH_get {X : Cx} {pins : List (Addr × Obj)} {σ : L2.St} {H : Hp} {s : Shared} {a : Addr} {l : List Str} (I : Inv X pins σ H s) (ha : H a = some (SetH X.prog X.w a l)) : SetX X.prog X.w s.heap a l := (I.hok a _ ha).1
section
variable {m : Md} {N : List Str} {sc : Scope} {k : Nat} {X : Cx} {H : Hp} {Q : VK}
/-- set(xs) of a list of texts -/
theorem cr_setX (hc : X.calm = true) : CallR X (.type "set") (fun vs H Q => ∃ (p : Addr) (xs : List Str), vs = [V.ref p] ∧ SqL X.K H p (xs.map V.str) ∧ xs.length < 4000 ∧
    ∀ a l, H a = none → l.Nodup → (∀ y, y ∈ l ↔ y ∈ xs) → l.length ≤ xs.length → Q (.ref a) (upd H a (SetH X.prog X.w a l))) := by
  intro pins s σ H vs us Q I r h
  obtain ⟨p, xs, rfl, hs, hb, q⟩ := h
  obtain ⟨its, rv, hl, _⟩ := I.list hs
  rw [Vals.ref1 r]
  refine set_texts (P := X.prog) (I.ok.hd hc) hl.isList (by simpa using rv.strs) (by unfold scanBound; omega) fun h' tk l x ml ll kp => ?_
  exact ⟨.ref _, upd H s.heap.objs.size (SetH X.prog X.w s.heap.objs.size l), I.laid (t' := tk) kp (Nat.le_refl _) (setH_new x), rfl, q _ l (I.hok.fresh (Nat.le_refl _)) x.1 ml ll⟩
/-- sorted(found) -/
theorem cr_sortedX (hc : X.calm = true) : CallR X (.builtin "sorted") (fun vs H Q => ∃ (a : Addr) (l : List Str), vs = [V.ref a] ∧ H a = some (SetH X.prog X.w a l) ∧ l.length < 4000 ∧
    ∀ ys p, ys.Perm l → sortedS ys = true → H p = none → Q (.ref p) (upd H p (.lst (ys.map V.str)))) := by
  intro pins s σ H vs us Q I r h
  obtain ⟨a, l, rfl, ha, hb, q⟩ := h
  have R := setH_get I ha
  rw [Vals.ref1 r]
  refine sorted_setX R (I.ok.hd hc) (by unfold scanBound; omega) fun s' p out c ys kp g o hp hg hi pm st => ?_
  have hlen : (ys.map V.str).length ≤ sizeLine := by rw [List.length_map, pm.length_eq, sizeLine_eq]; omega
  have hn : H p = none := I.hok.fresh hp
  have J : Inv X pins σ (upd H p (.lst (ys.map V.str))) { s with heap := s'.heap, gens := s'.gens, drawn := s'.drawn, toks := s'.toks } :=
    I.call (ch := []) (Un.laid kp hp hn) (I.hok.laid kp hp ⟨hlen, out.toList, c, vals_of_strs hi, hg⟩) (by rw [g]; exact I.bare) (fun _ z => nomatch z)
  have e : s' = { s with heap := s'.heap, gens := s'.gens, drawn := s'.drawn, toks := s'.toks } := by
    cases s'
    cases s
    cases o
    rfl
  rw [e]
  exact ⟨.ref p, _, J, rfl, q ys p pm st hn⟩
/-- len(found) -/
theorem cr_lenX : CallR X (.builtin "len") (fun vs H Q => ∃ (a : Addr) (l : List Str), vs = [V.ref a] ∧ H a = some (SetH X.prog X.w a l) ∧ l.length < 4000 ∧ Q (.int l.length) H) := by
  intro pins s σ H vs us Q I r h
  obtain ⟨a, l, rfl, ha, hb, q⟩ := h
  obtain ⟨_, D, ho, F, _⟩ := setH_get I ha
  rw [Vals.ref1 r]
  have sz : D.1.size = l.length := F.sz
  refine call_len_set ho ⟨rfl, rfl, rfl⟩ rfl F.fit (by rw [sz]; omega) ⟨.int l.length, H, I.tok _, ⟨_, by rw [sz]⟩, q⟩
theorem g_setX (h : At m N sc k X) {p : Addr} {xs : List Str} (hs : SqL m.K H p (xs.map V.str)) (hb : xs.length < 4000)
    (q : ∀ a l, H a = none → l.Nodup → (∀ y, y ∈ l ↔ y ∈ xs) → l.length ≤ xs.length → Q (.ref a) (upd H a (SetH m.P m.w a l))) : gCall X (.type "set") [.ref p] H Q :=
  ⟨_, cr_setX h.calm, p, xs, rfl, by rw [h.kk]; exact hs, hb, by rw [h.pp, h.ww]; exact q⟩
theorem g_sortedX (h : At m N sc k X) {a : Addr} {l : List Str} (ha : H a = some (SetH m.P m.w a l)) (hb : l.length < 4000)
    (q : ∀ ys p, ys.Perm l → sortedS ys = true → H p = none → Q (.ref p) (upd H p (.lst (ys.map V.str)))) : gCall X (.builtin "sorted") [.ref a] H Q :=
  ⟨_, cr_sortedX h.calm, a, l, rfl, by rw [h.pp, h.ww]; exact ha, hb, q⟩
theorem g_lenX (h : At m N sc k X) {a : Addr} {l : List Str} (ha : H a = some (SetH m.P m.w a l)) (hb : l.length < 4000) (q : Q (.int l.length) H) : gCall X (.builtin "len") [.ref a] H Q :=
  ⟨_, cr_lenX, a, l, rfl, by rw [h.pp, h.ww]; exact ha, hb, q⟩
end
end Vf
set_option maxRecDepth 100000
set_option maxHeartbeats 4000000
/-! Dct: dicts that are walked, looked up, stored, copied, displayed; pairs as targets in comprehensions; enumerate. Own work. -/
namespace Vf
open PySem PySem.Spec PyProof.Rows L2 LamX
/-- what a dict walked over asks: it is locked while the block runs -/
theorem Grow.unlock {T : List (Addr × Str)} {H H' : Hp} {d : Addr} {od : Obj} {kvs : List (Key × V)} (hd : H d = some (.dK kvs)) (g : Grow T (upd H d (.frz od (.dK kvs))) H') : Grow T H (upd H' d (.dK kvs)) ∧ H' d = some (.frz od (.dK kvs)) := by
  have fz := g.frz d od (.dK kvs) upd_same
  refine ⟨⟨fun b o _ e n => ?_, fun t => ?_, fun b e => ?_, fun b xs e => ?_, fun b o u e => ?_⟩, fz⟩
  · by_cases c : b = d
    · subst c
      rw [hd] at e
      rw [upd_same, e]
    · rw [upd_ne c]
      exact g.ext b o (fun z => z) (by rw [upd_ne c]; exact e) n
  · have t1 : Tabs T (upd H d (.frz od (.dK kvs))) := by
      intro q hq
      obtain ⟨ps, h1, h2, h3⟩ := t q hq
      refine ⟨ps, by rw [upd_ne (fun z => by rw [z, hd] at h1; cases h1)]; exact h1, h2, fun pos cv hc => ?_⟩
      obtain ⟨c, e1, e2⟩ := h3 pos cv hc
      exact ⟨c, e1, by rw [upd_ne (fun z => by rw [z, hd] at e2; unfold CodeO at e2; cases e2)]; exact e2⟩
    have t2 := g.tab t1
    intro q hq
    obtain ⟨ps, h1, h2, h3⟩ := t2 q hq
    refine ⟨ps, by rw [upd_ne (fun z => by rw [z, fz] at h1; cases h1)]; exact h1, h2, fun pos cv hc => ?_⟩
    obtain ⟨c, e1, e2⟩ := h3 pos cv hc
    exact ⟨c, e1, by rw [upd_ne (fun z => by rw [z, fz] at e2; unfold CodeO at e2; cases e2)]; exact e2⟩
  · exact NdefX.upd_none (g.keep b (NdefX.upd_none e))
  · have c : b ≠ d := fun z => by rw [z, hd] at e; cases e
    rw [upd_ne c]
    exact g.tup b xs (by rw [upd_ne c]; exact e)
  · have c : b ≠ d := fun z => by rw [z, hd] at e; cases e
    rw [upd_ne c]
    exact g.frz b o u (by rw [upd_ne c]; exact e)
section
variable {m : Md} {N : List Str} {sc scope : Scope} {k i j : Nat} {X : Cx} {a b c e f o elt iter : Expr} {es : List Expr} {σ : L2.St} {H : Hp} {Q : VK} {pos p p1 p2 p3 apos tpos : Pos} {x y : Str} {nx : L2.St → Hp → Prop} {rt : VK} {bk ct : L2.St → Hp → Prop}
/-- [elt for x in d], d a dict -/
theorem w_lcDk (h : At m N sc k X) (ok : blkC N sc scope [(x, i)] = true) (n : NL N (relS scope sc) i x)
    (q : ∃ (d : Addr) (kvs : List (Key × V)), H d = some (.dK kvs) ∧ ∀ od, wE X iter σ (upd H d (.frz od (.dK kvs))) fun v H1 => v = .ref d ∧ H1 = upd H d (.frz od (.dK kvs)) ∧ ∀ D, H1 D = none → ∃ Pv : Nat → Hp → Prop, Pv 0 (upd H1 D (.lst [])) ∧ (∀ t H, t ≤ kvs.length → Pv t H → H d = some (.frz od (.dK kvs))) ∧
      (∀ t p H, kvs[t]? = some p → Pv t H → ∀ X', At m N (relS scope sc) k X' → wE X' elt (σ.set i (some (kV p.1))) H (App D (Pv (t + 1)))) ∧ ∀ H, Pv kvs.length H → Q (.ref D) (upd H d (.dK kvs)))
    (hs : ∀ x, foldedSetIterable iter X.env x = pure x := by with_unfolding_all (intro _; rfl)) : wE X (.ListComp elt [⟨.Name x p1, iter, [], 0⟩] scope pos) σ H Q := by
  refine toE (pe_lock (pe_lc (own := [(x, i)]) (g := gName i) (tt := tYes) (te := inBlk m N (relS scope sc) k elt) h.calm (by rw [h.nn]; exact h.nd) (pi_keys cE) (by rw [h.nn, h.ss]; exact blkOk_by ok) (fun s H C cl fp => pg_nl (blk_at h s H C cl fp) n) (fun _ _ _ _ _ => pts_nil) (fun s H C cl fp => blk_pe h s H C cl fp) hs)) ?_
  obtain ⟨d, kvs, hd, q⟩ := q
  refine ⟨d, .dK kvs, hd, trivial, fun od => ?_⟩
  refine wE.mono (q od) fun v H1 ⟨ev, eH, go⟩ => ?_
  refine ⟨d, od, ev, .inl ⟨kvs, by rw [eH]; exact upd_same, fun D hD => ?_⟩⟩
  obtain ⟨Pv, p0, st, turn, fin⟩ := go D hD
  refine lc_it walk_keys (g := gName i) (tt := tYes) (te := inBlk m N (relS scope sc) k elt) (vs := [i]) (σ := σ) Pv p0 st (fun t z H H' ht hp y => ?_) fun H hp => ⟨st _ _ (Nat.le_refl _) hp, fin H hp⟩
  obtain ⟨rfl, kk, v, hk, rfl⟩ := y
  refine ⟨by rw [wipe1]; simp [wipe, List.set_set], ?_⟩
  unfold tYes
  refine iteT fun X' hX' => ?_
  rw [set_wipe]
  exact turn t (kk, v) H' hk hp X' hX'
/-- [elt for x in d.values()] -/
theorem w_lcDv (h : At m N sc k X) (ok : blkC N sc scope [(x, i)] = true) (n : NL N (relS scope sc) i x)
    (q : ∃ (d : Addr) (kvs : List (Key × V)), H d = some (.dK kvs) ∧ ∀ od, wE X e σ (upd H d (.frz od (.dK kvs))) fun v H1 => v = .ref d ∧ H1 = upd H d (.frz od (.dK kvs)) ∧ ∀ D, H1 D = none → ∃ Pv : Nat → Hp → Prop, Pv 0 (upd H1 D (.lst [])) ∧ (∀ t H, t ≤ kvs.length → Pv t H → H d = some (.frz od (.dK kvs))) ∧
      (∀ t p H, kvs[t]? = some p → Pv t H → ∀ X', At m N (relS scope sc) k X' → wE X' elt (σ.set i (some p.2)) H (App D (Pv (t + 1)))) ∧ ∀ H, Pv kvs.length H → Q (.ref D) (upd H d (.dK kvs)))
    (hbase : attributeBase e "values" X.env (eval e X.env) = eval e X.env := by with_unfolding_all rfl) (hline : (apos.endLine == p2.line) = true := by with_unfolding_all rfl)
    (hs : ∀ x, foldedSetIterable (.Call (.Attribute e "values" apos) [] [] p2) X.env x = pure x := by with_unfolding_all (intro _; rfl)) : wE X (.ListComp elt [⟨.Name x p1, .Call (.Attribute e "values" apos) [] [] p2, [], 0⟩] scope pos) σ H Q := by
  refine toE (pe_lock (pe_lc (own := [(x, i)]) (g := gName i) (tt := tYes) (te := inBlk m N (relS scope sc) k elt) h.calm (by rw [h.nn]; exact h.nd) (pi_values cE hbase hline) (by rw [h.nn, h.ss]; exact blkOk_by ok) (fun s H C cl fp => pg_nl (blk_at h s H C cl fp) n) (fun _ _ _ _ _ => pts_nil) (fun s H C cl fp => blk_pe h s H C cl fp) hs)) ?_
  obtain ⟨d, kvs, hd, q⟩ := q
  refine ⟨d, .dK kvs, hd, trivial, fun od => ?_⟩
  refine wE.mono (q od) fun v H1 ⟨ev, eH, go⟩ => ?_
  refine ⟨d, od, kvs, ev, by rw [eH]; exact upd_same, fun D hD => ?_⟩
  obtain ⟨Pv, p0, st, turn, fin⟩ := go D hD
  refine lc_it walk_values (g := gName i) (tt := tYes) (te := inBlk m N (relS scope sc) k elt) (vs := [i]) (σ := σ) Pv p0 st (fun t z H H' ht hp y => ?_) fun H hp => ⟨st _ _ (Nat.le_refl _) hp, fin H hp⟩
  obtain ⟨rfl, kk, hk⟩ := y
  refine ⟨by rw [wipe1]; simp [wipe, List.set_set], ?_⟩
  unfold tYes
  refine iteT fun X' hX' => ?_
  rw [set_wipe]
  exact turn t (kk, z) H' hk hp X' hX'
theorem set2_wipe {u w : V} : ((wipe σ [i, j]).set i (some u)).set j (some w) = (σ.set i (some u)).set j (some w) := by
  by_cases c : i = j
  · subst c; simp [wipe, List.set_set]
  · simp [wipe, List.set_set, List.set_comm _ _ c]
theorem wipe2 {u w : V} : wipe ((σ.set i (some u)).set j (some w)) [i, j] = wipe σ [i, j] := by
  by_cases c : i = j
  · subst c; simp [wipe, List.set_set]
  · simp [wipe, List.set_set, List.set_comm _ _ c]
/-- [elt for x, y in xs], xs a list of pairs -/
theorem w_lcP {k1 : Nat} (h : At m N sc k X) (ok : blkC N sc scope [(x, i), (y, j)] = true) (n1 : NL N (relS scope sc) i x) (n2 : NL N (relS scope sc) j y)
    (q : wE X iter σ H fun v H1 => ∃ (a : Addr) (xs : List V), v = .ref a ∧ SqL m.K H1 a xs ∧ ∀ D, H1 D = none → ∃ Pv : Nat → Hp → Prop, Pv 0 (upd H1 D (.lst [])) ∧ (∀ t H, t ≤ xs.length → Pv t H → SqL m.K H a xs) ∧
      (∀ t z H, xs[t]? = some z → Pv t H → ∃ p u w, z = .ref p ∧ SqT m.K H p [u, w] ∧ ∀ X', At m N (relS scope sc) k X' → wE X' elt ((σ.set i (some u)).set j (some w)) H (App D (Pv (t + 1)))) ∧ ∀ H, Pv xs.length H → Q (.ref D) H)
    (hs : ∀ x, foldedSetIterable iter X.env x = pure x := by with_unfolding_all (intro _; rfl)) : wE X (.ListComp elt [⟨.Tuple [.Name x p1, .Name y p2] k1 p3, iter, [], 0⟩] scope pos) σ H Q := by
  refine toE (pe_lc (own := [(x, i), (y, j)]) (g := gTup X.K 2 (gCons (gName i) (gCons (gName j) gNil))) (tt := tYes) (te := inBlk m N (relS scope sc) k elt) h.calm (by rw [h.nn]; exact h.nd) (pi_list cE) (by rw [h.nn, h.ss]; exact blkOk_by ok) (fun s H C cl fp => pg_tup (blk_at h s H C cl fp).calm (pgs_cons (pg_nl (blk_at h s H C cl fp) n1) (pgs_cons (pg_nl (blk_at h s H C cl fp) n2) pgs_nil (by with_unfolding_all rfl)) (by with_unfolding_all rfl)) (by with_unfolding_all rfl) (by with_unfolding_all rfl)) (fun _ _ _ _ _ => pts_nil) (fun s H C cl fp => blk_pe h s H C cl fp) hs) ?_
  refine wE.mono q fun v H1 ⟨a, xs, ea, hl, go⟩ => ⟨a, ea, ⟨xs, by rw [h.kk]; exact hl⟩, fun D hD => ?_⟩
  obtain ⟨Pv, p0, st, turn, fin⟩ := go D hD
  refine lc_list (K := X.K) (a := a) (xs := xs) (g := gTup X.K 2 (gCons (gName i) (gCons (gName j) gNil))) (tt := tYes) (te := inBlk m N (relS scope sc) k elt) (vs := [i, j]) (σ := σ) Pv p0 (fun j H hj hp => by rw [h.kk]; exact st j H hj hp) (fun t z H hz hp => ?_) fin
  obtain ⟨p, u, w, rfl, hp2, go2⟩ := turn t z H hz hp
  refine ⟨p, [u, w], rfl, by show SqT X.K H p [u, w]; rw [h.kk]; exact hp2, rfl, u, [w], rfl, w, [], rfl, rfl, ?_⟩
  rw [set2_wipe]
  refine ⟨wipe2, ?_⟩
  unfold tYes
  exact iteT fun X' hX' => go2 X' hX'
/-- z = [elt for x, y in xs] -/
theorem s_lcP {k1 l : Nat} {y0 : Str} {py spos : Pos} (h : At m N sc k X) (nl : NL N sc l y0) (ok : blkC N sc scope [(x, i), (y, j)] = true) (n1 : NL N (relS scope sc) i x) (n2 : NL N (relS scope sc) j y)
    (q : wE X iter σ H fun v H1 => ∃ (a : Addr) (xs : List V), v = .ref a ∧ SqL m.K H1 a xs ∧ ∀ D, H1 D = none → ∃ Pv : Nat → Hp → Prop, Pv 0 (upd H1 D (.lst [])) ∧ (∀ t H, t ≤ xs.length → Pv t H → SqL m.K H a xs) ∧
      (∀ t z H, xs[t]? = some z → Pv t H → ∃ p u w, z = .ref p ∧ SqT m.K H p [u, w] ∧ ∀ X', At m N (relS scope sc) k X' → wE X' elt ((σ.set i (some u)).set j (some w)) H (App D (Pv (t + 1)))) ∧ ∀ H, Pv xs.length H → nx (σ.set l (some (.ref D))) H)
    (hs : ∀ x, foldedSetIterable iter X.env x = pure x := by with_unfolding_all (intro _; rfl)) (hk : sc.kind = .function := by with_unfolding_all rfl) (hl : (py.line == pos.line) = true := by with_unfolding_all rfl) (ha : (scope.names.any fun (n, k) => n == y0 && (k == .local || k == .cell)) = false := by with_unfolding_all (decide +kernel)) : wS X (.Assign [.Name y0 py] (.ListComp elt [⟨.Tuple [.Name x p1, .Name y p2] k1 p3, iter, [], 0⟩] scope pos) spos) ⟨nx, rt, bk, ct⟩ σ H := by
  refine toS (ps_setLc (i := l) (y := y0) (py := py) (own := [(x, i), (y, j)]) (g := gTup X.K 2 (gCons (gName i) (gCons (gName j) gNil))) (tt := tYes) (te := inBlk m N (relS scope sc) k elt) h.calm (by rw [h.nn]; exact h.nd) (by rw [h.nn]; exact nl.ix) (by rw [h.ss]; exact nl.loc) (sw_true (by rw [h.ss]; exact hk) (by rw [h.ss]; exact nl.loc) hl ha) (pi_list cE) (by rw [h.nn, h.ss]; exact blkOk_by ok) (fun s H C cl fp => pg_tup (blk_at h s H C cl fp).calm (pgs_cons (pg_nl (blk_at h s H C cl fp) n1) (pgs_cons (pg_nl (blk_at h s H C cl fp) n2) pgs_nil (by with_unfolding_all rfl)) (by with_unfolding_all rfl)) (by with_unfolding_all rfl) (by with_unfolding_all rfl)) (fun _ _ _ _ _ => pts_nil) (fun s H C cl fp => blk_pe h s H C cl fp) hs) ?_
  refine wE.mono q fun v H1 ⟨a, xs, ea, hl, go⟩ => ⟨a, ea, ⟨xs, by rw [h.kk]; exact hl⟩, fun D hD => ?_⟩
  obtain ⟨Pv, p0, st, turn, fin⟩ := go D hD
  refine lc_list (K := X.K) (a := a) (xs := xs) (g := gTup X.K 2 (gCons (gName i) (gCons (gName j) gNil))) (tt := tYes) (te := inBlk m N (relS scope sc) k elt) (vs := [i, j]) (σ := σ) Pv p0 (fun j H hj hp => by rw [h.kk]; exact st j H hj hp) (fun t z H hz hp => ?_) fin
  obtain ⟨p, u, w, rfl, hp2, go2⟩ := turn t z H hz hp
  refine ⟨p, [u, w], rfl, by show SqT X.K H p [u, w]; rw [h.kk]; exact hp2, rfl, u, [w], rfl, w, [], rfl, rfl, ?_⟩
  rw [set2_wipe]
  refine ⟨wipe2, ?_⟩
  unfold tYes
  exact iteT fun X' hX' => go2 X' hX'
/-- [elt for x, y in xs if c] -/
theorem w_lcPi {k1 : Nat} (h : At m N sc k X) (ok : blkC N sc scope [(x, i), (y, j)] = true) (n1 : NL N (relS scope sc) i x) (n2 : NL N (relS scope sc) j y)
    (q : wE X iter σ H fun v H1 => ∃ (a : Addr) (xs : List V), v = .ref a ∧ SqL m.K H1 a xs ∧ ∀ D, H1 D = none → ∃ Pv : Nat → Hp → Prop, Pv 0 (upd H1 D (.lst [])) ∧ (∀ t H, t ≤ xs.length → Pv t H → SqL m.K H a xs) ∧
      (∀ t z H, xs[t]? = some z → Pv t H → ∃ p u w, z = .ref p ∧ SqT m.K H p [u, w] ∧ ∀ X', At m N (relS scope sc) k X' → wT X' c ((σ.set i (some u)).set j (some w)) H fun b H3 => if b = true then (∀ X', At m N (relS scope sc) k X' → wE X' elt ((σ.set i (some u)).set j (some w)) H3 (App D (Pv (t + 1)))) else Pv (t + 1) H3) ∧ ∀ H, Pv xs.length H → Q (.ref D) H)
    (hs : ∀ x, foldedSetIterable iter X.env x = pure x := by with_unfolding_all (intro _; rfl)) : wE X (.ListComp elt [⟨.Tuple [.Name x p1, .Name y p2] k1 p3, iter, [c], 0⟩] scope pos) σ H Q := by
  refine toE (pe_lc (own := [(x, i), (y, j)]) (g := gTup X.K 2 (gCons (gName i) (gCons (gName j) gNil))) (tt := inBlkT m N (relS scope sc) k c) (te := inBlk m N (relS scope sc) k elt) h.calm (by rw [h.nn]; exact h.nd) (pi_list cE) (by rw [h.nn, h.ss]; exact blkOk_by ok) (fun s H C cl fp => pg_tup (blk_at h s H C cl fp).calm (pgs_cons (pg_nl (blk_at h s H C cl fp) n1) (pgs_cons (pg_nl (blk_at h s H C cl fp) n2) pgs_nil (by with_unfolding_all rfl)) (by with_unfolding_all rfl)) (by with_unfolding_all rfl) (by with_unfolding_all rfl)) (fun s H C cl fp => pts_one (blk_pt h s H C cl fp)) (fun s H C cl fp => blk_pe h s H C cl fp) hs) ?_
  refine wE.mono q fun v H1 ⟨a, xs, ea, hl, go⟩ => ⟨a, ea, ⟨xs, by rw [h.kk]; exact hl⟩, fun D hD => ?_⟩
  obtain ⟨Pv, p0, st, turn, fin⟩ := go D hD
  refine lc_list (K := X.K) (a := a) (xs := xs) (g := gTup X.K 2 (gCons (gName i) (gCons (gName j) gNil))) (tt := inBlkT m N (relS scope sc) k c) (te := inBlk m N (relS scope sc) k elt) (vs := [i, j]) (σ := σ) Pv p0 (fun j H hj hp => by rw [h.kk]; exact st j H hj hp) (fun t z H hz hp => ?_) fin
  obtain ⟨p, u, w, rfl, hp2, go2⟩ := turn t z H hz hp
  refine ⟨p, [u, w], rfl, by show SqT X.K H p [u, w]; rw [h.kk]; exact hp2, rfl, u, [w], rfl, w, [], rfl, rfl, ?_⟩
  rw [set2_wipe]
  exact ⟨wipe2, fun X' hX' => go2 X' hX'⟩
/-- for x, y in enumerate(e): the pair is new each time -/
theorem s_forEn {elts : List Expr} {kk : Nat} {g : TG} {po : Pos} {body : List Stmt} (h : At m N sc k X) (hg : PG X (.Tuple elts kk tpos) g) (hm : m.mg "enumerate" = none) (hgl : sc.names.lookup ("enumerate" : Str) = some .globalImplicit)
    (q : wE X e σ H fun v H1 => ∃ (a : Addr) (xs : List V), v = .ref a ∧ SqL m.K H1 a xs ∧ ∃ Pv : Nat → L2.St → Hp → Prop, Pv 0 σ H1 ∧ (∀ t σ H, t ≤ xs.length → Pv t σ H → SqL m.K H a xs) ∧
      (∀ (t : Nat) (z : V) (T : Addr) (σ : L2.St) (H : Hp), xs[t]? = some z → Pv t σ H → H T = none → g (.ref T) σ (upd H T (.tup [.int t, z])) fun σ2 H2 => wB X body ⟨Pv (t + 1), rt, nx, Pv (t + 1)⟩ σ2 H2) ∧ ∀ σ H, Pv xs.length σ H → nx σ H)
    (hs : starEach [e] X.env = [(false, eval e X.env)] := by with_unfolding_all rfl) (hf : ∀ x, foldedSetIterable (.Call (.Name "enumerate" p1) [e] [] p2) X.env x = pure x := by with_unfolding_all (intro _; rfl)) :
    wS X (.For (.Tuple elts kk tpos) (.Call (.Name "enumerate" p1) [e] [] p2) body [] po) ⟨nx, rt, bk, ct⟩ σ H := by
  refine toS (ps_for h.pass h.calm (pi_enum (h.gl hgl) (by rw [h.mm]; exact hm) (pa_cons cE pa_nil hs) hs) hg cB hf) ?_
  refine wE.mono q fun v H1 ⟨a, xs, ea, hl, Pv, p0, st, turn, fin⟩ => ⟨a, xs, by rw [ea], by rw [h.kk]; exact hl, ?_⟩
  refine for_it (walk_enum (K := X.K) (a := a) (xs := xs)) Pv p0 (fun t σ H ht hp => by rw [h.kk]; exact st t σ H ht hp) (fun t z σ H H' ht hp y => ?_) fin
  obtain ⟨T, u, w, rfl, hT, rfl, hu, hw⟩ := y
  have eu : V.int (t : Nat) = u := Option.some.inj hu
  rw [← eu]
  exact turn t w T σ H hw hp hT
/-- xs.extend(e) -/
theorem g_extend (q : wE X o σ H fun x H1 => tyV X.K "list" x H1 ∧ wA X [e] σ H1 fun ys H2 => ∃ l b xs zs, x = .ref l ∧ ys = [.ref b] ∧ H2 l = some (.lst xs) ∧ H2 b = some (.lst zs) ∧ xs.length + zs.length ≤ sizeLine ∧ Q .non (upd H2 l (.lst (xs ++ zs))))
    (hbase : attributeBase o "extend" X.env (eval o X.env) = eval o X.env := by with_unfolding_all rfl)
    (hfew : ((backTo pos (starEach [e] X.env)).all (fun x => !x.1) && (backToKw pos (keywordEach [] X.env)).all (fun x => x.1.isSome) && decide ([e].length + ([] : List Keyword).length + (if ([] : List Keyword).isEmpty then 0 else 1) < 30)) = true := by with_unfolding_all rfl)
    (hline : (apos.endLine == pos.line) = true := by with_unfolding_all rfl) (hs : starEach [e] X.env = (false, eval e X.env) :: starEach [] X.env := by with_unfolding_all rfl) (hplain : (backTo pos (starEach [] X.env)).any (·.1) = false := by with_unfolding_all rfl) : wE X (.Call (.Attribute o "extend" apos) [e] [] pos) σ H Q :=
  toE (pe_bm PySem.F.plainAttrs_list PySem.F.slot_list_extend PySem.F.type_list_extend mt_extend cE cA hbase hfew hline hs hplain) q
/-! dicts of texts -/
theorem w_dget (h : At m N sc k X) {ix : Expr} (q : wE X o σ H fun x H1 => wE X ix σ H1 fun y H2 => ∃ a v, x = .ref a ∧ DGet H2 a y (some v) ∧ Q v H2) (hns : NoSl ix := by with_unfolding_all exact fun _ _ => rfl) : wE X (.Subscript o ix pos) σ H Q := by
  refine toE (pe_dget h.hu cE cE hns) ?_
  exact wE.mono q fun x H1 q1 => wE.mono q1 fun y H2 q2 => q2
/-- d[y] at values -/
theorem g_ixD (h : At m N sc k X) {d : Addr} {y r : V} (g : DGet H d y (some r)) (q : Q r H) : gIx X (.ref d) y H Q := fun value slice pins s σ v u I rx ry hs => by
  obtain rfl : v = Value.ref d := rx
  have hT := dict_typeIs I g
  have h2 := d_getItem (E := X.xe) (A := X.A) h.hu I g ry (Q := EP X pins σ Q) fun w' s3 I3 rw' => ⟨r, H, I3, rw', q⟩
  unfold subscriptTail
  refine wpAny_bind ?_
  rw [getitemInPython_of_ne hT.not_modules]
  refine wpAny_bind (wpAny_specialOf hT PySem.F.slot_dict_getitem.lookup ?_)
  have fin : wpAny (model X.prog X.w) X.A (subscripted slice false (.ref d) u) (fun r s3 => wpAny (model X.prog X.w) X.A (letTemporaryGo value (.ref d) r >>= fun _ => pure r) (EP X pins σ Q) X.xe s3) X.xe s := by
    rw [hs]
    exact wpAny_operating (wpAny_mono h2 (fun r s3 h3 => wpAny_bind (wpAny_letTemporaryGo (wpAny_pure h3))) fun _ _ x => x)
  first
    | exact wpAny_pure (wpAny_bind fin)
    | exact wpAny_bind (wpAny_pure (wpAny_bind fin))
    | exact wpAny_bind fin
theorem g_notInD (h : At m N sc k X) {d : Addr} {kvs : List (Key × V)} {z : Str} (hd : H d = some (.dK kvs)) (q : Q (.bl (!(valV kvs (.inr z)).isSome)) H) : gOp X (compareOp .NotIn) (.str z) (.ref d) H Q := by
  intro pins s σ v u I rx ry
  obtain rfl : u = Value.ref d := ry
  have hu := h.hu
  exact d_notIn hu I (DGet.k (k := .inr z) hd) rx fun s3 I3 => ⟨.bl _, _, I3, rfl, q⟩
theorem g_inD (h : At m N sc k X) {d : Addr} {kvs : List (Key × V)} {z : Str} (hd : H d = some (.dK kvs)) (q : Q (.bl (valV kvs (.inr z)).isSome) H) : gOp X (compareOp .In) (.str z) (.ref d) H Q := by
  intro pins s σ v u I rx ry
  obtain rfl : u = Value.ref d := ry
  have hu := h.hu
  exact d_in hu I (DGet.k (k := .inr z) hd) rx fun s3 I3 => ⟨.bl _, _, I3, rfl, q⟩
theorem s_dput (h : At m N sc k X) {ix : Expr} (q : wE X e σ H fun v H1 => wE X o σ H1 fun x H2 => wE X ix σ H2 fun y H3 => ∃ a H4, x = .ref a ∧ DPut H3 a y v H4 ∧ nx σ H4)
    (hs : swapsWith e (some (.Subscript o ix p1)) pos.line X.env = pure false := by with_unfolding_all rfl) : wS X (.Assign [.Subscript o ix p1] e pos) ⟨nx, rt, bk, ct⟩ σ H := by
  refine toS (ps_dput h.hu cE cE cE hs) ?_
  exact wE.mono q fun v H1 q1 => wE.mono q1 fun x H2 q2 => wE.mono q2 fun y H3 q3 => q3
theorem g_dictD (h : At m N sc k X) {d : Addr} {kvs : List (Key × V)} (hd : H d = some (.dK kvs)) (q : ∀ p, H p = none → Q (.ref p) (upd H p (.dK kvs))) : gCall X (.type "dict") [.ref d] H Q := ⟨_, call_dictD, d, kvs, rfl, .inl hd, q⟩
theorem g_dictP (h : At m N sc k X) {l : Addr} {ps : List Addr} {kvs : List (Key × V)} (hl : SqL m.K H l (ps.map V.ref)) (hp : Paired (fun p kv => SqT m.K H p [kV kv.1, kv.2]) ps kvs) (q : ∀ p, H p = none → Q (.ref p) (upd H p (.dK (mergeK [] kvs)))) : gCall X (.type "dict") [.ref l] H Q :=
  ⟨_, call_dictP h.calm, l, ps, kvs, rfl, by rw [h.kk]; exact hl, by rw [h.kk]; exact hp, q⟩
theorem g_sortedD (h : At m N sc k X) {d : Addr} {kvs : List (Key × V)} {ks : List Str} (hd : H d = some (.dK kvs)) (hk : kvs.map (·.1) = ks.map Sum.inr) (hl : ks.length < 64) (q : ∀ ys p, ys.Perm ks → sortedS ys = true → H p = none → Q (.ref p) (upd H p (.lst (ys.map V.str)))) : gCall X (.builtin "sorted") [.ref d] H Q :=
  ⟨_, call_sortedD h.calm, d, kvs, ks, rfl, .inl hd, hk, hl, q⟩
theorem g_sortedI (h : At m N sc k X) {l : Addr} {ns : List Int} (hl : SqL m.K H l (ns.map V.int)) (q : ∀ (ns' : List Int) (p : Addr), ns'.Perm ns → ns'.Pairwise (· ≤ ·) → H p = none → Q (.ref p) (upd H p (.lst (ns'.map V.int)))) : gCall X (.builtin "sorted") [.ref l] H Q :=
  ⟨_, cr_sortedI, l, ns, rfl, by rw [h.kk]; exact hl, q⟩
theorem g_sortedS (h : At m N sc k X) {l : Addr} {xs : List Str} (hl : SqL m.K H l (xs.map V.str)) (h64 : xs.length < 64) (q : ∀ (ys : List Str) (p : Addr), ys.Perm xs → sortedS ys = true → H p = none → Q (.ref p) (upd H p (.lst (ys.map V.str)))) : gCall X (.builtin "sorted") [.ref l] H Q :=
  ⟨_, cr_sortedS, l, xs, rfl, by rw [h.kk]; exact hl, h64, q⟩
end
theorem ltCps_total {a b : Str} (h1 : ltCps a.cps.toList b.cps.toList = false) (h2 : ltCps b.cps.toList a.cps.toList = false) : a = b := by
  rw [ltCps_eq, decide_eq_false_iff_not] at h1 h2
  have e : a.cps.toList = b.cps.toList := List.le_antisymm (List.not_lt.mp h2) (List.not_lt.mp h1)
  cases a
  cases b
  have e2 := Array.toList_inj.mp e
  simp only at e2
  rw [e2]
theorem rising_pw : ∀ (l : List Str) (p : Str), risingS p l = true → (p :: l).Pairwise (fun a b => ltCps b.cps.toList a.cps.toList = false)
  | [], p, _ => List.pairwise_singleton _ _
  | x :: r, p, h => by
    have h' : (!ltCps x.cps.toList p.cps.toList && risingS x r) = true := h
    rw [Bool.and_eq_true, Bool.not_eq_true'] at h'
    have ih := rising_pw r x h'.2
    refine List.pairwise_cons.mpr ⟨fun y hy => ?_, ih⟩
    rcases List.mem_cons.mp hy with e | e
    · rw [e]; exact h'.1
    · have h2 := List.rel_of_pairwise_cons ih e
      have h1 := h'.1
      rw [ltCps_eq, decide_eq_false_iff_not] at h1 h2 ⊢
      exact List.not_lt.mpr (List.le_trans (List.not_lt.mp h1) (List.not_lt.mp h2))
theorem sorted_pw : ∀ (l : List Str), sortedS l = true → l.Pairwise (fun a b => ltCps b.cps.toList a.cps.toList = false)
  | [], _ => List.Pairwise.nil
  | x :: r, h => rising_pw r x h
/-- sorted lists of the same texts are one list -/
theorem sorted_same {l r : List Str} (p : l.Perm r) (h1 : sortedS l = true) (h2 : sortedS r = true) : l = r :=
  p.eq_of_pairwise (le := fun a b => ltCps b.cps.toList a.cps.toList = false) (fun a b _ _ x y => ltCps_total y x) (sorted_pw l h1) (sorted_pw r h2)
theorem perm_nodup {l r : List Str} (n1 : l.Nodup) (n2 : r.Nodup) (h : ∀ y, y ∈ l ↔ y ∈ r) : l.Perm r := (List.perm_ext_iff_of_nodup n1 n2).mpr h
end Vf
set_option maxRecDepth 100000
set_option maxHeartbeats 4000000
/-! Nel: != of two lists whose items are equal at any depth, dicts among them. Own work. -/
namespace Vq
open PySem PySem.SeqAt
open AutoSeq1 (wpAny_loadPart')
open MeetsSeq MeetsSeq2 MeetsSeq3 SeqRoads2
section
variable {prog : Program} {w : World}
theorem ne_loop (l b : Addr) (xs ys : Array Value) (n n2 : Nat) (dd dd2 : Option Addr) (sl sl2 : Array (Option Value)) (sz : xs.size = ys.size) (k : Nat) :
    ∀ i : Nat, xs.size - i = k → MeetsIn prog w (Builtin.«list.__eq__.loop» ⟨[.ref l, .ref b, rawInt i, rawInt 3], []⟩)
      (fun A R s => s.heap.get? l = some { cls := .type "list", dict := dd, data := .seq xs n, slots := sl } ∧ s.heap.get? b = some { cls := .type "list", dict := dd2, data := .seq ys n2, slots := sl2 } ∧
        (∀ j (h1 : j < xs.size) (h2 : j < ys.size), EqP prog w A.in1 s xs[j] ys[j] true) ∧ R (.ok (.ret (.bool false))) s) := by
  induction k with
  | zero =>
    rintro i hk A R ⟨hp, g, d, tk, os⟩ ⟨hl, hb, he, h⟩
    wp_walk using wpAny_loadPart' hl, wpAny_loadPart' hb
    rw [show xs[((i : Nat) : Int).toNat]? = none from by simp; omega, show ys[((i : Nat) : Int).toNat]? = none from by simp; omega]
    wp_walk using wpAny_loadPart' hl, wpAny_loadPart' hb
    show R (.ok (.ret (.bool (xs.size != ys.size)))) _
    rw [show (xs.size != ys.size) = false from by simp [sz]]
    exact h
  | succ k ih =>
    rintro i hk A R ⟨hp, g, d, tk, os⟩ ⟨hl, hb, he, h⟩
    wp_walk using wpAny_loadPart' hl, wpAny_loadPart' hb
    have l1 : i < xs.size := by omega
    have l2 : i < ys.size := by omega
    rw [show xs[((i : Nat) : Int).toNat]? = some xs[i] from by simp [l1], show ys[((i : Nat) : Int).toNat]? = some ys[i] from by simp [l2]]
    refine wpAny_bind (he i l1 l2 _ _ ?_)
    wp_walk
    rw [show ((i : Int) + 1) = ((i + 1 : Nat) : Int) from by push_cast; rfl]
    exact ⟨plainId_quiet plain_eq_loop _, codeAny_builtin entry_eq_loop (by
      rw [Around.under_plainId plain_eq_loop _]
      exact ih (i + 1) (by omega) A R _ ⟨hl, hb, he, h⟩)⟩
theorem list_ne (l b : Addr) (xs ys : Array Value) (n n2 : Nat) (dd dd2 : Option Addr) (sl sl2 : Array (Option Value)) (sz : xs.size = ys.size) :
    MeetsIn prog w (Builtin.«list.__ne__» ⟨[.ref l, .ref b], []⟩)
      (fun A R s => s.heap.get? l = some { cls := .type "list", dict := dd, data := .seq xs n, slots := sl } ∧ s.heap.get? b = some { cls := .type "list", dict := dd2, data := .seq ys n2, slots := sl2 } ∧
        (∀ j (h1 : j < xs.size) (h2 : j < ys.size), EqP prog w A.in1 s xs[j] ys[j] true) ∧ R (.ok (.ret (.bool false))) s) := by
  rintro A R ⟨hp, g, d, tk, os⟩ ⟨hl, hb, he, h⟩
  have f3 := AutoSeq1.sub_list_list
  have hne : ¬ (xs.size != ys.size) = true := by simp [sz]
  wp_walk using wpAny_loadPart' hl, wpAny_loadPart' hb
  exact ⟨plainId_quiet plain_eq_loop _, codeAny_builtin entry_eq_loop (by
    rw [Around.under_plainId plain_eq_loop _]
    exact ne_loop l b xs ys n n2 dd dd2 sl sl2 sz _ 0 rfl A R _ ⟨hl, hb, he, h⟩)⟩
theorem ne_lists {A : Around} {s : Shared} {l b : Addr} {xs ys : Array Value} (hl : s.heap.IsList l xs) (hb : s.heap.IsList b ys) (sz : xs.size = ys.size) (hu : A.units < cLine)
    (he : ∀ j (h1 : j < xs.size) (h2 : j < ys.size), EqP prog w A.in1 s xs[j] ys[j] true) (E Q : Value → Shared → Prop) (h : Q (.bool false) s) : wpAny (model prog w) A (richCompare .NotEq (.ref l) (.ref b)) Q E s := by
  obtain ⟨⟨c1, d1, a1, s1⟩, o1, e1, n, f1⟩ := id hl
  obtain ⟨⟨c2, d2, a2, s2⟩, o2, e2, n2, f2⟩ := id hb
  simp only at e1 f1 e2 f2
  subst e1 f1 e2 f2
  have ta : s.TypeIs (.ref l) "list" := ⟨_, o1, rfl⟩
  exact wpAny_richCompare_same_room (op := .NotEq) ta ⟨_, o2, rfl⟩ F.slot_list_ne (call_meetsIn F.slot_list_ne ta F.entry_list_ne (F.args_list_ne_2 _ _) (list_ne l b xs ys n n2 d1 d2 s1 s2 sz)
    ⟨o1, o2, he, show Value.bool false ≠ Value.notImplemented ∧ Q (.bool false) s from ⟨(fun x => nomatch x), h⟩⟩) hu
end
end Vq
namespace Vf
open PySem PySem.Spec PyProof.Rows L2 LamX
/-- xs != ys, lists of equal items -/
theorem g_neLV {m : Md} {N : List Str} {sc : Scope} {k n : Nat} {X : Cx} {H : Hp} {Q : VK} (h : At m N sc k X) {a b : Addr} {xs ys : List V} (ha : SqL m.K H a xs) (hb : SqL m.K H b ys) (hn : n ≤ 60) (hp : Paired (EqV m.K H n) xs ys) (q : Q (.bl false) H) : gOp X (compareOp .NotEq) (.ref a) (.ref b) H Q := fun pins s σ v u I rx ry => by
  cases rx
  cases ry
  have hu := h.room.un
  obtain ⟨us, r1, p1, _⟩ := I.list (by rw [h.kk]; exact ha)
  obtain ⟨ws, r2, p2, _⟩ := I.list (by rw [h.kk]; exact hb)
  have sz : us.toArray.size = ws.toArray.size := by
    rw [List.size_toArray, List.size_toArray, ← r1.length, ← r2.length]
    exact Paired.length hp
  refine Vq.ne_lists p1.isList p2.isList sz (by omega) (fun j h1 h2 => ?_) _ _ ⟨.bl false, H, I, rfl, q⟩
  have key := items_run (P := X.prog) (w := X.w) (A := X.A.in1) (s := s) (F := EqV X.K H n) (fun x y v u e rx ry => eqV_run I n X.A.in1 (by show X.A.units + 1 + n < cLine; omega) x y v u e rx ry) (by rw [h.kk]; exact hp) r1 r2 j (by simpa using h1) (by simpa using h2)
  simpa using key
section
variable {m : Md} {N : List Str} {sc scope : Scope} {i j k : Nat} {X : Cx} {a b c e e2 o elt : Expr} {es : List Expr} {σ : L2.St} {H : Hp} {Q : VK} {pos p p1 p2 p3 tpos : Pos} {x y : Str} {body : List Stmt} {nx : L2.St → Hp → Prop} {rt : VK} {bk ct : L2.St → Hp → Prop} {k1 k2 v1 v2 : Expr}
/-- {k: v} -/
theorem w_disp1 (q : ∀ p, H p = none → wE X k1 σ (upd H p (.dK [])) fun x H1 => wE X v1 σ H1 fun v H2 => H2 p = some (.dK []) ∧ ∃ z : Str, x = .str z ∧ Q (.ref p) (upd H2 p (.dK [(.inr z, v)]))) : wE X (.Dict [some k1] [v1] pos) σ H Q := by
  refine toE (pe_disp (pps_cons (cE (X := X) (e := k1)) (cE (X := X) (e := v1)) pps_nil) rfl rfl (by simp) (by simp)) ?_
  intro p hp
  refine wE.mono (q p hp) fun x H1 q1 => wE.mono q1 fun v H2 ⟨h2, z, ex, q2⟩ => ?_
  subst ex
  exact ⟨h2, [(.inr z, v)], rfl, by simp, q2⟩
/-- {k: v, l: w}, two different texts -/
theorem w_disp2 (q : ∀ p, H p = none → wE X k1 σ (upd H p (.dK [])) fun x H1 => wE X v1 σ H1 fun v H2 => wE X k2 σ H2 fun y H3 => wE X v2 σ H3 fun w H4 => H4 p = some (.dK []) ∧ ∃ z1 z2 : Str, x = .str z1 ∧ y = .str z2 ∧ z1 ≠ z2 ∧ Q (.ref p) (upd H4 p (.dK [(.inr z1, v), (.inr z2, w)]))) : wE X (.Dict [some k1, some k2] [v1, v2] pos) σ H Q := by
  refine toE (pe_disp (pps_cons (cE (X := X) (e := k1)) (cE (X := X) (e := v1)) (pps_cons (cE (X := X) (e := k2)) (cE (X := X) (e := v2)) pps_nil)) rfl rfl (by simp) (by simp)) ?_
  intro p hp
  refine wE.mono (q p hp) fun x H1 q1 => wE.mono q1 fun v H2 q2 => wE.mono q2 fun y H3 q3 => wE.mono q3 fun w H4 ⟨h4, z1, z2, ex, ey, ne, q4⟩ => ?_
  subst ex
  subst ey
  refine ⟨h4, [(.inr z1, v), (.inr z2, w)], rfl, by simp, ?_⟩
  have e : mergeK [] [((.inr z1 : Key), v), (.inr z2, w)] = [(.inr z1, v), (.inr z2, w)] := by
    have n2 : (Sum.inr z1 : Key) ≠ .inr z2 := fun h => ne (by injection h)
    simp [mergeK, putK, n2]
  rw [e]
  exact q4
/-- y = [elt for x in range(a, b)] -/
theorem s_lcR2 {l : Nat} {y0 : Str} {py spos : Pos} (h : At m N sc k X) (hm : m.mg "range" = none) (hgl : sc.names.lookup ("range" : Str) = some .globalImplicit) (nl : NL N sc l y0) (ok : blkC N sc scope [(x, i)] = true) (n : NL N (relS scope sc) i x)
    (q : wA X [a, b] σ H fun vs H1 => ∃ z w : Int, vs = [.int z, .int w] ∧ (-(2 ^ 62) ≤ z ∧ z < 2 ^ 62 ∧ -(2 ^ 62) ≤ w ∧ w < 2 ^ 62) ∧ ∀ D, H1 D = none → ∃ Pv : Nat → Hp → Prop, Pv 0 (upd H1 D (.lst [])) ∧
      (∀ j H, j < (w - z).toNat → Pv j H → ∀ X', At m N (relS scope sc) k X' → wE X' elt (σ.set i (some (.int (z + j)))) H (App D (Pv (j + 1)))) ∧ ∀ H, Pv (w - z).toNat H → nx (σ.set l (some (.ref D))) H)
    (hst : starEach [a, b] X.env = [(false, eval a X.env), (false, eval b X.env)] := by with_unfolding_all rfl) (hst2 : starEach [b] X.env = [(false, eval b X.env)] := by with_unfolding_all rfl) (hs : ∀ x, foldedSetIterable (.Call (.Name "range" p2) [a, b] [] p3) X.env x = pure x := by with_unfolding_all (intro _; rfl)) (hk : sc.kind = .function := by with_unfolding_all rfl) (hl0 : (py.line == pos.line) = true := by with_unfolding_all rfl) (ha0 : (scope.names.any fun (n, k) => n == y0 && (k == .local || k == .cell)) = false := by with_unfolding_all (decide +kernel)) : wS X (.Assign [.Name y0 py] (.ListComp elt [⟨.Name x p1, .Call (.Name "range" p2) [a, b] [] p3, [], 0⟩] scope pos) spos) ⟨nx, rt, bk, ct⟩ σ H := by
  refine toS (ps_setLc (i := l) (y := y0) (py := py) (own := [(x, i)]) (g := gName i) (tt := tYes) (te := inBlk m N (relS scope sc) k elt) h.calm (by rw [h.nn]; exact h.nd) (by rw [h.nn]; exact nl.ix) (by rw [h.ss]; exact nl.loc) (sw_true (by rw [h.ss]; exact hk) (by rw [h.ss]; exact nl.loc) hl0 ha0) (pi_range2 (h.gl hgl) (by rw [h.mm]; exact hm) (cA (es := [a, b])) hst hst2) (by rw [h.nn, h.ss]; exact blkOk_by ok) (fun s H C cl fp => pg_nl (blk_at h s H C cl fp) n) (fun _ _ _ _ _ => pts_nil) (fun s H C cl fp => blk_pe h s H C cl fp) hs) ?_
  unfold wA at q ⊢
  refine fun pos pins s I => wpAny_mono (q pos pins s I) (fun v s' z => ?_) fun _ _ z => z
  obtain ⟨vs, H1, I1, r1, z, w, ev, hb, go⟩ := z
  refine ⟨vs, H1, I1, r1, z, w, ev, hb, fun D hD => ?_⟩
  obtain ⟨Pv, p0, turn, fin⟩ := go D hD
  refine lc_range (lo := z) (n := (w - z).toNat) (g := gName i) (tt := tYes) (te := inBlk m N (relS scope sc) k elt) (vs := [i]) (σ := σ) Pv p0 (fun j H hj hp => ?_) fin
  refine ⟨by rw [wipe1]; simp [wipe, List.set_set], ?_⟩
  unfold tYes
  refine iteT fun X' hX' => ?_
  rw [set_wipe]
  exact turn j H hj hp X' hX'
end
end Vf
set_option maxRecDepth 100000
set_option maxHeartbeats 4000000
/-! Dci: comprehensions over the items of a dict. Own work. -/
namespace Vf
open PySem PySem.Spec PyProof.Rows L2 LamX
section
variable {m : Md} {N : List Str} {sc scope : Scope} {k i j : Nat} {X : Cx} {a b c e f o elt iter : Expr} {es : List Expr} {σ : L2.St} {H : Hp} {Q : VK} {pos p p1 p2 p3 p4 apos tpos : Pos} {x y : Str} {nx : L2.St → Hp → Prop} {rt : VK} {bk ct : L2.St → Hp → Prop}
/-- [elt for x, y in d.items()]: the pair is new each time -/
theorem w_lcDi {k1 : Nat} (h : At m N sc k X) (ok : blkC N sc scope [(x, i), (y, j)] = true) (n1 : NL N (relS scope sc) i x) (n2 : NL N (relS scope sc) j y)
    (q : ∃ (d : Addr) (kvs : List (Key × V)), H d = some (.dK kvs) ∧ ∀ od, wE X e σ (upd H d (.frz od (.dK kvs))) fun v H1 => v = .ref d ∧ H1 = upd H d (.frz od (.dK kvs)) ∧ ∀ D, H1 D = none → ∃ Pv : Nat → Hp → Prop, Pv 0 (upd H1 D (.lst [])) ∧ (∀ t H, t ≤ kvs.length → Pv t H → H d = some (.frz od (.dK kvs))) ∧
      (∀ t p T H, kvs[t]? = some p → Pv t H → H T = none → ∀ X', At m N (relS scope sc) k X' → wE X' elt ((σ.set i (some (kV p.1))).set j (some p.2)) (upd H T (.tup [kV p.1, p.2])) (App D (Pv (t + 1)))) ∧ ∀ H, Pv kvs.length H → Q (.ref D) (upd H d (.dK kvs)))
    (hbase : attributeBase e "items" X.env (eval e X.env) = eval e X.env := by with_unfolding_all rfl) (hline : (apos.endLine == p4.line) = true := by with_unfolding_all rfl)
    (hs : ∀ x, foldedSetIterable (.Call (.Attribute e "items" apos) [] [] p4) X.env x = pure x := by with_unfolding_all (intro _; rfl)) : wE X (.ListComp elt [⟨.Tuple [.Name x p1, .Name y p2] k1 p3, .Call (.Attribute e "items" apos) [] [] p4, [], 0⟩] scope pos) σ H Q := by
  refine toE (pe_lock (pe_lc (own := [(x, i), (y, j)]) (g := gTup X.K 2 (gCons (gName i) (gCons (gName j) gNil))) (tt := tYes) (te := inBlk m N (relS scope sc) k elt) h.calm (by rw [h.nn]; exact h.nd) (pi_items cE hbase hline) (by rw [h.nn, h.ss]; exact blkOk_by ok) (fun s H C cl fp => pg_tup (blk_at h s H C cl fp).calm (pgs_cons (pg_nl (blk_at h s H C cl fp) n1) (pgs_cons (pg_nl (blk_at h s H C cl fp) n2) pgs_nil (by with_unfolding_all rfl)) (by with_unfolding_all rfl)) (by with_unfolding_all rfl) (by with_unfolding_all rfl)) (fun _ _ _ _ _ => pts_nil) (fun s H C cl fp => blk_pe h s H C cl fp) hs)) ?_
  obtain ⟨d, kvs, hd, q⟩ := q
  refine ⟨d, .dK kvs, hd, trivial, fun od => ?_⟩
  refine wE.mono (q od) fun v H1 ⟨ev, eH, go⟩ => ?_
  refine ⟨d, od, kvs, ev, by rw [eH]; exact upd_same, fun D hD => ?_⟩
  obtain ⟨Pv, p0, st, turn, fin⟩ := go D hD
  refine lc_it walk_items (g := gTup X.K 2 (gCons (gName i) (gCons (gName j) gNil))) (tt := tYes) (te := inBlk m N (relS scope sc) k elt) (vs := [i, j]) (σ := σ) Pv p0 st (fun t z H H' ht hp y => ?_) fun H hp => ⟨st _ _ (Nat.le_refl _) hp, fin H hp⟩
  obtain ⟨T, u, w, rfl, hT, rfl, hu, hw⟩ := y
  obtain ⟨q1, h1, h2⟩ := Option.map_eq_some_iff.1 hu
  obtain ⟨q2, h3, h4⟩ := Option.map_eq_some_iff.1 hw
  rw [h1] at h3
  cases h3
  subst h2 h4
  refine ⟨T, [kV q1.1, q1.2], rfl, SqT.of upd_same, rfl, kV q1.1, [q1.2], rfl, q1.2, [], rfl, rfl, ?_⟩
  rw [set2_wipe]
  refine ⟨wipe2, ?_⟩
  unfold tYes
  exact iteT fun X' hX' => turn t q1 T H h1 hp hT X' hX'
end
/-- d != e, two dicts of the same keys and equal values -/
theorem g_neDK {m : Md} {N : List Str} {sc : Scope} {k n : Nat} {X : Cx} {H : Hp} {Q : VK} (h : At m N sc k X) {a b : Addr} {ks ls : List (Key × V)} (ha : H a = some (.dK ks)) (hb : H b = some (.dK ls)) (hn : n ≤ 60) (hl : ks.length = ls.length) (hp : ∀ p ∈ ks, ∃ u, valV ls p.1 = some u ∧ EqV m.K H n p.2 u) (q : Q (.bl false) H) : gOp X (compareOp .NotEq) (.ref a) (.ref b) H Q := fun pins s σ v u I rx ry => by
  cases rx
  cases ry
  have hu := h.room.un
  obtain ⟨_, ya, va, ra, da⟩ := (show ObjOk X.prog X.w H s.heap a (.dK ks) from I.hok a _ ha)
  obtain ⟨_, yb, vb, rb, db⟩ := (show ObjOk X.prog X.w H s.heap b (.dK ls) from I.hok b _ hb)
  have e : va.length = vb.length := by rw [← ra.length, ← rb.length]; exact hl
  have hits : PySem.W.KeqHitsP X.prog X.w X.A.in1 s vb va true := hits_run (F := EqV X.K H n) (fun x y v u e rx ry => eqV_run I n X.A.in1 (by show X.A.units + 1 + n < cLine; omega) x y v u e rx ry) rb ra (by rw [h.kk]; exact hp)
  refine wpAny_richCompare_same_room (op := .NotEq) da.typeIs db.typeIs PySem.F.slot_dict_ne (wpAny_call_entry PySem.F.slot_dict_ne da.typeIs PySem.F.entry_dict_ne ?_ (PySem.F.args_dict_ne_2 _ _)) (by omega)
  show wpAny _ _ (Builtin.Dict.dictSlotArgs "__ne__" ⟨[.ref a, .ref b], []⟩ >>= _) _ _ s
  refine wpAny_bind ?_
  unfold Builtin.Dict.dictSlotArgs
  refine wpAny_bind (wpAny_notOrdered_dict da.typeIs ?_)
  show wpAny _ _ (pure (Value.ref a, Value.ref b)) _ _ s
  refine wpAny_pure ?_
  refine wpAny_bind (wpAny_isInstance (T := "dict") db.typeIs PySem.F.sub_dict_dict ?_)
  simp only [Bool.not_true, Bool.false_eq_true, if_false]
  refine wpAny_bind (wpAny_pure (wpAny_bind (wpAny_pure ?_)))
  refine wpAny_bind (PySem.W.samePairsP (knd := mixKind X.prog X.w) (r := true) ya yb da db (fun _ => hits) ?_)
  rw [show (va.length == vb.length && true) = true from by rw [e]; simp]
  refine wpAny_pure ⟨_, rfl, ?_, ?_⟩
  · exact fun x => nomatch x
  · exact ⟨.bl false, H, I, rfl, q⟩
end Vf
set_option maxRecDepth 100000
set_option maxHeartbeats 4000000
/-! Frd: for over a dict's keys; comprehensions over tuples with a test. Own work. -/
namespace Vf
open PySem PySem.Spec PyProof.Rows L2 LamX
section
variable {m : Md} {N : List Str} {sc scope : Scope} {k i j : Nat} {X : Cx} {a b c e f o elt iter tg : Expr} {es : List Expr} {body : List Stmt} {σ : L2.St} {H : Hp} {Q : VK} {pos po p p1 p2 p3 p4 apos tpos : Pos} {x y : Str} {nx : L2.St → Hp → Prop} {rt : VK} {bk ct : L2.St → Hp → Prop} {g : TG}
/-- for x in d, d a dict that the body leaves as it is -/
theorem s_forDk (h : At m N sc k X) (hg : PG X tg g)
    (q : ∃ (d : Addr) (kvs : List (Key × V)), H d = some (.dK kvs) ∧ ∀ od, wE X e σ (upd H d (.frz od (.dK kvs))) fun v H1 => v = .ref d ∧ H1 = upd H d (.frz od (.dK kvs)) ∧ ∃ Pv : Nat → L2.St → Hp → Prop, Pv 0 σ H1 ∧ (∀ t σ H, t ≤ kvs.length → Pv t σ H → H d = some (.frz od (.dK kvs))) ∧
      (∀ t p σ H, kvs[t]? = some p → Pv t σ H → g (kV p.1) σ H fun σ2 H2 => wB X body ⟨Pv (t + 1), fun v H' => H' d = some (.frz od (.dK kvs)) ∧ rt v (upd H' d (.dK kvs)), fun σ' H' => H' d = some (.frz od (.dK kvs)) ∧ nx σ' (upd H' d (.dK kvs)), Pv (t + 1)⟩ σ2 H2) ∧ ∀ σ H, Pv kvs.length σ H → nx σ (upd H d (.dK kvs)))
    (hf : ∀ x, foldedSetIterable e X.env x = pure x := by with_unfolding_all (intro _; rfl)) : wS X (.For tg e body [] po) ⟨nx, rt, bk, ct⟩ σ H := by
  refine toS (ps_lock (ps_for h.pass h.calm (pi_keys cE) hg cB hf)) ?_
  obtain ⟨d, kvs, hd, q⟩ := q
  refine ⟨d, .dK kvs, hd, trivial, fun od => ?_⟩
  refine wE.mono (q od) fun v H1 ⟨ev, eH, Pv, p0, st, turn, fin⟩ => ?_
  refine ⟨d, od, ev, .inl ⟨kvs, by rw [eH]; exact upd_same, ?_⟩⟩
  refine for_it walk_keys Pv p0 st (fun t z σ H H' ht hp y => ?_) fun σ H hp => ⟨st _ _ _ (Nat.le_refl _) hp, fin σ H hp⟩
  obtain ⟨rfl, kk, v, hk, rfl⟩ := y
  exact turn t (kk, v) σ H' hk hp
/-- [elt for x in t if c], t a tuple -/
theorem w_lcTi (h : At m N sc k X) (ok : blkC N sc scope [(x, i)] = true) (n : NL N (relS scope sc) i x)
    (q : wE X iter σ H fun v H1 => ∃ (a : Addr) (xs : List V), v = .ref a ∧ SqT m.K H1 a xs ∧ ∀ D, H1 D = none → ∃ Pv : Nat → Hp → Prop, Pv 0 (upd H1 D (.lst [])) ∧ (∀ j H, j ≤ xs.length → Pv j H → SqT m.K H a xs) ∧
      (∀ j x H, xs[j]? = some x → Pv j H → ∀ X', At m N (relS scope sc) k X' → wT X' c (σ.set i (some x)) H fun b H3 => if b = true then (∀ X', At m N (relS scope sc) k X' → wE X' elt (σ.set i (some x)) H3 (App D (Pv (j + 1)))) else Pv (j + 1) H3) ∧
      ∀ H, Pv xs.length H → Q (.ref D) H)
    (hs : ∀ x, foldedSetIterable iter X.env x = pure x := by with_unfolding_all (intro _; rfl)) : wE X (.ListComp elt [⟨.Name x p1, iter, [c], 0⟩] scope pos) σ H Q := by
  refine toE (pe_lc (own := [(x, i)]) (g := gName i) (tt := inBlkT m N (relS scope sc) k c) (te := inBlk m N (relS scope sc) k elt) h.calm (by rw [h.nn]; exact h.nd) (pi_tup cE) (by rw [h.nn, h.ss]; exact blkOk_by ok) (fun s H C cl fp => pg_nl (blk_at h s H C cl fp) n) (fun s H C cl fp => pts_one (blk_pt h s H C cl fp)) (fun s H C cl fp => blk_pe h s H C cl fp) hs) ?_
  refine wE.mono q fun v H1 ⟨a, xs, ea, hl, go⟩ => ⟨a, ea, ⟨xs, by rw [h.kk]; exact hl⟩, fun D hD => ?_⟩
  obtain ⟨Pv, p0, st, turn, fin⟩ := go D hD
  refine lc_tup (K := X.K) (a := a) (xs := xs) (g := gName i) (tt := inBlkT m N (relS scope sc) k c) (te := inBlk m N (relS scope sc) k elt) (vs := [i]) (σ := σ) Pv p0 (fun j H hj hp => by rw [h.kk]; exact st j H hj hp) (fun j z H hz hp => ?_) fin
  refine ⟨by rw [wipe1]; simp [wipe, List.set_set], fun X' hX' => ?_⟩
  have t := turn j z H hz hp X' hX'
  rw [set_wipe]
  exact t
/-- [elt for x in t], t a tuple -/
theorem w_lcT (h : At m N sc k X) (ok : blkC N sc scope [(x, i)] = true) (n : NL N (relS scope sc) i x)
    (q : wE X iter σ H fun v H1 => ∃ (a : Addr) (xs : List V), v = .ref a ∧ SqT m.K H1 a xs ∧ ∀ D, H1 D = none → ∃ Pv : Nat → Hp → Prop, Pv 0 (upd H1 D (.lst [])) ∧ (∀ j H, j ≤ xs.length → Pv j H → SqT m.K H a xs) ∧
      (∀ j x H, xs[j]? = some x → Pv j H → ∀ X', At m N (relS scope sc) k X' → wE X' elt (σ.set i (some x)) H (App D (Pv (j + 1)))) ∧ ∀ H, Pv xs.length H → Q (.ref D) H)
    (hs : ∀ x, foldedSetIterable iter X.env x = pure x := by with_unfolding_all (intro _; rfl)) : wE X (.ListComp elt [⟨.Name x p1, iter, [], 0⟩] scope pos) σ H Q := by
  refine toE (pe_lc (own := [(x, i)]) (g := gName i) (tt := tYes) (te := inBlk m N (relS scope sc) k elt) h.calm (by rw [h.nn]; exact h.nd) (pi_tup cE) (by rw [h.nn, h.ss]; exact blkOk_by ok) (fun s H C cl fp => pg_nl (blk_at h s H C cl fp) n) (fun _ _ _ _ _ => pts_nil) (fun s H C cl fp => blk_pe h s H C cl fp) hs) ?_
  refine wE.mono q fun v H1 ⟨a, xs, ea, hl, go⟩ => ⟨a, ea, ⟨xs, by rw [h.kk]; exact hl⟩, fun D hD => ?_⟩
  obtain ⟨Pv, p0, st, turn, fin⟩ := go D hD
  refine lc_tup (K := X.K) (a := a) (xs := xs) (g := gName i) (tt := tYes) (te := inBlk m N (relS scope sc) k elt) (vs := [i]) (σ := σ) Pv p0 (fun j H hj hp => by rw [h.kk]; exact st j H hj hp) (fun j z H hz hp => ?_) fin
  refine ⟨by rw [wipe1]; simp [wipe, List.set_set], ?_⟩
  unfold tYes
  refine iteT fun X' hX' => ?_
  rw [set_wipe]
  exact turn j z H hz hp X' hX'
end
end Vf
set_option maxRecDepth 100000
set_option maxHeartbeats 4000000
/-! Dtp: dicts whose keys are tuples: dict(list of pairs), look-ups, len; sets of tuples of numbers, len. Own work. -/
namespace Vf
open PySem PySem.Spec PyProof.Rows L2 LamX
/-- the tuples that are keys and stand where H says -/
def kndH (P : Program) (w : World) (H : Hp) : HeapKind P w (List Key) where
  is := fun h k a => (tupleKind (mixKind P w)).is h k a ∧ H a = some (.tup (k.map kV))
  hash := (tupleKind (mixKind P w)).hash
  draws := (tupleKind (mixKind P w)).draws
  room := (tupleKind (mixKind P w)).room
  inj := fun x y => (tupleKind (mixKind P w)).inj x.1 y.1
  keeps := fun x e d sb => ⟨(tupleKind (mixKind P w)).keeps x.1 e d sb, x.2⟩
  pyHash := fun r x q => (tupleKind (mixKind P w)).pyHash r x.1 q
  eqBool := fun r x y q => (tupleKind (mixKind P w)).eqBool r x.1 y.1 q
  quiet := fun x q => (tupleKind (mixKind P w)).quiet x.1 q
section
variable {m : Md} {N : List Str} {sc : Scope} {k : Nat} {X : Cx} {H : Hp} {Q : VK}
/-- len of a set of tuples -/
theorem cr_lenT : CallR X (.builtin "len") (fun vs H Q => ∃ (a : Addr) (L : List (Addr × List Int)), vs = [V.ref a] ∧ H a = some (SetTO X.prog X.w a L) ∧ ((L.map (·.2)).Nodup → Q (.int L.length) H)) := by
  intro pins s σ H vs us Q I r h
  obtain ⟨a, L, rfl, ha, q⟩ := h
  obtain ⟨es, ep, t, ⟨o, ho, xo, dd⟩, el, tb, nd, _, _, mk, lt⟩ := ((I.hok a _ ha).1 : SetT0 X.prog X.w s.heap a L).ex
  rw [Vals.ref1 r]
  have sz : es.size = L.length := by
    rw [← Array.length_toList, el]
    simp [rowsOf]
  have fl : t.fits es.size = true := by
    have e1 := tb.sz
    have e2 := tb.dm
    rw [List.length_map] at e1
    simp [SetTable.fits, SetTable.fill, e1, e2, sz]
    omega
  refine call_len_set ho xo dd fl (by rw [sz]; omega) ⟨.int L.length, H, I.tok _, ⟨_, by rw [sz]⟩, q nd⟩
theorem g_setT (h : At m N sc k X) {l : Addr} {ks : List (Addr × List Int)} (hl : SqL m.K H l (ks.map fun p => V.ref p.1)) (hk : ∀ p ∈ ks, SqT m.K H p.1 (p.2.map V.int)) (h64 : ks.length < 64)
    (q : ∀ a L, H a = none → (∀ p ∈ L, p ∈ ks) → (∀ p ∈ ks, p.2 ∈ L.map (·.2)) → Q (.ref a) (upd H a (SetTO m.P m.w a L))) : gCall X (.type "set") [.ref l] H Q :=
  ⟨_, cr_setOfT h.calm (by have := h.room.un; omega), l, ks, rfl, by rw [h.kk]; exact hl, by rw [h.kk]; exact hk, h64, by rw [h.pp, h.ww]; exact q⟩
theorem g_lenST (h : At m N sc k X) {a : Addr} {L : List (Addr × List Int)} (ha : H a = some (SetTO m.P m.w a L)) (q : (L.map (·.2)).Nodup → Q (.int L.length) H) : gCall X (.builtin "len") [.ref a] H Q :=
  ⟨_, cr_lenT, a, L, rfl, by rw [h.pp, h.ww]; exact ha, q⟩
end
theorem kndH_stays {P : Program} {w : World} {H : Hp} : (kndH P w H).Stays := ⟨fun f x => ⟨tupleKind_stays.stays f x.1, x.2⟩, fun x => tupleKind_stays.tuple x.1⟩
section
variable {m : Md} {N : List Str} {sc : Scope} {k : Nat} {X : Cx} {H : Hp} {Q : VK} {pins : List (Addr × Obj)} {σ : L2.St} {s : Shared}
theorem pairs_have (I : Inv X pins σ H s) : ∀ {ps : List Addr} {ks : List (Addr × List Key × V)}, Paired (fun p kv => SqT X.K H p [.ref kv.1, kv.2.2] ∧ H kv.1 = some (.tup (kv.2.1.map kV))) ps ks →
    ∃ xs : List (List Key × Addr × Value), KT H (ks.map (·.2)) xs ∧ Paired (fun p x => s.heap.IsTuple p #[Value.ref x.2.1, x.2.2]) ps xs ∧ xs.map (·.1) = ks.map (·.2.1) := by
  intro ps ks h
  induction h with
  | nil => exact ⟨[], .nil, .nil, rfl⟩
  | @cons p kv ps ks h _ ih =>
    obtain ⟨xs, h1, h2, h3⟩ := ih
    obtain ⟨its, rv, it, _⟩ := I.tuple h.1
    cases rv with
    | cons r1 r2 =>
      cases r2 with
      | cons r3 r4 =>
        cases r4
        cases r1
        exact ⟨(kv.2.1, kv.1, _) :: xs, .cons ⟨rfl, h.2, r3⟩ h1, .cons it h2, by rw [List.map_cons, List.map_cons, h3]⟩
theorem paired_at {α β : Type} {F : α → β → Prop} {as : List α} {bs : List β} (p : Paired F as bs) : ∀ (j : Nat) (b : β), bs[j]? = some b → ∃ a, as[j]? = some a ∧ F a b := by
  induction p with
  | nil => intro j b h; simp at h
  | cons h _ ih =>
    intro j b e
    cases j with
    | zero => exact ⟨_, rfl, by rw [List.getElem?_cons_zero] at e; cases e; exact h⟩
    | succ j => exact ih j b e
theorem paired_len {α β : Type} {F : α → β → Prop} {as : List α} {bs : List β} (p : Paired F as bs) : as.length = bs.length := by
  induction p with
  | nil => rfl
  | cons _ _ ih => simp [ih]
theorem merged_new {K : Type} [DecidableEq K] : ∀ (kvs acc : List (K × Value)), ((acc ++ kvs).map (·.1)).Nodup → merged acc kvs = acc ++ kvs
  | [], acc, _ => by simp [merged]
  | x :: l, acc, h => by
    have e : stored acc x.1 x.2 = acc ++ [x] := by
      unfold stored
      rw [if_neg]
      intro c
      rw [List.any_eq_true] at c
      obtain ⟨y, hy, e⟩ := c
      rw [List.map_append, List.map_cons] at h
      have h2 := (List.nodup_append.mp h).2.2 y.1 (List.mem_map_of_mem hy) x.1 List.mem_cons_self
      exact h2 (of_decide_eq_true e)
    show merged (stored acc x.1 x.2) l = _
    rw [e, merged_new l (acc ++ [x]) (by rw [List.append_assoc]; exact h), List.append_assoc]
    rfl
/-- dict(a list of pairs whose firsts are tuples, all different) -/
theorem cr_dictPT (hc : X.calm = true) (hu : X.A.units + 2 < cLine) : CallR X (.type "dict") (fun vs H Q => ∃ (l : Addr) (ps : List Addr) (ks : List (Addr × List Key × V)), vs = [V.ref l] ∧ SqL X.K H l (ps.map V.ref) ∧ Paired (fun p kv => SqT X.K H p [.ref kv.1, kv.2.2] ∧ H kv.1 = some (.tup (kv.2.1.map kV))) ps ks ∧ (ks.map (·.2.1)).Nodup ∧
    ∀ p, H p = none → Q (.ref p) (upd H p (.dT (ks.map (·.2))))) := by
  intro pins s σ H vs us Q I r h
  obtain ⟨l, ps, ks, rfl, hl, pk, nd, q⟩ := h
  obtain ⟨its, rv, pl, hz⟩ := I.list hl
  rw [Vals.ref1 r]
  obtain ⟨xs, kt, px, ek⟩ := pairs_have I pk
  have l1 := paired_len px
  have l2 := paired_len rv
  rw [List.length_map] at l2 hz
  have at1 : ∀ j x, xs[j]? = some x → its[j]? = some (Value.ref (ps.getD j 0)) ∧ s.heap.IsTuple (ps.getD j 0) #[Value.ref x.2.1, x.2.2] := by
    intro j x hx
    obtain ⟨p, hp, hi⟩ := paired_at px j x hx
    have e : ps.getD j 0 = p := by rw [List.getD_eq_getElem?_getD, hp]; rfl
    rw [e]
    refine ⟨?_, hi⟩
    have lj : j < its.length := by rw [← l2]; exact (List.getElem?_eq_some_iff.1 hp).1
    obtain ⟨a, ha, ra⟩ := paired_at rv j its[j] (List.getElem?_eq_getElem lj)
    rw [List.getElem?_map, hp] at ha
    cases ha
    have ra' : its[j] = Value.ref p := ra
    rw [List.getElem?_eq_getElem lj, ra']
  refine dict_keyed (knd := kndH X.prog X.w H) (kvs := pairsH xs) kndH_stays (PairArg.list l its.toArray (fun j => ps.getD j 0) (xs.map fun x => (Value.ref x.2.1, x.2.2))) (I.ok.hd hc) (by show X.A.units + 1 + 1 < cLine; omega) ⟨pl, ?_, ?_⟩ ⟨xs, rfl, ⟨by simp, ?_⟩, ?_⟩ (fun h' st k b e => ⟨tupleKind_stays.stays (fun b o vs n e _ => st b o (by simp) e) e.1, e.2⟩) (by simp; omega) (fun h' tk D kp => ?_)
  · simp; omega
  · intro j k v hj
    rw [List.getElem?_map] at hj
    obtain ⟨x, hx, e⟩ := Option.map_eq_some_iff.1 hj
    cases e
    obtain ⟨a1, a2⟩ := at1 j x hx
    exact ⟨by simpa using a1, .inl a2⟩
  · intro i key v hr
    have hr' : (xs.map fun x => (Value.ref x.2.1, x.2.2))[i]? = some (key, v) := hr
    rw [List.getElem?_map] at hr'
    obtain ⟨x, hx, e⟩ := Option.map_eq_some_iff.1 hr'
    cases e
    exact ⟨x.1, x.2.1, hx, rfl⟩
  · intro x hx
    obtain ⟨j, hj⟩ := List.getElem?_of_mem hx
    obtain ⟨p, _, e1, e2, _⟩ := paired_at kt j x hj
    rw [e1] at e2
    exact ⟨key_of I.hok e2, e2⟩
  · have hn : H s.heap.objs.size = none := I.hok.fresh (Nat.le_refl _)
    have em : merged [] (pairsH xs) = pairsH xs := by
      rw [merged_new (pairsH xs) [] (by
        rw [List.nil_append]
        show ((xs.map _).map _).Nodup
        rw [List.map_map]
        exact ek ▸ nd)]
      rfl
    rw [em] at D
    obtain ⟨ys, ⟨o, es, ep, ho, xo, dd, el, kis, nd2⟩, ey⟩ := D
    refine ⟨.ref _, upd H s.heap.objs.size (.dT (ks.map (·.2))), I.laid (t' := tk) (fun b u e => kp b u (by simp) e) (Nat.le_refl _) ⟨?_, ?_, ys, ?_, o, es, ep, ho, xo, dd, el, nd2⟩, rfl, q _ hn⟩
    · rw [List.length_map, ← paired_len pk]; exact hz
    · have := I.big
      exact beq_eq_false_iff_ne.mpr (Nat.ne_of_gt this)
    · have hh : ∀ {kvs : List (List Key × V)} {xs ys : List (List Key × Addr × Value)}, KT H kvs xs → pairsH ys = pairsH xs → (∀ y ∈ ys, H y.2.1 = some (.tup (y.1.map kV))) → KT (upd H s.heap.objs.size (.dT (ks.map (·.2)))) kvs ys := by
        intro kvs xs ys k1
        induction k1 generalizing ys with
        | nil => intro e _; cases ys with
          | nil => exact .nil
          | cons _ _ => cases e
        | cons h _ ih =>
          intro e hy
          cases ys with
          | nil => cases e
          | cons y ys =>
            have e1 := List.cons.inj e
            have e2 := Prod.mk.inj e1.1
            refine .cons ⟨h.1.trans e2.1.symm, ?_, ?_⟩ (ih e1.2 fun z hz => hy z (List.mem_cons_of_mem _ hz))
            · have z := hy y List.mem_cons_self
              rw [upd_ne (fun c => by rw [c, hn] at z; cases z), z, h.1, e2.1]
            · rw [e2.2]; exact h.2.2
      exact hh kt ey fun y hy => (kis y hy).2
theorem g_dictPT (h : At m N sc k X) {l : Addr} {ps : List Addr} {ks : List (Addr × List Key × V)} (hl : SqL m.K H l (ps.map V.ref)) (hp : Paired (fun p kv => SqT m.K H p [.ref kv.1, kv.2.2] ∧ H kv.1 = some (.tup (kv.2.1.map kV))) ps ks) (nd : (ks.map (·.2.1)).Nodup) (q : ∀ p, H p = none → Q (.ref p) (upd H p (.dT (ks.map (·.2))))) : gCall X (.type "dict") [.ref l] H Q :=
  ⟨_, cr_dictPT h.calm (by have := h.room.un; omega), l, ps, ks, rfl, by rw [h.kk]; exact hl, by rw [h.kk]; exact hp, nd, q⟩
theorem g_lenDT (h : At m N sc k X) {d : Addr} {kvs : List (List Key × V)} (hd : H d = some (.dT kvs)) (q : Q (.int kvs.length) H) : gCall X (.builtin "len") [.ref d] H Q := ⟨_, L2.call_len_dT, d, kvs, rfl, hd, q⟩
/-- t in d -/
theorem g_inDT (h : At m N sc k X) {d b : Addr} {kvs : List (List Key × V)} {z : List Key} (hd : H d = some (.dT kvs)) (hb : H b = some (.tup (z.map kV))) (q : Q (.bl (valV kvs z).isSome) H) : gOp X (compareOp .In) (.ref b) (.ref d) H Q := by
  intro pins s σ v u I rx ry
  obtain rfl : u = Value.ref d := ry
  have hu := h.hu
  exact d_in hu I (DGet.t hd hb) rx fun s3 I3 => ⟨.bl _, _, I3, rfl, q⟩
end
section
variable {m : Md} {N : List Str} {sc : Scope} {k : Nat} {X : Cx} {e o : Expr} {σ : L2.St} {H : Hp} {Q : VK} {pos apos : Pos}
/-- d.get(e) -/
theorem w_dget1 (h : At m N sc k X) (q : wE X o σ H fun x H1 => ∃ a, x = .ref a ∧ IsD H1 a ∧ wE X e σ H1 fun y H2 => ∃ r, DGet H2 a y r ∧ Q (r.getD .non) H2)
    (hb : attributeBase o "get" X.env (eval o X.env) = eval o X.env := by with_unfolding_all rfl)
    (hf : ((backTo pos (starEach [e] X.env)).all (fun x => !x.1) && (backToKw pos (keywordEach [] X.env)).all (fun x => x.1.isSome) && decide (([e] : List Expr).length + ([] : List Keyword).length + (if ([] : List Keyword).isEmpty then 0 else 1) < 30)) = true := by with_unfolding_all rfl)
    (hl : (apos.endLine == pos.line) = true := by with_unfolding_all rfl) (ht : backTo pos (starEach [e] X.env) = [(false, eval e X.env)] := by with_unfolding_all rfl) : wE X (.Call (.Attribute o "get" apos) [e] [] pos) σ H Q := by
  refine toE (pe_dget1 h.hu cE cE ⟨hb, hf, hl, ht⟩) ?_
  exact wE.mono q fun x H1 ⟨a, ex, d, q1⟩ => ⟨a, ex, d, wE.mono q1 fun y H2 q2 => q2⟩
end
end Vf
set_option maxRecDepth 100000
set_option maxHeartbeats 4000000
/-! Dtc: {k: v for ..} whose keys are tuples. Own work. -/
namespace Vf
open PySem PySem.Spec PyProof.Rows L2 LamX
section
variable {X : Cx} {pins : List (Addr × Obj)} {σ : L2.St} {H : Hp} {s : Shared} {E : Value → Shared → Prop}
/-- what a store asks: the dict, its entries, the key's tuple -/
def PutT (H : Hp) (D : Addr) (y z : V) (R : Hp → Prop) : Prop := ∃ (kvs : List (List Key × V)) (k : List Key) (b : Addr), y = .ref b ∧ H b = some (.tup (k.map kV)) ∧ H D = some (.dT kvs) ∧ kvs.length < sizeLine ∧ R (upd H D (.dT (putK kvs k z)))
theorem d_dictSetT {D b : Addr} {kvs : List (List Key × V)} {k : List Key} {v : V} {u r : Value} {Q : Unit → Shared → Prop} (hu : X.A.units < cLine) (I : Inv X pins σ H s) (hD : H D = some (.dT kvs)) (hb : H b = some (.tup (k.map kV))) (hz : kvs.length < sizeLine) (ru : RelV (.ref b) u) (rv : RelV v r)
    (q : ∀ s', Inv X pins σ (upd H D (.dT (putK kvs k v))) s' → Q () s') : wpAny (model X.prog X.w) X.A (dictSet D u r) Q E s := by
  cases ru
  obtain ⟨z, hd, xs, rel, dd⟩ := dt_of I.hok hD
  have lx := paired_len rel
  refine wpAny_dictSet_heap (knd := tupleKind (mixKind X.prog X.w)) hu (key_of I.hok hb) dd (fun h' dd' hs => ?_) (by omega)
  refine q _ ?_
  obtain ⟨o, es, ep, h1, h2, h3, h4, h5, h6⟩ := dd'
  have ll := length_putK kvs k v
  have ne : ∀ (c : Addr) (ys : List V), H c = some (.tup ys) → upd H D (.dT (putK kvs k v)) c = some (.tup ys) := fun c ys e => by
    rw [upd_ne (fun z => by rw [z, hD] at e; cases e)]; exact e
  exact d_write I (by rw [hD]; trivial) hs ⟨o, h1⟩ ⟨by omega, hd, _, KT.keeps (KT.put rel k hb rv) ne, o, es, ep, h1, h2, h3, h4, h6⟩
end
def tDcT (wi : TI) (g : TG) (tt : TT) (tk tv : TE) (vs : List Nat) : TE := fun σ H Q => wi σ H fun J H1 => ∀ D, H1 D = none → ∃ W : Nat → Nat → Hp → Prop, (∃ m, W 0 m (upd H1 D (.dT []))) ∧
  ∀ (i m : Nat) (H : Hp), W i m H → (J.stop i H ∧ Q (.ref D) H) ∨ (J.go i H ∧ ∃ Nx : Hp → Prop, (∀ H', Nx H' → ∃ m', m' < m ∧ W (i + 1) m' H') ∧
    ∀ (x : V) (H' : Hp), J.yld i H x H' → g x (wipe σ vs) H' fun σ2 H2 => wipe σ2 vs = wipe σ vs ∧ tt σ2 H2 fun b H3 => if b = true then tk σ2 H3 fun y H4 => tv σ2 H4 fun z H5 => PutT H5 D y z Nx else Nx H3)
theorem dcT_loop {X : Cx} {pins : List (Addr × Obj)} {σ : L2.St} {H2 : Hp} {D it : Addr} {s3 : Shared} {fp : List Addr} {J : It} {tn : Nat → Heap → Prop} {W : Nat → Nat → Hp → Prop} {m0 : Nat} {Q : VK} {kx vx tg iter : Expr} {ifs : List Expr} {scope : Scope} {own : List (Str × Nat)} {pos : Pos} {g : TG} {tt : TT} {tk tv : TE} (hu : X.A.units < cLine) (hc : X.calm = true) (hN : X.N.Nodup) (ok : BlkOk X.N X.env.scope scope own)
    (hg : ∀ s H C cl fp, PG (X.blk s H scope (compEnvC scope cl C X.env) fp) tg g) (ht : ∀ s H C cl fp, PTs (X.blk s H scope (compEnvC scope cl C X.env) fp) ifs tt)
    (hk : ∀ s H C cl fp, PE (X.blk s H scope (compEnvC scope cl C X.env) fp) kx tk) (he : ∀ s H C cl fp, PE (X.blk s H scope (compEnvC scope cl C X.env) fp) vx tv)
    (I3 : Inv X pins σ (upd H2 D (.dT [])) s3) (f3 : ∀ b ∈ fp, FpOk X pins (upd H2 D (.dT [])) b ∧ b < s3.heap.objs.size) (T : Turn X.prog X.w X.K tg J fp it tn) (st3 : tn 0 s3.heap) (w0 : W 0 m0 (upd H2 D (.dT [])))
    (turn : ∀ (i m : Nat) (H : Hp), W i m H → (J.stop i H ∧ Q (.ref D) H) ∨ (J.go i H ∧ ∃ Nx : Hp → Prop, (∀ H', Nx H' → ∃ m', m' < m ∧ W (i + 1) m' H') ∧
      ∀ (x : V) (H' : Hp), J.yld i H x H' → g x (wipe σ (own.map (·.2))) H' fun σ2 H2 => wipe σ2 (own.map (·.2)) = wipe σ (own.map (·.2)) ∧ tt σ2 H2 fun b H3 => if b = true then tk σ2 H3 fun y H4 => tv σ2 H4 fun z H5 => PutT H5 D y z Nx else Nx H3)) :
    codeAny (model X.prog X.w) X.A (Code.compStart (.DictComp kx vx [⟨tg, iter, ifs, 0⟩] scope pos) 0 (.ref it) (.ref D) (compEnvC scope (cellsFrom (s3.heap.objs.size + 1) scope.names (cloFrom X.env.cells scope.names [])) s3.heap.objs.size X.env))
      (compPost (model X.prog X.w) X.A X.xe none (EP X pins σ Q) (.ref D) s3.heap.objs.size) { heap := pushCells (s3.heap.push { cls := .type "dict", data := .dict #[] }) scope.names, gens := s3.gens, drawn := s3.drawn, toks := s3.toks, os := s3.os } := by
  have I4 := block_start I3 ok hN f3
  have pg := hg s3 (upd H2 D (.dT [])) s3.heap.objs.size (cellsFrom (s3.heap.objs.size + 1) scope.names (cloFrom X.env.cells scope.names [])) fp
  have pt := ht s3 (upd H2 D (.dT [])) s3.heap.objs.size (cellsFrom (s3.heap.objs.size + 1) scope.names (cloFrom X.env.cells scope.names [])) fp
  have pk := hk s3 (upd H2 D (.dT [])) s3.heap.objs.size (cellsFrom (s3.heap.objs.size + 1) scope.names (cloFrom X.env.cells scope.names [])) fp
  have pv := he s3 (upd H2 D (.dT [])) s3.heap.objs.size (cellsFrom (s3.heap.objs.size + 1) scope.names (cloFrom X.env.cells scope.names [])) fp
  have st4 := T.keep 0 _ (pushCells (s3.heap.push { cls := .type "dict", data := .dict #[] }) scope.names) st3 fun b _ o e => pushCells_keeps _ _ b o (Heap.get?_push_of_some _ e)
  have nf : ∀ b ∈ fp, (upd H2 D (.dT [])) b = none := fun b hb => (f3 b hb).1.1
  have cL : (compEnvC scope (cellsFrom (s3.heap.objs.size + 1) scope.names (cloFrom X.env.cells scope.names [])) s3.heap.objs.size X.env).locals = s3.heap.objs.size := rfl
  generalize compEnvC scope (cellsFrom (s3.heap.objs.size + 1) scope.names (cloFrom X.env.cells scope.names [])) s3.heap.objs.size X.env = cenv at I4 pg pt pk pv cL ⊢
  have stat : ∀ {σ' : L2.St} {H' : Hp} {s' : Shared}, Inv (X.blk s3 (upd H2 D (.dT [])) scope cenv fp) [] σ' H' s' → (∀ b ∈ fp, H' b = none) → ∀ b ∈ fp, FpOk (X.blk s3 (upd H2 D (.dT [])) scope cenv fp) [] H' b := fun I' hn b hb => by
    have z := I'.ok.exf b hb
    exact ⟨hn b hb, z.1, I'.ok.exfs b hb, .inl hb, z.2, fun p hp => by cases hp⟩
  have loop : codeAny (model X.prog X.w) X.A (Code.compLoop (.DictComp kx vx [⟨tg, iter, ifs, 0⟩] scope pos) 0 (.ref it) (.ref D) cenv)
      (compPost (model X.prog X.w) X.A X.xe none (EP X pins σ Q) (.ref D) s3.heap.objs.size) { heap := pushCells (s3.heap.push { cls := .type "dict", data := .dict #[] }) scope.names, gens := s3.gens, drawn := s3.drawn, toks := s3.toks, os := s3.os } := by
    refine compLoop_anyD (fun n s' => ∃ i H', Inv (X.blk s3 (upd H2 D (.dT [])) scope cenv fp) [] (wipe σ (own.map (·.2))) H' s' ∧ tn i s'.heap ∧ (∀ b ∈ fp, H' b = none) ∧ W i n H') ?_ m0 ⟨0, _, I4, st4, nf, w0⟩
    rintro n s5 ⟨i, H5, I5, st5, n5, w5⟩
    rcases turn i n H5 w5 with ⟨stop, qq⟩ | ⟨go, Nx, hNx, step⟩
    · refine thnF (T.done (X.blk s3 (upd H2 D (.dT [])) scope cenv fp) rfl rfl rfl hc i [] s5 _ H5 (fun _ _ => False) I5 (stat I5 n5) st5 stop) fun r s6 ⟨hr, I6⟩ => ?_
      subst hr
      have I7 : Inv X pins σ H5 s6 := I3.call' (ch := fp) I6.os I6.base I6.hok I6.bare fun b hb => ⟨(f3 b hb).1.2.2.2.1, (f3 b hb).1.2.1, (f3 b hb).1.2.2.2.2.1, (f3 b hb).1.2.2.2.2.2⟩
      have nC : H5 s3.heap.objs.size = none := cL ▸ I6.free
      obtain ⟨mm, hn, _⟩ := I6.loc
      have hn : s6.heap.Ns s3.heap.objs.size mm := cL ▸ hn
      refine ⟨mm, hn, fun h' sb => ?_⟩
      obtain ⟨c0, c1, c2, c3, c4, c5⟩ := I3.fpOk (Nat.le_refl _) nC
      exact ⟨.ref D, H5, I7.turned (fun b o hb e => (sb.2 b hb).trans e) c0 c1 c3 c4 c5, rfl, qq⟩
    · refine thnF (T.item (X.blk s3 (upd H2 D (.dT [])) scope cenv fp) rfl rfl rfl hc i [] s5 _ H5 (fun _ _ => False) I5 (stat I5 n5) st5 go) fun r s6 ⟨u, hr, h6⟩ => ?_
      subst hr
      refine thnF h6 fun _ s7 ⟨x, H7, I7, rx, yl, st7, n7⟩ => ?_
      have I7p := I7.pinned (stat I7 n7) fun b hb => T.obj _ _ st7 b hb
      refine thnF (pg.run _ s7 _ _ x u _ I7p rx (step x H7 yl)) fun _ s8 ⟨σ2, H8, I8, e8, q8⟩ => ?_
      have fin : ∀ {H' : Hp} {s' : Shared}, Inv (X.blk s3 (upd H2 D (.dT [])) scope cenv fp) ([] ++ pinsAt fp s7.heap) σ2 H' s' → Nx H' → ∃ m, m < n ∧ ∃ i H', Inv (X.blk s3 (upd H2 D (.dT [])) scope cenv fp) [] (wipe σ (own.map (·.2))) H' s' ∧ tn i s'.heap ∧ (∀ b ∈ fp, H' b = none) ∧ W i m H' := fun {H'} {s'} I' nx => by
        obtain ⟨m', lt, w'⟩ := hNx H' nx
        have pin : ∀ b ∈ fp, ∀ o, s7.heap.get? b = some o → s'.heap.get? b = some o ∧ H' b = none := fun b hb o e => by
          have z := I'.pin (b, o) (List.mem_append_right _ (mem_pinsAt hb e))
          exact ⟨z.1, z.2.1⟩
        refine ⟨m', lt, i + 1, H', Inv.weak (I'.unpinned) ?_ ?_, T.keep _ _ _ st7 fun b hb o e => (pin b hb o e).1, fun b hb => ?_, w'⟩
        · rw [← e8, wipe_length]
        · intro j v e
          rw [← e8] at e
          exact (wipe_some e).1
        · obtain ⟨o, e, _⟩ := T.obj _ _ st7 b hb
          exact (pin b hb o e).2
      refine thnF (pt.run _ s8 σ2 H8 _ I8 q8) fun bb s9 ⟨H9, I9, q9⟩ => ?_
      cases bb with
      | false => exact fin I9 q9
      | true =>
        refine thnF (pk.run _ s9 σ2 H9 _ I9 q9) fun kv s10 ⟨y, H10, I10, r10, q10⟩ => ?_
        refine thnF (pv.run _ s10 σ2 H10 _ I10 q10) fun vv s11 ⟨z, H11, I11, r11, q11⟩ => ?_
        obtain ⟨kvs, k, b, rfl, hb, hD, hz, nx⟩ := q11
        exact d_dictSetT (X := X.blk s3 (upd H2 D (.dT [])) scope cenv fp) hu I11 hD hb hz r10 r11 fun s12 I12 => fin I12 nx
  exact codeAny_compStart_dict loop (T.self X.A 0 _ _ _ st4 loop)
theorem pe_dcT {X : Cx} {kx vx tg iter : Expr} {ifs : List Expr} {scope : Scope} {own : List (Str × Nat)} {pos : Pos} {wi : TI} {g : TG} {tt : TT} {tk tv : TE} (hu : X.A.units < cLine) (hc : X.calm = true) (hN : X.N.Nodup) (hi : PI X tg iter wi) (ok : BlkOk X.N X.env.scope scope own)
    (hg : ∀ s H C cl fp, PG (X.blk s H scope (compEnvC scope cl C X.env) fp) tg g) (ht : ∀ s H C cl fp, PTs (X.blk s H scope (compEnvC scope cl C X.env) fp) ifs tt)
    (hk : ∀ s H C cl fp, PE (X.blk s H scope (compEnvC scope cl C X.env) fp) kx tk) (he : ∀ s H C cl fp, PE (X.blk s H scope (compEnvC scope cl C X.env) fp) vx tv)
    (hs : ∀ x, foldedSetIterable iter X.env x = pure x) : PE X (.DictComp kx vx [⟨tg, iter, ifs, 0⟩] scope pos) (tDcT wi g tt tk tv (own.map (·.2))) := by
  refine ⟨fun pins s σ H Q I h => ?_⟩
  rw [arm_eval_DictComp]
  refine wpAny_comprehension_free rfl hs (closure_ok fun y hy e => Or.elim (ok.free y hy e) (fun k => I.ok.has y.1 (.inl k)) fun k => I.ok.has y.1 (.inr k)) ok.kind (fun y hy e => by rw [ok.uniq y hy, e]) ?_
  refine thn (hi.run pins s σ H _ I h) fun xv s1 hx => thn hx fun itv s2 h2 => ?_
  obtain ⟨it, fp, tn, J, H2, rfl, I2, T, st2, f2, q⟩ := h2
  refine wpAny_newObj_type (newEnv_comp ?_)
  have hDn := I2.hok.fresh (Nat.le_refl s2.heap.objs.size)
  obtain ⟨W, ⟨m0, w0⟩, turn⟩ := q _ hDn
  have big := I2.big
  have I3 : Inv X pins σ (upd H2 s2.heap.objs.size (.dT [])) { s2 with heap := s2.heap.push { cls := .type "dict", data := .dict #[] } } :=
    I2.laid (t' := s2.toks) (fun b o e => Heap.get?_push_of_some _ e) (Nat.le_refl _) ⟨Nat.zero_le _, beq_eq_false_iff_ne.mpr (Nat.ne_of_gt big), [], .nil, { cls := .type "dict", data := .dict #[] }, #[], _, Heap.get?_push_size _ rfl, ⟨rfl, rfl, rfl⟩, rfl, rfl, List.nodup_nil⟩
  exact dcT_loop hu hc hN ok hg ht hk he I3 (fun b hb => by
    obtain ⟨o, e, _⟩ := T.obj 0 _ st2 b hb
    have lt := Heap.lt_size e
    exact ⟨⟨by rw [upd_ne (Nat.ne_of_lt lt)]; exact (f2 b hb).1, (f2 b hb).2⟩, by show b < (s2.heap.push _).objs.size; rw [Heap.size_push]; exact Nat.lt_succ_of_lt lt⟩) T (T.keep 0 _ _ st2 fun b _ o e => Heap.get?_push_of_some _ e) w0 turn
theorem dc_itT {J : It} {n : Nat} {G : Hp → Prop} {Y : Nat → Hp → V → Hp → Prop} (w : Walk J n G Y) {g : TG} {tt : TT} {tk tv : TE} {vs : List Nat} {σ : L2.St} {H1 : Hp} {D : Addr} {Qd : Hp → Prop} (Pv : Nat → Hp → Prop) (h0 : Pv 0 (upd H1 D (.dT []))) (hG : ∀ (i : Nat) H, i ≤ n → Pv i H → G H)
    (hs : ∀ (i : Nat) x H H', i < n → Pv i H → Y i H x H' → g x (wipe σ vs) H' fun σ2 H2 => wipe σ2 vs = wipe σ vs ∧ tt σ2 H2 fun b H3 => if b = true then tk σ2 H3 fun y H4 => tv σ2 H4 fun z H5 => PutT H5 D y z (Pv (i + 1)) else Pv (i + 1) H3) (hd : ∀ H, Pv n H → Qd H) :
    ∃ W : Nat → Nat → Hp → Prop, (∃ m, W 0 m (upd H1 D (.dT []))) ∧ ∀ (i m : Nat) (H : Hp), W i m H → (J.stop i H ∧ Qd H) ∨ (J.go i H ∧ ∃ Nx : Hp → Prop, (∀ H', Nx H' → ∃ m', m' < m ∧ W (i + 1) m' H') ∧
      ∀ (x : V) (H' : Hp), J.yld i H x H' → g x (wipe σ vs) H' fun σ2 H2 => wipe σ2 vs = wipe σ vs ∧ tt σ2 H2 fun b H3 => if b = true then tk σ2 H3 fun y H4 => tv σ2 H4 fun z H5 => PutT H5 D y z Nx else Nx H3) := by
  refine ⟨fun i m H => m = n - i ∧ i ≤ n ∧ Pv i H, ⟨n, rfl, Nat.zero_le _, h0⟩, ?_⟩
  rintro i m H ⟨rfl, hi, p⟩
  have gg := hG i H hi p
  by_cases lt : i < n
  · exact .inr ⟨w.goes i H lt gg, Pv (i + 1), fun H' p' => ⟨n - (i + 1), by omega, rfl, lt, p'⟩, fun x H' y => hs i x H H' lt p (w.yields i H x H' lt gg y)⟩
  · have e : i = n := by omega
    subst e
    exact .inl ⟨w.stops H gg, hd H p⟩
section
variable {m : Md} {N : List Str} {sc scope : Scope} {k i : Nat} {X : Cx} {iter kx vx : Expr} {σ : L2.St} {H : Hp} {Q : VK} {pos p1 : Pos} {x : Str}
/-- {kx: vx for x in iter}, iter a list, the keys tuples -/
theorem w_dcT (h : At m N sc k X) (ok : blkC N sc scope [(x, i)] = true) (n : NL N (relS scope sc) i x)
    (q : wE X iter σ H fun v H1 => ∃ (a : Addr) (xs : List V), v = .ref a ∧ SqL m.K H1 a xs ∧ ∀ D, H1 D = none → ∃ Pv : Nat → Hp → Prop, Pv 0 (upd H1 D (.dT [])) ∧ (∀ j H, j ≤ xs.length → Pv j H → SqL m.K H a xs) ∧
      (∀ j x H, xs[j]? = some x → Pv j H → ∀ X', At m N (relS scope sc) k X' → wE X' kx (σ.set i (some x)) H fun y H4 => ∀ X', At m N (relS scope sc) k X' → wE X' vx (σ.set i (some x)) H4 fun z H5 => PutT H5 D y z (Pv (j + 1))) ∧ ∀ H, Pv xs.length H → Q (.ref D) H)
    (hs : ∀ x, foldedSetIterable iter X.env x = pure x := by with_unfolding_all (intro _; rfl)) : wE X (.DictComp kx vx [⟨.Name x p1, iter, [], 0⟩] scope pos) σ H Q := by
  refine toE (pe_dcT (own := [(x, i)]) (g := gName i) (tt := tYes) (tk := inBlk m N (relS scope sc) k kx) (tv := inBlk m N (relS scope sc) k vx) (by have := h.room.un; omega) h.calm (by rw [h.nn]; exact h.nd) (pi_list cE) (by rw [h.nn, h.ss]; exact blkOk_by ok) (fun s H C cl fp => pg_nl (blk_at h s H C cl fp) n) (fun _ _ _ _ _ => pts_nil) (fun s H C cl fp => blk_pe h s H C cl fp) (fun s H C cl fp => blk_pe h s H C cl fp) hs) ?_
  refine wE.mono q fun v H1 ⟨a, xs, ea, hl, go⟩ => ⟨a, ea, ⟨xs, by rw [h.kk]; exact hl⟩, fun D hD => ?_⟩
  obtain ⟨Pv, p0, st, turn, fin⟩ := go D hD
  refine dc_itT (walk_list (K := X.K) (a := a) (xs := xs)) (g := gName i) (tt := tYes) (tk := inBlk m N (relS scope sc) k kx) (tv := inBlk m N (relS scope sc) k vx) (vs := [i]) (σ := σ) Pv p0 (fun j H hj hp => by rw [h.kk]; exact st j H hj hp) (fun j z H H' hj hp y => ?_) fin
  obtain ⟨rfl, hz⟩ := y
  refine ⟨by rw [wipe1]; simp [wipe, List.set_set], ?_⟩
  unfold tYes
  refine iteT fun X' hX' => ?_
  rw [set_wipe]
  exact turn j z H' hz hp X' hX'
end
section
variable {m : Md} {N : List Str} {sc scope : Scope} {k i j : Nat} {X : Cx} {e elt : Expr} {σ : L2.St} {H : Hp} {pos p1 p2 p3 p4 p5 : Pos} {x y : Str} {nx : L2.St → Hp → Prop} {rt : VK} {bk ct : L2.St → Hp → Prop}
/-- z = [elt for x, y in enumerate(e)]: the pair is new each time -/
theorem s_lcEn {k1 l : Nat} {y0 : Str} {py spos : Pos} (h : At m N sc k X) (hm : m.mg "enumerate" = none) (hgl : sc.names.lookup ("enumerate" : Str) = some .globalImplicit) (nl : NL N sc l y0) (ok : blkC N sc scope [(x, i), (y, j)] = true) (n1 : NL N (relS scope sc) i x) (n2 : NL N (relS scope sc) j y)
    (q : wE X e σ H fun v H1 => ∃ (a : Addr) (xs : List V), v = .ref a ∧ SqL m.K H1 a xs ∧ ∀ D, H1 D = none → ∃ Pv : Nat → Hp → Prop, Pv 0 (upd H1 D (.lst [])) ∧ (∀ t H, t ≤ xs.length → Pv t H → SqL m.K H a xs) ∧
      (∀ (t : Nat) (z : V) (T : Addr) (H : Hp), xs[t]? = some z → Pv t H → H T = none → ∀ X', At m N (relS scope sc) k X' → wE X' elt ((σ.set i (some (.int t))).set j (some z)) (upd H T (.tup [.int t, z])) (App D (Pv (t + 1)))) ∧ ∀ H, Pv xs.length H → nx (σ.set l (some (.ref D))) H)
    (hst : starEach [e] X.env = [(false, eval e X.env)] := by with_unfolding_all rfl) (hs : ∀ x, foldedSetIterable (.Call (.Name "enumerate" p4) [e] [] p5) X.env x = pure x := by with_unfolding_all (intro _; rfl)) (hk : sc.kind = .function := by with_unfolding_all rfl) (hl : (py.line == pos.line) = true := by with_unfolding_all rfl) (ha : (scope.names.any fun (n, k) => n == y0 && (k == .local || k == .cell)) = false := by with_unfolding_all (decide +kernel)) : wS X (.Assign [.Name y0 py] (.ListComp elt [⟨.Tuple [.Name x p1, .Name y p2] k1 p3, .Call (.Name "enumerate" p4) [e] [] p5, [], 0⟩] scope pos) spos) ⟨nx, rt, bk, ct⟩ σ H := by
  refine toS (ps_setLc (i := l) (y := y0) (py := py) (own := [(x, i), (y, j)]) (g := gTup X.K 2 (gCons (gName i) (gCons (gName j) gNil))) (tt := tYes) (te := inBlk m N (relS scope sc) k elt) h.calm (by rw [h.nn]; exact h.nd) (by rw [h.nn]; exact nl.ix) (by rw [h.ss]; exact nl.loc) (sw_true (by rw [h.ss]; exact hk) (by rw [h.ss]; exact nl.loc) hl ha) (pi_enum (h.gl hgl) (by rw [h.mm]; exact hm) (pa_cons cE pa_nil hst) hst) (by rw [h.nn, h.ss]; exact blkOk_by ok) (fun s H C cl fp => pg_tup (blk_at h s H C cl fp).calm (pgs_cons (pg_nl (blk_at h s H C cl fp) n1) (pgs_cons (pg_nl (blk_at h s H C cl fp) n2) pgs_nil (by with_unfolding_all rfl)) (by with_unfolding_all rfl)) (by with_unfolding_all rfl) (by with_unfolding_all rfl)) (fun _ _ _ _ _ => pts_nil) (fun s H C cl fp => blk_pe h s H C cl fp) hs) ?_
  refine wE.mono q fun v H1 ⟨a, xs, ea, hl, go⟩ => ⟨a, xs, by rw [ea], by rw [h.kk]; exact hl, fun D hD => ?_⟩
  obtain ⟨Pv, p0, st, turn, fin⟩ := go D hD
  refine lc_it (walk_enum (K := X.K) (a := a) (xs := xs)) (g := gTup X.K 2 (gCons (gName i) (gCons (gName j) gNil))) (tt := tYes) (te := inBlk m N (relS scope sc) k elt) (vs := [i, j]) (σ := σ) Pv p0 (fun t H ht hp => by rw [h.kk]; exact st t H ht hp) (fun t z H H' ht hp yy => ?_) fin
  obtain ⟨T, u, w, rfl, hT, rfl, hu, hw⟩ := yy
  have eu : V.int (t : Nat) = u := Option.some.inj hu
  rw [← eu]
  refine ⟨T, [.int t, w], rfl, SqT.of upd_same, rfl, .int t, [w], rfl, w, [], rfl, rfl, ?_⟩
  rw [set2_wipe]
  refine ⟨wipe2, ?_⟩
  unfold tYes
  exact iteT fun X' hX' => turn t w T H hw hp hT X' hX'
end
end Vf
set_option maxRecDepth 100000
set_option maxHeartbeats 4000000
/-! Try2: try with several clauses `except x as n`. Own work. -/
namespace Vf
open PySem PySem.Spec PyProof.Rows L2 LamX
abbrev Cl : Type := Value × Nat × (Addr → Value → Option Addr → TS)
/-- what an error finds: the clauses one after the other, then what is outside -/
def wMA (K : PySem.W.Frag) (W : WX) (D : Ends) : List Cl → WX
  | [] => W
  | (c, i, ts) :: l => fun cls d σ H => ∃ b, PySem.W.exmOne K cls c = some b ∧
      (b = true → ∀ a, H a = none → ts a cls d { nx := fun σ' H' => D.nx (σ'.set i none) H', rt := D.rt, bk := fun σ' H' => D.bk (σ'.set i none) H', ct := fun σ' H' => D.ct (σ'.set i none) H' } (σ.set i (some (.ref a))) H) ∧ (b = false → wMA K W D l cls d σ H)
inductive HdsA (X : Cx) : List ExceptHandler → List Cl → Prop
  | nil : HdsA X [] []
  | cons {x n : Str} {c : Value} {i : Nat} {ts : Addr → Value → Option Addr → TS} {b₀ : Stmt} {suite : List Stmt} {np pos' : Pos} {hds : List ExceptHandler} {l : List Cl} : Names X x c → X.N[i]? = some n → X.env.kindOf n = some .local →
      (∀ (a : Addr) (oe : Obj) (cls : Value) (d : Option Addr) (pn : List (Addr × Obj)), Zc cls d oe → (∃ vs, oe.data = .fields vs) → PSs (X.suite a ((a, oe) :: pn)) (b₀ :: suite) (ts a cls d)) → HdsA X hds l →
      HdsA X (.ExceptHandler (some (.Name x np)) (some n) (b₀ :: suite) pos' :: hds) ((c, i, ts) :: l)
theorem hands {X : Cx} {Wout : WX} {D : Ends} (hs : X.stack = X.env :: X.outer) (hf : X.env.frame = some X.env.locals) (hN : X.N.Nodup) (tk : L2.Takes X Wout) {hds : List ExceptHandler} {l : List Cl} (hh : HdsA X hds l) : ∀ {s sI : Shared} {a : Addr} {B : Heap} {pins : List (Addr × Obj)} {σ : L2.St} {H : Hp} {cls : Value} {d : Option Addr},
    Inv X pins σ H sI → (∀ (b : Addr) (o : Obj), sI.heap.get? b = some o → ¬ b ∈ frs X.stack → B.get? b = some o) → sI.heap.UpToSlots s.heap → HandSPX.FlyingZ B (X.env :: X.outer) a (Zc cls d) s.heap → H a = none → s.os = sI.os → AllBare s.gens → wMA X.K Wout D l cls d σ H →
    wpAny (model X.prog X.w) X.A (handleBy (.ref a) X.env hds) (SP X pins D) X.xe s := by
  induction hh with
  | nil =>
    intro s sI a B pins σ H cls d J nb up fl na os ag w
    refine wpAny_handleBy_nil ?_
    obtain ⟨oe, vs, T, oT, ts, he, hz, hd, h1, hr⟩ := fl.2.2.2
    have ok := J.ok
    unfold PySem.passOn
    refine wpAny_bind (wpAny_field he hd h1 ?_)
    rw [if_neg (by simp)]
    refine wpAny_bind ?_
    rw [hf]
    refine HandSPX.setFlight_upZ fl fun h4 hh4 up4 => wpAny_throw ?_
    exact tk (.ref a) _ ⟨a, B, sI, pins, σ, H, cls, d, rfl, J, nb, up.trans up4, by rw [hs]; exact .inr (.inr hh4), na, os, ag, w⟩
  | @cons x n c i ts b₀ suite np pos' hds l hc hi hln hsu _ ih =>
    intro s sI a B pins σ H cls d J nb up fl na os ag w
    have ok := J.ok
    obtain ⟨b, hb1, hyes, hno⟩ := w
    have J3 := J.landed nb fl.1 up os ag
    obtain ⟨oe3, vs3, he3, hz3, hd3⟩ := fl.there
    have nfr : ¬ a ∈ List.filterMap (fun x : Env => x.frame) (X.env :: X.outer) := fun hm => by
      obtain ⟨_, o', e', hnf⟩ := fl.2.2.1.mem hm
      rw [he3] at e'
      cases e'
      exact hnf vs3 hd3
    have nL : a ≠ X.env.locals := fun z => nfr (List.mem_filterMap.2 ⟨X.env, List.mem_cons_self, by rw [hf, z]⟩)
    have nF : ¬ a ∈ X.fs := fun hm => by
      obtain ⟨e, he, q⟩ := List.mem_filterMap.1 hm
      exact nfr (List.mem_filterMap.2 ⟨e, List.mem_cons_of_mem _ he, q⟩)
    have S3 := J3.suite he3 hd3 na nL nF
    refine wpAny_handleBy_cons (codeAny_handlers_test ?_) (fun z => by cases z)
    have LT : PySem.W.Looks (model X.prog X.w) s.heap (typeOf (Value.ref a)) cls := fun A Q E s' k q => wpAny_typeOf_ref (k a oe3 he3) (by rw [hz3.1]; exact q)
    have LM := PySem.W.exm_one J3.kIn LT hb1
    have test : ∀ {Q : Value → Shared → Prop} {E : Value → Shared → Prop}, Q c s → wpAny (model X.prog X.w) (X.A.mark (some (.ref a))) (eval (.Name x np) X.env) Q E s := fun {Q E} q => by
      obtain ⟨hg, hdbg, hm | ⟨hm, hv, hnn⟩⟩ := hc
      · exact ld_glob S3 hg hm q hdbg
      · exact ld_blt S3 hg hm hv q hnn hdbg
    refine test (PySem.W.Looks.here LM ?_)
    cases b with
    | false =>
      show wpAny (model X.prog X.w) X.A (handleBy (Value.ref a) X.env hds) (SP X pins D) X.xe s
      exact ih J nb up fl na os ag (hno rfl)
    | true =>
      refine codeAny_handlers_suite_as (HandSPX.lands_againZ fl fun h4 fl4 up4 => ?_)
      have J4 := J.landed nb fl4.1 (up.trans up4) (s' := { s with heap := h4 }) os ag
      obtain ⟨oe4, vs4, he4, hz4, hd4⟩ := fl4.there
      have S4 := J4.suite he4 hd4 na nL nF
      refine store_ok (X := X.suite a ((a, oe4) :: (X.pn ++ pins))) (v := .ref a) S4 hN hi (.inl hln) rfl (fun s5 S5 => ?_) (.inr hln)
      refine wpAny_mono ((hsu a oe4 cls d (X.pn ++ pins) hz4 ⟨vs4, hd4⟩).run [] s5 _ H _ S5 (hyes rfl a na)) (fun f s6 hsp => ?_) (fun e s6 he => ?_)
      · cases f with
        | next =>
          obtain ⟨σ', H', J', q⟩ := hsp
          exact gone_ok (J'.unsuite ok) hN hi hln fun s7 J7 => ⟨_, H', J7, q⟩
        | brk =>
          obtain ⟨σ', H', J', q⟩ := hsp
          exact gone_ok (J'.unsuite ok) hN hi hln fun s7 J7 => ⟨_, H', J7, q⟩
        | cont =>
          obtain ⟨σ', H', J', q⟩ := hsp
          exact gone_ok (J'.unsuite ok) hN hi hln fun s7 J7 => ⟨_, H', J7, q⟩
        | ret u =>
          obtain ⟨v, σ', H', J', r, q⟩ := hsp
          exact gone_ok (J'.unsuite ok) hN hi hln fun s7 J7 => ⟨v, _, H', J7, r, q⟩
      · exact he.elim
theorem ps_try_asMany {X : Cx} {body : List Stmt} {h₀ : ExceptHandler} {hds : List ExceptHandler} {l : List Cl} {pos : Pos} {tb : WX → TS} {Wout : WX} (hs : X.stack = X.env :: X.outer) (hf : X.env.frame = some X.env.locals) (hN : X.N.Nodup) (tk : L2.Takes X Wout)
    (hb : ∀ (W : WX) (pn : List (Addr × Obj)) (xe : Value → Shared → Prop), L2.Takes (X.tr pn xe) W → PassesOwn (model X.prog X.w) X.A X.env xe → PSs (X.tr pn xe) body (tb W)) (hh : HdsA X (h₀ :: hds) l) : PS X (.Try body (h₀ :: hds) [] [] pos) (fun D σ H => tb (wMA X.K Wout D l) D σ H) := by
  refine ⟨fun pins s σ H D I h => ?_⟩
  have ok := I.ok
  have hfr : X.A.frames = some (X.env :: X.outer) := by rw [ok.frames, hs]
  refine wpAny_Try_except (wpAny_mono ((hb (wMA X.K Wout D l) (X.pn ++ pins) _ (fun u s' xx => ?_) PassesOwn.looking).run [] s σ H D (I.toTry _) h) (fun f s1 hsp => ?_) fun e s1 he => he)
  · obtain ⟨a, B, sI, pins', σ', H', cls, d, rfl, J', nb, up, sky, na, os, ag, w⟩ := xx
    have J := J'.ofTry ok
    have sky' : Sky B (X.env :: X.outer) a (Zc cls d) X.env.locals s'.heap := by rw [← hs]; exact sky
    exact Sky.land Zc.steady hfr hf sky' fun h3 fl3 up3 => hands hs hf hN tk hh J nb (up.trans up3) fl3 na os ag w
  · cases f with
    | next =>
      obtain ⟨σ', H', J', q⟩ := hsp
      exact wpAny_execs_nil ⟨σ', H', J'.ofTry ok, q⟩
    | brk =>
      obtain ⟨σ', H', J', q⟩ := hsp
      exact ⟨σ', H', J'.ofTry ok, q⟩
    | cont =>
      obtain ⟨σ', H', J', q⟩ := hsp
      exact ⟨σ', H', J'.ofTry ok, q⟩
    | ret u =>
      obtain ⟨v, σ', H', J', r, q⟩ := hsp
      exact ⟨v, σ', H', J'.ofTry ok, r, q⟩
section
variable {m : Md} {N : List Str} {sc : Scope} {i k : Nat} {X : Cx} {σ : L2.St} {H : Hp} {D : Ends} {Wout : WX} {pos np np2 pos1 pos2 : Pos} {x x2 nm : Str} {C C2 : Addr}
/-- try: .. except x as nm: .. except x2 as nm: .. -/
theorem s_tryAs2 {body suite suite2 : List Stmt} {b0 b2 : Stmt} (h : At m N sc k X) (fr : Frm X) (n : NL N sc i nm) (hx : sc.names.lookup x = some .globalImplicit) (hC : m.mg x = some (.ref C)) (hx2 : sc.names.lookup x2 = some .globalImplicit) (hC2 : m.mg x2 = some (.ref C2)) (tk : L2.Takes X Wout)
    (q : ∀ X', At m N sc k X' → Frm X' → L2.Takes X' (fun cls d σ H =>
      (PySem.W.exmOne m.K cls (.ref C) = some true ∧ ∀ a, H a = none → ∀ X2, Sui m N sc a cls d X2 → wB X2 (b0 :: suite) { nx := fun σ' H' => D.nx (σ'.set i none) H', rt := D.rt, bk := fun σ' H' => D.bk (σ'.set i none) H', ct := fun σ' H' => D.ct (σ'.set i none) H' } (σ.set i (some (.ref a))) H) ∨
      (PySem.W.exmOne m.K cls (.ref C) = some false ∧ PySem.W.exmOne m.K cls (.ref C2) = some true ∧ ∀ a, H a = none → ∀ X2, Sui m N sc a cls d X2 → wB X2 (b2 :: suite2) { nx := fun σ' H' => D.nx (σ'.set i none) H', rt := D.rt, bk := fun σ' H' => D.bk (σ'.set i none) H', ct := fun σ' H' => D.ct (σ'.set i none) H' } (σ.set i (some (.ref a))) H)) → wB X' body D σ H)
    (hdb : (x == ("__debug__" : Str)) = false := by with_unfolding_all decide) (hdb2 : (x2 == ("__debug__" : Str)) = false := by with_unfolding_all decide) : wS X (.Try body [.ExceptHandler (some (.Name x np)) (some nm) (b0 :: suite) pos1, .ExceptHandler (some (.Name x2 np2)) (some nm) (b2 :: suite2) pos2] [] [] pos) D σ H := by
  refine toS (ps_try_asMany (Wout := Wout) (l := [(.ref C, i, fun a cls d D σ H => ∀ X2, Sui m N sc a cls d X2 → wB X2 (b0 :: suite) D σ H), (.ref C2, i, fun a cls d D σ H => ∀ X2, Sui m N sc a cls d X2 → wB X2 (b2 :: suite2) D σ H)]) (tb := fun W D σ H => ∀ X', At m N sc k X' → Frm X' → L2.Takes X' W → wB X' body D σ H)
    fr.stk fr.frm (by rw [h.nn]; exact h.nd) tk
    (fun W pn xe tk' ps => ⟨fun pins s σ H D I z => (cB (X := X.tr pn xe) (sts := body)).run pins s σ H D I (z _ (h.tr ps) fr.tr tk')⟩)
    (.cons ⟨h.gl hx, hdb, .inl (by rw [h.mm]; exact hC)⟩ (by rw [h.nn]; exact n.ix) (by show X.env.scope.names.lookup nm = _; rw [h.ss]; exact n.loc) (fun a oe cls d pn hz hf => ⟨fun pins s σ H D I z => (cB (X := X.suite a ((a, oe) :: pn)) (sts := b0 :: suite)).run pins s σ H D I (z _ ⟨⟨X, oe, pn, rfl, hz, hf⟩, h.kk, h.nn, h.ss, h.nd⟩)⟩)
      (.cons ⟨h.gl hx2, hdb2, .inl (by rw [h.mm]; exact hC2)⟩ (by rw [h.nn]; exact n.ix) (by show X.env.scope.names.lookup nm = _; rw [h.ss]; exact n.loc) (fun a oe cls d pn hz hf => ⟨fun pins s σ H D I z => (cB (X := X.suite a ((a, oe) :: pn)) (sts := b2 :: suite2)).run pins s σ H D I (z _ ⟨⟨X, oe, pn, rfl, hz, hf⟩, h.kk, h.nn, h.ss, h.nd⟩)⟩) .nil))) ?_
  intro X' hX' fr' tk'
  refine q X' hX' fr' (L2.Takes.imp tk' fun cls d σ H z => ?_)
  rw [h.kk]
  rcases z with ⟨e1, z⟩ | ⟨e1, e2, z⟩
  · exact ⟨true, e1, fun _ a ha X2 hS => z a ha X2 hS, fun e => by cases e⟩
  · exact ⟨false, e1, (fun e => by cases e), fun _ => ⟨true, e2, fun _ a ha X2 hS => z a ha X2 hS, fun e => by cases e⟩⟩
end
section
variable {m : Md} {N : List Str} {sc : Scope} {k : Nat} {X : Cx} {a b c e : Expr} {es : List Expr} {σ : L2.St} {H : Hp} {Q : VK} {QB : Bool → Hp → Prop} {D : Ends} {pos p p1 p2 : Pos} {x y : Str} {i j : Nat} {v : V}
/-- what a run of the def at f leaves, seen from X -/
theorem fnG_runA {CX : CXT} {f : Addr} {fd : FuncData} {ps : List Str} {sp : Sp} {E : XK} {args : Args} {us : List Value} {vs : List V} {pins : List (Addr × Obj)} {s : Shared} (h : At m N sc k X) (F : FnG m CX j f fd ps sp) (hk : j ≤ k) (hx : L2.PassesAt CX X σ E) (I : Inv X pins σ H s)
    (hb : BindsTo s fd args (ps.zip us)) (r : Vals vs us) (q : sp vs H Q E) : codeAny (model X.prog X.w) X.A (.call (.ref f) args) (fun r s' => match r with | .ok (.ret u) => EP X pins σ Q u s' | .ok _ => False | .error e => X.xe e s') s := by
  have e0 := I.env0
  rw [h.pp, h.ww, h.kk, h.mm, h.bb] at e0
  have rc := F.run X.A X.stack s H args us vs Q E h.gd (h.room.mono hk) e0 hb r q
  rw [← h.pp, ← h.ww] at rc
  refine codeAny_mono rc fun r s' hq => ?_
  match r, hq with
  | .error e, hq => exact hx pins H s e s' I hq
  | .ok (.ret u), hq => exact I.after hq
theorem w_callXA {CX : CXT} {sp : Sp} {dvs : List V} {E : XK} (h : At m N sc k X) (c : CalX m CX j x sp dvs) (hk : j ≤ k) (hg : sc.names.lookup x = some .globalImplicit) (hx : L2.PassesAt CX X σ E) (q : wA X (e :: es) σ H fun vs H1 => sp (vs ++ dvs) H1 Q E)
    (hdb : (x == ("__debug__" : Str)) = false := by with_unfolding_all decide) (he : starEach (e :: es) X.env = (false, eval e X.env) :: starEach es X.env := by with_unfolding_all rfl) (hpl : (backTo pos (starEach es X.env)).any (·.1) = false := by with_unfolding_all rfl) : wE X (.Call (.Name x p) (e :: es) [] pos) σ H Q := by
  obtain ⟨f, fd, ps, ds, F, hm, kp, b, d⟩ := c.ex
  unfold wE
  intro pins s I
  refine wpAny_Call_Name_kw (ld_glob (u := .ref f) I (h.gl hg) (by rw [h.mm]; exact hm) ?_ hdb)
  refine PySem.W.callWith_K (h₀ := X.base) I.ok.mod.kin (by rw [h.kk]; exact kp) (thn ((cA (X := X) (es := e :: es)).run pos pins s σ H _ I q) fun us s1 ⟨vs, H1, I1, r, q1⟩ => ⟨I1.kIn, ?_⟩) he hpl
  have r2 := Vals.append r d
  refine wpAny_call (codeAny_mono (fnG_runA (us := us ++ ds) (vs := vs ++ dvs) h F hk hx I1 (b s1 us (by rw [← h.kk]; exact I1.kIn) (by rw [← r2.length]; exact F.len _ _ _ _ q1)) r2 q1) fun r s' hq => ?_)
  match r, hq with
  | .error e, hq => exact hq
  | .ok (.ret u), hq => exact hq
end
end Vf
set_option maxRecDepth 100000
set_option maxHeartbeats 4000000
/-! Peq: a tuple of numbers, and any object: are they equal; in, not in a list of such tuples. Own work. -/
namespace Vf
open PySem PySem.Spec PyProof.Rows L2 LamX
theorem int_dec (i : Int) (tk : Tok) (l : Addr) (es : Array DictEntry) (ep : Nat) (dd : Option Addr) (sl : Array (Option Value)) :
    Meets (Builtin.«int.__eq__» ⟨[.int i tk, .ref l], []⟩) (fun _ R s => s.heap.get? l = some { cls := .type "dict", dict := dd, data := .dict es ep, slots := sl } ∧ R (.ok (.ret .notImplemented)) s) :=
  .of_wp fun prog w A R s q => by
    obtain ⟨hp, g, d, t, os⟩ := s
    obtain ⟨at1, q⟩ := q
    have f1 := F.sub_dict_int
    wp_walk using wpAny_loadPart' at1, wpAny_load at1
    exact ⟨_, rfl, q⟩
theorem tup_dec (b : Addr) (items : Array Value) (n : Nat) (dd2 : Option Addr) (sl2 : Array (Option Value)) (l : Addr) (es : Array DictEntry) (ep : Nat) (dd : Option Addr) (sl : Array (Option Value)) :
    Meets (Builtin.«tuple.__eq__» ⟨[.ref b, .ref l], []⟩) (fun _ R s => s.heap.get? b = some { cls := .type "tuple", dict := dd2, data := .seq items n, slots := sl2 } ∧ s.heap.get? l = some { cls := .type "dict", dict := dd, data := .dict es ep, slots := sl } ∧ R (.ok (.ret .notImplemented)) s) :=
  .of_wp fun prog w A R s q => by
    obtain ⟨hp, g, d, t, os⟩ := s
    obtain ⟨at1, at2, q⟩ := q
    have f1 := F.sub_dict_tuple
    wp_walk using wpAny_loadPart' at1, wpAny_load at1, wpAny_loadPart' at2, wpAny_load at2
    exact ⟨_, rfl, q⟩
theorem dict_decI (l : Addr) (es : Array DictEntry) (ep : Nat) (dd : Option Addr) (sl : Array (Option Value)) (i : Int) (tk : Tok) :
    Meets (Builtin.«dict.__eq__» ⟨[.ref l, .int i tk], []⟩) (fun _ R s => s.heap.get? l = some { cls := .type "dict", dict := dd, data := .dict es ep, slots := sl } ∧ R (.ok (.ret .notImplemented)) s) :=
  .of_wp fun prog w A R s q => by
    obtain ⟨hp, g, d, t, os⟩ := s
    obtain ⟨at1, q⟩ := q
    have f1 := F.sub_int_dict
    wp_walk using wpAny_loadPart' at1, wpAny_load at1
    exact ⟨_, rfl, q⟩
theorem dict_decT (l : Addr) (es : Array DictEntry) (ep : Nat) (dd : Option Addr) (sl : Array (Option Value)) (b : Addr) (items : Array Value) (n : Nat) (dd2 : Option Addr) (sl2 : Array (Option Value)) :
    Meets (Builtin.«dict.__eq__» ⟨[.ref l, .ref b], []⟩) (fun _ R s => s.heap.get? l = some { cls := .type "dict", dict := dd, data := .dict es ep, slots := sl } ∧ s.heap.get? b = some { cls := .type "tuple", dict := dd2, data := .seq items n, slots := sl2 } ∧ R (.ok (.ret .notImplemented)) s) :=
  .of_wp fun prog w A R s q => by
    obtain ⟨hp, g, d, t, os⟩ := s
    obtain ⟨at1, at2, q⟩ := q
    have f1 := F.sub_tuple_dict
    wp_walk using wpAny_loadPart' at1, wpAny_load at1, wpAny_loadPart' at2, wpAny_load at2
    exact ⟨_, rfl, q⟩
section
variable {A : Around} {s : Shared} {l b : Addr} {es : Array DictEntry} {ep : Nat} {dd dd2 : Option Addr} {sl sl2 : Array (Option Value)} {items : Array Value} {n : Nat}
theorem eqAt_int_dict (i : Int) (tk : Tok) (ho : s.heap.get? l = some { cls := .type "dict", dict := dd, data := .dict es ep, slots := sl }) (hu : A.units < cLine) : SeqAt.EqAt A s (.int i tk) (.ref l) false := fun prog w E Q q => by
  have rc : SeqAt.RcAt A s (.int i tk) (.ref l) false := fun prog w E Q q =>
    SeqAt.rc_eq_decline_or (k := false) (typeIs_int s i tk) ⟨_, ho, rfl⟩ (by decide) F.sub_dict_int F.slot_int_eq F.slot_dict_eq_refl
      (fun _ hq => call_meets F.slot_int_eq (typeIs_int s i tk) F.entry_int_eq (F.args_int_eq_2 _ _) (int_dec i tk l es ep dd sl) ⟨ho, hq⟩)
      (fun _ hq => call_meets F.slot_dict_eq_refl ⟨_, ho, rfl⟩ F.entry_dict_eq (F.args_dict_eq_2 _ _) (dict_decI l es ep dd sl i tk) ⟨ho, hq⟩)
      (fun _ hq => wpAny_of_eq (rfl : isSame (.int i tk) (.ref l) = pure false) hq) (.inr hu) q
  unfold eqBool
  refine wpAny_holding ?_
  refine wpAny_ite_split (fun e => absurd (eq_of_beq e) nofun) (fun _ => ?_)
  exact wpAny_bind (rc prog w E _ (wpAny_truthy_bool q))
theorem eqAt_tup_dict (hb : s.heap.get? b = some { cls := .type "tuple", dict := dd2, data := .seq items n, slots := sl2 }) (ho : s.heap.get? l = some { cls := .type "dict", dict := dd, data := .dict es ep, slots := sl }) (hu : A.units < cLine) : SeqAt.EqAt A s (.ref b) (.ref l) false := by
  have ne : b ≠ l := fun e => by
    rw [e, ho] at hb
    exact absurd (congrArg Obj.cls (Option.some.inj hb)) (by simp)
  refine SeqAt.EqAt.of_refs ne fun prog w E Q q => ?_
  exact SeqAt.rc_eq_decline_or (k := false) ⟨_, hb, rfl⟩ ⟨_, ho, rfl⟩ (by decide) F.sub_dict_tuple F.slot_tuple_eq F.slot_dict_eq_refl
      (fun _ hq => call_meets F.slot_tuple_eq ⟨_, hb, rfl⟩ F.entry_tuple_eq (F.args_tuple_eq_2 _ _) (tup_dec b items n dd2 sl2 l es ep dd sl) ⟨hb, ho, hq⟩)
      (fun _ hq => call_meets F.slot_dict_eq_refl ⟨_, ho, rfl⟩ F.entry_dict_eq (F.args_dict_eq_2 _ _) (dict_decT l es ep dd sl b items n dd2 sl2) ⟨ho, hb, hq⟩)
      (fun _ hq => SeqAt.wpAny_isSame_ref_other' ne hb ho (by simp) hq) (.inr hu) q
end
/-- a number and any object -/
def eqI (i : Int) : PyData → Bool
  | .int k => i == k
  | .bool c => i == if c = true then 1 else 0
  | _ => false
/-- numbers and objects, one by one -/
def eqIs : List Int → List PyData → Bool
  | [], [] => true
  | i :: js, d :: ds => eqI i d && eqIs js ds
  | _, _ => false
/-- a tuple of numbers and any object -/
def eqP (js : List Int) : PyData → Bool
  | .tuple ds => eqIs js ds
  | _ => false
theorem eqIs_range : ∀ (js : List Int) (ds : List PyData), eqIs js ds = ((List.range (min js.length ds.length)).all (fun j => eqI (js.getD j 0) (ds.getD j .none)) && js.length == ds.length)
  | [], [] => rfl
  | [], _ :: _ => by simp [eqIs]
  | _ :: _, [] => by simp [eqIs]
  | i :: js, d :: ds => by
    rw [eqIs, eqIs_range js ds, List.length_cons, List.length_cons, Nat.succ_min_succ, List.range_succ_eq_map, List.all_cons, List.all_map]
    have e : (js.length + 1 == ds.length + 1) = (js.length == ds.length) := by
      rw [Bool.eq_iff_iff, beq_iff_eq, beq_iff_eq]; omega
    rw [e, Bool.and_assoc]
    rfl
section
variable {X : Cx} {pins : List (Addr × Obj)} {σ : L2.St} {H : Hp} {s : Shared} {A : Addr → Prop} {v : V} {d : PyData} {u : Value} {A0 : Around}
theorem ob_eqI (I : Inv X pins σ H s) (o : Ob X.K A H v d) (r : L2.RelV v u) (hu : A0.units < cLine) (i : Int) (tk : Tok) : SeqAt.EqAt A0 s (.int i tk) u (eqI i d) := by
  cases o with
  | non => cases r; exact SeqAt.EqAt.int_none i tk
  | bl b => cases r; exact SeqAt.EqAt.int_bool i tk b
  | int k => obtain ⟨t, rfl⟩ := r; exact SeqAt.EqAt.int_int i tk k t
  | str y _ => obtain ⟨t, rfl⟩ := r; exact SeqAt.EqAt.int_str i tk y t
  | lst _ hs _ _ => cases r; obtain ⟨its, _, pl, _⟩ := I.list hs; exact SeqAt.EqAt.int_list i tk pl.isList hu
  | tup hs _ => cases r; obtain ⟨its, _, pl, _⟩ := I.tuple hs; exact SeqAt.EqAt.int_tuple i tk pl hu
  | dct _ e =>
    cases r
    obtain ⟨dd, es, ep, sl, h1⟩ := dct_at I e
    exact eqAt_int_dict i tk h1 hu
theorem eqIs_self : ∀ (js : List Int), eqIs js (js.map .int) = true
  | [] => rfl
  | j :: js => by rw [List.map_cons, eqIs, eqIs_self js]; simp [eqI]
theorem ob_ints : ∀ {js : List Int} {ds : List PyData}, ObAll X.K A H (js.map V.int) ds → ds = js.map .int
  | [], _, .nil => rfl
  | j :: js, _, .cons h r => by
    cases h
    rw [ob_ints r]; rfl
theorem paired_length {α β : Type} {F : α → β → Prop} {as : List α} {bs : List β} (p : Paired F as bs) : as.length = bs.length := by
  induction p with
  | nil => rfl
  | cons _ _ ih => simp [ih]
theorem paired_get {α β : Type} {F : α → β → Prop} {as : List α} {bs : List β} (p : Paired F as bs) : ∀ (j : Nat) (h1 : j < as.length) (h2 : j < bs.length), F as[j] bs[j] := by
  induction p with
  | nil => intro j h1; simp at h1
  | cons h _ ih =>
    intro j h1 h2
    cases j with
    | zero => exact h
    | succ j => exact ih j (by simpa using h1) (by simpa using h2)
theorem rel_int {x : V} {i : Int} {u : Value} (r : L2.RelV (.int i) u) (r2 : L2.RelV x u) : x = .int i := by
  obtain ⟨t, rfl⟩ := r
  cases x with
  | int k => obtain ⟨t', e⟩ := r2; cases e; rfl
  | str z => obtain ⟨t', e⟩ := r2; cases e
  | byt z => obtain ⟨t', e⟩ := r2; cases e
  | flt z => obtain ⟨t', e⟩ := r2; cases e
  | _ => cases r2
theorem rel_ints : ∀ {js : List Int} {its : List Value} {xs : List V}, Vals (js.map V.int) its → Vals xs its → xs = js.map V.int
  | [], _, _, .nil, .nil => rfl
  | j :: js, _, _, .cons a r, .cons b r2 => by rw [rel_int a b, rel_ints r r2]; rfl
theorem ob_eqP (I : Inv X pins σ H s) {b : Addr} {js : List Int} (hb : H b = some (.tup (js.map V.int))) (o : Ob X.K A H v d) (r : L2.RelV v u) (hu : A0.units + 1 < cLine) : SeqAt.EqAt A0 s (.ref b) u (eqP js d) := by
  obtain ⟨its, rv, pb, _⟩ := I.tuple (SqT.of hb)
  have hu0 : A0.units < cLine := by omega
  cases o with
  | non => cases r; exact SeqAt.EqAt.tuple_none pb hu0
  | bl c => cases r; exact SeqAt.EqAt.tuple_bool c pb hu0
  | int k => obtain ⟨t, rfl⟩ := r; exact SeqAt.EqAt.tuple_int k t pb hu0
  | str y _ => obtain ⟨t, rfl⟩ := r; exact SeqAt.EqAt.tuple_str y t pb hu0
  | lst _ hs _ _ => cases r; obtain ⟨its2, _, pl, _⟩ := I.list hs; exact SeqAt.EqAt.tuple_list pb pl.isList hu0
  | @tup a xs ds hs da =>
    cases r
    obtain ⟨its2, rv2, pl, _⟩ := I.tuple hs
    have l1 := paired_length rv
    have l2 := paired_length rv2
    have l3 := da.length
    rw [List.length_map] at l1
    by_cases c : b = a
    · subst c
      obtain ⟨o1, e1, _, n1, e2⟩ := pb
      obtain ⟨o2, e3, _, n2, e4⟩ := pl
      rw [e1] at e3
      cases e3
      rw [e2] at e4
      have ei : its = its2 := by
        have z := (Data.seq.inj e4).1
        exact congrArg Array.toList z
      have ex : xs = js.map V.int := rel_ints rv (ei ▸ rv2)
      rw [ex] at da
      have ed := ob_ints da
      show SeqAt.EqAt A0 s _ _ (eqIs js ds)
      rw [ed, eqIs_self]
      exact SeqAt.EqAt.same _
    · have key := SeqAt.RcAt.tuples (A := A0) (e := fun j => eqI (js.getD j 0) (ds.getD j .none)) pb pl hu0 (fun j h1 h2 => by
        have h1' : j < its.length := by simpa using h1
        have h2' : j < its2.length := by simpa using h2
        have hx : xs[j]? = some xs[j] := List.getElem?_eq_getElem (by omega)
        obtain ⟨dj, hdj, oj⟩ := da.getV hx
        have r1 := paired_get rv j (by rw [List.length_map]; omega) h1'
        have r2 := paired_get rv2 j (by omega) h2'
        rw [List.getElem_map] at r1
        obtain ⟨t, et⟩ := r1
        have e1 : js.getD j 0 = js[j] := by rw [List.getD_eq_getElem?_getD, List.getElem?_eq_getElem (by omega)]; rfl
        have e2 : ds.getD j .none = dj := by rw [List.getD_eq_getElem?_getD, hdj]; rfl
        rw [e1, e2]
        have z := ob_eqI I oj r2 (A0 := A0.in1) (by show A0.units + 1 < cLine; omega) js[j] t
        simpa [et] using z)
      refine SeqAt.EqAt.of_refs c ?_
      show SeqAt.RcAt A0 s _ _ (eqIs js ds)
      rw [eqIs_range]
      have e1 : its.toArray.size = js.length := by rw [List.size_toArray]; omega
      have e2 : its2.toArray.size = ds.length := by rw [List.size_toArray]; omega
      rw [e1, e2] at key
      exact key
  | dct _ e =>
    cases r
    obtain ⟨dd, es, ep, sl, h1⟩ := dct_at I e
    obtain ⟨ob, e1, e2, n, e3⟩ := pb
    obtain ⟨c, dd2, dat, sl2⟩ := ob
    simp only at e2 e3
    subst e2 e3
    exact eqAt_tup_dict e1 h1 hu0
end
section
variable {m : Md} {N : List Str} {sc : Scope} {k : Nat} {X : Cx} {H : Hp} {Q : VK} {A : Addr → Prop} {v : V} {d : PyData}
/-- what stands in a list of tuples of numbers -/
abbrev TupsAt (H : Hp) (xs : List V) (gs : List (List Int)) : Prop := Paired (fun x js => ∃ b, x = V.ref b ∧ H b = some (.tup (js.map V.int))) xs gs
def ofInt : V → Int
  | .int i => i
  | _ => 0
theorem map_ofInt : ∀ js : List Int, (js.map V.int).map ofInt = js
  | [] => rfl
  | j :: js => by rw [List.map_cons, List.map_cons, map_ofInt js]; rfl
/-- what a tuple in the store and d are -/
def eqV (H : Hp) (d : PyData) : Value → Bool
  | .ref b => match H b with
    | some (.tup xs) => eqP (xs.map ofInt) d
    | _ => false
  | _ => false
theorem eqV_at {b : Addr} {js : List Int} (hb : H b = some (.tup (js.map V.int))) : eqV H d (.ref b) = eqP js d := by
  show (match H b with | some (.tup xs) => eqP (xs.map ofInt) d | _ => false) = _
  rw [hb]
  show eqP ((js.map V.int).map ofInt) d = _
  rw [map_ofInt]
theorem eqV_any : ∀ {xs : List V} {gs : List (List Int)} {its : List Value}, TupsAt H xs gs → Vals xs its → its.any (eqV H d) = gs.any fun js => eqP js d := by
  intro xs gs its h
  induction h generalizing its with
  | nil => intro r; cases r; rfl
  | cons h _ ih =>
    intro r
    cases r with
    | cons r1 r2 =>
      obtain ⟨b, rfl, hb⟩ := h
      cases r1
      rw [List.any_cons, List.any_cons, ih r2, eqV_at hb]
theorem tups_mem : ∀ {xs : List V} {gs : List (List Int)} {its : List Value}, TupsAt H xs gs → Vals xs its → ∀ y ∈ its, ∃ (b : Addr) (js : List Int), y = .ref b ∧ H b = some (.tup (js.map V.int)) := by
  intro xs gs its h
  induction h generalizing its with
  | nil => intro r y hy; cases r; cases hy
  | cons h _ ih =>
    intro r y hy
    cases r with
    | cons r1 r2 =>
      rcases List.mem_cons.1 hy with e | e
      · obtain ⟨b, rfl, hb⟩ := h
        cases r1
        exact ⟨b, _, e, hb⟩
      · exact ih r2 y e
/-- v not in xs, xs a list of tuples of numbers, v any object -/
theorem g_notInTups (h : At m N sc k X) {l : Addr} {xs : List V} {gs : List (List Int)} (o : Ob m.K A H v d) (hl : SqL m.K H l xs) (hx : TupsAt H xs gs) (q : Q (.bl (!gs.any fun js => eqP js d)) H) : gOp X (compareOp .NotIn) v (.ref l) H Q := fun pins s σ u w I r rz => by
  cases rz
  have hu := h.room.un
  obtain ⟨its, rv, pl, hz⟩ := I.list (by rw [h.kk]; exact hl)
  have o' : Ob X.K A H v d := by rw [h.kk]; exact o
  refine SeqAt.notIn_listAt (eqV H d) pl.isList (fun y hy => ?_) ⟨_, H, I, ?_, q⟩
  · obtain ⟨b, js, rfl, hb⟩ := tups_mem hx rv y (by simpa using hy)
    rw [eqV_at hb]
    exact ob_eqP I hb o' r (by show X.A.units + 1 + 1 < cLine; omega)
  · have e : its.toArray.any (eqV H d) = its.any (eqV H d) := by simp
    rw [e, eqV_any hx rv]
    rfl
end
end Vf
namespace Vf
open PySem PySem.Spec PyProof.Rows L2 LamX
local macro_rules | `(tactic| walk_at "v") => `(tactic| first
  | ((with_reducible show wE _ _ _ _ _); first
      | with_reducible refine w_int ?_
      | with_reducible refine w_str ?_
      | with_reducible refine w_bl ?_
      | with_reducible refine w_non ?_
      | ((with_reducible refine' w_nl ?h ?n ?s ?q); (case h => with_reducible assumption); (case n => with_reducible assumption); (case s => rfl))
      | ((with_reducible refine' w_nc ?h ?n ?s ?q); (case h => with_reducible assumption); (case n => with_reducible assumption); (case s => rfl))
      | ((with_reducible refine' w_nf ?h ?n ?s ?q); (case h => with_reducible assumption); (case n => with_reducible assumption); (case s => rfl))
      | with_reducible refine g_bin ?_
      | with_reducible refine g_ix ?_
      | with_reducible refine w_lst ?_
      | with_reducible refine w_tup ?_
      | with_reducible refine g_cmp ?_
      | with_reducible refine w_if ?_
      | with_reducible refine w_not ?_
      | with_reducible refine w_and ?_
      | with_reducible refine w_or ?_
      | with_reducible refine w_one ?_
      | with_reducible refine w_neg ?_)
  | ((with_reducible show wA _ _ _ _ _); first
      | with_reducible refine w_nil ?_
      | with_reducible refine w_cons ?_)
  | ((with_reducible show gOp _ _ _ _ _ _); first
      | with_reducible refine g_addI ?_
      | with_reducible refine g_subI ?_
      | with_reducible refine g_gtI ?_
      | with_reducible refine g_ltI ?_
      | with_reducible refine g_leI ?_
      | with_reducible refine g_geI ?_
      | with_reducible refine g_eqI ?_
      | with_reducible refine g_neI ?_
      | with_reducible refine g_isN ?_
      | with_reducible refine g_notN ?_
      | with_reducible refine g_eqS ?_
      | with_reducible refine g_neS ?_)
  | ((with_reducible show wS _ _ _ _ _); first
      | with_reducible refine s_ret ?_
      | with_reducible refine s_if ?_
      | with_reducible refine s_expr ?_
      | ((with_reducible refine' s_nl ?h ?n ?q); (case h => with_reducible assumption); (case n => with_reducible assumption))
      | with_reducible refine s_subL ?_
      | with_reducible refine s_retN ?_)
  | ((with_reducible show wB _ _ _ _ _); first
      | with_reducible refine b_nil ?_
      | with_reducible refine b_one ?_
      | with_reducible refine b_cons ?_)
  | ((with_reducible show wT _ _ _ _ _); first
      | with_reducible refine gt_cmp ?_
      | with_reducible refine t_not ?_
      | with_reducible refine t_and ?_
      | with_reducible refine t_or ?_
      | with_reducible refine gt_tru ?_)
  | ((with_reducible show gTru _ _ _ _); first
      | with_reducible refine g_truB ?_)
  | ((with_reducible show wW _ _ _ _ _); first
      | with_reducible refine k_and ?_
      | with_reducible refine k_or ?_
      | with_reducible refine k_and1 ?_
      | with_reducible refine k_or1 ?_)
  | with_reducible refine ⟨_, rfl, ?_⟩)
local macro_rules | `(tactic| walk_at "e") => `(tactic| first
  | ((with_reducible show wE _ _ _ _ _); first
      | with_reducible refine w_int ?_
      | with_reducible refine w_str ?_
      | with_reducible refine w_bl ?_
      | with_reducible refine w_non ?_
      | ((with_reducible refine' w_nl ?h ?n ?s ?q); (case h => with_reducible assumption); (case n => with_reducible assumption); (case s => rfl))
      | ((with_reducible refine' w_nc ?h ?n ?s ?q); (case h => with_reducible assumption); (case n => with_reducible assumption); (case s => rfl))
      | ((with_reducible refine' w_nf ?h ?n ?s ?q); (case h => with_reducible assumption); (case n => with_reducible assumption); (case s => rfl))
      | with_reducible refine g_bin ?_
      | with_reducible refine g_ix ?_
      | with_reducible refine w_lst ?_
      | with_reducible refine w_tup ?_
      | with_reducible refine g_cmp ?_
      | with_reducible refine w_if ?_
      | with_reducible refine w_not ?_
      | with_reducible refine w_and ?_
      | with_reducible refine w_or ?_
      | with_reducible refine w_one ?_
      | with_reducible refine w_neg ?_)
  | ((with_reducible show wA _ _ _ _ _); first
      | with_reducible refine w_nil ?_
      | with_reducible refine w_cons ?_)
  | ((with_reducible show gOp _ _ _ _ _ _); first
      | with_reducible refine g_addI ?_
      | with_reducible refine g_subI ?_
      | with_reducible refine g_gtI ?_
      | with_reducible refine g_ltI ?_
      | with_reducible refine g_leI ?_
      | with_reducible refine g_geI ?_
      | with_reducible refine g_eqI ?_
      | with_reducible refine g_neI ?_
      | with_reducible refine g_isN ?_
      | with_reducible refine g_notN ?_
      | with_reducible refine g_eqS ?_
      | with_reducible refine g_neS ?_)
  | ((with_reducible show wT _ _ _ _ _); first
      | with_reducible refine gt_cmp ?_
      | with_reducible refine t_not ?_
      | with_reducible refine t_and ?_
      | with_reducible refine t_or ?_
      | with_reducible refine gt_tru ?_)
  | ((with_reducible show gTru _ _ _ _); first
      | with_reducible refine g_truB ?_)
  | ((with_reducible show wW _ _ _ _ _); first
      | with_reducible refine k_and ?_
      | with_reducible refine k_or ?_
      | with_reducible refine k_and1 ?_
      | with_reducible refine k_or1 ?_)
  | with_reducible refine ⟨_, rfl, ?_⟩)
local macro_rules | `(tactic| walk_at "E") => `(tactic| repeat (walk_at "e"))
local macro_rules | `(tactic| walk_at "V") => `(tactic| repeat (walk_at "v"))
local macro_rules | `(tactic| walk_at "B") => `(tactic| first | refine b_cons ?_ | refine b_one ?_)
local macro_rules | `(tactic| walk_at "S") => `(tactic| (simp only [List.length_cons, List.length_nil, List.length_append, List.length_map, sizeLine_eq] <;> omega))
def top (i : Nat) : Stmt := PySem.Challenge.pw_leafwaits_k05_whole_parts_and_paths.main.body.getD i (.Pass ⟨0, 0, 0, 0⟩)
abbrev st_InvalidTerm_init : Stmt := inClass (top 2) 0
abbrev nl_InvalidTerm_init : List Str := ["self", "value"]
abbrev ps_InvalidTerm_init : List Str := ["self", "value"]
theorem sc_InvalidTerm_init : FnScope nl_InvalidTerm_init ps_InvalidTerm_init (C8.fnScope st_InvalidTerm_init) := ⟨rfl, rfl, rfl, by decide +kernel, rfl, by decide +kernel, by decide +kernel⟩
-- 0:self 1:value
theorem nv_InvalidTerm_init : NL nl_InvalidTerm_init (C8.fnScope st_InvalidTerm_init) 0 "self" ∧ NL nl_InvalidTerm_init (C8.fnScope st_InvalidTerm_init) 1 "value" := ⟨⟨rfl, rfl⟩, ⟨rfl, rfl⟩⟩
abbrev st_InvalidRule_init : Stmt := inClass (top 3) 0
abbrev nl_InvalidRule_init : List Str := ["self", "value"]
abbrev ps_InvalidRule_init : List Str := ["self", "value"]
theorem sc_InvalidRule_init : FnScope nl_InvalidRule_init ps_InvalidRule_init (C8.fnScope st_InvalidRule_init) := ⟨rfl, rfl, rfl, by decide +kernel, rfl, by decide +kernel, by decide +kernel⟩
-- 0:self 1:value
theorem nv_InvalidRule_init : NL nl_InvalidRule_init (C8.fnScope st_InvalidRule_init) 0 "self" ∧ NL nl_InvalidRule_init (C8.fnScope st_InvalidRule_init) 1 "value" := ⟨⟨rfl, rfl⟩, ⟨rfl, rfl⟩⟩
abbrev st_InvalidPath_init : Stmt := inClass (top 4) 0
abbrev nl_InvalidPath_init : List Str := ["self", "value"]
abbrev ps_InvalidPath_init : List Str := ["self", "value"]
theorem sc_InvalidPath_init : FnScope nl_InvalidPath_init ps_InvalidPath_init (C8.fnScope st_InvalidPath_init) := ⟨rfl, rfl, rfl, by decide +kernel, rfl, by decide +kernel, by decide +kernel⟩
-- 0:self 1:value
theorem nv_InvalidPath_init : NL nl_InvalidPath_init (C8.fnScope st_InvalidPath_init) 0 "self" ∧ NL nl_InvalidPath_init (C8.fnScope st_InvalidPath_init) 1 "value" := ⟨⟨rfl, rfl⟩, ⟨rfl, rfl⟩⟩
abbrev st_InvalidWhole_init : Stmt := inClass (top 5) 0
abbrev nl_InvalidWhole_init : List Str := ["self", "value"]
abbrev ps_InvalidWhole_init : List Str := ["self", "value"]
theorem sc_InvalidWhole_init : FnScope nl_InvalidWhole_init ps_InvalidWhole_init (C8.fnScope st_InvalidWhole_init) := ⟨rfl, rfl, rfl, by decide +kernel, rfl, by decide +kernel, by decide +kernel⟩
-- 0:self 1:value
theorem nv_InvalidWhole_init : NL nl_InvalidWhole_init (C8.fnScope st_InvalidWhole_init) 0 "self" ∧ NL nl_InvalidWhole_init (C8.fnScope st_InvalidWhole_init) 1 "value" := ⟨⟨rfl, rfl⟩, ⟨rfl, rfl⟩⟩
abbrev st_is_whole : Stmt := top 8
abbrev nl_is_whole : List Str := ["value"]
abbrev ps_is_whole : List Str := ["value"]
theorem sc_is_whole : FnScope nl_is_whole ps_is_whole (C8.fnScope st_is_whole) := ⟨rfl, rfl, rfl, by decide +kernel, rfl, by decide +kernel, by decide +kernel⟩
-- 0:value
theorem nv_is_whole : NL nl_is_whole (C8.fnScope st_is_whole) 0 "value" := ⟨rfl, rfl⟩
abbrev st_is_count : Stmt := top 9
abbrev nl_is_count : List Str := ["value"]
abbrev ps_is_count : List Str := ["value"]
theorem sc_is_count : FnScope nl_is_count ps_is_count (C8.fnScope st_is_count) := ⟨rfl, rfl, rfl, by decide +kernel, rfl, by decide +kernel, by decide +kernel⟩
-- 0:value
theorem nv_is_count : NL nl_is_count (C8.fnScope st_is_count) 0 "value" := ⟨rfl, rfl⟩
abbrev st_is_name : Stmt := top 10
abbrev nl_is_name : List Str := ["value", "sign"]
abbrev ps_is_name : List Str := ["value"]
theorem sc_is_name : FnScope nl_is_name ps_is_name (C8.fnScope st_is_name) := ⟨rfl, rfl, rfl, by decide +kernel, rfl, by decide +kernel, by decide +kernel⟩
-- 0:value
theorem nv_is_name : NL nl_is_name (C8.fnScope st_is_name) 0 "value" := ⟨rfl, rfl⟩
abbrev st_is_path : Stmt := top 11
abbrev nl_is_path : List Str := ["value", "step"]
abbrev ps_is_path : List Str := ["value"]
theorem sc_is_path : FnScope nl_is_path ps_is_path (C8.fnScope st_is_path) := ⟨rfl, rfl, rfl, by decide +kernel, rfl, by decide +kernel, by decide +kernel⟩
-- 0:value
theorem nv_is_path : NL nl_is_path (C8.fnScope st_is_path) 0 "value" := ⟨rfl, rfl⟩
abbrev st_need_whole : Stmt := top 12
abbrev nl_need_whole : List Str := ["value"]
abbrev ps_need_whole : List Str := ["value"]
theorem sc_need_whole : FnScope nl_need_whole ps_need_whole (C8.fnScope st_need_whole) := ⟨rfl, rfl, rfl, by decide +kernel, rfl, by decide +kernel, by decide +kernel⟩
-- 0:value
theorem nv_need_whole : NL nl_need_whole (C8.fnScope st_need_whole) 0 "value" := ⟨rfl, rfl⟩
abbrev st_is_term : Stmt := top 14
abbrev nl_is_term : List Str := ["value", "word"]
abbrev ps_is_term : List Str := ["value"]
theorem sc_is_term : FnScope nl_is_term ps_is_term (C8.fnScope st_is_term) := ⟨rfl, rfl, rfl, by decide +kernel, rfl, by decide +kernel, by decide +kernel⟩
-- 0:value 1:word
theorem nv_is_term : NL nl_is_term (C8.fnScope st_is_term) 0 "value" ∧ NL nl_is_term (C8.fnScope st_is_term) 1 "word" := ⟨⟨rfl, rfl⟩, ⟨rfl, rfl⟩⟩
abbrev st_x_is_term_list : Stmt := top 15
abbrev nl_x_is_term_list : List Str := ["value", "term"]
abbrev ps_x_is_term_list : List Str := ["value"]
theorem sc_x_is_term_list : FnScope nl_x_is_term_list ps_x_is_term_list (C8.fnScope st_x_is_term_list) := ⟨rfl, rfl, rfl, by decide +kernel, rfl, by decide +kernel, by decide +kernel⟩
-- 0:value
theorem nv_x_is_term_list : NL nl_x_is_term_list (C8.fnScope st_x_is_term_list) 0 "value" := ⟨rfl, rfl⟩
abbrev st_is_part : Stmt := top 16
abbrev nl_is_part : List Str := ["term"]
abbrev ps_is_part : List Str := ["term"]
theorem sc_is_part : FnScope nl_is_part ps_is_part (C8.fnScope st_is_part) := ⟨rfl, rfl, rfl, by decide +kernel, rfl, by decide +kernel, by decide +kernel⟩
-- 0:term
theorem nv_is_part : NL nl_is_part (C8.fnScope st_is_part) 0 "term" := ⟨rfl, rfl⟩
abbrev st_with_terms : Stmt := top 17
abbrev nl_with_terms : List Str := ["term", "terms"]
abbrev ps_with_terms : List Str := ["term", "terms"]
theorem sc_with_terms : FnScope nl_with_terms ps_with_terms (C8.fnScope st_with_terms) := ⟨rfl, rfl, rfl, by decide +kernel, rfl, by decide +kernel, by decide +kernel⟩
-- 0:term 1:terms
theorem nv_with_terms : NL nl_with_terms (C8.fnScope st_with_terms) 0 "term" ∧ NL nl_with_terms (C8.fnScope st_with_terms) 1 "terms" := ⟨⟨rfl, rfl⟩, ⟨rfl, rfl⟩⟩
abbrev st_rebuilt : Stmt := top 18
abbrev nl_rebuilt : List Str := ["term", "change", "inner"]
abbrev ps_rebuilt : List Str := ["term", "change"]
theorem sc_rebuilt : FnScope nl_rebuilt ps_rebuilt (C8.fnScope st_rebuilt) := ⟨rfl, rfl, rfl, by decide +kernel, rfl, by decide +kernel, by decide +kernel⟩
-- 0:term 1:change*
theorem nv_rebuilt : NL nl_rebuilt (C8.fnScope st_rebuilt) 0 "term" ∧ NC nl_rebuilt (C8.fnScope st_rebuilt) 1 "change" := ⟨⟨rfl, rfl⟩, ⟨rfl, rfl⟩⟩
abbrev st_copied : Stmt := top 19
abbrev nl_copied : List Str := ["term"]
abbrev ps_copied : List Str := ["term"]
theorem sc_copied : FnScope nl_copied ps_copied (C8.fnScope st_copied) := ⟨rfl, rfl, rfl, by decide +kernel, rfl, by decide +kernel, by decide +kernel⟩
-- 0:term
theorem nv_copied : NL nl_copied (C8.fnScope st_copied) 0 "term" := ⟨rfl, rfl⟩
abbrev st_parts_at : Stmt := top 20
abbrev nl_parts_at : List Str := ["term", "path", "found", "at", "inner"]
abbrev ps_parts_at : List Str := ["term", "path"]
theorem sc_parts_at : FnScope nl_parts_at ps_parts_at (C8.fnScope st_parts_at) := ⟨rfl, rfl, rfl, by decide +kernel, rfl, by decide +kernel, by decide +kernel⟩
-- 0:term 1:path 2:found 3:at 4:inner
theorem nv_parts_at : NL nl_parts_at (C8.fnScope st_parts_at) 0 "term" ∧ NL nl_parts_at (C8.fnScope st_parts_at) 1 "path" ∧ NL nl_parts_at (C8.fnScope st_parts_at) 2 "found" ∧ NL nl_parts_at (C8.fnScope st_parts_at) 3 "at" ∧ NL nl_parts_at (C8.fnScope st_parts_at) 4 "inner" := ⟨⟨rfl, rfl⟩, ⟨rfl, rfl⟩, ⟨rfl, rfl⟩, ⟨rfl, rfl⟩, ⟨rfl, rfl⟩⟩
abbrev st_replaced : Stmt := top 21
abbrev nl_replaced : List Str := ["term", "path", "part", "terms", "inner"]
abbrev ps_replaced : List Str := ["term", "path", "part"]
theorem sc_replaced : FnScope nl_replaced ps_replaced (C8.fnScope st_replaced) := ⟨rfl, rfl, rfl, by decide +kernel, rfl, by decide +kernel, by decide +kernel⟩
-- 0:term 1:path 2:part 3:terms
theorem nv_replaced : NL nl_replaced (C8.fnScope st_replaced) 0 "term" ∧ NL nl_replaced (C8.fnScope st_replaced) 1 "path" ∧ NL nl_replaced (C8.fnScope st_replaced) 2 "part" ∧ NL nl_replaced (C8.fnScope st_replaced) 3 "terms" := ⟨⟨rfl, rfl⟩, ⟨rfl, rfl⟩, ⟨rfl, rfl⟩, ⟨rfl, rfl⟩⟩
abbrev st_thinned : Stmt := top 22
abbrev nl_thinned : List Str := ["term", "path", "gone", "terms", "at", "inner"]
abbrev ps_thinned : List Str := ["term", "path", "gone"]
theorem sc_thinned : FnScope nl_thinned ps_thinned (C8.fnScope st_thinned) := ⟨rfl, rfl, rfl, by decide +kernel, rfl, by decide +kernel, by decide +kernel⟩
-- 0:term 3:terms 1:path* 2:gone*
theorem nv_thinned : NL nl_thinned (C8.fnScope st_thinned) 0 "term" ∧ NL nl_thinned (C8.fnScope st_thinned) 3 "terms" ∧ NC nl_thinned (C8.fnScope st_thinned) 1 "path" ∧ NC nl_thinned (C8.fnScope st_thinned) 2 "gone" := ⟨⟨rfl, rfl⟩, ⟨rfl, rfl⟩, ⟨rfl, rfl⟩, ⟨rfl, rfl⟩⟩
abbrev st_Rule_init : Stmt := inClass (top 24) 0
abbrev nl_Rule_init : List Str := ["self", "term"]
abbrev ps_Rule_init : List Str := ["self", "term"]
theorem sc_Rule_init : FnScope nl_Rule_init ps_Rule_init (C8.fnScope st_Rule_init) := ⟨rfl, rfl, rfl, by decide +kernel, rfl, by decide +kernel, by decide +kernel⟩
-- 0:self 1:term
theorem nv_Rule_init : NL nl_Rule_init (C8.fnScope st_Rule_init) 0 "self" ∧ NL nl_Rule_init (C8.fnScope st_Rule_init) 1 "term" := ⟨⟨rfl, rfl⟩, ⟨rfl, rfl⟩⟩
abbrev st_Rule_term : Stmt := inClass (top 24) 1
abbrev nl_Rule_term : List Str := ["self"]
abbrev ps_Rule_term : List Str := ["self"]
theorem sc_Rule_term : FnScope nl_Rule_term ps_Rule_term (C8.fnScope st_Rule_term) := ⟨rfl, rfl, rfl, by decide +kernel, rfl, by decide +kernel, by decide +kernel⟩
-- 0:self
theorem nv_Rule_term : NL nl_Rule_term (C8.fnScope st_Rule_term) 0 "self" := ⟨rfl, rfl⟩
abbrev st_Rule_eq : Stmt := inClass (top 24) 2
abbrev nl_Rule_eq : List Str := ["self", "other"]
abbrev ps_Rule_eq : List Str := ["self", "other"]
theorem sc_Rule_eq : FnScope nl_Rule_eq ps_Rule_eq (C8.fnScope st_Rule_eq) := ⟨rfl, rfl, rfl, by decide +kernel, rfl, by decide +kernel, by decide +kernel⟩
-- 0:self 1:other
theorem nv_Rule_eq : NL nl_Rule_eq (C8.fnScope st_Rule_eq) 0 "self" ∧ NL nl_Rule_eq (C8.fnScope st_Rule_eq) 1 "other" := ⟨⟨rfl, rfl⟩, ⟨rfl, rfl⟩⟩
abbrev st_need_rule : Stmt := top 25
abbrev nl_need_rule : List Str := ["rule"]
abbrev ps_need_rule : List Str := ["rule"]
theorem sc_need_rule : FnScope nl_need_rule ps_need_rule (C8.fnScope st_need_rule) := ⟨rfl, rfl, rfl, by decide +kernel, rfl, by decide +kernel, by decide +kernel⟩
-- 0:rule
theorem nv_need_rule : NL nl_need_rule (C8.fnScope st_need_rule) 0 "rule" := ⟨rfl, rfl⟩
abbrev st_parts : Stmt := top 26
abbrev nl_parts : List Str := ["rule"]
abbrev ps_parts : List Str := ["rule"]
theorem sc_parts : FnScope nl_parts ps_parts (C8.fnScope st_parts) := ⟨rfl, rfl, rfl, by decide +kernel, rfl, by decide +kernel, by decide +kernel⟩
-- 0:rule
theorem nv_parts : NL nl_parts (C8.fnScope st_parts) 0 "rule" := ⟨rfl, rfl⟩
abbrev st_waited : Stmt := top 27
abbrev nl_waited : List Str := ["rule", "path", "wait", "part"]
abbrev ps_waited : List Str := ["rule", "path", "wait"]
theorem sc_waited : FnScope nl_waited ps_waited (C8.fnScope st_waited) := ⟨rfl, rfl, rfl, by decide +kernel, rfl, by decide +kernel, by decide +kernel⟩
-- 0:rule 1:path 2:wait 3:part
theorem nv_waited : NL nl_waited (C8.fnScope st_waited) 0 "rule" ∧ NL nl_waited (C8.fnScope st_waited) 1 "path" ∧ NL nl_waited (C8.fnScope st_waited) 2 "wait" ∧ NL nl_waited (C8.fnScope st_waited) 3 "part" := ⟨⟨rfl, rfl⟩, ⟨rfl, rfl⟩, ⟨rfl, rfl⟩, ⟨rfl, rfl⟩⟩
abbrev st_x_part_at : Stmt := top 28
abbrev nl_x_part_at : List Str := ["rule", "path"]
abbrev ps_x_part_at : List Str := ["rule", "path"]
theorem sc_x_part_at : FnScope nl_x_part_at ps_x_part_at (C8.fnScope st_x_part_at) := ⟨rfl, rfl, rfl, by decide +kernel, rfl, by decide +kernel, by decide +kernel⟩
-- 0:rule 1:path
theorem nv_x_part_at : NL nl_x_part_at (C8.fnScope st_x_part_at) 0 "rule" ∧ NL nl_x_part_at (C8.fnScope st_x_part_at) 1 "path" := ⟨⟨rfl, rfl⟩, ⟨rfl, rfl⟩⟩
abbrev st_left_out : Stmt := top 29
abbrev nl_left_out : List Str := ["rule", "paths", "path"]
abbrev ps_left_out : List Str := ["rule", "paths"]
theorem sc_left_out : FnScope nl_left_out ps_left_out (C8.fnScope st_left_out) := ⟨rfl, rfl, rfl, by decide +kernel, rfl, by decide +kernel, by decide +kernel⟩
-- 0:rule 1:paths
theorem nv_left_out : NL nl_left_out (C8.fnScope st_left_out) 0 "rule" ∧ NL nl_left_out (C8.fnScope st_left_out) 1 "paths" := ⟨⟨rfl, rfl⟩, ⟨rfl, rfl⟩⟩
abbrev st_x_is_path_list : Stmt := top 30
abbrev nl_x_is_path_list : List Str := ["rule", "paths", "there", "path"]
abbrev ps_x_is_path_list : List Str := ["rule", "paths"]
theorem sc_x_is_path_list : FnScope nl_x_is_path_list ps_x_is_path_list (C8.fnScope st_x_is_path_list) := ⟨rfl, rfl, rfl, by decide +kernel, rfl, by decide +kernel, by decide +kernel⟩
-- 0:rule 1:paths 2:there*
theorem nv_x_is_path_list : NL nl_x_is_path_list (C8.fnScope st_x_is_path_list) 0 "rule" ∧ NL nl_x_is_path_list (C8.fnScope st_x_is_path_list) 1 "paths" ∧ NC nl_x_is_path_list (C8.fnScope st_x_is_path_list) 2 "there" := ⟨⟨rfl, rfl⟩, ⟨rfl, rfl⟩, ⟨rfl, rfl⟩⟩
abbrev st_purse : Stmt := top 32
abbrev nl_purse : List Str := ["_law_script", "_law_at", "_law_seed"]
abbrev ps_purse : List Str := ["_law_script", "_law_at"]
theorem sc_purse : FnScope nl_purse ps_purse (C8.fnScope st_purse) := ⟨rfl, rfl, rfl, by decide +kernel, rfl, by decide +kernel, by decide +kernel⟩
-- 0:_law_script 1:_law_at 2:_law_seed
theorem nv_purse : NL nl_purse (C8.fnScope st_purse) 0 "_law_script" ∧ NL nl_purse (C8.fnScope st_purse) 1 "_law_at" ∧ NL nl_purse (C8.fnScope st_purse) 2 "_law_seed" := ⟨⟨rfl, rfl⟩, ⟨rfl, rfl⟩, ⟨rfl, rfl⟩⟩
abbrev st_mixed : Stmt := top 33
abbrev nl_mixed : List Str := ["_law_seed", "_law_turn", "_law_at", "_law_mixed_here"]
abbrev ps_mixed : List Str := ["_law_seed", "_law_turn", "_law_at"]
theorem sc_mixed : FnScope nl_mixed ps_mixed (C8.fnScope st_mixed) := ⟨rfl, rfl, rfl, by decide +kernel, rfl, by decide +kernel, by decide +kernel⟩
-- 0:_law_seed 1:_law_turn 2:_law_at 3:_law_mixed_here
theorem nv_mixed : NL nl_mixed (C8.fnScope st_mixed) 0 "_law_seed" ∧ NL nl_mixed (C8.fnScope st_mixed) 1 "_law_turn" ∧ NL nl_mixed (C8.fnScope st_mixed) 2 "_law_at" ∧ NL nl_mixed (C8.fnScope st_mixed) 3 "_law_mixed_here" := ⟨⟨rfl, rfl⟩, ⟨rfl, rfl⟩, ⟨rfl, rfl⟩, ⟨rfl, rfl⟩⟩
abbrev st_draw : Stmt := top 34
abbrev nl_draw : List Str := ["_law_purse_here", "_law_many", "_law_drawn", "_law_found", "_law_piece"]
abbrev ps_draw : List Str := ["_law_purse_here", "_law_many"]
theorem sc_draw : FnScope nl_draw ps_draw (C8.fnScope st_draw) := ⟨rfl, rfl, rfl, by decide +kernel, rfl, by decide +kernel, by decide +kernel⟩
-- 0:_law_purse_here 1:_law_many 2:_law_drawn 3:_law_found 4:_law_piece
theorem nv_draw : NL nl_draw (C8.fnScope st_draw) 0 "_law_purse_here" ∧ NL nl_draw (C8.fnScope st_draw) 1 "_law_many" ∧ NL nl_draw (C8.fnScope st_draw) 2 "_law_drawn" ∧ NL nl_draw (C8.fnScope st_draw) 3 "_law_found" ∧ NL nl_draw (C8.fnScope st_draw) 4 "_law_piece" := ⟨⟨rfl, rfl⟩, ⟨rfl, rfl⟩, ⟨rfl, rfl⟩, ⟨rfl, rfl⟩, ⟨rfl, rfl⟩⟩
abbrev st_purses : Stmt := top 35
abbrev nl_purses : List Str := ["_law_script", "_law_few", "_law_at"]
abbrev ps_purses : List Str := ["_law_script", "_law_few"]
theorem sc_purses : FnScope nl_purses ps_purses (C8.fnScope st_purses) := ⟨rfl, rfl, rfl, by decide +kernel, rfl, by decide +kernel, by decide +kernel⟩
-- 1:_law_few 0:_law_script*
theorem nv_purses : NL nl_purses (C8.fnScope st_purses) 1 "_law_few" ∧ NC nl_purses (C8.fnScope st_purses) 0 "_law_script" := ⟨⟨rfl, rfl⟩, ⟨rfl, rfl⟩⟩
abbrev st_one_of : Stmt := top 36
abbrev nl_one_of : List Str := ["_law_purse_here", "_law_some"]
abbrev ps_one_of : List Str := ["_law_purse_here", "_law_some"]
theorem sc_one_of : FnScope nl_one_of ps_one_of (C8.fnScope st_one_of) := ⟨rfl, rfl, rfl, by decide +kernel, rfl, by decide +kernel, by decide +kernel⟩
-- 0:_law_purse_here 1:_law_some
theorem nv_one_of : NL nl_one_of (C8.fnScope st_one_of) 0 "_law_purse_here" ∧ NL nl_one_of (C8.fnScope st_one_of) 1 "_law_some" := ⟨⟨rfl, rfl⟩, ⟨rfl, rfl⟩⟩
abbrev st_shuffled : Stmt := top 37
abbrev nl_shuffled : List Str := ["_law_purse_here", "_law_some", "_law_found", "_law_item"]
abbrev ps_shuffled : List Str := ["_law_purse_here", "_law_some"]
theorem sc_shuffled : FnScope nl_shuffled ps_shuffled (C8.fnScope st_shuffled) := ⟨rfl, rfl, rfl, by decide +kernel, rfl, by decide +kernel, by decide +kernel⟩
-- 0:_law_purse_here 1:_law_some 2:_law_found 3:_law_item
theorem nv_shuffled : NL nl_shuffled (C8.fnScope st_shuffled) 0 "_law_purse_here" ∧ NL nl_shuffled (C8.fnScope st_shuffled) 1 "_law_some" ∧ NL nl_shuffled (C8.fnScope st_shuffled) 2 "_law_found" ∧ NL nl_shuffled (C8.fnScope st_shuffled) 3 "_law_item" := ⟨⟨rfl, rfl⟩, ⟨rfl, rfl⟩, ⟨rfl, rfl⟩, ⟨rfl, rfl⟩⟩
abbrev st_word : Stmt := top 38
abbrev nl_word : List Str := ["_law_purse_here", "_law_found", "_law_turn"]
abbrev ps_word : List Str := ["_law_purse_here"]
theorem sc_word : FnScope nl_word ps_word (C8.fnScope st_word) := ⟨rfl, rfl, rfl, by decide +kernel, rfl, by decide +kernel, by decide +kernel⟩
-- 0:_law_purse_here 1:_law_found 2:_law_turn
theorem nv_word : NL nl_word (C8.fnScope st_word) 0 "_law_purse_here" ∧ NL nl_word (C8.fnScope st_word) 1 "_law_found" ∧ NL nl_word (C8.fnScope st_word) 2 "_law_turn" := ⟨⟨rfl, rfl⟩, ⟨rfl, rfl⟩, ⟨rfl, rfl⟩⟩
abbrev st_names : Stmt := top 39
abbrev nl_names : List Str := ["_law_purse_here", "_law_many", "_law_fresh", "_law_some", "_law_word_here"]
abbrev ps_names : List Str := ["_law_purse_here", "_law_many"]
theorem sc_names : FnScope nl_names ps_names (C8.fnScope st_names) := ⟨rfl, rfl, rfl, by decide +kernel, rfl, by decide +kernel, by decide +kernel⟩
-- 0:_law_purse_here 1:_law_many 2:_law_fresh 3:_law_some*
theorem nv_names : NL nl_names (C8.fnScope st_names) 0 "_law_purse_here" ∧ NL nl_names (C8.fnScope st_names) 1 "_law_many" ∧ NL nl_names (C8.fnScope st_names) 2 "_law_fresh" ∧ NC nl_names (C8.fnScope st_names) 3 "_law_some" := ⟨⟨rfl, rfl⟩, ⟨rfl, rfl⟩, ⟨rfl, rfl⟩, ⟨rfl, rfl⟩⟩
abbrev st_wait : Stmt := top 40
abbrev nl_wait : List Str := ["_law_purse_here", "_law_some"]
abbrev ps_wait : List Str := ["_law_purse_here"]
theorem sc_wait : FnScope nl_wait ps_wait (C8.fnScope st_wait) := ⟨rfl, rfl, rfl, by decide +kernel, rfl, by decide +kernel, by decide +kernel⟩
-- 0:_law_purse_here 1:_law_some
theorem nv_wait : NL nl_wait (C8.fnScope st_wait) 0 "_law_purse_here" ∧ NL nl_wait (C8.fnScope st_wait) 1 "_law_some" := ⟨⟨rfl, rfl⟩, ⟨rfl, rfl⟩⟩
abbrev st_small_wait : Stmt := top 41
abbrev nl_small_wait : List Str := ["_law_purse_here"]
abbrev ps_small_wait : List Str := ["_law_purse_here"]
theorem sc_small_wait : FnScope nl_small_wait ps_small_wait (C8.fnScope st_small_wait) := ⟨rfl, rfl, rfl, by decide +kernel, rfl, by decide +kernel, by decide +kernel⟩
-- 0:_law_purse_here
theorem nv_small_wait : NL nl_small_wait (C8.fnScope st_small_wait) 0 "_law_purse_here" := ⟨rfl, rfl⟩
abbrev st_part : Stmt := top 42
abbrev nl_part : List Str := ["_law_purse_here", "_law_names_here", "_law_hung", "_law_is_small", "_law_wait_here"]
abbrev ps_part : List Str := ["_law_purse_here", "_law_names_here", "_law_hung", "_law_is_small"]
theorem sc_part : FnScope nl_part ps_part (C8.fnScope st_part) := ⟨rfl, rfl, rfl, by decide +kernel, rfl, by decide +kernel, by decide +kernel⟩
-- 0:_law_purse_here 1:_law_names_here 2:_law_hung 3:_law_is_small 4:_law_wait_here
theorem nv_part : NL nl_part (C8.fnScope st_part) 0 "_law_purse_here" ∧ NL nl_part (C8.fnScope st_part) 1 "_law_names_here" ∧ NL nl_part (C8.fnScope st_part) 2 "_law_hung" ∧ NL nl_part (C8.fnScope st_part) 3 "_law_is_small" ∧ NL nl_part (C8.fnScope st_part) 4 "_law_wait_here" := ⟨⟨rfl, rfl⟩, ⟨rfl, rfl⟩, ⟨rfl, rfl⟩, ⟨rfl, rfl⟩, ⟨rfl, rfl⟩⟩
abbrev st_term : Stmt := top 43
abbrev nl_term : List Str := ["_law_purse_here", "_law_names_here", "_law_hung", "_law_many", "_law_is_small", "_law_word_here", "_law_way", "_law_count", "_law_sizes", "_law_turn", "_law_at", "_law_inner", "_law_size"]
abbrev ps_term : List Str := ["_law_purse_here", "_law_names_here", "_law_hung", "_law_many", "_law_is_small"]
theorem sc_term : FnScope nl_term ps_term (C8.fnScope st_term) := ⟨rfl, rfl, rfl, by decide +kernel, rfl, by decide +kernel, by decide +kernel⟩
-- 3:_law_many 5:_law_word_here 6:_law_way 7:_law_count 8:_law_sizes 9:_law_turn 10:_law_at 11:_law_inner 0:_law_purse_here* 1:_law_names_here* 2:_law_hung* 4:_law_is_small*
theorem nv_term : NL nl_term (C8.fnScope st_term) 3 "_law_many" ∧ NL nl_term (C8.fnScope st_term) 5 "_law_word_here" ∧ NL nl_term (C8.fnScope st_term) 6 "_law_way" ∧ NL nl_term (C8.fnScope st_term) 7 "_law_count" ∧ NL nl_term (C8.fnScope st_term) 8 "_law_sizes" ∧ NL nl_term (C8.fnScope st_term) 9 "_law_turn" ∧ NL nl_term (C8.fnScope st_term) 10 "_law_at" ∧ NL nl_term (C8.fnScope st_term) 11 "_law_inner" ∧ NC nl_term (C8.fnScope st_term) 0 "_law_purse_here" ∧ NC nl_term (C8.fnScope st_term) 1 "_law_names_here" ∧ NC nl_term (C8.fnScope st_term) 2 "_law_hung" ∧ NC nl_term (C8.fnScope st_term) 4 "_law_is_small" := ⟨⟨rfl, rfl⟩, ⟨rfl, rfl⟩, ⟨rfl, rfl⟩, ⟨rfl, rfl⟩, ⟨rfl, rfl⟩, ⟨rfl, rfl⟩, ⟨rfl, rfl⟩, ⟨rfl, rfl⟩, ⟨rfl, rfl⟩, ⟨rfl, rfl⟩, ⟨rfl, rfl⟩, ⟨rfl, rfl⟩⟩
abbrev st_walk : Stmt := top 44
abbrev nl_walk : List Str := ["_law_term_here", "_law_path", "_law_found", "_law_at"]
abbrev ps_walk : List Str := ["_law_term_here", "_law_path"]
theorem sc_walk : FnScope nl_walk ps_walk (C8.fnScope st_walk) := ⟨rfl, rfl, rfl, by decide +kernel, rfl, by decide +kernel, by decide +kernel⟩
-- 0:_law_term_here 1:_law_path 2:_law_found 3:_law_at
theorem nv_walk : NL nl_walk (C8.fnScope st_walk) 0 "_law_term_here" ∧ NL nl_walk (C8.fnScope st_walk) 1 "_law_path" ∧ NL nl_walk (C8.fnScope st_walk) 2 "_law_found" ∧ NL nl_walk (C8.fnScope st_walk) 3 "_law_at" := ⟨⟨rfl, rfl⟩, ⟨rfl, rfl⟩, ⟨rfl, rfl⟩, ⟨rfl, rfl⟩⟩
abbrev st_anew : Stmt := top 45
abbrev nl_anew : List Str := ["_law_term_here", "_law_path", "_law_part_here", "_law_inner"]
abbrev ps_anew : List Str := ["_law_term_here", "_law_path", "_law_part_here"]
theorem sc_anew : FnScope nl_anew ps_anew (C8.fnScope st_anew) := ⟨rfl, rfl, rfl, by decide +kernel, rfl, by decide +kernel, by decide +kernel⟩
-- 0:_law_term_here 1:_law_path 2:_law_part_here 3:_law_inner
theorem nv_anew : NL nl_anew (C8.fnScope st_anew) 0 "_law_term_here" ∧ NL nl_anew (C8.fnScope st_anew) 1 "_law_path" ∧ NL nl_anew (C8.fnScope st_anew) 2 "_law_part_here" ∧ NL nl_anew (C8.fnScope st_anew) 3 "_law_inner" := ⟨⟨rfl, rfl⟩, ⟨rfl, rfl⟩, ⟨rfl, rfl⟩, ⟨rfl, rfl⟩⟩
abbrev st_less : Stmt := top 46
abbrev nl_less : List Str := ["_law_term_here", "_law_path", "_law_gone", "_law_inner", "_law_at"]
abbrev ps_less : List Str := ["_law_term_here", "_law_path", "_law_gone"]
theorem sc_less : FnScope nl_less ps_less (C8.fnScope st_less) := ⟨rfl, rfl, rfl, by decide +kernel, rfl, by decide +kernel, by decide +kernel⟩
-- 0:_law_term_here 1:_law_path 2:_law_gone 3:_law_inner 4:_law_at
theorem nv_less : NL nl_less (C8.fnScope st_less) 0 "_law_term_here" ∧ NL nl_less (C8.fnScope st_less) 1 "_law_path" ∧ NL nl_less (C8.fnScope st_less) 2 "_law_gone" ∧ NL nl_less (C8.fnScope st_less) 3 "_law_inner" ∧ NL nl_less (C8.fnScope st_less) 4 "_law_at" := ⟨⟨rfl, rfl⟩, ⟨rfl, rfl⟩, ⟨rfl, rfl⟩, ⟨rfl, rfl⟩, ⟨rfl, rfl⟩⟩
abbrev st_caught : Stmt := top 47
abbrev nl_caught : List Str := ["_law_door", "_law_rule", "_law_thing", "_law_caught_here", "error"]
abbrev ps_caught : List Str := ["_law_door", "_law_rule", "_law_thing"]
theorem sc_caught : FnScope nl_caught ps_caught (C8.fnScope st_caught) := ⟨rfl, rfl, rfl, by decide +kernel, rfl, by decide +kernel, by decide +kernel⟩
-- 0:_law_door 1:_law_rule 2:_law_thing 3:_law_caught_here 4:error
theorem nv_caught : NL nl_caught (C8.fnScope st_caught) 0 "_law_door" ∧ NL nl_caught (C8.fnScope st_caught) 1 "_law_rule" ∧ NL nl_caught (C8.fnScope st_caught) 2 "_law_thing" ∧ NL nl_caught (C8.fnScope st_caught) 3 "_law_caught_here" ∧ NL nl_caught (C8.fnScope st_caught) 4 "error" := ⟨⟨rfl, rfl⟩, ⟨rfl, rfl⟩, ⟨rfl, rfl⟩, ⟨rfl, rfl⟩, ⟨rfl, rfl⟩⟩
abbrev st_strict : Stmt := top 48
abbrev nl_strict : List Str := ["_law_thing", "_law_at"]
abbrev ps_strict : List Str := ["_law_thing"]
theorem sc_strict : FnScope nl_strict ps_strict (C8.fnScope st_strict) := ⟨rfl, rfl, rfl, by decide +kernel, rfl, by decide +kernel, by decide +kernel⟩
-- 0:_law_thing
theorem nv_strict : NL nl_strict (C8.fnScope st_strict) 0 "_law_thing" := ⟨rfl, rfl⟩
abbrev st_odd_paths : Stmt := top 49
abbrev nl_odd_paths : List Str := ["_law_rule", "_law_walk_here", "_law_some", "_law_path", "_law_part_here", "_law_at", "_law_thing"]
abbrev ps_odd_paths : List Str := ["_law_rule", "_law_walk_here"]
theorem sc_odd_paths : FnScope nl_odd_paths ps_odd_paths (C8.fnScope st_odd_paths) := ⟨rfl, rfl, rfl, by decide +kernel, rfl, by decide +kernel, by decide +kernel⟩
-- 0:_law_rule 2:_law_some 1:_law_walk_here*
theorem nv_odd_paths : NL nl_odd_paths (C8.fnScope st_odd_paths) 0 "_law_rule" ∧ NL nl_odd_paths (C8.fnScope st_odd_paths) 2 "_law_some" ∧ NC nl_odd_paths (C8.fnScope st_odd_paths) 1 "_law_walk_here" := ⟨⟨rfl, rfl⟩, ⟨rfl, rfl⟩, ⟨rfl, rfl⟩⟩
abbrev st_odd_lots : Stmt := top 50
abbrev nl_odd_lots : List Str := ["_law_walk_here", "_law_some", "_law_paths", "_law_path", "_law_part_here", "_law_at"]
abbrev ps_odd_lots : List Str := ["_law_walk_here"]
theorem sc_odd_lots : FnScope nl_odd_lots ps_odd_lots (C8.fnScope st_odd_lots) := ⟨rfl, rfl, rfl, by decide +kernel, rfl, by decide +kernel, by decide +kernel⟩
-- 0:_law_walk_here 1:_law_some 2:_law_paths
theorem nv_odd_lots : NL nl_odd_lots (C8.fnScope st_odd_lots) 0 "_law_walk_here" ∧ NL nl_odd_lots (C8.fnScope st_odd_lots) 1 "_law_some" ∧ NL nl_odd_lots (C8.fnScope st_odd_lots) 2 "_law_paths" := ⟨⟨rfl, rfl⟩, ⟨rfl, rfl⟩, ⟨rfl, rfl⟩⟩
abbrev st_right : Stmt := top 51
abbrev nl_right : List Str := ["_law_purse_here", "_law_names_here", "_law_term_here", "_law_rule", "_law_walk_here", "_law_wait_here", "_law_path", "_law_part_here", "_law_gone", "_law_kept", "_law_made", "_law_thing"]
abbrev ps_right : List Str := ["_law_purse_here"]
theorem sc_right : FnScope nl_right ps_right (C8.fnScope st_right) := ⟨rfl, rfl, rfl, by decide +kernel, rfl, by decide +kernel, by decide +kernel⟩
-- 1:_law_names_here 2:_law_term_here 3:_law_rule 4:_law_walk_here 5:_law_wait_here 6:_law_path 7:_law_part_here 8:_law_gone 9:_law_kept 10:_law_made 11:_law_thing 0:_law_purse_here*
theorem nv_right : NL nl_right (C8.fnScope st_right) 1 "_law_names_here" ∧ NL nl_right (C8.fnScope st_right) 2 "_law_term_here" ∧ NL nl_right (C8.fnScope st_right) 3 "_law_rule" ∧ NL nl_right (C8.fnScope st_right) 4 "_law_walk_here" ∧ NL nl_right (C8.fnScope st_right) 5 "_law_wait_here" ∧ NL nl_right (C8.fnScope st_right) 6 "_law_path" ∧ NL nl_right (C8.fnScope st_right) 7 "_law_part_here" ∧ NL nl_right (C8.fnScope st_right) 8 "_law_gone" ∧ NL nl_right (C8.fnScope st_right) 9 "_law_kept" ∧ NL nl_right (C8.fnScope st_right) 10 "_law_made" ∧ NL nl_right (C8.fnScope st_right) 11 "_law_thing" ∧ NC nl_right (C8.fnScope st_right) 0 "_law_purse_here" := ⟨⟨rfl, rfl⟩, ⟨rfl, rfl⟩, ⟨rfl, rfl⟩, ⟨rfl, rfl⟩, ⟨rfl, rfl⟩, ⟨rfl, rfl⟩, ⟨rfl, rfl⟩, ⟨rfl, rfl⟩, ⟨rfl, rfl⟩, ⟨rfl, rfl⟩, ⟨rfl, rfl⟩, ⟨rfl, rfl⟩⟩
abbrev st_law : Stmt := top 52
abbrev nl_law : List Str := ["_law_script", "_law_purse_here", "_law_part_here", "_law_rule"]
abbrev ps_law : List Str := ["_law_script"]
theorem sc_law : FnScope nl_law ps_law (C8.fnScope st_law) := ⟨rfl, rfl, rfl, by decide +kernel, rfl, by decide +kernel, by decide +kernel⟩
-- 0:_law_script 1:_law_purse_here 2:_law_part_here 3:_law_rule
theorem nv_law : NL nl_law (C8.fnScope st_law) 0 "_law_script" ∧ NL nl_law (C8.fnScope st_law) 1 "_law_purse_here" ∧ NL nl_law (C8.fnScope st_law) 2 "_law_part_here" ∧ NL nl_law (C8.fnScope st_law) 3 "_law_rule" := ⟨⟨rfl, rfl⟩, ⟨rfl, rfl⟩, ⟨rfl, rfl⟩, ⟨rfl, rfl⟩⟩
/-! ### the law's purse -/
/-- a purse at p that has been drawn from at most n times -/
def Purse (H : Hp) (p : Addr) (n : Nat) : Prop := ∃ a b c d : Int, H p = some (.lst [.int a, .int b, .int c, .int d]) ∧ 0 ≤ a ∧ a.natAbs < 2 ^ 1600 ∧ (0 ≤ b ∧ b < 2147483629) ∧ (0 ≤ c ∧ c ≤ n) ∧ (0 ≤ d ∧ d < 1000)
def sp_mixed : Sp := fun vs H Q _ => ∃ s t a : Int, vs = [.int s, .int t, .int a] ∧ (0 ≤ s ∧ s < 2147483629) ∧ (0 ≤ t ∧ t < 2 ^ 40) ∧ (0 ≤ a ∧ a < 1000) ∧ ∀ r : Int, 0 ≤ r → r < 2147483587 → Q (.int r) H
theorem c_mixed {m : Md} {f : Addr} {fd : FuncData} (F : C8.Def m.K m.mg "_law_mixed" st_mixed f fd) (b : L2.Binds m.K fd ps_mixed []) : Cal m 1 "_law_mixed" sp_mixed := by
  refine cal_of F b sc_mixed (fun vs H Q E h => by obtain ⟨_, _, _, rfl, _⟩ := h; rfl) fun X vs H Q E hA h => ?_
  obtain ⟨s, t, a, rfl, hs, ht, ha, k⟩ := h
  obtain ⟨n0, n1, n2, n3⟩ := nv_mixed
  walk_at "B"
  walk_at "V"
  refine g_mulI (.inl (by omega)) ?_
  walk_at "V"
  refine g_mulI (.inl (by omega)) ?_
  walk_at "V"
  refine g_mulI (.inl (by omega)) ?_
  walk_at "V"
  refine g_mulI (.inl (by omega)) ?_
  walk_at "V"
  refine g_modB (by omega) fun r1 h1 h1' => ?_
  walk_at "V"
  refine g_mulI (.inl (by omega)) ?_
  walk_at "V"
  refine g_modB (by omega) fun r2 h2 h2' => ?_
  walk_at "V"
  refine g_mulI (.inl (by omega)) ?_
  walk_at "V"
  refine g_modB (by omega) fun r3 h3 h3' => ?_
  exact k r3 h3 h3'
/-- the purse at p alone has changed: it was drawn from at most j times -/
structure Drew (m : Md) (p : Addr) (n j : Nat) (H H' : Hp) : Prop where
  grow : GrowX m.T (· = p) H H'
  purse : Purse H' p (n + j)
theorem Purse.mono {H : Hp} {p : Addr} {n j : Nat} (h : Purse H p n) (l : n ≤ j) : Purse H p j := by
  obtain ⟨a, b, c, d, h1, h2, h3, h4, h5, h6⟩ := h
  exact ⟨a, b, c, d, h1, h2, h3, h4, ⟨h5.1, by omega⟩, h6⟩
theorem Drew.trans {m : Md} {p : Addr} {n i j : Nat} {H H1 H2 : Hp} (a : Drew m p n i H H1) (b : Drew m p (n + i) j H1 H2) : Drew m p n (i + j) H H2 := ⟨a.grow.trans b.grow, by rw [← Nat.add_assoc]; exact b.purse⟩
theorem Drew.mono {m : Md} {p : Addr} {n i j : Nat} {H H1 : Hp} (a : Drew m p n i H H1) (l : i ≤ j) : Drew m p n j H H1 := ⟨a.grow, a.purse.mono (by omega)⟩
theorem Purse.new {m : Md} {H H' : Hp} {p : Addr} {n : Nat} (h : Purse H p n) (g : Grow m.T H H') : Purse H' p n := by
  obtain ⟨a, b, c, d, h1, r⟩ := h
  exact ⟨a, b, c, d, g.ext _ _ (fun z => z) h1 (fun _ z => by cases z), r⟩
theorem Purse.drew {m : Md} {H H' : Hp} {p : Addr} {n : Nat} (h : Purse H p n) (g : Grow m.T H H') : Drew m p n 0 H H' := ⟨g.to, h.new g⟩
def sp_draw (m : Md) : Sp := fun vs H Q _ => ∃ (p : Addr) (n : Nat) (z : Int), vs = [.ref p, .int z] ∧ Purse H p n ∧ n ≤ 2 ^ 39 ∧ 0 < z ∧ z < 2 ^ 200 ∧
  ∀ (r : Int) (H' : Hp), 0 ≤ r → r < z → Drew m p n 8 H H' → Q (.int r) H'
theorem Purse.at_ {H : Hp} {p : Addr} {n : Nat} (h : Purse H p n) : ∃ xs, H p = some (.lst xs) := ⟨_, h.choose_spec.choose_spec.choose_spec.choose_spec.1⟩
theorem Purse.x {m : Md} {S : Addr → Prop} {H H' : Hp} {p : Addr} {n : Nat} (h : Purse H p n) (g : GrowX m.T S H H') (hs : ¬ S p) : Purse H' p n := by
  obtain ⟨a, b, c, d, h1, r⟩ := h
  exact ⟨a, b, c, d, g.ext _ _ hs h1 (fun _ z => by cases z), r⟩
theorem Drew.pre {m : Md} {H H1 H2 : Hp} {p : Addr} {n j : Nat} (g : Grow m.T H H1) (d : Drew m p n j H1 H2) : Drew m p n j H H2 := ⟨g.to.trans d.grow, d.purse⟩
theorem Drew.post {m : Md} {H H1 H2 : Hp} {p : Addr} {n j : Nat} (d : Drew m p n j H H1) (g : Grow m.T H1 H2) : Drew m p n j H H2 := ⟨d.grow.trans g.to, d.purse.new g⟩
theorem c_draw {m : Md} {f : Addr} {fd : FuncData} (F : C8.Def m.K m.mg "_law_draw" st_draw f fd) (b : L2.Binds m.K fd ps_draw []) (hr : m.mg "range" = none) (M : Cal m 1 "_law_mixed" sp_mixed) : Cal m 2 "_law_draw" (sp_draw m) := by
  refine cal_of F b sc_draw (fun vs H Q E h => by obtain ⟨_, _, _, rfl, _⟩ := h; rfl) fun X vs H Q E hA h => ?_
  obtain ⟨p, n, mm, rfl, ⟨a, bb, c, d, hp, ha, ha2, hb, hc, hd⟩, hn, hm, hm2, k⟩ := h
  obtain ⟨n0, n1, n2, n3, n4⟩ := nv_draw
  walk_at "B"
  walk_at "V"
  refine g_ixL hA (SqL.of hp) (atI_at (j := 0) rfl) ?_
  walk_at "V"
  refine ite2 (fun h0 => ?_) fun h0 => ?_
  · simp only [decide_eq_true_eq] at h0
    walk_at "V"
    refine g_ixL hA (SqL.of hp) (atI_at (j := 0) rfl) ?_
    walk_at "V"
    refine g_modB hm fun r h1 h2 => ?_
    walk_at "V"
    refine g_ixL hA (SqL.of hp) (atI_at (j := 0) rfl) ?_
    walk_at "V"
    refine g_divW (wide_div (b := 200) hm (by omega) (by omega) (by omega)) ?_
    walk_at "V"
    refine ⟨p, _, _, 0, rfl, rfl, hp, rfl, ?_⟩
    walk_at "V"
    refine k r _ h1 h2 ⟨GrowX.set rfl hp (fun _ z => by cases z) (fun _ z => by unfold CodeO at z; cases z) (fun _ z => by cases z) (fun _ _ z => by cases z), a / mm, bb, c, d, by rw [upd_same]; rfl, Int.ediv_nonneg ha (by omega), ?_, hb, by omega, hd⟩
    have q1 : 0 ≤ a / mm := Int.ediv_nonneg ha (by omega)
    have q2 : a / mm ≤ a := Int.ediv_le_self _ ha
    omega
  · walk_at "V"
    have hbits : Builtin.Int.intBits mm ≤ 200 := PyProof.Rows.intBits_le (by omega)
    refine s_forR hA (pg_nl hA n4) hr rfl ?_
    walk_at "V"
    refine g_bits ?_
    walk_at "V"
    refine g_divI (by omega) ?_
    walk_at "V"
    have e : (0 : Int) ≤ (Builtin.Int.intBits mm : Int) / 28 ∧ (Builtin.Int.intBits mm : Int) / 28 ≤ 7 := by omega
    refine ⟨by omega, by omega, fun i σ H' => ∃ c' g : Int, σ = [some (.ref p), some (.int mm), none, some (.int g), σ.getD 4 none] ∧ H' = upd H p (.lst [.int a, .int bb, .int c', .int d]) ∧ 0 ≤ g ∧ 0 ≤ c' ∧ c' ≤ n + i, ?_, ?_, ?_⟩
    · refine ⟨c, 0, rfl, ?_, by omega, by omega, by omega⟩
      funext q
      by_cases z : q = p
      · rw [z, upd_same, hp]
      · rw [upd_ne z]
    · rintro i σ H' hi ⟨c', g, es, rfl, g0, c0, c1⟩
      rw [es]
      walk_at "B"
      walk_at "V"
      refine g_ixL hA (SqL.of upd_same) (atI_at (j := 2) rfl) ?_
      walk_at "V"
      refine ⟨p, _, _, 2, rfl, rfl, upd_same, rfl, ?_⟩
      rw [upd_upd]
      walk_at "V"
      refine g_mulI (.inr (by omega)) ?_
      walk_at "V"
      refine w_call hA M (by omega) rfl ?_
      walk_at "V"
      refine g_ixL hA (SqL.of upd_same) (atI_at (j := 1) rfl) ?_
      walk_at "V"
      refine g_ixL hA (SqL.of upd_same) (atI_at (j := 2) rfl) ?_
      walk_at "V"
      refine g_ixL hA (SqL.of upd_same) (atI_at (j := 3) rfl) ?_
      walk_at "V"
      refine ⟨bb, c' + 1, d, rfl, hb, by omega, by omega, fun r r0 r1 => ?_⟩
      walk_at "V"
      exact ⟨c' + 1, g * 2147483587 + r, rfl, rfl, by omega, by omega, by omega⟩
    · rintro σ H' ⟨c', g, es, rfl, g0, c0, c1⟩
      rw [es]
      walk_at "B"
      walk_at "V"
      refine g_modB hm fun r r0 r1 => ?_
      refine k r _ r0 r1 ⟨GrowX.set rfl hp (fun _ z => by cases z) (fun _ z => by unfold CodeO at z; cases z) (fun _ z => by cases z) (fun _ _ z => by cases z), a, bb, c', d, upd_same, ha, ha2, hb, by omega, hd⟩
def sp_purse (m : Md) : Sp := fun vs H Q _ => ∃ (a : Addr) (ns : List Int) (i : Int), vs = [.ref a, .int i] ∧ SqL m.K H a (ns.map V.int) ∧ 0 ≤ i ∧ i < 1000 ∧ ∀ p H', Grow m.T H H' → New H p → Purse H' p 0 → Q (.ref p) H'
theorem big_mod (z : Int) : 0 ≤ z % ((10 : Int) ^ (60 : Int).toNat) ^ (8 : Int).toNat ∧ (z % ((10 : Int) ^ (60 : Int).toNat) ^ (8 : Int).toNat).natAbs < 2 ^ 1600 := by
  have hp : (0 : Int) < ((10 : Int) ^ (60 : Int).toNat) ^ (8 : Int).toNat := by decide +kernel
  have h1 := Int.emod_nonneg z (show ((10 : Int) ^ (60 : Int).toNat) ^ (8 : Int).toNat ≠ 0 by omega)
  have h2 := Int.emod_lt_of_pos z hp
  have h3 : ((10 : Int) ^ (60 : Int).toNat) ^ (8 : Int).toNat < 2 ^ 1600 := by decide +kernel
  refine ⟨h1, ?_⟩
  have h4 : z % ((10 : Int) ^ (60 : Int).toNat) ^ (8 : Int).toNat < 2 ^ 1600 := Int.lt_trans h2 h3
  omega
theorem c_purse {m : Md} {f : Addr} {fd : FuncData} (F : C8.Def m.K m.mg "_law_purse" st_purse f fd) (b : L2.Binds m.K fd ps_purse []) (hsum : m.mg "sum" = none) (hmax : m.mg "max" = none) : Cal m 1 "_law_purse" (sp_purse m) := by
  refine cal_of F b sc_purse (fun vs H Q E h => by obtain ⟨_, _, _, rfl, _⟩ := h; rfl) fun X vs H Q E hA h => ?_
  obtain ⟨a, ns, i, rfl, hs, hi, hi2, k⟩ := h
  obtain ⟨n0, n1, n2⟩ := nv_purse
  walk_at "B"
  walk_at "V"
  refine g_blt hA hsum rfl bt_sum ?_
  walk_at "V"
  refine w_slice hA ?_
  walk_at "V"
  refine ⟨a, _, rfl, hs, fun p hp => ?_⟩
  walk_at "V"
  obtain ⟨ys, ey, _⟩ := cutV_map V.int ns (some i) (some (i + 1))
  refine g_sum (ns := ys) hA (SqL.of (by rw [← ey]; exact upd_same)) ?_
  generalize ys.sum = z
  walk_at "V"
  refine g_blt hA hmax rfl bt_max ?_
  walk_at "V"
  refine g_powI ⟨by omega, by omega, by omega⟩ ?_
  walk_at "V"
  refine g_max2 hA ?_
  walk_at "V"
  refine g_powI ⟨by omega, by omega, by omega⟩ ?_
  walk_at "V"
  refine g_powW (by omega) (by have := PyProof.Rows.intBits_le (show ((10 : Int) ^ (60 : Int).toNat).natAbs < 2 ^ 200 by decide +kernel); omega) ?_
  walk_at "V"
  refine g_modI (by decide +kernel) ?_
  walk_at "V"
  refine g_modB (by omega) fun r h1 h2 => ?_
  walk_at "V"
  refine ⟨by show 4 ≤ sizeLine; decide, fun d hd => ?_⟩
  obtain ⟨g1, g2⟩ := big_mod (if 0 > z - 10 ^ (18 : Int).toNat then 0 else z - 10 ^ (18 : Int).toNat)
  refine k d _ ((Grow.new hp).trans (Grow.new hd)) (NdefX.upd_none hd) ⟨_, r, 0, i, upd_same, g1, g2, ⟨h1, h2⟩, by omega, ⟨hi, hi2⟩⟩
def sp_one_of (m : Md) : Sp := fun vs H Q _ => ∃ (p : Addr) (n : Nat) (a : Addr) (xs : List V), vs = [.ref p, .ref a] ∧ Purse H p n ∧ n ≤ 2 ^ 39 ∧ SqL m.K H a xs ∧ a ≠ p ∧ 0 < xs.length ∧ xs.length < 1000000 ∧
  ∀ (j : Nat) (v : V) (H' : Hp), xs[j]? = some v → Drew m p n 8 H H' → Q v H'
theorem c_one_of {m : Md} {f : Addr} {fd : FuncData} (F : C8.Def m.K m.mg "_law_one_of" st_one_of f fd) (b : L2.Binds m.K fd ps_one_of []) (hlen : m.mg "len" = none) (D : Cal m 2 "_law_draw" (sp_draw m)) : Cal m 3 "_law_one_of" (sp_one_of m) := by
  refine cal_of F b sc_one_of (fun vs H Q E h => by obtain ⟨_, _, _, _, rfl, _⟩ := h; rfl) fun X vs H Q E hA h => ?_
  obtain ⟨p, n, a, xs, rfl, hp, hn, hs, hne, hl, hl2, k⟩ := h
  obtain ⟨n0, n1⟩ := nv_one_of
  walk_at "B"
  walk_at "V"
  refine w_call hA D (by omega) rfl ?_
  walk_at "V"
  refine g_blt hA hlen rfl bt_len ?_
  walk_at "V"
  refine g_lenL hA hs ?_
  walk_at "V"
  refine ⟨p, n, _, rfl, hp, hn, by omega, by omega, fun r H' r0 r1 dr => ?_⟩
  walk_at "V"
  have hr : (r.toNat : Int) = r := by omega
  rw [← hr]
  refine g_ixL hA (dr.grow.seqL hs hne) (atI_at (List.getElem?_eq_getElem (show r.toNat < xs.length by omega))) ?_
  exact k r.toNat _ H' (List.getElem?_eq_getElem (by omega)) dr
def sp_word (m : Md) : Sp := fun vs H Q _ => ∃ (p : Addr) (n : Nat), vs = [.ref p] ∧ Purse H p n ∧ n ≤ 2 ^ 38 ∧ ∀ (z : Str) (H' : Hp), IsName z → Drew m p n 72 H H' → Q (.str z) H'
theorem abc_at (r : Nat) (h : r < 26) : (("abcdefghijklmnopqrstuvwxyz" : Str).cps.toList)[r]? = some (97 + r) := by
  have e : ("abcdefghijklmnopqrstuvwxyz" : Str).cps.toList = (List.range 26).map (97 + ·) := by decide +kernel
  rw [e, List.getElem?_map, List.getElem?_range h]
  rfl
theorem c_word {m : Md} {f : Addr} {fd : FuncData} (F : C8.Def m.K m.mg "_law_word" st_word f fd) (b : L2.Binds m.K fd ps_word []) (hr : m.mg "range" = none) (D : Cal m 2 "_law_draw" (sp_draw m)) : Cal m 3 "_law_word" (sp_word m) := by
  refine cal_of F b sc_word (fun vs H Q E h => by obtain ⟨_, _, rfl, _⟩ := h; rfl) fun X vs H Q E hA h => ?_
  obtain ⟨p, n, rfl, hp, hn, k⟩ := h
  obtain ⟨n0, n1, n2⟩ := nv_word
  walk_at "B"
  walk_at "V"
  refine s_forR hA (pg_nl hA n2) hr rfl ?_
  walk_at "V"
  refine w_call hA D (by omega) rfl ?_
  walk_at "V"
  refine ⟨p, n, _, rfl, hp, by omega, by omega, by omega, fun r H1 r0 r1 d1 => ?_⟩
  walk_at "V"
  refine ⟨by omega, by omega, fun i σ H' => ∃ z : Str, σ = [some (.ref p), some (.str z), σ.getD 2 none] ∧ Drew m p n (8 + 8 * i) H H' ∧ z.length = i ∧ ∀ c ∈ z.cps.toList, 97 ≤ c ∧ c ≤ 122, ?_, ?_, ?_⟩
  · exact ⟨"", rfl, d1, rfl, fun c hc => by rw [show ("" : Str).cps.toList = [] from by decide +kernel] at hc; cases hc⟩
  · rintro i σ H' hi ⟨z, es, dr, zl, zc⟩
    rw [es]
    walk_at "B"
    walk_at "V"
    refine w_call hA D (by omega) rfl ?_
    walk_at "V"
    refine ⟨p, _, _, rfl, dr.purse, by omega, by omega, by omega, fun r2 H2 q0 q1 d2 => ?_⟩
    have hr2 : (r2.toNat : Int) = r2 := by omega
    rw [← hr2]
    refine g_ixS (by decide) (atI_at (abc_at r2.toNat (by omega))) ?_
    refine g_addS (by rw [zl]; show i + 1 ≤ sizeLine; rw [sizeLine_eq]; omega) ?_
    walk_at "V"
    refine ⟨(dr.trans d2), ?_, fun c hc => ?_⟩
    · rw [Str.length_append, zl]; rfl
    · rcases List.mem_append.1 ((show (z ++ (⟨#[97 + r2.toNat]⟩ : Str)).cps.toList = z.cps.toList ++ [97 + r2.toNat] from by show (z.cps ++ #[97 + r2.toNat]).toList = _; simp) ▸ hc) with h | h
      · exact zc c h
      · have := List.mem_singleton.1 h; omega
  · rintro σ H' ⟨z, es, dr, zl, zc⟩
    rw [es]
    walk_at "B"
    walk_at "V"
    exact k z H' ⟨by omega, by omega, zc⟩ (dr.mono (by omega))
/-- the purses of a list: apart, all new, each fresh -/
structure Purses (m : Md) (H H' : Hp) (r : Addr) (ps : List Addr) : Prop where
  grow : Grow m.T H H'
  isn : New H r
  seq : SqL m.K H' r (ps.map V.ref)
  nd : (r :: ps).Nodup
  new : ∀ p ∈ ps, New H p
  purse : ∀ p ∈ ps, Purse H' p 0
def sp_purses (m : Md) : Sp := fun vs H Q _ => ∃ (a : Addr) (ns : List Int) (few : Int), vs = [.ref a, .int few] ∧ SqL m.K H a (ns.map V.int) ∧ ns.length < 1000 ∧ 0 ≤ few ∧ few < 1000 ∧
  ∀ r ps H', Purses m H H' r ps → (ps.length : Int) = max 1 (min few ns.length) → Q (.ref r) H'
theorem c_purses {m : Md} {f : Addr} {fd : FuncData} (F : C8.Def m.K m.mg "_law_purses" st_purses f fd) (b : L2.Binds m.K fd ps_purses []) (hr : m.mg "range" = none) (hmax : m.mg "max" = none) (hmin : m.mg "min" = none) (hlen : m.mg "len" = none) (D1 : Cal m 1 "_law_purse" (sp_purse m)) : Cal m 2 "_law_purses" (sp_purses m) := by
  refine cal_of F b sc_purses (fun vs H Q E h => by obtain ⟨_, _, _, rfl, _⟩ := h; rfl) fun X vs H Q E hA h => ?_
  obtain ⟨a, ns, few, rfl, hs, hn, hf, hf2, k⟩ := h
  obtain ⟨n1, n0⟩ := nv_purses
  walk_at "B"
  walk_at "V"
  refine w_lcR hA hr rfl (by decide +kernel) (i := 2) ⟨rfl, rfl⟩ ?_
  refine g_blt hA hmax rfl bt_max ?_
  walk_at "V"
  refine g_blt hA hmin rfl bt_min ?_
  walk_at "V"
  refine g_blt hA hlen rfl bt_len ?_
  walk_at "V"
  refine g_lenL hA hs ?_
  walk_at "V"
  refine g_min2 hA ?_
  walk_at "V"
  refine g_max2 hA ?_
  rw [List.length_map]
  have e : (if (if (ns.length : Int) < few then (ns.length : Int) else few) > 1 then (if (ns.length : Int) < few then (ns.length : Int) else few) else 1) = max 1 (min few ns.length) := by omega
  rw [e]
  walk_at "V"
  refine ⟨by omega, by omega, fun D hD => ⟨fun i H' => ∃ ps : List Addr, ps.length = i ∧ Purses m H H' D ps ∧ H' D = some (.lst (ps.map V.ref)), ?_, ?_, ?_⟩⟩
  · exact ⟨[], rfl, ⟨Grow.new hD, hD, SqL.of upd_same, by simp, by simp, by simp⟩, upd_same⟩
  · rintro j H' hj ⟨ps, el, P, hl⟩ X' hX'
    have c0 := nc_of hX' 0 "_law_script"
    have c2 := nl_of hX' 2 "_law_at"
    refine w_call hX' D1 (by omega) rfl ?_
    walk_at "V"
    refine ⟨a, ns, j, rfl, P.grow.seqL hs (fun z => z), by omega, by omega, fun p H2 g np pp => ?_⟩
    have hD2 := g.extN D _ hl (fun _ z => by cases z)
    have hne : D ≠ p := (New.ne np hl).symm
    refine ⟨_, hD2, by rw [List.length_map, sizeLine_eq]; omega, ps ++ [p], by simp [el], ?_, by rw [upd_same]; simp⟩
    have gX := GrowX.lst (T := m.T) (ys := ps.map V.ref ++ [V.ref p]) hD2
    have gr := P.grow.intoNew (g.to.trans gX) (fun c z => by rw [z]; exact P.isn)
    refine ⟨gr, P.isn, by rw [List.map_append]; exact SqL.of upd_same, ?_, ?_, ?_⟩
    · have := P.nd
      have hp : p ∉ ps := fun z => by
        obtain ⟨_, e⟩ := (P.purse p z).at_
        rw [np] at e; cases e
      rw [List.nodup_cons] at this ⊢
      refine ⟨fun z => ?_, List.nodup_append.2 ⟨this.2, by simp, fun x hx y hy => ?_⟩⟩
      · rcases List.mem_append.1 z with z | z
        · exact this.1 z
        · exact hne (List.mem_singleton.1 z)
      · rw [List.mem_singleton.1 hy]; exact fun z => hp (z ▸ hx)
    · intro x hx
      rcases List.mem_append.1 hx with z | z
      · exact P.new x z
      · rw [List.mem_singleton.1 z]; exact P.grow.keep _ np
    · intro x hx
      rcases List.mem_append.1 hx with z | z
      · have nx : x ≠ D := fun w => (List.nodup_cons.1 P.nd).1 (w ▸ z)
        exact ((P.purse x z).new g).x gX nx
      · rw [List.mem_singleton.1 z]; exact pp.x gX hne.symm
  · rintro H' ⟨ps, el, P, hl⟩
    exact k D ps H' P (by omega)
def sp_shuffled (m : Md) : Sp := fun vs H Q _ => ∃ (p : Addr) (n : Nat) (a : Addr) (xs : List V), vs = [.ref p, .ref a] ∧ Purse H p n ∧ n ≤ 2 ^ 38 ∧ SqL m.K H a xs ∧ a ≠ p ∧ xs.length < 1000 ∧
  ∀ (r : Addr) (ys : List V) (H' : Hp), ys.Perm xs → Drew m p n (8 * xs.length) H H' → New H r → H' r = some (.lst ys) → Q (.ref r) H'
theorem c_shuffled {m : Md} {f : Addr} {fd : FuncData} (F : C8.Def m.K m.mg "_law_shuffled" st_shuffled f fd) (b : L2.Binds m.K fd ps_shuffled []) (hlen : m.mg "len" = none) (D : Cal m 2 "_law_draw" (sp_draw m)) : Cal m 3 "_law_shuffled" (sp_shuffled m) := by
  refine cal_of F b sc_shuffled (fun vs H Q E h => by obtain ⟨_, _, _, _, rfl, _⟩ := h; rfl) fun X vs H Q E hA h => ?_
  obtain ⟨p, n, a, xs, rfl, hp, hn, hs, hne, hl, k⟩ := h
  obtain ⟨n0, n1, n2, n3⟩ := nv_shuffled
  walk_at "B"
  walk_at "V"
  refine ⟨by decide, fun r hr => ?_⟩
  walk_at "V"
  refine s_forL hA (pg_nl hA n3) ?_
  walk_at "V"
  have hrp : r ≠ p := fun z => by obtain ⟨_, e⟩ := hp.at_; rw [← z, hr] at e; cases e
  refine ⟨a, xs, rfl, GrowX.seqL (Grow.new (T := m.T) hr) hs (fun z => z), fun i σ H' => ∃ ys, σ = [some (.ref p), some (.ref a), some (.ref r), σ.getD 3 none] ∧ ys.Perm (xs.take i) ∧ Drew m p n (8 * i) H H' ∧ H' r = some (.lst ys), ?_, ?_, ?_, ?_⟩
  · exact ⟨[], rfl, by simp, ⟨(Grow.new hr).to, hp.new (Grow.new (T := m.T) hr)⟩, upd_same⟩
  · rintro i σ H' hi ⟨ys, es, pm, dr, hy⟩
    exact dr.grow.seqL hs hne
  · rintro i x σ H' hx ⟨ys, es, pm, dr, hy⟩
    have hi : i < xs.length := (List.getElem?_eq_some_iff.1 hx).1
    have hyl : ys.length = i := by rw [pm.length_eq, List.length_take]; omega
    rw [es]
    walk_at "B"
    walk_at "V"
    refine g_insert ?_
    walk_at "V"
    refine ⟨tyL hy, ?_⟩
    walk_at "V"
    refine w_call hA D (by omega) rfl ?_
    walk_at "V"
    refine g_blt hA hlen rfl bt_len ?_
    walk_at "V"
    refine g_lenL hA (SqL.of hy) ?_
    walk_at "V"
    refine ⟨p, _, _, rfl, dr.purse, by omega, by omega, by omega, fun z H2 z0 z1 d2 => ?_⟩
    walk_at "V"
    have hy2 : H2 r = some (.lst ys) := d2.grow.ext _ _ hrp hy (fun _ z => by cases z)
    refine ⟨r, ys, z, x, rfl, rfl, hy2, by rw [sizeLine_eq]; omega, z0, by omega, ?_⟩
    walk_at "V"
    refine ⟨_, rfl, ?_, ?_, upd_same⟩
    · have e1 : xs.take (i + 1) = xs.take i ++ [x] := by rw [List.take_add_one, hx]; rfl
      rw [e1, List.append_assoc]
      show (ys.take z.toNat ++ (x :: ys.drop z.toNat)).Perm _
      refine (List.perm_middle).trans ?_
      rw [List.take_append_drop]
      exact (List.Perm.cons x pm).trans (List.perm_append_singleton x _).symm
    · have g := GrowX.lst (T := m.T) (ys := ys.take z.toNat ++ [x] ++ ys.drop z.toNat) hy2
      have d3 := dr.trans d2
      exact ⟨d3.grow.into g fun c w => .inl (by rw [w]; exact hr), d3.purse.x g (fun w => hrp w.symm)⟩
  · rintro σ H' ⟨ys, es, pm, dr, hy⟩
    rw [es]
    walk_at "B"
    walk_at "V"
    rw [List.take_length] at pm
    exact k r ys H' pm dr hr hy
/-- the names of this law: different ones, each a name; as many as asked for, but at most 8 -/
structure Names (zs : List Str) : Prop where
  nd : zs.Nodup
  isn : ∀ z ∈ zs, IsName z
def eight : List Str := ["ann", "a", "ab", "b", "first", "of", "end", "zzzzzzzz"]
theorem eight_ok : Names eight := by
  refine ⟨by decide +kernel, ?_⟩
  unfold eight IsName
  decide +kernel
theorem inV_str (z : Str) (zs : List Str) : inV (.str z) (zs.map V.str) = decide (z ∈ zs) := by
  unfold inV
  rw [List.any_map, Bool.eq_iff_iff, List.any_eq_true, decide_eq_true_eq]
  constructor
  · rintro ⟨y, hy, e⟩
    have : y = z := by simpa [L2.eqV] using e
    exact this ▸ hy
  · exact fun h => ⟨z, h, by simp [L2.eqV]⟩
theorem perm_str {ys : List V} {zs : List Str} (h : ys.Perm (zs.map V.str)) : ∃ ws : List Str, ys = ws.map V.str ∧ ws.Perm zs := by
  refine ⟨ys.map fun v => match v with | .str z => z | _ => "", ?_, ?_⟩
  · rw [List.map_map]
    refine (List.map_id ys).symm.trans (List.map_congr_left fun v hv => ?_)
    obtain ⟨z, _, e⟩ := List.mem_map.1 (h.mem_iff.1 hv)
    rw [← e]; rfl
  · have := h.map fun v => match v with | .str z => z | _ => ("" : Str)
    rw [List.map_map] at this
    refine this.trans ?_
    rw [show (fun v => match v with | .str z => z | _ => ("" : Str)) ∘ V.str = id from rfl, List.map_id]
theorem cut_to {xs : List V} {k : Nat} (h : (k : Int) < 1000000) : cutV xs none (some (k : Int)) = xs.take k := by
  unfold cutV
  rw [HT.sIx_none, HT.sIx_nat, List.drop_zero, Nat.sub_zero]
  exact PySem.W.kmk_take_min _ _
def sp_names (m : Md) : Sp := fun vs H Q _ => ∃ (p : Addr) (n : Nat) (k : Nat), vs = [.ref p, .int k] ∧ Purse H p n ∧ n ≤ 2 ^ 37 ∧ k ≤ 8 ∧
  ∀ (r : Addr) (zs : List Str) (H' : Hp), Names zs → zs.length = k → Drew m p n 160 H H' → New H r → H' r = some (.lst (zs.map V.str)) → Q (.ref r) H'
theorem c_names {m : Md} {f : Addr} {fd : FuncData} (F : C8.Def m.K m.mg "_law_names" st_names f fd) (b : L2.Binds m.K fd ps_names []) (W : Cal m 3 "_law_word" (sp_word m)) (S : Cal m 3 "_law_shuffled" (sp_shuffled m)) : Cal m 4 "_law_names" (sp_names m) := by
  refine cal_ofM F b sc_names (fun vs H Q E h => by obtain ⟨_, _, _, rfl, _⟩ := h; rfl) fun X vs H Q E hA hM h => ?_
  obtain ⟨p, n, k0, rfl, hp, hn, hk, k⟩ := h
  obtain ⟨n0, n1, n2, n3⟩ := nv_names
  walk_at "B"
  refine s_two hA (pg_nc hA n3 hM.fn) (pg_nl hA n2) ?_
  walk_at "V"
  refine ⟨by decide, fun l hl => ?_⟩
  have g1 := Grow.new (T := m.T) (o := .lst (eight.map V.str)) hl
  walk_at "V"
  refine w_call hA W (by omega) rfl ?_
  walk_at "V"
  refine ⟨p, n, rfl, hp.new g1, by omega, fun z H2 hz d2 => ?_⟩
  walk_at "V"
  refine ⟨by walk_at "S", fun q hq => ⟨q, _, _, rfl, SqT.of upd_same, ?_⟩⟩
  have g3 := Grow.new (T := m.T) (o := .tup [.ref l, .str z]) hq
  generalize eH3 : upd H2 q (.tup [.ref l, .str z]) = H3 at g3 ⊢
  have d3 : Drew m p n 72 H H3 := (Drew.pre g1 d2).post g3
  have hl3 : H3 l = some (.lst (eight.map V.str)) := g3.ext _ _ (fun z => z) (d2.grow.ext _ _ (fun w => by rw [w] at hl; obtain ⟨_, e⟩ := hp.at_; rw [hl] at e; cases e) upd_same (fun _ z => by cases z)) (fun _ z => by cases z)
  walk_at "B"
  walk_at "V"
  refine w_sliceTo hA ?_
  refine w_call hA S (by omega) rfl ?_
  walk_at "V"
  refine w_lcLi hA (by decide +kernel) (i := 4) ⟨rfl, rfl⟩ ?_
  walk_at "V"
  refine ⟨by walk_at "S", fun q1 hq1 => ⟨q1, _, rfl, SqL.of upd_same, fun D hD => ?_⟩⟩
  have hDq : D ≠ q1 := New.ne hD upd_same
  have hD3 : New H3 D := by rw [upd_ne hDq] at hD; exact hD
  refine ⟨fun j H' => Grow m.T H3 H' ∧ H' D = some (.lst ((if j = 0 ∨ z ∈ eight then [] else [z]).map V.str)) ∧ H' q1 = some (.lst [.str z]), ?_, ?_, ?_, ?_⟩
  · exact ⟨(Grow.new hq1).trans (Grow.new hD), upd_same, by rw [upd_ne hDq.symm]; exact upd_same⟩
  · rintro j H' _ ⟨_, _, h1⟩
    exact SqL.of h1
  · rintro j x H' hx ⟨g, hd, h1⟩ X' hX'
    have hj : j = 0 := by
      have := (List.getElem?_eq_some_iff.1 hx).1
      simp at this; exact this
    subst hj
    cases hx
    have c3 := nc_of hX' 3 "_law_some"
    have c4 := nl_of hX' 4 "_law_word_here"
    walk_at "V"
    refine g_notInF hX' (.inl (GrowX.seqL g (SqL.of hl3) (fun w => w))) rfl (by decide +kernel) ?_
    have e0 : inV (V.str z) (eight.map V.str) = decide (z ∈ eight) := inV_str z eight
    rw [e0]
    walk_at "V"
    refine ite2 (fun h0 => ?_) fun h0 => ?_
    · intro X2 hX2
      have c4 := nl_of hX2 4 "_law_word_here"
      walk_at "V"
      have hd0 : H' D = some (.lst []) := by simpa using hd
      refine ⟨_, hd0, by walk_at "S", g.intoNew (GrowX.lst hd0) (fun c w => by rw [w]; exact hD3), ?_, ?_⟩
      · have : z ∉ eight := by simpa using h0
        rw [upd_same, if_neg (by simp [this])]; rfl
      · rw [upd_ne hDq.symm]; exact h1
    · have : z ∈ eight := by simpa using h0
      exact ⟨g, by rw [if_pos (.inr this)]; simpa using hd, h1⟩
  · rintro H4 ⟨g4, hd, h1⟩
    generalize ht : (if [V.str z].length = 0 ∨ z ∈ eight then [] else [z] : List Str) = tl at hd
    have hN : Names (eight ++ tl) ∧ tl.length ≤ 1 := by
      have e8 := eight_ok
      rw [← ht]
      by_cases w : z ∈ eight
      · rw [if_pos (.inr w), List.append_nil]; exact ⟨e8, by decide⟩
      · rw [if_neg (by simp [w])]
        refine ⟨⟨List.nodup_append.2 ⟨e8.nd, by simp, fun x hx y hy => ?_⟩, fun x hx => ?_⟩, Nat.le_refl 1⟩
        · rw [List.mem_singleton.1 hy]; exact fun e => w (e ▸ hx)
        · rcases List.mem_append.1 hx with h | h
          · exact e8.isn x h
          · rw [List.mem_singleton.1 h]; exact hz
    have h8 : eight.length = 8 := rfl
    refine g_cat (g4.extN l _ hl3 (fun _ w => by cases w)) hd ?_ ?_
    · rw [List.length_map, List.length_map, sizeLine_eq]; omega
    intro r hr
    rw [← List.map_append]
    generalize hzs : eight ++ tl = zs at hN
    have hzl : 8 ≤ zs.length ∧ zs.length ≤ 9 := by rw [← hzs, List.length_append]; omega
    have d4 := (d3.post g4).post (Grow.new (o := .lst (zs.map V.str)) hr)
    walk_at "V"
    have hrp : r ≠ p := fun w => by obtain ⟨_, e⟩ := (d3.post g4).purse.at_; rw [← w, hr] at e; cases e
    refine ⟨p, _, _, _, rfl, d4.purse, by omega, SqL.of upd_same, hrp, by rw [List.length_map]; omega, ?_⟩
    intro r2 ys H5 pm d5 nr2 hy
    obtain ⟨ws, e1, pw⟩ : ∃ ws : List Str, ys = ws.map V.str ∧ ws.Perm zs := perm_str pm
    subst e1
    walk_at "V"
    refine ⟨r2, _, rfl, SqL.of hy, fun q9 hq9 => ?_⟩
    have : cutV (ws.map V.str) none (some (k0 : Int)) = (ws.take k0).map V.str := by
      rw [cut_to (by omega), List.map_take]
    rw [this]
    have d6 := (d4.trans d5).post (Grow.new (o := .lst ((ws.take k0).map V.str)) hq9)
    refine k q9 (ws.take k0) _ ⟨(hN.1.nd.perm pw.symm).sublist (List.take_sublist _ _), fun x hx => hN.1.isn x (pw.mem_iff.1 (List.mem_of_mem_take hx))⟩ ?_ (d6.mono ?_) ?_ upd_same
    · rw [List.length_take, pw.length_eq]; omega
    · rw [List.length_map]; omega
    · exact (d4.trans d5).grow.keep _ hq9
def sp_swait (m : Md) : Sp := fun vs H Q _ => ∃ (p : Addr) (n : Nat), vs = [.ref p] ∧ Purse H p n ∧ n ≤ 2 ^ 38 ∧ ∀ (w : Int) (H' : Hp), -1 ≤ w → w ≤ 3 → Drew m p n 16 H H' → Q (.int w) H'
theorem c_small_wait {m : Md} {f : Addr} {fd : FuncData} (F : C8.Def m.K m.mg "_law_small_wait" st_small_wait f fd) (b : L2.Binds m.K fd ps_small_wait []) (D : Cal m 2 "_law_draw" (sp_draw m)) : Cal m 3 "_law_small_wait" (sp_swait m) := by
  refine cal_of F b sc_small_wait (fun vs H Q E h => by obtain ⟨_, _, rfl, _⟩ := h; rfl) fun X vs H Q E hA h => ?_
  obtain ⟨p, n, rfl, hp, hn, k⟩ := h
  have n0 := nv_small_wait
  walk_at "B"
  walk_at "V"
  refine w_call hA D (by omega) rfl ?_
  walk_at "V"
  refine ⟨p, n, _, rfl, hp, by omega, by omega, by omega, fun r1 H1 q1 q2 d1 => ?_⟩
  refine w_call hA D (by omega) rfl ?_
  walk_at "V"
  refine ⟨p, _, _, rfl, d1.purse, by omega, by omega, by omega, fun r2 H2 q3 q4 d2 => ?_⟩
  walk_at "V"
  exact k _ _ (by omega) (by omega) (d1.trans d2)
def sp_wait (m : Md) : Sp := fun vs H Q _ => ∃ (p : Addr) (n : Nat), vs = [.ref p] ∧ Purse H p n ∧ n ≤ 2 ^ 38 ∧ ∀ (w : Int) (H' : Hp), -100000000000 ≤ w → w ≤ 200000000000 → Drew m p n 40 H H' → Q (.int w) H'
theorem c_wait {m : Md} {f : Addr} {fd : FuncData} (F : C8.Def m.K m.mg "_law_wait" st_wait f fd) (b : L2.Binds m.K fd ps_wait []) (D : Cal m 2 "_law_draw" (sp_draw m)) (O : Cal m 3 "_law_one_of" (sp_one_of m)) : Cal m 4 "_law_wait" (sp_wait m) := by
  refine cal_of F b sc_wait (fun vs H Q E h => by obtain ⟨_, _, rfl, _⟩ := h; rfl) fun X vs H Q E hA h => ?_
  obtain ⟨p, n, rfl, hp, hn, k⟩ := h
  obtain ⟨n0, n1⟩ := nv_wait
  walk_at "B"
  walk_at "V"
  refine w_call hA D (by omega) rfl ?_
  walk_at "V"
  refine ⟨p, n, _, rfl, hp, by omega, by omega, by omega, fun r1 H1 q1 q2 d1 => ?_⟩
  walk_at "V"
  refine ⟨by walk_at "S", fun l1 hl1 => ?_⟩
  have e1 := d1.post (Grow.new (o := .lst [.int 0, .int 0, .int 1, .int 2, .int 3, .int (-1), .int (-2), .int (r1 - 9)]) hl1)
  walk_at "V"
  refine w_call hA D (by omega) rfl ?_
  walk_at "V"
  refine g_powI ⟨by omega, by omega, by omega⟩ ?_
  rw [show ((10 : Int) ^ (9 : Int).toNat) = 1000000000 from by decide +kernel]
  walk_at "V"
  have hlp : l1 ≠ p := fun w => by obtain ⟨_, e⟩ := d1.purse.at_; rw [← w, hl1] at e; cases e
  refine ⟨p, _, _, rfl, e1.purse, by omega, by omega, by omega, fun r2 H2 q3 q4 d2 => ?_⟩
  walk_at "V"
  refine g_powI ⟨by omega, by omega, by omega⟩ ?_
  rw [show ((10 : Int) ^ (8 : Int).toNat) = 100000000 from by decide +kernel]
  walk_at "V"
  refine g_powI ⟨by omega, by omega, by omega⟩ ?_
  rw [show ((10 : Int) ^ (11 : Int).toNat) = 100000000000 from by decide +kernel]
  walk_at "V"
  refine w_call hA D (by omega) rfl ?_
  walk_at "V"
  refine ⟨p, _, _, rfl, d2.purse, by omega, by omega, by omega, fun r3 H3 q5 q6 d3 => ?_⟩
  walk_at "V"
  have t3 := (e1.trans d2).trans d3
  have hl3 : H3 l1 = some (.lst [.int 0, .int 0, .int 1, .int 2, .int 3, .int (-1), .int (-2), .int (r1 - 9)]) := d3.grow.ext _ _ hlp (d2.grow.ext _ _ hlp upd_same (fun _ w => by cases w)) (fun _ w => by cases w)
  refine ⟨by walk_at "S", fun l2 hl2 => ?_⟩
  refine g_cat (by rw [upd_ne (New.ne hl2 hl3).symm]; exact hl3) upd_same (by walk_at "S") fun l3 hl4 => ?_
  generalize hvs : [V.int 0, .int 0, .int 1, .int 2, .int 3, .int (-1), .int (-2), .int (r1 - 9)] ++ [.int (r2 - 100000000), .int (100000000000 + r3)] = vs
  have t4 := (t3.post (Grow.new (o := .lst [.int (r2 - 100000000), .int (100000000000 + r3)]) hl2)).post (Grow.new (o := .lst vs) hl4)
  walk_at "V"
  refine w_call hA O (by omega) rfl ?_
  walk_at "V"
  refine w_sliceTo hA ?_
  walk_at "V"
  refine w_call hA D (by omega) rfl ?_
  walk_at "V"
  have hl3p : l3 ≠ p := fun w => by obtain ⟨_, e⟩ := (t3.post (Grow.new (o := .lst [.int (r2 - 100000000), .int (100000000000 + r3)]) hl2)).purse.at_; rw [← w, hl4] at e; cases e
  refine ⟨p, _, _, rfl, t4.purse, by omega, by omega, by omega, fun r4 H4 q7 q8 d4 => ?_⟩
  walk_at "V"
  refine ⟨l3, vs, rfl, SqL.of (d4.grow.ext _ _ hl3p upd_same (fun _ w => by cases w)), fun l5 hl5 => ?_⟩
  have hvl : vs.length = 10 := by rw [← hvs]; rfl
  have e4 : (7 + r4 : Int) = ((7 + r4).toNat : Nat) := by omega
  rw [e4, cut_to (by omega)]
  generalize (7 + r4).toNat = c4 at e4
  have t5 := (t4.trans d4).post (Grow.new (o := .lst (vs.take c4)) hl5)
  walk_at "V"
  have hl5p : l5 ≠ p := fun w => by obtain ⟨_, e⟩ := (t4.trans d4).purse.at_; rw [← w, hl5] at e; cases e
  refine ⟨p, _, l5, _, rfl, t5.purse, by omega, SqL.of upd_same, hl5p, by rw [List.length_take]; omega, by rw [List.length_take]; omega, fun j v H6 hv d6 => ?_⟩
  obtain ⟨w, rfl, w1, w2⟩ : ∃ w : Int, v = .int w ∧ -100000000000 ≤ w ∧ w ≤ 200000000000 := by
    have hm := List.mem_of_mem_take (List.mem_of_getElem? hv)
    rw [← hvs] at hm
    simp only [List.cons_append, List.nil_append, List.mem_cons, List.not_mem_nil, or_false] at hm
    rcases hm with h | h | h | h | h | h | h | h | h | h <;> exact ⟨_, h, by omega, by omega⟩
  exact k w H6 w1 w2 ((t5.trans d6).mono (by omega))
/-- a part of drawn names -/
def sp_part (m : Md) : Sp := fun vs H Q _ => ∃ (p : Addr) (n : Nat) (a h : Addr) (zs hs : List Str) (sm : Bool), vs = [.ref p, .ref a, .ref h, .bl sm] ∧ Purse H p n ∧ n ≤ 2 ^ 37 ∧
  SqL m.K H a (zs.map V.str) ∧ SqL m.K H h (hs.map V.str) ∧ a ≠ p ∧ h ≠ p ∧ 0 < zs.length ∧ zs.length < 1000 ∧ hs.length < 1000 ∧ (∀ z ∈ hs, IsName z) ∧
  ∀ (v : V) (w : Bool) (z : Str) (i : Int) (H' : Hp), (Tm.part w z i).ok 200000000000 zs hs → Da m.K (fun _ => False) H' v (Tm.part w z i).py → Drew m p n 72 H H' → Q v H'
theorem ne_nil {K : PySem.W.Frag} {H : Hp} {l r : Addr} {xs : List V} {ds : List PyData} (h : SqL K H l xs) (d : DaAll K Any H xs ds) (e : H r = some (.lst [])) : Dp K H (.ref l) (.list ds) ∧ Dp K H (.ref r) (.list []) := ⟨Dp.lst h (DaAll.dp ds _ d), Dp.lst (SqL.of e) .nil⟩
theorem strs_da {K : PySem.W.Frag} {A : Addr → Prop} {H : Hp} : ∀ zs : List Str, DaAll K A H (zs.map V.str) (zs.map PyData.str)
  | [] => .nil
  | z :: zs => .cons (.str z) (strs_da zs)
theorem strs_shaped {zs : List Str} (h : ∀ z ∈ zs, IsName z) : SeqAt.shaped (.list (zs.map PyData.str)) = true := by
  have h1 : PyData.canLayAll0 (zs.map PyData.str) = true := by
    induction zs with
    | nil => rfl
    | cons z zs ih =>
      have e : PyData.strOk z = true := by
        unfold PyData.strOk
        rw [Array.all_eq_true']
        intro c hc
        have := (h z (by simp)).2.2 c (by simpa using hc)
        simp; omega
      simp [PyData.canLayAll0, PyData.canLay0, e, ih fun y hy => h y (by simp [hy])]
  have h2 : PyData.depthAll (zs.map PyData.str) = 0 := by
    clear h h1
    induction zs with
    | nil => rfl
    | cons z zs ih => simp [PyData.depthAll, PyData.depth, ih]
  simp [SeqAt.shaped, PyData.canLay0, h1, PyData.depth, h2]
theorem eqv_nil (hs : List Str) : PyData.eqv (.list (hs.map PyData.str)) (.list []) = hs.isEmpty := by cases hs <;> rfl
theorem c_part {m : Md} {f : Addr} {fd : FuncData} (F : C8.Def m.K m.mg "_law_part" st_part f fd) (b : L2.Binds m.K fd ps_part []) (D : Cal m 2 "_law_draw" (sp_draw m)) (O : Cal m 3 "_law_one_of" (sp_one_of m)) (W : Cal m 4 "_law_wait" (sp_wait m)) (Ws : Cal m 3 "_law_small_wait" (sp_swait m)) : Cal m 5 "_law_part" (sp_part m) := by
  refine cal_of F b sc_part (fun vs H Q E h => by obtain ⟨_, _, _, _, _, _, _, rfl, _⟩ := h; rfl) fun X vs H Q E hA h => ?_
  obtain ⟨p, n, a, h, zs, hs, sm, rfl, hp, hn, ha, hh, hap, hhp, hz, hzl, hhl, hhn, k⟩ := h
  obtain ⟨n0, n1, n2, n3, n4⟩ := nv_part
  walk_at "B"
  walk_at "V"
  have key : ∀ (i : Int) (H1 : Hp), -100000000000 ≤ i → i ≤ 200000000000 → Drew m p n 40 H H1 → wB X (C8.fnBody st_part).tail { nx := fun _ H' => Q .non H', rt := Q } [some (.ref p), some (.ref a), some (.ref h), some (.bl sm), some (.int i)] H1 := by
    intro i H1 i0 i1 d1
    walk_at "B"
    walk_at "V"
    refine ⟨by walk_at "S", fun l hl => ?_⟩
    have hlp : l ≠ p := fun w => by obtain ⟨_, e⟩ := d1.purse.at_; rw [← w, hl] at e; cases e
    have d2 := d1.post (Grow.new (o := .lst []) hl)
    refine g_neD hA (Dp.lst (d2.grow.seqL hh hhp) (DaAll.dp _ _ (strs_da (A := Any) hs))) (Dp.lst (SqL.of upd_same) .nil) (strs_shaped hhn) rfl ?_
    rw [eqv_nil]
    walk_at "V"
    have done : ∀ (w : Bool) (z : Str) (H3 : Hp) (q : Addr) (T : Str), T = (if w = true then ("now" : Str) else ("of" : Str)) → (if w = true then z ∈ hs else z ∈ zs) → Drew m p n 72 H H3 → H3 q = none → Q (.ref q) (upd H3 q (.tup [.str T, .str z, .int i])) := by
      intro w z H3 q T eT hz d hq
      subst eT
      have g : Grow m.T H3 (upd H3 q (.tup [.str (if w = true then ("now" : Str) else ("of" : Str)), .str z, .int i])) := Grow.new hq
      exact k (.ref q) w z i _ ⟨hz, by omega, by omega⟩ (.tup (SqT.of upd_same) (.cons (.str _) (.cons (.str _) (.cons (.int _) .nil)))) (d.post g)
    have ofs : ∀ H3, Drew m p n 48 H H3 → wB X (C8.fnBody st_part).tail.tail { nx := fun _ H' => Q .non H', rt := Q } [some (.ref p), some (.ref a), some (.ref h), some (.bl sm), some (.int i)] H3 := by
      intro H3 d3
      walk_at "B"
      walk_at "V"
      refine w_call hA O (by omega) rfl ?_
      walk_at "V"
      refine ⟨p, _, a, _, rfl, d3.purse, by omega, d3.grow.seqL ha hap, hap, by rw [List.length_map]; omega, by rw [List.length_map]; omega, fun j v H4 hv d4 => ?_⟩
      rw [List.getElem?_map] at hv
      obtain ⟨z, hz2, rfl⟩ := Option.map_eq_some_iff.1 hv
      walk_at "V"
      exact ⟨by walk_at "S", fun q hq => done false z H4 q _ rfl (List.mem_of_getElem? hz2) ((d3.trans d4).mono (by omega)) hq⟩
    refine ite2 (fun h0 => ?_) fun h0 => ?_
    · walk_at "V"
      refine w_call hA D (by omega) rfl ?_
      walk_at "V"
      refine ⟨p, _, _, rfl, d2.purse, by omega, by omega, by omega, fun r H3 r0 r1 d3 => ?_⟩
      walk_at "V"
      have hpos : 0 < hs.length := by
        cases hs with
        | nil => simp at h0
        | cons _ _ => simp
      refine ite2 (fun h1 => ?_) fun h1 => ?_
      · walk_at "V"
        refine w_call hA O (by omega) rfl ?_
        walk_at "V"
        have d4 := d2.trans d3
        refine ⟨p, _, h, _, rfl, d4.purse, by omega, d4.grow.seqL hh hhp, hhp, by rw [List.length_map]; omega, by rw [List.length_map]; omega, fun j v H4 hv d5 => ?_⟩
        rw [List.getElem?_map] at hv
        obtain ⟨z, hz2, rfl⟩ := Option.map_eq_some_iff.1 hv
        walk_at "V"
        exact ⟨by walk_at "S", fun q hq => done true z H4 q _ rfl (List.mem_of_getElem? hz2) ((d4.trans d5).mono (by omega)) hq⟩
      · exact b_nil (ofs H3 (d2.trans d3))
    · show wB _ _ _ _ _
      exact b_nil (ofs _ (d2.mono (by omega)))
  refine ite2 (fun _ => ?_) fun _ => ?_
  · refine w_call hA Ws (by omega) rfl ?_
    walk_at "V"
    exact ⟨p, n, rfl, hp, by omega, fun i H1 i0 i1 d1 => key i H1 (by omega) (by omega) (d1.mono (by omega))⟩
  · refine w_call hA W (by omega) rfl ?_
    walk_at "V"
    exact ⟨p, n, rfl, hp, by omega, fun i H1 i0 i1 d1 => key i H1 i0 i1 d1⟩
def sp_term (m : Md) (N : Nat) : Sp := fun vs H Q _ => ∃ (p : Addr) (n : Nat) (a h : Addr) (zs hs : List Str) (c : Nat) (sm : Bool), vs = [.ref p, .ref a, .ref h, .int c, .bl sm] ∧ 1 ≤ c ∧ c ≤ N ∧ c ≤ 8 ∧ Purse H p n ∧ n + 400 * c ≤ 2 ^ 36 ∧
  SqL m.K H a (zs.map V.str) ∧ SqL m.K H h (hs.map V.str) ∧ a ≠ p ∧ h ≠ p ∧ 0 < zs.length ∧ zs.length < 1000 ∧ hs.length < 1000 ∧ (∀ z ∈ hs, IsName z) ∧
  ∀ (v : V) (t : Tm) (H' : Hp), t.ok 200000000000 zs hs → t.siz + 1 ≤ 2 * c → t.cnt ≤ c → Da m.K (Nw H H') H' v t.py → Drew m p n (400 * c - 200) H H' → Q v H'
theorem ixN_at {n j : Nat} (hj : j < n) : ixN n (j : Int) = some j := by
  unfold ixN
  rw [if_pos (by omega), if_pos (by omega)]
  simp
theorem sum_rep (q : Nat) : (List.replicate q 1).sum = q := by
  induction q with
  | zero => rfl
  | succ q ih => rw [List.replicate_succ, List.sum_cons, ih]; omega
theorem sum_set : ∀ {L : List Nat} {i x y : Nat}, L[i]? = some x → (L.set i y).sum + x = L.sum + y
  | [], i, _, _, h => by simp at h
  | a :: L, 0, x, y, h => by
    have : a = x := by simpa using h
    rw [List.set_cons_zero, List.sum_cons, List.sum_cons]; omega
  | a :: L, i + 1, x, y, h => by
    have := sum_set (L := L) (i := i) (x := x) (y := y) (by simpa using h)
    rw [List.set_cons_succ, List.sum_cons, List.sum_cons]; omega
theorem len_sum : ∀ {L : List Nat}, (∀ x ∈ L, 1 ≤ x) → L.length ≤ L.sum
  | [], _ => by simp
  | a :: L, h => by
    have := len_sum (L := L) fun x hx => h x (by simp [hx])
    have := h a (by simp)
    rw [List.length_cons, List.sum_cons]; omega
theorem le_sum : ∀ {L : List Nat} {x : Nat}, (∀ x ∈ L, 1 ≤ x) → x ∈ L → x + L.length ≤ L.sum + 1
  | [], _, _, h => by simp at h
  | a :: L, x, h, hx => by
    have h2 := len_sum (L := L) fun x hx => h x (by simp [hx])
    rw [List.length_cons, List.sum_cons]
    rcases List.mem_cons.1 hx with e | e
    · omega
    · have := le_sum (fun x hx => h x (by simp [hx])) e
      have := h a (by simp)
      omega
theorem sum_take {L : List Nat} {j x : Nat} (h : L[j]? = some x) : (L.take (j + 1)).sum = (L.take j).sum + x := by
  rw [List.take_add_one, h, List.sum_append]; simp
theorem sum_take_le (L : List Nat) (j : Nat) : (L.take j).sum ≤ L.sum := by
  have := congrArg List.sum (List.take_append_drop j L)
  rw [List.sum_append] at this; omega
theorem c_term {m : Md} {f : Addr} {fd : FuncData} (F : C8.Def m.K m.mg "_law_term" st_term f fd) (b : L2.Binds m.K fd ps_term []) (hr : m.mg "range" = none) (hmin : m.mg "min" = none) (hmax : m.mg "max" = none) (D : Cal m 2 "_law_draw" (sp_draw m)) (O : Cal m 3 "_law_one_of" (sp_one_of m)) (P : Cal m 5 "_law_part" (sp_part m)) : ∀ N, Cal m (6 + N) "_law_term" (sp_term m N) := by
  intro N
  induction N with
  | zero =>
    refine cal_ofM F b sc_term (fun vs H Q E h => by obtain ⟨_, _, _, _, _, _, _, _, rfl, _⟩ := h; rfl) fun X vs H Q E hA hM h => ?_
    obtain ⟨p, n, a, h, zs, hs, c, sm, rfl, hc1, hcN, _⟩ := h
    omega
  | succ N ih =>
  refine cal_ofM F b sc_term (fun vs H Q E h => by obtain ⟨_, _, _, _, _, _, _, _, rfl, _⟩ := h; rfl) fun X vs H Q E hA hM h => ?_
  obtain ⟨p, n, a, h, zs, hs, c, sm, rfl, hc1, hcN, hc8, hp, hn, ha, hh, hap, hhp, hz, hzl, hhl, hhn, k⟩ := h
  replace hA : At m nl_term (C8.fnScope st_term) (6 + N) X := hA
  obtain ⟨n3, n5, n6, n7, n8, n9, n10, n11, n0, n1, n2, n4⟩ := nv_term
  walk_at "B"
  walk_at "V"
  refine ite2 (fun h0 => ?_) fun h0 => ?_
  · walk_at "V"
    refine w_call hA P (by omega) rfl ?_
    walk_at "V"
    refine ⟨p, n, a, h, zs, hs, sm, rfl, hp, by omega, ha, hh, hap, hhp, hz, hzl, hhl, hhn, fun v w z i H' ok da d => ?_⟩
    exact k v _ H' ok (by simp only [Tm.siz]; omega) (by simp only [Tm.cnt]; omega) (da.sub fun _ z => z.elim) (d.mono (by omega))
  have hc2 : 2 ≤ c := by simp only [decide_eq_true_eq] at h0; omega
  refine b_nil (b_cons ?_)
  refine s_par hA n5 n6 ?_
  walk_at "V"
  refine w_call hA O (by omega) rfl ?_
  walk_at "V"
  refine ⟨by walk_at "S", fun l0 hl0 => ?_⟩
  have g0 := Grow.new (T := m.T) (o := .lst [.str "first", .str "last", .str "rank"]) hl0
  have hl0p : l0 ≠ p := fun w => by obtain ⟨_, e⟩ := hp.at_; rw [← w, hl0] at e; cases e
  walk_at "V"
  refine ⟨p, n, l0, _, rfl, hp.new g0, by omega, SqL.of upd_same, hl0p, by decide, by decide, fun j v H1 hv d1 => ?_⟩
  replace d1 := Drew.pre g0 d1
  have hword : v = .str "first" ∨ v = .str "last" ∨ v = .str "rank" := by
    have := List.mem_of_getElem? hv
    simpa using this
  walk_at "V"
  refine w_call hA D (by omega) rfl ?_
  walk_at "V"
  refine ⟨p, _, _, rfl, d1.purse, by omega, by omega, by omega, fun way H2 w0 w1 d2 => ?_⟩
  walk_at "V"
  refine ⟨_, _, rfl, ?_⟩
  have key : ∀ (q : Nat) (H3 : Hp), 1 ≤ q → q ≤ c → Drew m p n 24 H H3 → wB X (C8.fnBody st_term).tail.tail.tail { nx := fun _ H' => Q .non H', rt := Q } [some (.ref p), some (.ref a), some (.ref h), some (.int c), some (.bl sm), some v, some (.int way), some (.int q), none, none, none, none, none] H3 := by
    intro q H3 q1 q2 d3
    walk_at "B"
    refine s_lcR hA hr rfl n8 (by decide +kernel) (i := 9) ⟨rfl, rfl⟩ ?_
    walk_at "V"
    refine ⟨by omega, by omega, fun l hl => ⟨fun j H' => H' = upd H3 l (.lst (List.replicate j (.int 1))), rfl, ?_, ?_⟩⟩
    · rintro j H' hj rfl X' hX'
      walk_at "V"
      refine ⟨_, upd_same, by rw [List.length_replicate, sizeLine_eq]; omega, ?_⟩
      rw [upd_upd]
      show _ = _
      rw [List.replicate_succ']
    rintro H4 rfl
    rw [Int.toNat_natCast]
    have hlp : l ≠ p := fun w => by obtain ⟨_, e⟩ := d3.purse.at_; rw [← w, hl] at e; cases e
    have d4 := d3.post (Grow.new (o := .lst (List.replicate q (.int 1))) hl)
    walk_at "B"
    refine s_forR hA (pg_nl hA n9) hr rfl ?_
    walk_at "V"
    refine g_blt hA hmax rfl bt_max ?_
    walk_at "V"
    refine g_max2 hA ?_
    walk_at "V"
    have hnl : New H l := d3.grow.keep _ hl
    refine ⟨by split <;> omega, by split <;> omega, fun i σ H' => ∃ L : List Nat, σ = [some (.ref p), some (.ref a), some (.ref h), some (.int c), some (.bl sm), some v, some (.int way), some (.int q), some (.ref l), σ.getD 9 none, σ.getD 10 none, none, none] ∧
      H' l = some (.lst (L.map fun x : Nat => V.int x)) ∧ L.length = q ∧ (∀ x ∈ L, 1 ≤ x) ∧ L.sum = q + i ∧ Drew m p n (24 + 8 * i) H H', ?_, ?_, ?_⟩
    · exact ⟨List.replicate q 1, rfl, by rw [List.map_replicate]; exact upd_same, List.length_replicate, fun x hx => by rw [List.eq_of_mem_replicate hx]; exact Nat.le_refl 1, sum_rep q, d4⟩
    · rintro i σ H' hi ⟨L, es, hL, ll, l1, ls, dd⟩
      rw [es]
      walk_at "B"
      walk_at "V"
      refine w_call hA D (by omega) rfl ?_
      walk_at "V"
      refine ⟨p, _, _, rfl, dd.purse, by omega, by omega, by omega, fun r H5 r0 r1 d5 => ?_⟩
      have hL5 := d5.grow.ext _ _ hlp hL (fun _ w => by cases w)
      have er : r = (r.toNat : Int) := by omega
      rw [er]
      generalize r.toNat = r' at er
      subst er
      obtain ⟨x, hx⟩ : ∃ x, L[r']? = some x := ⟨_, List.getElem?_eq_getElem (by omega)⟩
      walk_at "V"
      refine g_ixL hA (SqL.of hL5) (atI_at (by rw [List.getElem?_map, hx]; rfl)) ?_
      walk_at "V"
      have hr' : r' < L.length := by omega
      refine ⟨l, _, r', r', rfl, rfl, hL5, by rw [List.length_map]; exact ixN_at hr', L.set r' (x + 1), rfl, ?_, by rw [List.length_set]; exact ll, ?_, ?_, ?_⟩
      · rw [upd_same, List.map_set]; rfl
      · intro y hy
        rcases List.mem_or_eq_of_mem_set hy with e | e
        · exact l1 y e
        · omega
      · have := sum_set (y := x + 1) hx
        omega
      · have g := GrowX.lst (T := m.T) (ys := (L.map fun x : Nat => V.int x).set r' (V.int (↑x + 1))) hL5
        have d6 := dd.trans d5
        refine ⟨d6.grow.into g (fun c w => .inl (by rw [w]; exact hnl)), (d6.purse.x g (fun w => hlp w.symm)).mono (by omega)⟩
    · rintro σ H' ⟨L, es, hL, ll, l1, ls, dd⟩
      rw [es]
      walk_at "B"
      refine s_lcL hA n11 (by decide +kernel) (i := 12) ⟨rfl, rfl⟩ ?_
      walk_at "V"
      refine ⟨l, _, rfl, SqL.of hL, fun D1 hD1 => ?_⟩
      have hLs : L.sum ≤ c ∧ ∀ x ∈ L, x ≤ N ∧ x + 1 ≤ c := by
        have e1 : L.sum = q + (c - max 2 q) := by
          rw [ls]; split at ls <;> omega
        refine ⟨by omega, fun x hx => ?_⟩
        have := le_sum l1 hx
        omega
      have hu : 24 + 8 * (↑c - if (2 : Int) > ↑q then (2 : Int) else ↑q).toNat ≤ 88 := by split <;> omega
      replace dd := dd.mono hu
      have hDp : D1 ≠ p := fun w => by obtain ⟨_, e⟩ := dd.purse.at_; rw [← w, hD1] at e; cases e
      have hD0 : New H D1 := dd.grow.keep _ hD1
      have hlD : l ≠ D1 := fun w => by rw [w, hD1] at hL; cases hL
      have hnp : ∀ a, New H a → a ≠ p := fun a ha w => by obtain ⟨_, e⟩ := hp.at_; rw [← w, ha] at e; cases e
      refine ⟨fun j H4 => ∃ (vs : List V) (ts : List Tm) (u : Nat), H4 D1 = some (.lst vs) ∧ DaAll m.K (fun a => Nw H H4 a ∧ a ≠ D1) H4 vs (Tm.pys ts) ∧ ts.length = j ∧ Tm.oks 200000000000 zs hs ts ∧ Tm.sizs ts + j ≤ 2 * (L.take j).sum ∧ Tm.cnts ts ≤ (L.take j).sum ∧
        H4 l = some (.lst (L.map fun x : Nat => V.int x)) ∧ u + 200 * j ≤ 88 + 400 * (L.take j).sum ∧ Drew m p n u H H4, ?_, ?_, ?_, ?_⟩
      · exact ⟨[], [], 88, upd_same, .nil, rfl, trivial, by simp [Tm.sizs], by simp [Tm.cnts], by rw [upd_ne hlD]; exact hL, by simp, dd.post (Grow.new hD1)⟩
      · rintro j H4 _ ⟨_, _, _, _, _, _, _, _, _, hl4, _⟩
        exact SqL.of hl4
      · rintro j x H4 hx ⟨vs, ts, u, hv4, da4, tl, ok4, sz4, ct4, hl4, hu4, dr4⟩ X' hX'
        rw [List.getElem?_map] at hx
        obtain ⟨y, hy, rfl⟩ := Option.map_eq_some_iff.1 hx
        have hy1 := l1 y (List.mem_of_getElem? hy)
        obtain ⟨hyN, hyc⟩ := hLs.2 y (List.mem_of_getElem? hy)
        have hst := sum_take hy
        have hsl := sum_take_le L (j + 1)
        have hjL : j < L.length := (List.getElem?_eq_some_iff.1 hy).1
        have c0 := nc_of hX' 0 "_law_purse_here"
        have c1 := nc_of hX' 1 "_law_names_here"
        have c2 := nc_of hX' 2 "_law_hung"
        have c4 := nc_of hX' 4 "_law_is_small"
        have c12 := nl_of hX' 12 "_law_size"
        have hb : j = 0 ∨ 1 ≤ j := by omega
        have hb0 : j = 0 → (L.take j).sum = 0 := fun w => by rw [w]; rfl
        have hbud : n + u + 400 * y ≤ 2 ^ 36 := by
          rcases hb with w | w
          · have := hb0 w
            omega
          · omega
        refine w_call hX' ih (by omega) rfl ?_
        walk_at "V"
        refine ⟨p, n + u, a, h, zs, hs, y, sm, rfl, hy1, hyN, by omega, dr4.purse, hbud, dr4.grow.seqL ha hap, dr4.grow.seqL hh hhp, hap, hhp, hz, hzl, hhl, hhn, fun v5 t H5 ok sz ct da d5 => ?_⟩
        have dA := (d5.grow.daAll da4 (fun a z => hnp a z.1.1)).sub fun a z => (⟨⟨z.1.1, fun w => z.1.2 (d5.grow.keep _ w)⟩, z.2⟩ : Nw H H5 a ∧ a ≠ D1)
        have hv5 : H5 D1 = some (.lst vs) := d5.grow.ext _ _ hDp hv4 (fun _ w => by cases w)
        have gX := GrowX.lst (T := m.T) (ys := vs ++ [v5]) hv5
        have hvl : vs.length = j := by rw [da4.length, Tm.pys_length, tl]
        have dt := dr4.trans d5
        refine ⟨vs, hv5, by rw [hvl, sizeLine_eq]; omega, vs ++ [v5], ts ++ [t], u + (400 * y - 200), upd_same, ?_, by simp [tl], Tm.oks_append ok4 ⟨ok, trivial⟩, ?_, ?_, ?_, by omega, ?_⟩
        · rw [Tm.pys_append]
          exact (gX.daAll (dA.append (.cons (da.sub fun b hb => ⟨⟨dr4.grow.keep _ hb.1, hb.2⟩, fun w => by have e := hb.1; rw [w] at e; rw [show H4 D1 = none from e] at hv4; cases hv4⟩) .nil)) (fun a z => z.2)).sub fun a z => ⟨⟨z.1.1, fun w => z.1.2 (gX.keep _ w)⟩, z.2⟩
        · rw [Tm.sizs_append]; simp only [Tm.sizs]; omega
        · rw [Tm.cnts_append]; simp only [Tm.cnts]; omega
        · rw [upd_ne hlD]; exact d5.grow.ext _ _ hlp hl4 (fun _ w => by cases w)
        · exact ⟨dt.grow.into gX (fun c w => .inl (by rw [w]; exact hD0)), dt.purse.x gX (fun w => hDp w.symm)⟩
      · rintro H4 ⟨vs, ts, u, hv4, da4, tl, ok4, sz4, ct4, hl4, hu4, dr4⟩
        rw [List.length_map, List.take_length] at *
        have tl2 : ts.length = q := by rw [tl, ll]
        have tne : ts ≠ [] := fun w => by rw [w] at tl2; simp at tl2; omega
        have hLc := hLs.1
        rw [ll] at sz4 hu4
        have dl : Da m.K (Nw H H4) H4 (.ref D1) (.list (Tm.pys ts)) := .lst ⟨hD0, by rw [hv4]; exact fun z => by cases z⟩ (SqL.of hv4) (da4.sub fun _ w => w.1)
        have hcq : q = 1 ∧ L.sum + 1 = c ∨ 2 ≤ q ∧ L.sum = c := by
          rw [ls]; split at ls <;> omega
        have fin2 : ∀ (g : Bool) (r : Addr), H4 r = none → Q (.ref r) (upd H4 r (.tup [.str (if g = true then ("first" : Str) else ("last" : Str)), .ref D1])) := by
          intro g r hr0
          have gr := Grow.new (T := m.T) (o := .tup [.str (if g = true then ("first" : Str) else ("last" : Str)), .ref D1]) hr0
          refine k _ (.all g ts) _ ⟨tne, ok4⟩ ?_ ?_ (.tup (SqT.of upd_same) (.cons (.str _) (.cons ((gr.da dl).sub fun a z => ⟨z.1, fun w => z.2 (gr.keep _ w)⟩) .nil))) ((dr4.post gr).mono ?_)
          · simp only [Tm.siz]; omega
          · simp only [Tm.cnt]; omega
          · omega
        walk_at "B"
        rcases hword with e | e | e <;> subst e
        · walk_at "V"
          rw [if_pos (by decide +kernel)]
          walk_at "V"
          exact ⟨by walk_at "S", fun r hr0 => fin2 true r hr0⟩
        · walk_at "V"
          rw [if_pos (by decide +kernel)]
          walk_at "V"
          exact ⟨by walk_at "S", fun r hr0 => fin2 false r hr0⟩
        · walk_at "V"
          rw [if_neg (by decide +kernel)]
          walk_at "V"
          refine w_call hA D (by omega) rfl ?_
          walk_at "V"
          refine ⟨p, _, _, rfl, dr4.purse, by omega, by omega, by omega, fun r H5 r0 r1 d5 => ?_⟩
          walk_at "V"
          refine ⟨by walk_at "S", fun o ho => ?_⟩
          have gr := Grow.new (T := m.T) (o := .tup [.str ("rank" : Str), .int (1 + r), .ref D1]) ho
          have dl5 := (d5.grow.da dl fun a z => hnp a z.1).sub fun a z => (⟨z.1, fun w => z.2 (d5.grow.keep _ w)⟩ : Nw H H5 a)
          have dt := dr4.trans d5
          refine k _ (.rank (1 + r) ts) _ ⟨tne, by omega, by omega, ok4⟩ ?_ ?_ (.tup (SqT.of upd_same) (.cons (.str _) (.cons (.int _) (.cons ((gr.da dl5).sub fun a z => ⟨z.1, fun w => z.2 (gr.keep _ w)⟩) .nil)))) ((dt.post gr).mono ?_)
          · simp only [Tm.siz]; omega
          · simp only [Tm.cnt]; omega
          · omega
  refine b_cons ?_
  walk_at "v"
  walk_at "E"
  refine ite2 (fun h1 => ?_) fun h1 => ?_
  · walk_at "E"
    exact key c H2 hc1 (Nat.le_refl _) ((d1.trans d2).mono (by omega))
  · walk_at "V"
    refine ite2 (fun h2 => ?_) fun h2 => ?_
    · walk_at "E"
      exact key 1 H2 (Nat.le_refl _) hc1 ((d1.trans d2).mono (by omega))
    · walk_at "V"
      refine w_call hA D (by omega) rfl ?_
      walk_at "V"
      refine g_blt hA hmin rfl bt_min ?_
      walk_at "V"
      refine g_min2 hA ?_
      walk_at "V"
      refine ⟨p, _, _, rfl, d2.purse, by omega, by omega, by omega, fun x H3 x0 x1 d3 => ?_⟩
      walk_at "E"
      have e : (2 + x : Int) = ((2 + x).toNat : Nat) := by omega
      rw [e]
      exact key (2 + x).toNat H3 (by omega) (by omega) ((d1.trans d2).trans d3)
def kw (t : Tm) : Str := match t with
  | .part n _ _ => if n then "now" else "of"
  | .all f _ => if f then "first" else "last"
  | .rank _ _ => "rank"
def Tm.isPart : Tm → Bool
  | .part _ _ _ => true
  | _ => false
section
variable {K : PySem.W.Frag} {A : Addr → Prop} {H : Hp} {v : V}
theorem da_tup {ds : List PyData} (h : Da K A H v (.tuple ds)) : ∃ a xs, v = .ref a ∧ SqT K H a xs ∧ DaAll K A H xs ds := by
  cases h with | tup s r => exact ⟨_, _, rfl, s, r⟩
theorem da_lst {ds : List PyData} (h : Da K A H v (.list ds)) : ∃ a xs, v = .ref a ∧ A a ∧ SqL K H a xs ∧ DaAll K A H xs ds := by
  cases h with | lst a s r => exact ⟨_, _, rfl, a, s, r⟩
theorem da_part {n : Bool} {z : Str} {w : Int} (h : Da K A H v (Tm.part n z w).py) : ∃ a, v = .ref a ∧ SqT K H a [.str (if n then "now" else "of"), .str z, .int w] := by
  obtain ⟨a, xs, e, hs, r⟩ := da_tup h
  cases r with | cons p1 r => cases r with | cons p2 r => cases r with | cons p3 r =>
  cases r; cases p1; cases p2; cases p3
  exact ⟨a, e, hs⟩
theorem da_all {f : Bool} {ts : List Tm} (h : Da K A H v (Tm.all f ts).py) : ∃ a l xs, v = .ref a ∧ A l ∧ SqT K H a [.str (if f then "first" else "last"), .ref l] ∧ SqL K H l xs ∧ DaAll K A H xs (Tm.pys ts) := by
  obtain ⟨a, xs, e, hs, r⟩ := da_tup h
  cases r with | cons p1 r => cases r with | cons p2 r =>
  cases r; cases p1
  obtain ⟨l, ys, e2, hl, hs2, r2⟩ := da_lst p2
  subst e2
  exact ⟨a, l, ys, e, hl, hs, hs2, r2⟩
theorem da_rank {r : Int} {ts : List Tm} (h : Da K A H v (Tm.rank r ts).py) : ∃ a l xs, v = .ref a ∧ A l ∧ SqT K H a [.str "rank", .int r, .ref l] ∧ SqL K H l xs ∧ DaAll K A H xs (Tm.pys ts) := by
  obtain ⟨a, xs, e, hs, r⟩ := da_tup h
  cases r with | cons p1 r => cases r with | cons p2 r => cases r with | cons p3 r =>
  cases r; cases p1; cases p2
  obtain ⟨l, ys, e2, hl, hs2, r2⟩ := da_lst p3
  subst e2
  exact ⟨a, l, ys, e, hl, hs, hs2, r2⟩
/-- the tuple that a term is: its first is its word -/
theorem da_word {t : Tm} (h : Da K A H v t.py) : ∃ a xs, v = .ref a ∧ SqT K H a xs ∧ xs[0]? = some (.str (kw t)) := by
  cases t with
  | part n z w => obtain ⟨a, e, hs⟩ := da_part h; exact ⟨a, _, e, hs, rfl⟩
  | all f ts => obtain ⟨a, l, xs, e, hl, hs, _⟩ := da_all h; exact ⟨a, _, e, hs, rfl⟩
  | rank r ts => obtain ⟨a, l, xs, e, hl, hs, _⟩ := da_rank h; exact ⟨a, _, e, hs, rfl⟩
end
theorem kw_part (t : Tm) : inV (.str (kw t)) [.str "of", .str "now"] = t.isPart := by
  cases t with
  | part n z w =>
    cases n
    · exact (by decide +kernel : inV (.str "of") [.str "of", .str "now"] = true)
    · exact (by decide +kernel : inV (.str "now") [.str "of", .str "now"] = true)
  | all f ts =>
    cases f
    · exact (by decide +kernel : inV (.str "last") [.str "of", .str "now"] = false)
    · exact (by decide +kernel : inV (.str "first") [.str "of", .str "now"] = false)
  | rank r ts => exact (by decide +kernel : inV (.str "rank") [.str "of", .str "now"] = false)
def sp_is_part (m : Md) : Sp := fun vs H Q _ => ∃ (v : V) (t : Tm) (A : Addr → Prop), vs = [v] ∧ Da m.K A H v t.py ∧ ∀ H', Grow m.T H H' → Q (.bl t.isPart) H'
theorem c_is_part {m : Md} {f : Addr} {fd : FuncData} (F : C8.Def m.K m.mg "is_part" st_is_part f fd) (b : L2.Binds m.K fd ps_is_part []) : Cal m 1 "is_part" (sp_is_part m) := by
  refine cal_of F b sc_is_part (fun vs H Q E h => by obtain ⟨_, _, _, rfl, _⟩ := h; rfl) fun X vs H Q E hA h => ?_
  obtain ⟨v, t, A, rfl, d, k⟩ := h
  have n0 := nv_is_part
  obtain ⟨a, xs, rfl, hs, hx⟩ := da_word d
  walk_at "B"
  walk_at "V"
  refine g_ixT hA hs (atI_at (j := 0) hx) ?_
  walk_at "V"
  refine ⟨by walk_at "S", fun p hp => ?_⟩
  refine g_inF hA (.inr (SqT.of upd_same)) rfl rfl ?_
  rw [kw_part]
  exact k _ (Grow.new hp)
/-- with_terms of a term of two or three kinds over as many terms: the same kind over them -/
def sp_with_terms (m : Md) : Sp := fun vs H Q _ => ∃ (v : V) (l : Addr) (xs : List V) (t : Tm) (ts us : List Tm) (A : Addr → Prop) (L : List Addr), vs = [v, .ref l] ∧ Da m.K A H v t.py ∧ H l = some (.lst xs) ∧ DnAll m.K H xs (Tm.pys us) L ∧ us ≠ [] ∧ us.length < 1000 ∧
  ((∃ f, t = .all f ts) ∨ (∃ r, t = .rank r ts ∧ 1 ≤ r)) ∧
  ∀ (u : V) (t' : Tm) (H' : Hp), (∀ f, t = .all f ts → t' = .all f us) → (∀ r, t = .rank r ts → t' = .rank (min r us.length) us) → Grow m.T H H' → Dn m.K H' u t'.py (l :: L) → Q u H'
theorem c_with_terms {m : Md} {f : Addr} {fd : FuncData} (F : C8.Def m.K m.mg "with_terms" st_with_terms f fd) (b : L2.Binds m.K fd ps_with_terms []) (hmin : m.mg "min" = none) (hlen : m.mg "len" = none) : Cal m 1 "with_terms" (sp_with_terms m) := by
  refine cal_of F b sc_with_terms (fun vs H Q E h => by obtain ⟨_, _, _, _, _, _, _, _, rfl, _⟩ := h; rfl) fun X vs H Q E hA h => ?_
  obtain ⟨v, l, xs, t, ts, us, A, L, rfl, d, hl, da, une, ul, ht, k⟩ := h
  obtain ⟨n0, n1⟩ := nv_with_terms
  have hxl : xs.length = us.length := by rw [da.length, Tm.pys_length]
  rcases ht with ⟨f, rfl⟩ | ⟨r, rfl, hr⟩
  · obtain ⟨a, l0, ys, rfl, hl0, hs, _⟩ := da_all d
    walk_at "B"
    walk_at "V"
    refine g_ixT hA hs (atI_at (j := 0) rfl) ?_
    walk_at "V"
    rw [if_neg (by cases f <;> decide +kernel)]
    walk_at "V"
    refine g_ixT hA hs (atI_at (j := 0) rfl) ?_
    walk_at "V"
    refine ⟨by walk_at "S", fun p hp => ?_⟩
    have g := Grow.new (T := m.T) (o := .tup [.str (if f = true then ("first" : Str) else "last"), .ref l]) hp
    exact k (.ref p) (.all f us) _ (fun f' e => by cases e; rfl) (fun r e => by cases e) g (by simpa [Tm.py] using Dn.tup (SqT.of upd_same) (.cons (.str _) (.cons (.lst (g.extN _ _ hl (fun _ z => by cases z)) (GrowX.dnAll g da fun _ _ z => z)) .nil)))
  · obtain ⟨a, l0, ys, rfl, hl0, hs, _⟩ := da_rank d
    walk_at "B"
    walk_at "V"
    refine g_ixT hA hs (atI_at (j := 0) rfl) ?_
    walk_at "V"
    rw [if_pos (by decide +kernel)]
    walk_at "V"
    refine g_blt hA hmin rfl bt_min ?_
    walk_at "V"
    refine g_ixT hA hs (atI_at (j := 1) rfl) ?_
    walk_at "V"
    refine g_blt hA hlen rfl bt_len ?_
    walk_at "V"
    refine g_lenL hA (SqL.of hl) ?_
    walk_at "V"
    refine g_min2 hA ?_
    rw [hxl]
    have e : (if (us.length : Int) < r then (us.length : Int) else r) = min r us.length := by omega
    rw [e]
    walk_at "V"
    refine ⟨by walk_at "S", fun p hp => ?_⟩
    have g := Grow.new (T := m.T) (o := .tup [.str ("rank" : Str), .int (min r us.length), .ref l]) hp
    exact k (.ref p) (.rank (min r us.length) us) _ (fun f' e => by cases e) (fun r e => by cases e; rfl) g (by simpa [Tm.py] using Dn.tup (SqT.of upd_same) (.cons (.str _) (.cons (.int _) (.cons (.lst (g.extN _ _ hl (fun _ z => by cases z)) (GrowX.dnAll g da fun _ _ z => z)) .nil))))
theorem da_parts {K : PySem.W.Frag} {A B : Addr → Prop} {H : Hp} {v : V} {n : Bool} {z : Str} {w : Int} (h : Da K A H v (Tm.part n z w).py) : Da K B H v (Tm.part n z w).py := by
  obtain ⟨a, rfl, s⟩ := da_part h
  exact .tup s (.cons (.str _) (.cons (.str _) (.cons (.int _) .nil)))
theorem dn_parts {K : PySem.W.Frag} {A : Addr → Prop} {H : Hp} {v : V} {n : Bool} {z : Str} {w : Int} (h : Da K A H v (Tm.part n z w).py) : Dn K H v (Tm.part n z w).py [] := by
  obtain ⟨a, rfl, s⟩ := da_part h
  simpa [Tm.py] using Dn.tup s (.cons (.str (if n = true then "now" else "of")) (.cons (.str z) (.cons (.int w) .nil)))
/-- what is handed as change -/
def spCh (m : Md) (g : Tm → Tm) : Sp := fun vs H Q _ => ∃ (v : V) (n : Bool) (z : Str) (w : Int), vs = [v] ∧ Tabs m.T H ∧ Da m.K Any H v (Tm.part n z w).py ∧ ∀ (u : V) (H' : Hp), Grow m.T H H' → Fr m.K H H' u (g (Tm.part n z w)).py → Q u H'
def sp_rebuilt (m : Md) (kc : Nat) (N : Nat) : Sp := fun vs H Q _ => ∃ (v : V) (c : Addr) (t : Tm) (g : Tm → Tm), vs = [v, .ref c] ∧ Tabs m.T H ∧ Da m.K Any H v t.py ∧ t.dep ≤ N ∧ t.wf ∧ Callable m kc c (spCh m g) H ∧
  ∀ (u : V) (H' : Hp), Grow m.T H H' → Fr m.K H H' u (t.reb g).py → Q u H'
theorem rebuilt_step {m : Md} {f : Addr} {fd : FuncData} (F : C8.Def m.K m.mg "rebuilt" st_rebuilt f fd) (b : L2.Binds m.K fd ps_rebuilt []) (kc : Nat) (hkc : 1 ≤ kc) (P : Cal m 1 "is_part" (sp_is_part m)) (W : Cal m 1 "with_terms" (sp_with_terms m)) (N : Nat) (ih : ∀ M, M + 1 = N → Cal m (kc + N) "rebuilt" (sp_rebuilt m kc M)) : Cal m (kc + N + 1) "rebuilt" (sp_rebuilt m kc N) := by
  refine cal_ofM F b sc_rebuilt (fun vs H Q E h => by obtain ⟨_, _, _, _, rfl, _⟩ := h; rfl) fun X vs H Q E hA hM h => ?_
  obtain ⟨v, c, t, g, rfl, hT, d, hd, hw, hc, k⟩ := h
  replace hA : At m nl_rebuilt (C8.fnScope st_rebuilt) (kc + N) X := hA
  obtain ⟨n0, n1⟩ := nv_rebuilt
  walk_at "B"
  walk_at "V"
  refine w_call hA P (by omega) rfl ?_
  walk_at "V"
  refine ⟨v, t, Any, rfl, d, fun H1 g1 => ?_⟩
  walk_at "V"
  refine ite2 (fun h0 => ?_) fun h0 => ?_
  · walk_at "V"
    refine w_callv hA (i := 1) rfl rfl rfl (hc.ext g1.extN) (by omega) ?_
    walk_at "V"
    cases t with
    | part n z w =>
      exact ⟨fun _ _ e _ => e, v, n, z, w, rfl, g1.tab hT, g1.da d, fun u H2 g2 da => k u H2 (g1.trans g2) (Fr.pre g1 da)⟩
    | all _ _ => simp [Tm.isPart] at h0
    | rank _ _ => simp [Tm.isPart] at h0
  · refine b_nil ?_
    walk_at "B"
    walk_at "V"
    refine w_call hA W (by omega) rfl ?_
    walk_at "V"
    have one : ∃ (a l : Addr) (ys xs : List V) (ts : List Tm), v = .ref a ∧ SqT m.K H1 a ys ∧ atI ys (-1) = some (.ref l) ∧ SqL m.K H1 l xs ∧ DaAll m.K Any H1 xs (Tm.pys ts) ∧ ((∃ f, t = .all f ts) ∨ ∃ r, t = .rank r ts ∧ 1 ≤ r) ∧ ts ≠ [] ∧ ts.length < 1000 ∧ Tm.wfs ts ∧ Tm.deps ts + 1 ≤ N ∧ (∀ f, t = .all f ts → t.reb g = .all f (Tm.rebs g ts)) ∧ (∀ r, t = .rank r ts → t.reb g = .rank (min r (Tm.rebs g ts).length) (Tm.rebs g ts)) := by
      cases t with
      | part n z w => simp [Tm.isPart] at h0
      | all f ts =>
        obtain ⟨a, l, xs, rfl, _, hs, hl, da⟩ := da_all (g1.da d)
        exact ⟨a, l, _, xs, ts, rfl, hs, rfl, hl, da, .inl ⟨f, rfl⟩, hw.1, hw.2.1, hw.2.2, hd, fun _ e => (by cases e; rfl), fun _ e => (by cases e)⟩
      | rank r ts =>
        obtain ⟨a, l, xs, rfl, _, hs, hl, da⟩ := da_rank (g1.da d)
        obtain ⟨w1, w2, w3, w4, w5⟩ := hw
        refine ⟨a, l, _, xs, ts, rfl, hs, rfl, hl, da, .inr ⟨r, rfl, w3⟩, w1, w2, w5, hd, fun _ e => (by cases e), fun _ e => ?_⟩
        cases e
        have : min r ((Tm.rebs g ts).length : Int) = r := by rw [Tm.rebs_map, List.length_map]; omega
        rw [this]; rfl
    obtain ⟨a, l, ys, xs, ts, rfl, hs, hat, hl, da, kind, tne, tlen, twf, tdep, e1, e2⟩ := one
    refine w_lcL hA (by decide +kernel) (i := 2) ⟨rfl, rfl⟩ ?_
    walk_at "V"
    refine g_ixT hA hs hat ?_
    refine ⟨l, xs, rfl, hl, fun D1 hD1 => ?_⟩
    obtain ⟨M, rfl⟩ : ∃ M, M + 1 = N := ⟨N - 1, by omega⟩
    have hxl : xs.length = ts.length := by rw [da.length, Tm.pys_length]
    have hD0 : New H D1 := g1.keep _ hD1
    refine ⟨fun j H4 => ∃ (us : List V) (L : List Addr), us.length = j ∧ H4 D1 = some (.lst us) ∧ DnAll m.K H4 us (Tm.pys (Tm.rebs g (ts.take j))) L ∧ L.Nodup ∧ (∀ a ∈ L, New H a ∧ a ≠ D1) ∧ Grow m.T H1 H4, ?_, ?_, ?_, ?_⟩
    · exact ⟨[], [], rfl, upd_same, .nil, by simp, by simp, Grow.new hD1⟩
    · rintro j H4 _ ⟨_, _, _, _, _, _, _, g4⟩
      exact GrowX.seqL g4 hl fun z => z
    · rintro j x H4 hx ⟨us, L, ul, hu, du, nd, nw, g4⟩ X' hX'
      have c1 := nc_of hX' 1 "change"
      have c2 := nl_of hX' 2 "inner"
      have hj : j < ts.length := by rw [← hxl]; exact (List.getElem?_eq_some_iff.1 hx).1
      obtain ⟨pd, hpd, dx⟩ := da.getV hx
      rw [Tm.pys_map, List.getElem?_map] at hpd
      obtain ⟨tj, htj, rfl⟩ := Option.map_eq_some_iff.1 hpd
      have htm := List.mem_of_getElem? htj
      refine w_call hX' (ih M rfl) (by omega) rfl ?_
      walk_at "V"
      refine ⟨x, c, tj, g, rfl, g4.tab (g1.tab hT), g4.da dx, by have := Tm.dep_mem htm; omega, Tm.wfs_iff.1 twf tj htm, hc.ext (Grow.extN (g1.trans g4)), fun u H5 g5 du5 => ?_⟩
      have hu5 : H5 D1 = some (.lst us) := g5.extN _ _ hu (fun _ w => by cases w)
      have gX := GrowX.lst (T := m.T) (ys := us ++ [u]) hu5
      obtain ⟨L5, d5, nd5, nw5⟩ := du5
      have hL : ∀ a ∈ L, ∃ xs, H4 a = some (.lst xs) := du.some
      refine ⟨us, hu5, by rw [ul, sizeLine_eq]; omega, us ++ [u], L ++ L5, by simp [ul], upd_same, ?_, ?_, ?_, Grow.intoNew (g4.trans g5) gX fun c w => by rw [w]; exact hD1⟩
      · have et : Tm.pys (Tm.rebs g (ts.take (j + 1))) = Tm.pys (Tm.rebs g (ts.take j)) ++ [(tj.reb g).py] := by
          rw [List.take_add_one, htj]
          simp [Tm.rebs_map, Tm.pys_map]
        rw [et]
        have both : DnAll m.K H5 (us ++ [u]) (Tm.pys (Tm.rebs g (ts.take j)) ++ [(tj.reb g).py]) (L ++ L5) := by simpa using (GrowX.dnAll g5 du fun _ _ z => z).append (.cons d5 .nil)
        refine gX.dnAll both fun a ha => ?_
        rcases List.mem_append.1 ha with z | z
        · exact (nw a z).2
        · exact fun w => by rw [w] at z; rw [show H4 D1 = none from nw5 _ z] at hu; cases hu
      · refine List.nodup_append.2 ⟨nd, nd5, fun a ha b hb e => ?_⟩
        obtain ⟨_, w⟩ := hL a ha
        rw [e, show H4 b = none from nw5 b hb] at w; cases w
      · intro a ha
        rcases List.mem_append.1 ha with z | z
        · exact nw a z
        · exact ⟨g1.keep _ (g4.keep _ (nw5 a z)), fun w => by rw [w] at z; rw [show H4 D1 = none from nw5 _ z] at hu; cases hu⟩
    · rintro H4 ⟨us, L, ul, hu, du, nd, nw, g4⟩
      rw [hxl, List.take_length] at du
      walk_at "V"
      refine ⟨.ref a, D1, us, t, ts, Tm.rebs g ts, Any, L, rfl, g4.da (g1.da d), hu, du, ?_, ?_, kind, fun u t' H5 k1 k2 g5 du5 => ?_⟩
      · intro w
        rw [Tm.rebs_map] at w
        exact tne (List.map_eq_nil_iff.1 w)
      · rw [Tm.rebs_map, List.length_map]; exact tlen
      · have et : t' = t.reb g := by
          rcases kind with ⟨f, e⟩ | ⟨r, e, _⟩
          · rw [k1 f e, e1 f e]
          · rw [k2 r e, e2 r e]
        rw [et] at du5
        exact k u H5 ((g1.trans g4).trans g5) ⟨_, du5, List.nodup_cons.2 ⟨fun z => (nw _ z).2 rfl, nd⟩, fun b hb => by
          rcases List.mem_cons.1 hb with e | e
          · rw [e]; exact hD0
          · exact (nw b e).1⟩
theorem c_rebuilt {m : Md} {f : Addr} {fd : FuncData} (F : C8.Def m.K m.mg "rebuilt" st_rebuilt f fd) (b : L2.Binds m.K fd ps_rebuilt []) (kc : Nat) (hkc : 1 ≤ kc) (P : Cal m 1 "is_part" (sp_is_part m)) (W : Cal m 1 "with_terms" (sp_with_terms m)) : ∀ N, Cal m (kc + N + 1) "rebuilt" (sp_rebuilt m kc N) := by
  intro N
  induction N with
  | zero => exact rebuilt_step F b kc hkc P W 0 fun M e => by omega
  | succ N ih =>
    refine rebuilt_step F b kc hkc P W (N + 1) fun M e => ?_
    have e2 : M = N := by omega
    rw [e2]
    exact ih
/-- the table in which the one lambda of a def is looked up -/
structure Tab1 (m : Md) (cd : Value) (qual : Str) : Prop where
  ex : ∃ c P, cd = .ref c ∧ TabB m.base m.mg c P ∧ (P, qual) ∈ m.T ∧ ∀ p ∈ m.T, p.1 = P → p.2 = qual
def sp_copied (m : Md) (N : Nat) : Sp := fun vs H Q _ => ∃ (v : V) (t : Tm), vs = [v] ∧ Tabs m.T H ∧ Da m.K Any H v t.py ∧ t.dep ≤ N ∧ t.wf ∧ ∀ (u : V) (H' : Hp), Grow m.T H H' → Fr m.K H H' u t.py → Q u H'
theorem c_copied {m : Md} {f : Addr} {fd : FuncData} (F : C8.Def m.K m.mg "copied" st_copied f fd) (b : L2.Binds m.K fd ps_copied []) (L : Tab1 m fd.code ("copied" ++ ".<locals>." ++ "<lambda>")) (N : Nat) (R : Cal m (1 + N + 1) "rebuilt" (sp_rebuilt m 1 N)) : Cal m (N + 3) "copied" (sp_copied m N) := by
  refine cal_ofM F b sc_copied (fun vs H Q E h => by obtain ⟨_, _, rfl, _⟩ := h; rfl) fun X vs H Q E hA hM h => ?_
  obtain ⟨v, t, rfl, hT, d, hd, hw, k⟩ := h
  replace hA : At m nl_copied (C8.fnScope st_copied) (N + 2) X := hA
  have n0 := nv_copied
  obtain ⟨c, P, ec, TB, hm, hu⟩ := L.ex
  walk_at "B"
  walk_at "V"
  refine w_call hA R (by omega) rfl ?_
  walk_at "V"
  refine w_lam0 (k := 0) (ps := ["part"]) (NL := ["part"]) (sp := spCh m fun x => x) hA TB (by rw [hM.code]; exact ec) (by rw [hM.qual]) hm hu ?_ ?_ ?_ ?_ hT ?_
  · exact ⟨rfl, rfl, rfl, by decide, rfl, by decide +kernel, by decide +kernel, by decide +kernel, by decide +kernel⟩
  · intro c' cl pm ctv us hl
    match us, hl with
    | [_], _ => rfl
  · intro vs H Q E z
    obtain ⟨_, _, _, _, rfl, _⟩ := z
    rfl
  · intro X' vs H1 Q1 hX z
    obtain ⟨u, n, zz, w, rfl, _, du, kk⟩ := z
    have n1 := nl_of hX 0 "part"
    walk_at "V"
    exact kk u H1 GrowX.refl ⟨[], dn_parts du, by simp, by simp⟩
  · intro fl H1 ext tab keep cal
    have g : Grow m.T H H1 := Grow.of ext (fun _ => tab) keep
    walk_at "V"
    refine ⟨v, fl, t, fun x => x, rfl, tab, g.da d, hd, hw, cal, fun u H2 g2 du => ?_⟩
    rw [Tm.reb_id] at du
    exact k u H2 (g.trans g2) (Fr.pre g du)
def sp_is_whole (m : Md) : Sp := fun vs H Q _ => ∃ (v : V) (d : PyData) (A : Addr → Prop), vs = [v] ∧ Ob m.K A H v d ∧ Q (.bl (isWh d)) H
theorem c_is_whole {m : Md} {f : Addr} {fd : FuncData} (F : C8.Def m.K m.mg "is_whole" st_is_whole f fd) (b : L2.Binds m.K fd ps_is_whole []) (hi : m.mg "isinstance" = none) (h1 : m.mg "int" = none) (h2 : m.mg "bool" = none) : Cal m 1 "is_whole" (sp_is_whole m) := by
  refine cal_of F b sc_is_whole (fun vs H Q E h => by obtain ⟨_, _, _, rfl, _⟩ := h; rfl) fun X vs H Q E hA h => ?_
  obtain ⟨v, d, A, rfl, o, k⟩ := h
  have n0 := nv_is_whole
  walk_at "B"
  walk_at "V"
  refine g_blt hA hi rfl bt_isinstance ?_
  walk_at "V"
  refine w_tyn hA h1 rfl bt_int ?_
  walk_at "V"
  refine g_isi hA (.ty "int") o.ty (kit_ty (kit_all "int" (by decide) d)) ?_
  walk_at "V"
  rw [isWh_eq] at k
  refine ite2 (fun h0 => ?_) fun h0 => ?_
  · walk_at "V"
    refine g_blt hA hi rfl bt_isinstance ?_
    walk_at "V"
    refine w_tyn hA h2 rfl bt_bool ?_
    walk_at "V"
    refine g_isi hA (.ty "bool") o.ty (kit_ty (kit_all "bool" (by decide) d)) ?_
    walk_at "V"
    rw [h0] at k
    simpa using k
  · have e : isIn "int" d = false := by simpa using h0
    rw [e] at k
    exact k
theorem le_chr (c d : Nat) : (!decide ([d] < [c])) = decide (c ≤ d) := by
  rw [Bool.eq_iff_iff]
  simp [List.cons_lt_cons_iff]
def sp_is_name (m : Md) : Sp := fun vs H Q _ => ∃ (v : V) (d : PyData) (A : Addr → Prop), vs = [v] ∧ Ob m.K A H v d ∧ ∀ H', Grow m.T H H' → Q (.bl (isNm d)) H'
theorem c_is_name {m : Md} {f : Addr} {fd : FuncData} (F : C8.Def m.K m.mg "is_name" st_is_name f fd) (b : L2.Binds m.K fd ps_is_name []) (hi : m.mg "isinstance" = none) (h1 : m.mg "str" = none) (hlen : m.mg "len" = none) (hall : m.mg "all" = none) {tk : Tok} (hL : m.mg "LONGEST_NAME" = some (.int 8 tk)) : Cal m 1 "is_name" (sp_is_name m) := by
  refine cal_of F b sc_is_name (fun vs H Q E h => by obtain ⟨_, _, _, rfl, _⟩ := h; rfl) fun X vs H Q E hA h => ?_
  obtain ⟨v, d, A, rfl, o, k⟩ := h
  have n0 := nv_is_name
  walk_at "B"
  walk_at "V"
  refine g_blt hA hi rfl bt_isinstance ?_
  walk_at "V"
  refine w_tyn hA h1 rfl bt_str ?_
  walk_at "V"
  refine g_isi hA (.ty "str") o.ty (kit_ty (kit_all "str" (by decide) d)) ?_
  walk_at "V"
  refine ite2 (fun h0 => ?_) fun h0 => ?_
  · walk_at "V"
    have e : isNm d = false := by cases d <;> first | rfl | simp [isIn, tyD] at h0
    rw [e] at k
    refine iteT ?_
    walk_at "V"
    exact k H GrowX.refl
  · obtain ⟨z, rfl⟩ : ∃ z, d = .str z := by
      cases d <;> first | exact ⟨_, rfl⟩ | simp [isIn, tyD] at h0
    obtain ⟨zl, rfl⟩ : z.length ≤ sizeLine ∧ v = .str z := by cases o with | str _ l => exact ⟨l, rfl⟩
    walk_at "V"
    refine t_chain ?_
    walk_at "V"
    refine g_blt hA hlen rfl bt_len ?_
    walk_at "V"
    refine g_lenS zl ?_
    walk_at "V"
    refine ite2 (fun h2 => ?_) fun h2 => ?_
    · refine w_glb (v := .int 8) hA hL ⟨_, rfl⟩ rfl ?_
      walk_at "V"
      refine ite2 (fun h3 => ?_) fun h3 => ?_
      · walk_at "V"
        have e : isNm (.str z) = false := by simp [isNm, nmB] at h3 ⊢; omega
        rw [e] at k
        exact k H GrowX.refl
      · refine b_nil ?_
        walk_at "B"
        walk_at "V"
        refine g_blt hA hall rfl bt_all ?_
        refine w_cons (w_lcS hA (by decide +kernel) (i := 1) ⟨rfl, rfl⟩ ?_)
        walk_at "V"
        refine fun D hD => ⟨fun j H' => Grow m.T H H' ∧ H' D = some (.lst (((z.cps.toList.take j).map fun c => decide (97 ≤ c) && decide (c ≤ 122)).map V.bl)), ?_, ?_, ?_⟩
        · exact ⟨Grow.new hD, upd_same⟩
        · rintro j c H' hc ⟨g, hv⟩ X' hX'
          have c1 := nl_of hX' 1 "sign"
          refine w_chain ?_
          walk_at "V"
          refine g_leT ?_
          rw [show ("a" : Str).cps.toList = [97] from by decide +kernel, show (⟨#[c]⟩ : Str).cps.toList = [c] from rfl, le_chr]
          walk_at "V"
          have eD : ∀ r : Bool, (decide (97 ≤ c) && decide (c ≤ 122)) = r → App D (fun H' => Grow m.T H H' ∧ H' D = some (.lst (((z.cps.toList.take (j + 1)).map fun c => decide (97 ≤ c) && decide (c ≤ 122)).map V.bl))) (.bl r) H' := by
            intro r er
            have hz9 : z.cps.size ≤ 8 := by
              have : z.length ≤ 8 := by simp at h3; omega
              exact this
            have ht : z.cps.toList[j]? = some c := by rw [Array.getElem?_toList]; exact hc
            refine ⟨_, hv, by rw [List.length_map, List.length_map, List.length_take, sizeLine_eq, Array.length_toList]; omega, g.intoNew (GrowX.lst hv) (fun _ w => by rw [w]; exact hD), ?_⟩
            rw [upd_same, List.take_add_one, ht, ← er]
            simp
          refine ite2 (fun h4 => ?_) fun h4 => ?_
          · walk_at "V"
            refine g_leT ?_
            rw [show ("z" : Str).cps.toList = [122] from by decide +kernel, show (⟨#[c]⟩ : Str).cps.toList = [c] from rfl, le_chr]
            exact eD _ (by rw [h4]; rfl)
          · exact eD false (by simp at h4 ⊢; omega)
        · rintro H' ⟨g, hv⟩
          walk_at "V"
          refine g_all hA (SqL.of hv) ?_
          have e : isNm (.str z) = (List.map (fun c => decide (97 ≤ c) && decide (c ≤ 122)) (List.take z.cps.size z.cps.toList)).all id := by
            have a1 : 1 ≤ z.length := by simp at h2; omega
            have a2 : z.length ≤ 8 := by simp at h3; omega
            rw [← Array.length_toList, List.take_length, List.all_map]
            simp [isNm, nmB, a1, a2]
          rw [e] at k
          exact k H' g
    · walk_at "V"
      refine iteT ?_
      walk_at "V"
      have e : isNm (.str z) = false := by simp [isNm, nmB] at h2 ⊢; omega
      rw [e] at k
      exact k H GrowX.refl
/-- what is asked of a def that tells whether an object is of a kind -/
def sp_is (m : Md) (p : PyData → Bool) (N : Nat) : Sp := fun vs H Q _ => ∃ (v : V) (d : PyData), vs = [v] ∧ Ob m.K Any H v d ∧ d.depth ≤ N ∧ ∀ H', Grow m.T H H' → Q (.bl (p d)) H'
theorem Grow.ob {T : List (Addr × Str)} {K : PySem.W.Frag} {A : Addr → Prop} {H H1 : Hp} {v : V} {d : PyData} (g : Grow T H H1) (h : Ob K A H v d) : Ob K A H1 v d :=
  Ob.mono (fun _ z => z) (fun a xs _ e => GrowX.seqL g e fun z => z) (fun a xs e => GrowX.seqT g e) (fun a kvs _ e => g.extN _ _ e (fun _ z => by cases z)) d v h
theorem Grow.obAll {T : List (Addr × Str)} {K : PySem.W.Frag} {A : Addr → Prop} {H H1 : Hp} {v : List V} {d : List PyData} (g : Grow T H H1) (h : ObAll K A H v d) : ObAll K A H1 v d :=
  ObAll.mono (fun _ z => z) (fun a xs _ e => GrowX.seqL g e fun z => z) (fun a xs e => GrowX.seqT g e) (fun a kvs _ e => g.extN _ _ e (fun _ z => by cases z)) d v h
theorem depth_mem : ∀ {ds : List PyData} {i : Nat} {d : PyData}, ds[i]? = some d → d.depth ≤ PyData.depthAll ds
  | [], _, _, h => by simp at h
  | a :: ds, 0, d, h => by
    have : a = d := by simpa using h
    subst this
    simp only [PyData.depthAll]; omega
  | a :: ds, i + 1, d, h => by
    have := depth_mem (ds := ds) (i := i) (d := d) (by simpa using h)
    simp only [PyData.depthAll]; omega
theorem isTms_all : ∀ ds : List PyData, isTms ds = ds.all isTm
  | [] => rfl
  | d :: ds => by rw [isTms, isTms_all ds]; rfl
theorem itl_step {m : Md} {f : Addr} {fd : FuncData} (F : C8.Def m.K m.mg "_is_term_list" st_x_is_term_list f fd) (b : L2.Binds m.K fd ps_x_is_term_list []) (hi : m.mg "isinstance" = none) (h1 : m.mg "list" = none) (hlen : m.mg "len" = none) (hall : m.mg "all" = none) (N k : Nat) (ih : ∀ M, M + 1 = N → Cal m k "is_term" (sp_is m isTm M)) : Cal m (k + 1) "_is_term_list" (sp_is m isTl N) := by
  refine cal_ofM F b sc_x_is_term_list (fun vs H Q E h => by obtain ⟨_, _, rfl, _⟩ := h; rfl) fun X vs H Q E hA hM h => ?_
  obtain ⟨v, d, rfl, o, hd, q⟩ := h
  have n0 := nv_x_is_term_list
  walk_at "B"
  walk_at "V"
  refine g_blt hA hi rfl bt_isinstance ?_
  walk_at "V"
  refine w_tyn hA h1 rfl bt_list ?_
  walk_at "V"
  refine g_isi hA (.ty "list") o.ty (kit_ty (kit_all "list" (by decide) d)) ?_
  walk_at "V"
  refine ite2 (fun h0 => ?_) fun h0 => ?_
  · obtain ⟨ds, rfl⟩ : ∃ ds, d = .list ds := by
      cases d <;> first | exact ⟨_, rfl⟩ | simp [isIn, tyD] at h0
    obtain ⟨a, xs, rfl, hs, da, hl⟩ : ∃ a xs, v = .ref a ∧ SqL m.K H a xs ∧ ObAll m.K Any H xs ds ∧ xs.length < 1000000 := by
      cases o with | lst _ s r l => exact ⟨_, _, rfl, s, r, l⟩
    walk_at "V"
    refine g_blt hA hlen rfl bt_len ?_
    walk_at "V"
    refine g_lenL hA hs ?_
    walk_at "V"
    refine ite2 (fun h2 => ?_) fun h2 => ?_
    · walk_at "V"
      refine g_blt hA hall rfl bt_all ?_
      refine w_cons (w_lcL hA (by decide +kernel) (i := 1) ⟨rfl, rfl⟩ ?_)
      walk_at "V"
      refine ⟨a, xs, rfl, hs, fun D hD => ⟨fun j H' => Grow m.T H H' ∧ H' D = some (.lst (((ds.take j).map isTm).map V.bl)), ?_, ?_, ?_, ?_⟩⟩
      · exact ⟨Grow.new hD, upd_same⟩
      · rintro j H' _ ⟨g, _⟩
        exact GrowX.seqL g hs fun z => z
      · rintro j x H' hx ⟨g, hv⟩ X' hX'
        have c1 := nl_of hX' 1 "term"
        obtain ⟨dj, hdj, oj⟩ := da.getV hx
        have hjd := depth_mem hdj
        have hd' : PyData.depthAll ds + 1 ≤ N := hd
        refine w_call hX' (ih (N - 1) (by omega)) (by omega) rfl ?_
        walk_at "V"
        refine ⟨x, dj, rfl, g.ob oj, by omega, fun H5 g5 => ?_⟩
        have hv5 := g5.extN _ _ hv (fun _ w => by cases w)
        have hjl := (List.getElem?_eq_some_iff.1 hx).1
        refine ⟨_, hv5, by rw [List.length_map, List.length_map, List.length_take, sizeLine_eq]; omega, Grow.intoNew (g.trans g5) (GrowX.lst hv5) (fun _ w => by rw [w]; exact hD), ?_⟩
        rw [upd_same, List.take_add_one, hdj]
        simp
      · rintro H' ⟨g, hv⟩
        rw [da.length, List.take_length] at hv
        walk_at "V"
        refine g_all hA (SqL.of hv) ?_
        have e : isTl (.list ds) = (ds.map isTm).all id := by
          have : ds ≠ [] := by
            intro w
            rw [w] at da
            cases da
            simp at h2
          rw [isTl, isTms_all, List.all_map]
          simp [this]
        rw [e] at q
        exact q H' g
    · have e : isTl (.list ds) = false := by
        have : ds = [] := by
          cases ds with
          | nil => rfl
          | cons _ _ => cases da; simp at h2
        subst this
        rfl
      rw [e] at q
      exact q H GrowX.refl
  · have e : isTl d = false := by
      cases d <;> first | rfl | simp [isIn, tyD] at h0
    rw [e] at q
    exact q H GrowX.refl
theorem isTm3_short {ds : List PyData} (h : ds.length < 2) : isTm3 ds = false := by
  match ds, h with
  | [], _ => rfl
  | [_], _ => rfl
theorem isTm3_long {ds : List PyData} (h : 3 < ds.length) : isTm3 ds = false := by
  match ds, h with
  | _ :: _ :: _ :: _ :: _, _ => rfl
theorem isS_two {z w : Str} (h : z ≠ w) (d : PyData) : (isS z d && isS w d) = false := by
  cases d <;> simp [isS]
  rename_i y
  intro e; rw [e]; exact h
theorem term_step {m : Md} {f : Addr} {fd : FuncData} (F : C8.Def m.K m.mg "is_term" st_is_term f fd) (b : L2.Binds m.K fd ps_is_term []) (hi : m.mg "isinstance" = none) (h1 : m.mg "tuple" = none) (hlen : m.mg "len" = none) (Nm : Cal m 1 "is_name" (sp_is_name m)) (Wh : Cal m 1 "is_whole" (sp_is_whole m)) (N k : Nat) (hk : 1 ≤ k) (ih : ∀ M, M + 1 = N → Cal m k "_is_term_list" (sp_is m isTl M)) : Cal m (k + 1) "is_term" (sp_is m isTm N) := by
  refine cal_of F b sc_is_term (fun vs H Q E h => by obtain ⟨_, _, rfl, _⟩ := h; rfl) fun X vs H Q E hA h => ?_
  obtain ⟨v, d, rfl, o, hd, q⟩ := h
  obtain ⟨n0, n1⟩ := nv_is_term
  walk_at "B"
  walk_at "V"
  refine g_blt hA hi rfl bt_isinstance ?_
  walk_at "V"
  refine w_tyn hA h1 rfl bt_tuple ?_
  walk_at "V"
  refine g_isi hA (.ty "tuple") o.ty (kit_ty (kit_all "tuple" (by decide) d)) ?_
  walk_at "V"
  refine ite2 (fun h0 => ?_) fun h0 => ?_
  · have e : isTm d = false := by cases d <;> first | rfl | simp [isIn, tyD] at h0
    rw [e] at q
    refine iteT ?_
    walk_at "V"
    exact q H GrowX.refl
  obtain ⟨ds, rfl⟩ : ∃ ds, d = .tuple ds := by
    cases d <;> first | exact ⟨_, rfl⟩ | simp [isIn, tyD] at h0
  obtain ⟨a, xs, rfl, hs, da⟩ : ∃ a xs, v = .ref a ∧ SqT m.K H a xs ∧ ObAll m.K Any H xs ds := by
    cases o with | tup s r => exact ⟨_, _, rfl, s, r⟩
  have hxl := da.length
  have hdd : PyData.depthAll ds + 1 ≤ N := hd
  walk_at "V"
  refine g_blt hA hlen rfl bt_len ?_
  walk_at "V"
  refine g_lenT hA hs ?_
  walk_at "V"
  refine ite2 (fun h2 => ?_) fun h2 => ?_
  · walk_at "V"
    have e : isTm (.tuple ds) = false := isTm3_short (by simp at h2; omega)
    rw [e] at q
    exact q H GrowX.refl
  refine b_nil (b_cons ?_)
  have h2' : 2 ≤ ds.length := by simp at h2; omega
  walk_at "V"
  obtain ⟨d0, d1, ds2, rfl⟩ : ∃ d0 d1 ds2, ds = d0 :: d1 :: ds2 := by
    match ds, h2' with
    | d0 :: d1 :: ds2, _ => exact ⟨d0, d1, ds2, rfl⟩
  cases da with | cons o0 da => cases da with | cons o1 da =>
  rename_i x0 x1 xs2
  refine g_ixT hA hs (atI_at (j := 0) rfl) ?_
  walk_at "V"
  refine ⟨by walk_at "S", fun p2 hp2 => ?_⟩
  have g1 := Grow.new (T := m.T) (o := .tup [.str ("of" : Str), .str ("now" : Str)]) hp2
  refine g_inOb hA (g1.ob o0) upd_same ?_
  walk_at "V"
  refine ite2 (fun hw => ?_) fun hw => ?_
  · -- a part
    have hnr : isS "rank" d0 = false := by
      cases d0 <;> simp [isS] at hw ⊢
      rename_i y
      rcases hw with e | e <;> subst e <;> decide +kernel
    have hnf : (isS "first" d0 || isS "last" d0) = false := by
      cases d0 <;> simp [isS] at hw ⊢
      rename_i y
      rcases hw with e | e <;> subst e <;> decide +kernel
    walk_at "V"
    refine g_blt hA hlen rfl bt_len ?_
    walk_at "V"
    refine g_lenT hA (GrowX.seqT g1 hs) ?_
    walk_at "V"
    refine ite2 (fun h3 => ?_) fun h3 => ?_
    · obtain ⟨d2, rfl⟩ : ∃ d2, ds2 = [d2] := by
        have : ds2.length = 1 := by simp at h3 hxl; omega
        match ds2, this with
        | [d2], _ => exact ⟨d2, rfl⟩
      cases da with | cons o2 da =>
      cases da
      rename_i x2
      have eT : isTm (.tuple [d0, d1, d2]) = (isNm d1 && isWh d2) := by
        show (((isS "of" d0 || isS "now" d0) && isNm d1 && isWh d2) || (isS "rank" d0 && isTl d2 && rkOk d1 d2)) = _
        rw [hw, hnr]; simp
      rw [eT] at q
      walk_at "V"
      refine w_call hA Nm (by omega) rfl ?_
      walk_at "V"
      refine g_ixT hA (GrowX.seqT g1 hs) (atI_at (j := 1) rfl) ?_
      walk_at "V"
      refine ⟨x1, d1, Any, rfl, g1.ob o1, fun H2 g2 => ?_⟩
      walk_at "V"
      refine ite2 (fun h4 => ?_) fun h4 => ?_
      · walk_at "V"
        refine w_call hA Wh (by omega) rfl ?_
        walk_at "V"
        refine g_ixT hA (GrowX.seqT g2 (GrowX.seqT g1 hs)) (atI_at (j := 2) rfl) ?_
        walk_at "V"
        refine ⟨x2, d2, Any, rfl, g2.ob (g1.ob o2), ?_⟩
        rw [h4] at q
        exact q H2 (g1.trans g2)
      · have e : isNm d1 = false := by simpa using h4
        rw [e] at q
        exact q H2 (g1.trans g2)
    · have eT : isTm (.tuple (d0 :: d1 :: ds2)) = false := by
        match ds2, h3, hxl with
        | [], _, _ => show ((isS "first" d0 || isS "last" d0) && isTl d1) = false; rw [hnf]; rfl
        | [d2], h3, hxl => simp at h3 hxl; omega
        | _ :: _ :: _, _, _ => exact isTm3_long (by simp)
      rw [eT] at q
      exact q _ g1
  · refine b_nil (b_cons ?_)
    walk_at "V"
    refine ⟨by walk_at "S", fun p3 hp3 => ?_⟩
    have g2 := Grow.new (T := m.T) (o := .tup [.str ("first" : Str), .str ("last" : Str)]) hp3
    have g12 := g1.trans g2
    refine g_inOb hA (Grow.ob g12 o0) upd_same ?_
    walk_at "V"
    have hnp : (isS "of" d0 || isS "now" d0) = false := by simpa using hw
    refine ite2 (fun hw2 => ?_) fun hw2 => ?_
    · have hnr : isS "rank" d0 = false := by
        cases d0 <;> simp [isS] at hw2 ⊢
        rename_i y
        rcases hw2 with e | e <;> subst e <;> decide +kernel
      walk_at "V"
      refine g_blt hA hlen rfl bt_len ?_
      walk_at "V"
      refine g_lenT hA (GrowX.seqT g12 hs) ?_
      walk_at "V"
      refine ite2 (fun h3 => ?_) fun h3 => ?_
      · obtain rfl : ds2 = [] := by
          have : ds2.length = 0 := by simp at h3 hxl; omega
          exact List.length_eq_zero_iff.1 this
        have eT : isTm (.tuple [d0, d1]) = isTl d1 := by
          show ((isS "first" d0 || isS "last" d0) && isTl d1) = _
          rw [hw2]; rfl
        rw [eT] at q
        walk_at "V"
        refine w_call hA (ih (N - 1) (by omega)) (by omega) rfl ?_
        walk_at "V"
        refine g_ixT hA (GrowX.seqT g12 hs) (atI_at (j := 1) rfl) ?_
        walk_at "V"
        have hdep : d1.depth ≤ N - 1 := by
          have := depth_mem (ds := [d0, d1]) (i := 1) (d := d1) rfl
          omega
        exact ⟨x1, d1, rfl, Grow.ob g12 o1, hdep, fun H3 g3 => q H3 (g12.trans g3)⟩
      · have eT : isTm (.tuple (d0 :: d1 :: ds2)) = false := by
          match ds2, h3, hxl with
          | [], h3, hxl => simp only [decide_eq_true_eq, List.length_cons, List.length_nil] at h3 hxl; omega
          | [d2], _, _ =>
            show (((isS "of" d0 || isS "now" d0) && isNm d1 && isWh d2) || (isS "rank" d0 && isTl d2 && rkOk d1 d2)) = false
            rw [hnp, hnr]; rfl
          | _ :: _ :: _, _, _ => exact isTm3_long (by simp)
        rw [eT] at q
        exact q _ g12
    · have hnf : (isS "first" d0 || isS "last" d0) = false := by simpa using hw2
      refine b_nil (b_cons ?_)
      walk_at "v"
      walk_at "E"
      refine g_eqOb hA (Grow.ob g12 o0) ?_
      walk_at "E"
      -- what is left behind the if
      have last : ∀ H3, Grow m.T H H3 → isTm (.tuple (d0 :: d1 :: ds2)) = false → wB X (C8.fnBody st_is_term).tail.tail.tail.tail.tail { nx := fun _ H' => Q .non H', rt := Q } [some (.ref a), some x0] H3 := by
        intro H3 g3 e
        walk_at "B"
        walk_at "V"
        rw [e] at q
        exact q H3 g3
      have no3 : isS "rank" d0 = false ∨ ds2.length ≠ 1 → isTm (.tuple (d0 :: d1 :: ds2)) = false := by
        intro z
        match ds2, z with
        | [], _ => show ((isS "first" d0 || isS "last" d0) && isTl d1) = false; rw [hnf]; rfl
        | [d2], z =>
          have z' : isS "rank" d0 = false := by
            rcases z with z | z
            · exact z
            · exact absurd rfl z
          show (((isS "of" d0 || isS "now" d0) && isNm d1 && isWh d2) || (isS "rank" d0 && isTl d2 && rkOk d1 d2)) = false
          rw [hnp, z']; rfl
        | _ :: _ :: _, _ => exact isTm3_long (by simp)
      refine ite2 (fun hr => ?_) fun hr => ?_
      · walk_at "E"
        refine g_blt hA hlen rfl bt_len ?_
        walk_at "E"
        refine g_lenT hA (GrowX.seqT g12 hs) ?_
        walk_at "E"
        refine ite2 (fun h3 => ?_) fun h3 => ?_
        · obtain ⟨d2, rfl⟩ : ∃ d2, ds2 = [d2] := by
            have : ds2.length = 1 := by simp at h3 hxl; omega
            match ds2, this with
            | [d2], _ => exact ⟨d2, rfl⟩
          cases da with | cons o2 da =>
          cases da
          rename_i x2
          have eT : isTm (.tuple [d0, d1, d2]) = (isTl d2 && rkOk d1 d2) := by
            show (((isS "of" d0 || isS "now" d0) && isNm d1 && isWh d2) || (isS "rank" d0 && isTl d2 && rkOk d1 d2)) = _
            rw [hnp, hr]; rfl
          walk_at "E"
          refine w_call hA (ih (N - 1) (by omega)) (by omega) rfl ?_
          walk_at "E"
          refine g_ixT hA (GrowX.seqT g12 hs) (atI_at (j := 2) rfl) ?_
          walk_at "E"
          have hdep : d2.depth ≤ N - 1 := by
            have := depth_mem (ds := [d0, d1, d2]) (i := 2) (d := d2) rfl
            omega
          refine ⟨x2, d2, rfl, Grow.ob g12 o2, hdep, fun H3 g3 => ?_⟩
          have g13 := g12.trans g3
          walk_at "E"
          refine ite2 (fun h4 => ?_) fun h4 => ?_
          · rw [eT, h4] at q
            walk_at "V"
            refine w_call hA Wh (by omega) rfl ?_
            walk_at "V"
            refine g_ixT hA (GrowX.seqT g13 hs) (atI_at (j := 1) rfl) ?_
            walk_at "V"
            refine ⟨x1, d1, Any, rfl, Grow.ob g13 o1, ?_⟩
            walk_at "V"
            refine ite2 (fun h5 => ?_) fun h5 => ?_
            · obtain ⟨r, rfl⟩ : ∃ r, d1 = .int r := by
                cases d1 <;> first | exact ⟨_, rfl⟩ | simp [isWh] at h5
              obtain ⟨es, rfl⟩ : ∃ es, d2 = .list es := by
                cases d2 <;> first | exact ⟨_, rfl⟩ | simp [isTl] at h4
              obtain rfl : x1 = .int r := by cases o1; rfl
              obtain ⟨l, ys, rfl, hl, dl⟩ : ∃ l ys, x2 = .ref l ∧ SqL m.K H l ys ∧ ObAll m.K Any H ys es := by
                cases o2 with | lst _ s r _ => exact ⟨_, _, rfl, s, r⟩
              walk_at "V"
              refine w_chain ?_
              walk_at "V"
              refine g_ixT hA (GrowX.seqT g13 hs) (atI_at (j := 1) rfl) ?_
              walk_at "V"
              have eR : rkOk (.int r) (.list es) = (decide (1 ≤ r) && decide (r ≤ es.length)) := rfl
              rw [eR] at q
              refine ite2 (fun h6 => ?_) fun h6 => ?_
              · refine g_blt hA hlen rfl bt_len ?_
                walk_at "V"
                refine g_ixT hA (GrowX.seqT g13 hs) (atI_at (j := 2) rfl) ?_
                walk_at "V"
                refine g_lenL hA (GrowX.seqL g13 hl fun z => z) ?_
                rw [dl.length]
                walk_at "V"
                rw [h6] at q
                exact q H3 g13
              · have e : decide (1 ≤ r) = false := by simpa using h6
                rw [e] at q
                exact q H3 g13
            · have e : rkOk d1 d2 = false := by cases d1 <;> first | rfl | simp [isWh] at h5
              rw [e] at q
              exact q H3 g13
          · refine b_nil (last H3 g13 ?_)
            rw [eT]
            simp at h4
            rw [h4]; rfl
        · exact b_nil (last _ g12 (no3 (.inr (by simp at h3 hxl; omega))))
      · exact b_nil (last _ g12 (no3 (.inl (by simpa using hr))))
/-- is_term and _is_term_list, by the depth of what is asked -/
theorem c_is_term {m : Md} {f f2 : Addr} {fd fd2 : FuncData} (F : C8.Def m.K m.mg "is_term" st_is_term f fd) (b : L2.Binds m.K fd ps_is_term []) (F2 : C8.Def m.K m.mg "_is_term_list" st_x_is_term_list f2 fd2) (b2 : L2.Binds m.K fd2 ps_x_is_term_list [])
    (hi : m.mg "isinstance" = none) (h1 : m.mg "tuple" = none) (h2 : m.mg "list" = none) (hlen : m.mg "len" = none) (hall : m.mg "all" = none) (Nm : Cal m 1 "is_name" (sp_is_name m)) (Wh : Cal m 1 "is_whole" (sp_is_whole m)) : ∀ N, Cal m (N + 2) "is_term" (sp_is m isTm N) ∧ Cal m (N + 2) "_is_term_list" (sp_is m isTl N) := by
  intro N
  induction N with
  | zero => exact ⟨term_step F b hi h1 hlen Nm Wh 0 1 (by omega) fun M e => by omega, itl_step F2 b2 hi h2 hlen hall 0 1 fun M e => by omega⟩
  | succ N ih =>
    refine ⟨term_step F b hi h1 hlen Nm Wh (N + 1) (N + 2) (by omega) fun M e => ?_, itl_step F2 b2 hi h2 hlen hall (N + 1) (N + 2) fun M e => ?_⟩
    · obtain rfl : M = N := by omega
      exact ih.2
    · obtain rfl : M = N := by omega
      exact ih.1
/-- what is known of the class of rules -/
structure RuleC (m : Md) (C : Addr) : Prop where
  cl : Cls m.K C
  no : NoAttr m.K C "_term"
  gR : m.mg "Rule" = some (.ref C)
  ha : PySem.W.findIn m.K (.ref C) "__class__" = some (some (.builtin "object.__class__"))
  hn : PySem.W.specialIn m.K (.builtin "object.__class__") "__get__" = some (some (.builtin "getset_descriptor.__get__"))
  ht : PySem.W.takesIn m.K (.builtin "object.__class__") = some true
  hm : PySem.W.mroIn m.K C (.type "object") = some true
  own : PySem.W.kitOne m.K (.ref C) (.ref C) = some true
  oth : ∀ T ∈ ["NoneType", "bool", "int", "str", "list", "tuple", "dict"], PySem.W.kitOne m.K (.type T) (.ref C) = some false
/-- the rule of the term t stands at i; the lists of its term lie at addresses of A -/
def RuleAt (m : Md) (C : Addr) (A : Addr → Prop) (H : Hp) (i : Addr) (t : Tm) : Prop := ∃ dx u, H i = some (.ins C dx [("_term", u)]) ∧ Da m.K A H u t.py
def sp_rterm (m : Md) (C : Addr) (N : Nat) : Sp := fun vs H Q _ => ∃ (i : Addr) (t : Tm), vs = [.ref i] ∧ RuleAt m C Any H i t ∧ Tabs m.T H ∧ t.dep ≤ N ∧ t.wf ∧ ∀ (u : V) (H' : Hp), Grow m.T H H' → Fr m.K H H' u t.py → Q u H'
theorem m_term {m : Md} {C f : Addr} {fd : FuncData} (R : RuleC m C) (F : C8.Fun m.K "term" "Rule.term" st_Rule_term f fd) (b : L2.Binds m.K fd ps_Rule_term []) (me : Meth m.K C "term" f) (N : Nat) (Cp : Cal m (N + 3) "copied" (sp_copied m N)) : MetX m C8.CX0 (N + 4) C "term" (sp_rterm m C N) [] := by
  refine ⟨f, fd, ps_Rule_term, [], fnG_of F sc_Rule_term (fun vs H Q E h => by obtain ⟨_, _, rfl, _⟩ := h; rfl) fun X vs H Q E hA hM h => ?_, R.cl, me, b, .nil⟩
  obtain ⟨i, t, rfl, ⟨dx, u, hi, d⟩, hT, hd, hw, k⟩ := h
  have n0 := nv_Rule_term
  walk_at "B"
  walk_at "V"
  refine w_call hA Cp (by omega) rfl ?_
  walk_at "V"
  refine w_fld hA R.cl R.no ?_
  walk_at "V"
  refine ⟨i, dx, _, u, rfl, hi, rfl, ?_⟩
  walk_at "V"
  exact ⟨u, t, rfl, hT, d.sub fun _ _ => trivial, hd, hw, k⟩
def sp_req (m : Md) (C : Addr) : Sp := fun vs H Q _ => ∃ (i : Addr) (y : V) (t : Tm), vs = [.ref i, y] ∧ RuleAt m C Any H i t ∧ SeqAt.shaped t.py = true ∧
  ((∃ (j : Addr) (t' : Tm), y = .ref j ∧ RuleAt m C Any H j t' ∧ SeqAt.shaped t'.py = true ∧ Q (.bl (PyData.eqv t.py t'.py)) H) ∨ ∃ T, T ∈ ["NoneType", "bool", "int", "str", "list", "tuple", "dict"] ∧ TyX m.K H y (.type T) ∧ Q (.bl false) H)
theorem m_eq {m : Md} {C f : Addr} {fd : FuncData} (R : RuleC m C) (F : C8.Fun m.K "__eq__" "Rule.__eq__" st_Rule_eq f fd) (b : L2.Binds m.K fd ps_Rule_eq []) (me : Meth m.K C "__eq__" f) (hi : m.mg "isinstance" = none) : MetX m C8.CX0 1 C "__eq__" (sp_req m C) [] := by
  refine ⟨f, fd, ps_Rule_eq, [], fnG_of F sc_Rule_eq (fun vs H Q E h => by obtain ⟨_, _, _, rfl, _⟩ := h; rfl) fun X vs H Q E hA hM h => ?_, R.cl, me, b, .nil⟩
  obtain ⟨i, y, t, rfl, ⟨dx, u, hi1, d⟩, sh, k⟩ := h
  obtain ⟨n0, n1⟩ := nv_Rule_eq
  walk_at "B"
  walk_at "V"
  refine g_blt hA hi rfl bt_isinstance ?_
  walk_at "V"
  refine w_glb (v := .ref C) hA R.gR rfl rfl ?_
  walk_at "V"
  rcases k with ⟨j, t', rfl, ⟨dx', u', hj, d'⟩, sh', k⟩ | ⟨T, hT, ty, k⟩
  · refine g_isi hA (.own C) (.base (.ins hj R.cl R.ha R.hn R.ht R.hm)) R.own ?_
    walk_at "V"
    refine iteT ?_
    walk_at "V"
    refine w_fld hA R.cl R.no ?_
    walk_at "V"
    refine ⟨i, dx, _, u, rfl, hi1, rfl, ?_⟩
    refine w_fld hA R.cl R.no ?_
    walk_at "V"
    refine ⟨j, dx', _, u', rfl, hj, rfl, ?_⟩
    exact g_eqD hA (Da.dp _ _ d) (Da.dp _ _ d') sh sh' k
  · refine g_isi hA (.own C) ty (R.oth T hT) ?_
    walk_at "V"
    exact iteF k
/-- what making a rule of v asks: v is a term, or an object that is none -/
def sp_rinit (m : Md) (C CT : Addr) (N : Nat) : Sp := fun vs H Q E => ∃ (i dx : Addr) (v : V), vs = [.ref i, v] ∧ H i = some (.ins C dx []) ∧ Tabs m.T H ∧
  ((∃ t : Tm, Da m.K Any H v t.py ∧ txOk t.py ∧ isTm t.py = true ∧ t.py.depth ≤ N ∧ t.dep ≤ N ∧ t.wf ∧ ∀ (u : V) (H' : Hp), GrowX m.T (· = i) H H' → H' i = some (.ins C dx [("_term", u)]) → Da m.K (New H) H' u t.py → Q .non H') ∨
    ∃ d : PyData, Ob m.K Any H v d ∧ isTm d = false ∧ d.depth ≤ N ∧ ∀ (H' : Hp) (dE : Addr), Grow m.T H H' → H' dE = none → E (.ref CT) (some dE) (upd H' dE (.xd [("value", v)])))
theorem f_rinit {m : Md} {C CT f : Addr} {fd : FuncData} (R : RuleC m C) (F : C8.Fun m.K "__init__" "Rule.__init__" st_Rule_init f fd) (N : Nat) (I : Cal m (N + 2) "is_term" (sp_is m isTm N)) (Cp : Cal m (N + 3) "copied" (sp_copied m N)) (Er : ErrC m "InvalidTerm" CT "value") : FnG m (L2.CX m.P m.w) (N + 4) f fd ps_Rule_init (sp_rinit m C CT N) := by
  refine fnG_ofX F sc_Rule_init (fun vs H Q E h => by obtain ⟨_, _, _, rfl, _⟩ := h; rfl) fun X vs H Q E hA hM hF tk h => ?_
  obtain ⟨i, dx, v, rfl, hi, hT, h⟩ := h
  obtain ⟨n0, n1⟩ := nv_Rule_init
  walk_at "B"
  walk_at "V"
  refine w_call hA I (by omega) rfl ?_
  walk_at "V"
  rcases h with ⟨t, d, tx, ist, hdp, hdd, hw, k⟩ | ⟨d, o, ist, hdp, k⟩
  · refine ⟨v, t.py, rfl, Da.ob _ _ d tx, hdp, fun H1 g1 => ?_⟩
    rw [ist]
    walk_at "V"
    refine iteF (b_nil (b_one ?_))
    refine s_fld hA R.cl R.no ?_
    refine w_call hA Cp (by omega) rfl ?_
    walk_at "V"
    refine ⟨v, t, rfl, g1.tab hT, g1.da d, hdd, hw, fun u H2 g2 du => ?_⟩
    walk_at "V"
    have hi2 := g2.extN _ _ (g1.extN _ _ hi (fun _ z => by cases z)) (fun _ z => by cases z)
    refine ⟨i, dx, [], rfl, hi2, by decide, ?_⟩
    have gX : GrowX m.T (· = i) H2 (upd H2 i (.ins C dx (putF "_term" u []))) := GrowX.set rfl hi2 (fun _ z => by cases z) (fun _ z => by unfold CodeO at z; cases z) (fun _ z => by cases z) (fun _ _ z => by cases z)
    refine k u _ ((Grow.to (g1.trans g2)).trans gX) upd_same (gX.da (du.da.sub fun _ z => g1.keep _ z) fun a z w => ?_)
    rw [w] at z
    rw [show H i = none from z] at hi; cases hi
  · refine ⟨v, d, rfl, o, hdp, fun H1 g1 => ?_⟩
    rw [ist]
    walk_at "V"
    refine iteT (b_one ?_)
    refine s_raise hA tk Er (by omega) rfl ?_
    walk_at "V"
    exact fun dE hE => k H1 dE g1 hE
namespace Tm
def kids : Tm → List Tm
  | .part _ _ _ => []
  | .all _ ts => ts
  | .rank _ ts => ts
def over : Tm → List Tm → Tm
  | .part n z w, _ => .part n z w
  | .all f _, us => .all f us
  | .rank r _, us => .rank r us
theorem over_kids : ∀ t : Tm, t.over t.kids = t
  | .part _ _ _ => rfl
  | .all _ _ => rfl
  | .rank _ _ => rfl
theorem kids_wf {t : Tm} (h : t.wf) (hp : t.isPart = false) : t.kids ≠ [] ∧ t.kids.length < 1000 ∧ wfs t.kids := by
  cases t with
  | part _ _ _ => simp [isPart] at hp
  | all f ts => exact h
  | rank r ts => exact ⟨h.1, h.2.1, h.2.2.2.2⟩
theorem kids_dep {t : Tm} (hp : t.isPart = false) : t.dep = deps t.kids + 1 := by
  cases t with
  | part _ _ _ => simp [isPart] at hp
  | all f ts => rfl
  | rank r ts => rfl
theorem kids_cnt {t : Tm} (hp : t.isPart = false) : t.cnt = cnts t.kids := by
  cases t with
  | part _ _ _ => simp [isPart] at hp
  | all f ts => rfl
  | rank r ts => rfl
end Tm
/-- a term that is no part, taken apart: what stands ahead of its list, its list -/
theorem da_kids {K : PySem.W.Frag} {A : Addr → Prop} {H : Hp} {v : V} {t : Tm} (h : Da K A H v t.py) (hp : t.isPart = false) : ∃ (a l : Addr) (hd xs : List V), v = .ref a ∧ A l ∧ SqT K H a (hd ++ [.ref l]) ∧ hd ≠ [] ∧ hd.length ≤ 2 ∧ (∃ r, hd = .str (kw t) :: r) ∧ SqL K H l xs ∧ DaAll K A H xs (Tm.pys t.kids) ∧
    (∀ (A' : Addr → Prop) (H' : Hp) (a' l' : Addr) (us : List V) (ts : List Tm), SqT K H' a' (hd ++ [.ref l']) → A' l' → SqL K H' l' us → DaAll K A' H' us (Tm.pys ts) → Da K A' H' (.ref a') (t.over ts).py) ∧
    ∀ (H' : Hp) (a' l' : Addr) (us : List V) (ts : List Tm) (L : List Addr), SqT K H' a' (hd ++ [.ref l']) → H' l' = some (.lst us) → DnAll K H' us (Tm.pys ts) L → Dn K H' (.ref a') (t.over ts).py (l' :: L) := by
  cases t with
  | part _ _ _ => simp [Tm.isPart] at hp
  | all f ts =>
    obtain ⟨a, l, xs, rfl, hl, hs, hx, da⟩ := da_all h
    exact ⟨a, l, [.str (if f then "first" else "last")], xs, rfl, hl, hs, by simp, by simp, ⟨[], rfl⟩, hx, da, fun A' H' a' l' us ts s1 s2 s3 s4 => .tup s1 (.cons (.str _) (.cons (.lst s2 s3 s4) .nil)), fun H' a' l' us ts L s1 s2 s3 => by simpa [Tm.py, Tm.over] using Dn.tup s1 (.cons (.str (if f = true then "first" else "last")) (.cons (.lst s2 s3) .nil))⟩
  | rank r ts =>
    obtain ⟨a, l, xs, rfl, hl, hs, hx, da⟩ := da_rank h
    exact ⟨a, l, [.str "rank", .int r], xs, rfl, hl, hs, by simp, by simp, ⟨_, rfl⟩, hx, da, fun A' H' a' l' us ts s1 s2 s3 s4 => .tup s1 (.cons (.str _) (.cons (.int _) (.cons (.lst s2 s3 s4) .nil))), fun H' a' l' us ts L s1 s2 s3 => by simpa [Tm.py, Tm.over] using Dn.tup s1 (.cons (.str "rank") (.cons (.int r) (.cons (.lst s2 s3) .nil)))⟩
namespace Tm
mutual
/-- all names are names -/
def nms : Tm → Prop
  | .part _ z _ => IsName z
  | .all _ ts => nmss ts
  | .rank _ ts => nmss ts
def nmss : List Tm → Prop
  | [] => True
  | t :: ts => nms t ∧ nmss ts
end
theorem nmss_iff : ∀ {ts : List Tm}, nmss ts ↔ ∀ t ∈ ts, nms t
  | [] => by simp [nmss]
  | t :: ts => by rw [nmss, nmss_iff]; simp
mutual
theorem ok_nms {W : Int} {zs ns : List Str} (hz : ∀ z ∈ zs, IsName z) (hn : ∀ z ∈ ns, IsName z) : ∀ t : Tm, ok W zs ns t → nms t
  | .part n z w, h => part_name hz hn h.1
  | .all f ts, h => oks_nms hz hn ts h.2
  | .rank r ts, h => oks_nms hz hn ts h.2.2.2
theorem oks_nms {W : Int} {zs ns : List Str} (hz : ∀ z ∈ zs, IsName z) (hn : ∀ z ∈ ns, IsName z) : ∀ ts : List Tm, oks W zs ns ts → nmss ts
  | [], _ => trivial
  | t :: ts, h => ⟨ok_nms hz hn t h.1, oks_nms hz hn ts h.2⟩
end
mutual
theorem nms_isTm : ∀ t : Tm, wf t → nms t → isTm (py t) = true
  | .part n z w, _, h => by
    have e : nmB z = true := nmB_iff.2 h
    show ((isS "of" (.str (if n then "now" else "of")) || isS "now" (.str (if n then "now" else "of"))) && nmB z && true || (isS "rank" (.str (if n then "now" else "of")) && false && false)) = true
    rw [e]
    cases n <;> decide +kernel
  | .all f ts, w, h => by
    have e := nmss_isTm ts w.2.2 h
    have ne : (pys ts).isEmpty = false := by
      cases ts with
      | nil => exact absurd rfl w.1
      | cons _ _ => rfl
    show ((isS "first" (.str (if f then "first" else "last")) || isS "last" (.str (if f then "first" else "last"))) && (!(pys ts).isEmpty && isTms (pys ts))) = true
    rw [e, ne]
    cases f <;> decide +kernel
  | .rank r ts, w, h => by
    have e := nmss_isTm ts w.2.2.2.2 h
    have ne : (pys ts).isEmpty = false := by
      cases ts with
      | nil => exact absurd rfl w.1
      | cons _ _ => rfl
    have b : (decide (1 ≤ r) && decide (r ≤ (pys ts).length)) = true := by
      rw [pys_length, Bool.and_eq_true, decide_eq_true_eq, decide_eq_true_eq]
      exact ⟨w.2.2.1, w.2.2.2.1⟩
    show (((isS "of" (.str "rank") || isS "now" (.str "rank")) && false && false) || (isS "rank" (.str "rank") && (!(pys ts).isEmpty && isTms (pys ts)) && (decide (1 ≤ r) && decide (r ≤ (pys ts).length)))) = true
    rw [e, ne, b]
    decide +kernel
theorem nmss_isTm : ∀ ts : List Tm, wfs ts → nmss ts → isTms (pys ts) = true
  | [], _, _ => rfl
  | t :: ts, w, h => by
    rw [pys, isTms, nms_isTm t w.1 h.1, nmss_isTm ts w.2 h.2]; rfl
end
mutual
theorem nms_tx : ∀ t : Tm, wf t → nms t → txOk (py t)
  | .part n z w, _, h => by
    refine ⟨?_, ?_, trivial, trivial⟩
    · cases n <;> (show Str.length _ ≤ sizeLine; decide +kernel)
    · show z.length ≤ sizeLine
      have := h.2.1
      rw [sizeLine_eq]; omega
  | .all f ts, w, h => by
    refine ⟨?_, ⟨?_, nmss_tx ts w.2.2 h⟩, trivial⟩
    · cases f <;> (show Str.length _ ≤ sizeLine; decide +kernel)
    · rw [pys_length]; have := w.2.1; omega
  | .rank r ts, w, h => by
    refine ⟨?_, trivial, ⟨?_, nmss_tx ts w.2.2.2.2 h⟩, trivial⟩
    · show Str.length _ ≤ sizeLine; decide +kernel
    · rw [pys_length]; have := w.2.1; omega
theorem nmss_tx : ∀ ts : List Tm, wfs ts → nmss ts → txOks (pys ts)
  | [], _, _ => trivial
  | t :: ts, w, h => ⟨nms_tx t w.1 h.1, nmss_tx ts w.2 h.2⟩
end
mutual
theorem nms_lay : ∀ t : Tm, nms t → (py t).canLay0 = true
  | .part n z w, h => by
    have e1 : PyData.strOk z = true := by
      unfold PyData.strOk
      rw [Array.all_eq_true']
      intro c hc
      have := h.2.2 c (by simpa using hc)
      simp; omega
    have e2 : PyData.strOk (if n = true then "now" else "of") = true := by cases n <;> decide +kernel
    simp [py, PyData.canLay0, PyData.canLayAll0, e1, e2]
  | .all f ts, h => by
    have e2 : PyData.strOk (if f = true then "first" else "last") = true := by cases f <;> decide +kernel
    simp [py, PyData.canLay0, PyData.canLayAll0, e2, nmss_lay ts h]
  | .rank r ts, h => by
    have e2 : PyData.strOk "rank" = true := by decide +kernel
    simp [py, PyData.canLay0, PyData.canLayAll0, e2, nmss_lay ts h]
theorem nmss_lay : ∀ ts : List Tm, nmss ts → PyData.canLayAll0 (pys ts) = true
  | [], _ => rfl
  | t :: ts, h => by
    rw [pys, PyData.canLayAll0, nms_lay t h.1, nmss_lay ts h.2]; rfl
end
mutual
theorem no_dict : ∀ t : Tm, (py t).hasDict = false
  | .part n z w => rfl
  | .all f ts => by
    show (false || (PyData.hasDictAll (pys ts) || false)) = false
    rw [no_dicts ts]; rfl
  | .rank r ts => by
    show (false || (false || (PyData.hasDictAll (pys ts) || false))) = false
    rw [no_dicts ts]; rfl
theorem no_dicts : ∀ ts : List Tm, PyData.hasDictAll (pys ts) = false
  | [] => rfl
  | t :: ts => by
    show ((py t).hasDict || PyData.hasDictAll (pys ts)) = false
    rw [no_dict t, no_dicts ts]; rfl
end
/-- a term of at most N lists above each part -/
structure Gd (N : Nat) (t : Tm) : Prop where
  wf : t.wf
  nms : t.nms
  dep : t.dep ≤ N
theorem Gd.up {N M : Nat} {t : Tm} (h : Gd N t) (l : N ≤ M) : Gd M t := ⟨h.wf, h.nms, Nat.le_trans h.dep l⟩
theorem Gd.isTm {N : Nat} {t : Tm} (h : Gd N t) : isTm t.py = true := nms_isTm t h.wf h.nms
theorem Gd.tx {N : Nat} {t : Tm} (h : Gd N t) : txOk t.py := nms_tx t h.wf h.nms
theorem Gd.shaped {N : Nat} {t : Tm} (h : Gd N t) (hN : N ≤ 31) : SeqAt.shaped t.py = true := by
  unfold SeqAt.shaped
  have := depth_le t
  have := h.dep
  rw [nms_lay t h.nms, Bool.true_and, decide_eq_true_eq]
  omega
theorem Gd.depth {N : Nat} {t : Tm} (h : Gd N t) : t.py.depth ≤ 2 * N + 1 := by
  have := depth_le t
  have := h.dep
  omega
theorem deps_le_iff {N : Nat} : ∀ {ts : List Tm}, deps ts ≤ N ↔ ∀ t ∈ ts, dep t ≤ N
  | [] => by simp [deps]
  | t :: ts => by rw [deps, Nat.max_le, deps_le_iff]; simp
theorem Gd.all {N : Nat} {f : Bool} {ts : List Tm} (h : ∀ t ∈ ts, Gd N t) (ne : ts ≠ []) (l : ts.length < 1000) : Gd (N + 1) (.all f ts) :=
  ⟨⟨ne, l, wfs_iff.2 fun t z => (h t z).wf⟩, nmss_iff.2 fun t z => (h t z).nms, by show deps ts + 1 ≤ N + 1; have := deps_le_iff.2 fun t z => (h t z).dep; omega⟩
theorem Gd.rank {N : Nat} {r : Int} {ts : List Tm} (h : ∀ t ∈ ts, Gd N t) (ne : ts ≠ []) (l : ts.length < 1000) (r1 : 1 ≤ r) (r2 : r ≤ ts.length) : Gd (N + 1) (.rank r ts) :=
  ⟨⟨ne, l, r1, r2, wfs_iff.2 fun t z => (h t z).wf⟩, nmss_iff.2 fun t z => (h t z).nms, by show deps ts + 1 ≤ N + 1; have := deps_le_iff.2 fun t z => (h t z).dep; omega⟩
theorem Gd.kids {N : Nat} {t : Tm} (h : Gd (N + 1) t) : ∀ k ∈ t.kids, Gd N k := by
  cases t with
  | part _ _ _ => intro k hk; simp [Tm.kids] at hk
  | all f ts =>
    intro k hk
    refine ⟨wfs_iff.1 h.wf.2.2 k hk, nmss_iff.1 h.nms k hk, ?_⟩
    have h1 : k.dep ≤ deps ts := dep_mem hk
    have h2 : deps ts + 1 ≤ N + 1 := h.dep
    omega
  | rank r ts =>
    intro k hk
    refine ⟨wfs_iff.1 h.wf.2.2.2.2 k hk, nmss_iff.1 h.nms k hk, ?_⟩
    have h1 : k.dep ≤ deps ts := dep_mem hk
    have h2 : deps ts + 1 ≤ N + 1 := h.dep
    omega
end Tm
/-- a def that lets nothing out, by its body, with its frame -/
theorem fnG_ofF {m : Md} {N ps : List Str} {k : Nat} {x qual : Str} {st : Stmt} {f : Addr} {fd : FuncData} {sp : Sp} (F : C8.Fun m.K x qual st f fd) (S : FnScope N ps (C8.fnScope st)) (len : ∀ vs H Q E, sp vs H Q E → vs.length = ps.length)
    (hb : ∀ (X : Cx) (vs : List V) (H : Hp) (Q : VK) (E : XK), At m N (C8.fnScope st) k X → AtM X qual fd.code → Frm X → sp vs H Q E → wB X (C8.fnBody st) { nx := fun _ H' => Q .non H', rt := Q } (start N vs) H) : FnG m C8.CX0 (k + 1) f fd ps sp := by
  obtain ⟨oc, od, dV, kV, doc, pm, an, cdv, ct, osl, rfl, lk, hc⟩ := F.ex
  refine ⟨len, fun A outer s H args us vs Q E hg hr e0 bt r q => ?_⟩
  refine LamX.run_ofS (CX := C8.CX0) (N := N) lk hc S hr e0 bt r (len _ _ _ _ q) fun hr' => ⟨_, PSs.nox cB, ?_⟩
  exact hb (cxOf C8.CX0 m.P m.w m.K m.mg m.base N qual (C8.fnScope st) f cdv A outer s H E).nox vs H Q E ⟨rfl, rfl, rfl, rfl, rfl, rfl, rfl, rfl, hr', PassesOwn.never, S.nd, hg⟩ ⟨rfl, rfl, fun _ => rfl, rfl⟩ ⟨rfl, rfl⟩ q
theorem pass_at {m : Md} {N : List Str} {sc : Scope} {k : Nat} {X : Cx} {W : WX} {E : XK} {σ : L2.St} (h : At m N sc k X) (tk : L2.Takes X W) (hW : ∀ cls d H, E cls d H → W cls d σ H) : L2.PassesAt (L2.CX m.P m.w) X σ E := by
  rw [← h.pp, ← h.ww]
  exact fun _ _ _ e s' I c => tk e s' (XE.of_call I (fun cls d H' z => hW cls d H' z) c)
section
variable {X : Cx} {pins : List (Addr × Obj)} {σ : L2.St} {H : Hp} {s : Shared} {A : Addr → Prop} {v : V} {d : PyData} {u u' : Value}
theorem same_eq {A0 : Around} (I : Inv X pins σ H s) (o : Ob X.K A H v d) (r : L2.RelV v u) (r' : L2.RelV v u') (hu : A0.units < cLine) : SeqAt.EqAt A0 s u u' true := by
  cases o with
  | non => cases r; cases r'; exact SeqAt.EqAt.same _
  | bl b => cases r; cases r'; exact SeqAt.EqAt.same _
  | int i =>
    obtain ⟨t, rfl⟩ := r
    obtain ⟨t', rfl⟩ := r'
    have h := SeqAt.EqAt.int_int (A := A0) (s := s) i t i t'
    simpa using h
  | str y _ =>
    obtain ⟨t, rfl⟩ := r
    obtain ⟨t', rfl⟩ := r'
    have h := SeqAt.EqAt.str_str (A := A0) (s := s) y t y t'
    simpa using h
  | lst _ hs _ _ => cases r; cases r'; exact SeqAt.EqAt.same _
  | tup hs _ => cases r; cases r'; exact SeqAt.EqAt.same _
  | dct _ e => cases r; cases r'; exact SeqAt.EqAt.same _
end
/-- [x] != [x] -/
theorem g_neOne {m : Md} {N : List Str} {sc : Scope} {k : Nat} {X : Cx} {H : Hp} {Q : VK} {A : Addr → Prop} {v : V} {d : PyData} (h : At m N sc k X) {a b : Addr} (o : Ob m.K A H v d) (ha : H a = some (.lst [v])) (hb : H b = some (.lst [v])) (q : Q (.bl false) H) : gOp X (compareOp .NotEq) (.ref a) (.ref b) H Q := fun pins s σ u w I r rz => by
  cases r
  cases rz
  have hu := h.hu
  have o' : Ob X.K A H v d := by rw [h.kk]; exact o
  obtain ⟨its, rv, pl, hz⟩ := I.list (SqL.of ha)
  obtain ⟨its2, rv2, pl2, hz2⟩ := I.list (SqL.of hb)
  cases rv with | @cons _ w1 _ _ r1 rv =>
  cases rv
  cases rv2 with | @cons _ w2 _ _ r2 rv2 =>
  cases rv2
  have key := SeqAt.RcNeAt.lists (A := X.A) (e := fun _ => true) pl.isList pl2.isList rfl (by omega) (fun j h1 h2 => by
    have hj : j = 0 := by simp at h1; omega
    subst hj
    exact same_eq I o' r1 r2 (by show X.A.units + 1 < cLine; omega))
  exact key X.prog X.w X.xe _ ⟨.bl false, H, I, rfl, q⟩
/-- what == and != of rules ask of the class besides -/
structure RuleE (m : Md) (C : Addr) : Prop where
  nfS : PySem.W.notFirst m.K C (.ref C) = true
  nfO : ∀ T ∈ ["NoneType", "bool", "int", "str", "list", "tuple", "dict"], PySem.W.notFirst m.K C (.type T) = true
  ne : PySem.W.findIn m.K (.ref C) "__ne__" = some (some (.builtin "object.__ne__"))
section
variable {m : Md} {N : List Str} {sc : Scope} {k M : Nat} {X : Cx} {e : Expr} {σ : L2.St} {H : Hp} {Q : VK} {C CT : Addr} {pos p : Pos}
/-- Rule(e) of a term, where nothing is let out -/
theorem w_rule (h : At m N sc k X) (Mk : MakX m (L2.CX m.P m.w) (M + 4) "Rule" C (sp_rinit m C CT M) []) (hk : M + 5 ≤ k) (hg : sc.names.lookup ("Rule" : Str) = some .globalImplicit)
    (q : wE X e σ H fun v H1 => ∃ (t : Tm) (G : Nat), Da m.K Any H1 v t.py ∧ Tm.Gd G t ∧ 2 * G + 1 ≤ M ∧ Tabs m.T H1 ∧ ∀ (i : Addr) (H2 : Hp), Grow m.T H1 H2 → New H1 i → RuleAt m C (New H1) H2 i t → Q (.ref i) H2)
    (he : starEach [e] X.env = (false, eval e X.env) :: starEach [] X.env := by with_unfolding_all rfl) (hpl : (backTo pos (starEach [] X.env)).any (·.1) = false := by with_unfolding_all rfl) : wE X (.Call (.Name "Rule" p) [e] [] pos) σ H Q := by
  refine w_makX (E := fun _ _ _ => False) h Mk (by omega) hg (pass_at h L2.takes0 fun _ _ _ z => z) ?_ (by with_unfolding_all decide) he hpl
  refine w_cons (wE.mono q fun v H1 ⟨t, G, d, gd, hG, hT, k⟩ => ?_) he
  refine w_nil fun i dx hi hdx hne => ?_
  have g0 : Grow m.T H1 (upd (upd H1 dx (.own i)) i (.ins C dx [])) := (Grow.new hdx).trans (Grow.new (by rw [upd_ne (Ne.symm hne)]; exact hi))
  refine ⟨i, dx, v, rfl, upd_same, g0.tab hT, .inl ⟨t, g0.da d, gd.tx, gd.isTm, by have := gd.depth; omega, by have := gd.dep; omega, gd.wf, fun u H' g hi' du => ⟨rfl, ?_⟩⟩⟩
  have gAll : Grow m.T H1 H' := Grow.intoNew g0 g fun c z => by rw [z]; exact hi
  exact k i H' gAll hi ⟨dx, u, hi', du.sub fun a z => g0.keep _ z⟩
/-- x == y of two rules -/
theorem g_eqRule {j : Nat} (h : At m N sc k X) (R : RuleC m C) (E2 : RuleE m C) (me : MetX m C8.CX0 j C "__eq__" (sp_req m C) []) (hk : j ≤ k) {i i' : Addr} {t t' : Tm} (r : RuleAt m C Any H i t) (r' : RuleAt m C Any H i' t') (s : SeqAt.shaped t.py = true) (s' : SeqAt.shaped t'.py = true) (q : Q (.bl (PyData.eqv t.py t'.py)) H) : gOp X (compareOp .Eq) (.ref i) (.ref i') H Q := by
  have r0 := r
  obtain ⟨dx, u, hi, _⟩ := r0
  have r0' := r'
  obtain ⟨dx', u', hi', _⟩ := r0'
  refine g_eqIns (E := C8.E0) h me hk C8.pass0 hi (.base (.ins hi' R.cl R.ha R.hn R.ht R.hm)) E2.nfS ⟨i, .ref i', t, rfl, r, s, .inl ⟨i', t', rfl, r', s', _, rfl, q⟩⟩
theorem g_neRule {j : Nat} (h : At m N sc k X) (R : RuleC m C) (E2 : RuleE m C) (me : MetX m C8.CX0 j C "__eq__" (sp_req m C) []) (hk : j + 1 ≤ k) {i i' : Addr} {t t' : Tm} (r : RuleAt m C Any H i t) (r' : RuleAt m C Any H i' t') (s : SeqAt.shaped t.py = true) (s' : SeqAt.shaped t'.py = true) (q : Q (.bl (!PyData.eqv t.py t'.py)) H) : gOp X (compareOp .NotEq) (.ref i) (.ref i') H Q := by
  have r0 := r
  obtain ⟨dx, u, hi, _⟩ := r0
  have r0' := r'
  obtain ⟨dx', u', hi', _⟩ := r0'
  refine g_neIns (E := C8.E0) h me E2.ne R.hm hk C8.pass0 hi (.base (.ins hi' R.cl R.ha R.hn R.ht R.hm)) E2.nfS ⟨i, .ref i', t, rfl, r, s, .inl ⟨i', t', rfl, r', s', _, rfl, q⟩⟩
/-- x == y of a rule and something else -/
theorem g_eqRuleO {j : Nat} (h : At m N sc k X) (E2 : RuleE m C) (me : MetX m C8.CX0 j C "__eq__" (sp_req m C) []) (hk : j ≤ k) {i : Addr} {t : Tm} {y : V} {T : String} (hT : T ∈ ["NoneType", "bool", "int", "str", "list", "tuple", "dict"]) (ty : TyX m.K H y (.type T)) (r : RuleAt m C Any H i t) (s : SeqAt.shaped t.py = true) (q : Q (.bl false) H) : gOp X (compareOp .Eq) (.ref i) y H Q := by
  have r0 := r
  obtain ⟨dx, u, hi, _⟩ := r0
  exact g_eqIns (E := C8.E0) h me hk C8.pass0 hi ty (E2.nfO T hT) ⟨i, y, t, rfl, r, s, .inr ⟨T, hT, ty, _, rfl, q⟩⟩
theorem RuleAt.grow {T : List (Addr × Str)} {A : Addr → Prop} {S : Addr → Prop} {H' : Hp} {i : Addr} {t : Tm} (r : RuleAt m C A H i t) (g : GrowX m.T S H H') (n : ∀ a, A a → ¬ S a) (ni : ¬ S i) : RuleAt m C A H' i t := by
  obtain ⟨dx, u, hi, d⟩ := r
  exact ⟨dx, u, g.ext _ _ ni hi (fun _ z => by cases z), g.da d n⟩
theorem RuleAt.sub {A A' : Addr → Prop} {i : Addr} {t : Tm} (r : RuleAt m C A H i t) (h : ∀ a, A a → A' a) : RuleAt m C A' H i t := by
  obtain ⟨dx, u, hi, d⟩ := r
  exact ⟨dx, u, hi, d.sub h⟩
theorem RuleAt.any {A : Addr → Prop} {i : Addr} {t : Tm} (r : RuleAt m C A H i t) : RuleAt m C Any H i t := by
  obtain ⟨dx, u, hi, d⟩ := r
  exact ⟨dx, u, hi, d.sub fun _ _ => trivial⟩
end
/-- no address -/
abbrev NoA : Addr → Prop := fun _ => False
/-- what stands ahead of a term's list -/
def hdv : Tm → List V
  | .part _ _ _ => []
  | .all f _ => [.str (if f then "first" else "last")]
  | .rank r _ => [.str "rank", .int r]
theorem da_kid2 {K : PySem.W.Frag} {A : Addr → Prop} {H : Hp} {v : V} {t : Tm} (h : Da K A H v t.py) (hp : t.isPart = false) : ∃ (a l : Addr) (xs : List V), v = .ref a ∧ SqT K H a (hdv t ++ [.ref l]) ∧ SqL K H l xs ∧ DaAll K A H xs (Tm.pys t.kids) := by
  cases t with
  | part _ _ _ => simp [Tm.isPart] at hp
  | all f ts =>
    obtain ⟨a, l, xs, rfl, _, hs, hx, da⟩ := da_all h
    exact ⟨a, l, xs, rfl, hs, hx, da⟩
  | rank r ts =>
    obtain ⟨a, l, xs, rfl, _, hs, hx, da⟩ := da_rank h
    exact ⟨a, l, xs, rfl, hs, hx, da⟩
theorem hdv_word {t : Tm} (hp : t.isPart = false) (l : Addr) : (hdv t ++ [V.ref l])[0]? = some (.str (kw t)) := by
  cases t with
  | part _ _ _ => simp [Tm.isPart] at hp
  | all f ts => rfl
  | rank r ts => rfl
namespace Tm
/-- p in the place that the path tells -/
def rep (p : Tm) : List Nat → Tm → Tm
  | [], _ => p
  | i :: js, .all f ts => .all f (ts.set i (rep p js (ts.getD i p)))
  | i :: js, .rank r ts => .rank r (ts.set i (rep p js (ts.getD i p)))
  | _ :: _, t => t
/-- a path to a part -/
def vp : List Nat → Tm → Prop
  | [], t => t.isPart = true
  | i :: js, t => ∃ tj, t.kids[i]? = some tj ∧ vp js tj
theorem vp_cons {i : Nat} {js : List Nat} {t : Tm} (h : vp (i :: js) t) : t.isPart = false ∧ i < t.kids.length := by
  obtain ⟨tj, e, _⟩ := h
  refine ⟨?_, (List.getElem?_eq_some_iff.1 e).1⟩
  cases t with
  | part _ _ _ => simp [kids] at e
  | all _ _ => rfl
  | rank _ _ => rfl
theorem rep_all {p : Tm} {i : Nat} {js : List Nat} {f : Bool} {ts : List Tm} {tj : Tm} (e : ts[i]? = some tj) : rep p (i :: js) (.all f ts) = .all f (ts.set i (rep p js tj)) := by
  rw [rep, List.getD_eq_getElem?_getD, e]; rfl
theorem rep_rank {p : Tm} {i : Nat} {js : List Nat} {r : Int} {ts : List Tm} {tj : Tm} (e : ts[i]? = some tj) : rep p (i :: js) (.rank r ts) = .rank r (ts.set i (rep p js tj)) := by
  rw [rep, List.getD_eq_getElem?_getD, e]; rfl
end Tm
/-- a path as numbers, as values -/
abbrev pI (js : List Nat) : List Int := js.map fun j : Nat => (j : Int)
abbrev pv (js : List Nat) : List V := (pI js).map V.int
theorem cut_tail (x : V) (xs : List V) : cutV (x :: xs) (some 1) none = xs := by
  unfold cutV
  have e : HT.sIx (x :: xs).length 0 (some 1) = 1 := by
    show min (Int.toNat 1) (x :: xs).length = 1
    rw [List.length_cons]
    simp
  rw [HT.sIx_none, e]
  simp
theorem six_one (x : V) (xs : List V) : HT.sIx (x :: xs).length 0 (some 1) ≠ 0 := by
  show min (Int.toNat 1) (x :: xs).length ≠ 0
  rw [List.length_cons]
  simp
section
variable {m : Md} {N : List Str} {sc : Scope} {k : Nat} {X : Cx} {a b c e o : Expr} {σ : L2.St} {H : Hp} {Q : VK} {pos p2 : Pos}
/-- e[1:] of a tuple that is not empty -/
theorem w_tailT {j1 : Nat} {p1 : Pos} (h : At m N sc k X) (q : wE X e σ H fun x H1 => ∃ (a : Addr) (v : V) (xs : List V), x = .ref a ∧ SqT m.K H1 a (v :: xs) ∧ ∀ p, H1 p = none → Q (.ref p) (upd H1 p (.tup xs))) :
    wE X (.Subscript e (.Slice (some (.Constant (.int 1) j1 p1)) none none p2) pos) σ H Q := by
  refine toE (pe_slice sl_tup cE (po_some cE) po_none) ?_
  refine wE.mono q fun x H1 ⟨a, v, xs, ea, hs, q1⟩ => w_int ⟨1, rfl, a, v :: xs, ea, by rw [h.kk]; exact hs, fun z => six_one v xs z.1, ?_⟩
  rw [cut_tail]
  exact q1
end
/-- with_terms, the places of lists told by a predicate -/
def sp_with_termsA (m : Md) : Sp := fun vs H Q _ => ∃ (v : V) (l : Addr) (xs : List V) (t : Tm) (us : List Tm) (A B : Addr → Prop), vs = [v, .ref l] ∧ Da m.K A H v t.py ∧ B l ∧ H l = some (.lst xs) ∧ DaAll m.K B H xs (Tm.pys us) ∧
  ((∃ f ts, t = .all f ts) ∨ (∃ r ts, t = .rank r ts)) ∧
  ∀ (u : V) (t' : Tm) (H' : Hp), (∀ f ts, t = .all f ts → t' = .all f us) → (∀ r ts, t = .rank r ts → t' = .rank (min r us.length) us) → Grow m.T H H' → Da m.K B H' u t'.py → Q u H'
theorem c_with_termsA {m : Md} {f : Addr} {fd : FuncData} (F : C8.Def m.K m.mg "with_terms" st_with_terms f fd) (b : L2.Binds m.K fd ps_with_terms []) (hmin : m.mg "min" = none) (hlen : m.mg "len" = none) : Cal m 1 "with_terms" (sp_with_termsA m) := by
  refine cal_of F b sc_with_terms (fun vs H Q E h => by obtain ⟨_, _, _, _, _, _, _, rfl, _⟩ := h; rfl) fun X vs H Q E hA h => ?_
  obtain ⟨v, l, xs, t, us, A, B, rfl, d, bl, hl, da, ht, k⟩ := h
  obtain ⟨n0, n1⟩ := nv_with_terms
  have hxl : xs.length = us.length := by rw [da.length, Tm.pys_length]
  rcases ht with ⟨f, ts, rfl⟩ | ⟨r, ts, rfl⟩
  · obtain ⟨a, l0, ys, rfl, hl0, hs, _⟩ := da_all d
    walk_at "B"
    walk_at "V"
    refine g_ixT hA hs (atI_at (j := 0) rfl) ?_
    walk_at "V"
    rw [if_neg (by cases f <;> decide +kernel)]
    walk_at "V"
    refine g_ixT hA hs (atI_at (j := 0) rfl) ?_
    walk_at "V"
    refine ⟨by walk_at "S", fun p hp => ?_⟩
    have g := Grow.new (T := m.T) (o := .tup [.str (if f = true then ("first" : Str) else "last"), .ref l]) hp
    exact k (.ref p) (.all f us) _ (fun f' ts' e => by cases e; rfl) (fun r ts' e => by cases e) g (.tup (SqT.of upd_same) (.cons (.str _) (.cons (.lst bl (SqL.of (g.extN _ _ hl (fun _ z => by cases z))) (g.daAll da)) .nil)))
  · obtain ⟨a, l0, ys, rfl, hl0, hs, _⟩ := da_rank d
    walk_at "B"
    walk_at "V"
    refine g_ixT hA hs (atI_at (j := 0) rfl) ?_
    walk_at "V"
    rw [if_pos (by decide +kernel)]
    walk_at "V"
    refine g_blt hA hmin rfl bt_min ?_
    walk_at "V"
    refine g_ixT hA hs (atI_at (j := 1) rfl) ?_
    walk_at "V"
    refine g_blt hA hlen rfl bt_len ?_
    walk_at "V"
    refine g_lenL hA (SqL.of hl) ?_
    walk_at "V"
    refine g_min2 hA ?_
    rw [hxl]
    have e : (if (us.length : Int) < r then (us.length : Int) else r) = min r us.length := by omega
    rw [e]
    walk_at "V"
    refine ⟨by walk_at "S", fun p hp => ?_⟩
    have g := Grow.new (T := m.T) (o := .tup [.str ("rank" : Str), .int (min r us.length), .ref l]) hp
    exact k (.ref p) (.rank (min r us.length) us) _ (fun f' ts' e => by cases e) (fun r ts' e => by cases e; rfl) g (.tup (SqT.of upd_same) (.cons (.str _) (.cons (.int _) (.cons (.lst bl (SqL.of (g.extN _ _ hl (fun _ z => by cases z))) (g.daAll da)) .nil))))
/-- replaced(term, path, part) -/
def sp_replaced (m : Md) (N : Nat) : Sp := fun vs H Q _ => ∃ (v w : V) (pa : Addr) (t p : Tm) (js : List Nat), vs = [v, .ref pa, w] ∧ Tabs m.T H ∧ Da m.K Any H v t.py ∧ t.dep ≤ N ∧ t.wf ∧ SqT m.K H pa (pv js) ∧ Tm.vp js t ∧ p.isPart = true ∧ Da m.K NoA H w p.py ∧ ∀ (u : V) (H' : Hp), Grow m.T H H' → Da m.K (New H) H' u (Tm.rep p js t).py → Q u H'
theorem DaAll.set {K : PySem.W.Frag} {A : Addr → Prop} {H : Hp} {v : V} {d : PyData} (hv : Da K A H v d) : ∀ {xs : List V} {ds : List PyData} (i : Nat), DaAll K A H xs ds → DaAll K A H (xs.set i v) (ds.set i d)
  | _, _, _, .nil => .nil
  | _, _, 0, .cons _ r => .cons hv r
  | _, _, i + 1, .cons h r => .cons h (DaAll.set hv i r)
theorem replaced_step {m : Md} {f : Addr} {fd : FuncData} (F : C8.Def m.K m.mg "replaced" st_replaced f fd) (b : L2.Binds m.K fd ps_replaced []) (W : Cal m 1 "with_terms" (sp_with_termsA m)) (N : Nat) (Cp : Cal m (N + 3) "copied" (sp_copied m N)) (ih : ∀ M, M + 1 = N → Cal m (N + 3) "replaced" (sp_replaced m M)) : Cal m (N + 4) "replaced" (sp_replaced m N) := by
  refine cal_of F b sc_replaced (fun vs H Q E h => by obtain ⟨_, _, _, _, _, _, rfl, _⟩ := h; rfl) fun X vs H Q E hA h => ?_
  obtain ⟨v, w, pa, t, p, js, rfl, hT, d, hd, hw, hpa, hv, hp, dw, q⟩ := h
  obtain ⟨n0, n1, n2, n3⟩ := nv_replaced
  walk_at "B"
  walk_at "V"
  refine ⟨!js.isEmpty, .inr (.inl ⟨pv js, by rw [hA.kk]; exact hpa, by cases js <;> rfl⟩), ?_⟩
  cases js with
  | nil =>
    refine iteT ?_
    walk_at "V"
    exact q w H GrowX.refl (by
      cases p with
      | part n z w => exact da_parts dw
      | all _ _ => simp [Tm.isPart] at hp
      | rank _ _ => simp [Tm.isPart] at hp)
  | cons i js =>
    refine iteF (b_nil ?_)
    obtain ⟨hnp, hi⟩ := Tm.vp_cons hv
    obtain ⟨tj, htj, hvj⟩ := hv
    obtain ⟨M, rfl⟩ : ∃ M, M + 1 = N := ⟨N - 1, by have := Tm.kids_dep hnp; omega⟩
    obtain ⟨a, l, xs, rfl, hs, hl, da⟩ := da_kid2 d hnp
    obtain ⟨kne, klen, kwf⟩ := Tm.kids_wf hw hnp
    have kdep := Tm.kids_dep hnp
    have hxl : xs.length = t.kids.length := by rw [da.length, Tm.pys_length]
    walk_at "B"
    refine s_lcL hA n3 (by decide +kernel) (i := 4) ⟨rfl, rfl⟩ ?_
    walk_at "V"
    refine g_ixT hA hs (at_last _ _) ?_
    refine ⟨l, xs, rfl, hl, fun D1 hD1 => ⟨fun j H4 => Grow m.T H H4 ∧ ∃ us, us.length = j ∧ H4 D1 = some (.lst us) ∧ DaAll m.K (fun a => New H a ∧ a ≠ D1) H4 us (Tm.pys (t.kids.take j)), ⟨Grow.new hD1, [], rfl, upd_same, .nil⟩, fun j H4 _ hp4 => GrowX.seqL hp4.1 hl fun z => z, ?_, ?_⟩⟩
    · rintro j x H4 hx ⟨g4, us, ul, hv, du⟩ X' hX'
      have c2 := nl_of hX' 4 "inner"
      obtain ⟨pd, hpd, dx⟩ := da.getV hx
      rw [Tm.pys_map, List.getElem?_map] at hpd
      obtain ⟨tk, htk, rfl⟩ := Option.map_eq_some_iff.1 hpd
      have htm := List.mem_of_getElem? htk
      have hj : j < t.kids.length := by rw [← hxl]; exact (List.getElem?_eq_some_iff.1 hx).1
      refine w_call hX' Cp (by omega) rfl ?_
      walk_at "V"
      refine ⟨x, tk, rfl, g4.tab hT, g4.da dx, by have := Tm.dep_mem htm; omega, Tm.wfs_iff.1 kwf tk htm, fun u H5 g5 fr => ?_⟩
      have d5 := fr.da
      have hv5 := g5.extN _ _ hv (fun _ w => by cases w)
      have gX := GrowX.lst (T := m.T) (ys := us ++ [u]) hv5
      refine ⟨_, hv5, by rw [ul, sizeLine_eq]; omega, Grow.intoNew (g4.trans g5) gX (fun _ w => by rw [w]; exact hD1), us ++ [u], by simp [ul], upd_same, ?_⟩
      rw [List.take_add_one, htk, Option.toList, Tm.pys_append]
      refine gX.daAll (DaAll.append (g5.daAll du) (.cons (d5.sub fun a z => ⟨g4.keep _ z, fun w => ?_⟩) .nil)) fun a z => z.2
      rw [w] at z
      rw [show H4 D1 = none from z] at hv; cases hv
    · rintro H4 ⟨g4, us, ul, hv, du⟩
      rw [hxl, List.take_length] at du
      have ul2 : us.length = t.kids.length := by rw [ul, hxl]
      have atu : us[i]? = some (us.getD i .non) := by
        have lt : i < us.length := by omega
        rw [List.getD_eq_getElem?_getD, List.getElem?_eq_getElem lt]
        rfl
      obtain ⟨pd, hpd, dx⟩ := du.getV atu
      rw [Tm.pys_map, List.getElem?_map, htj] at hpd
      cases hpd
      generalize us.getD i .non = x at atu dx
      walk_at "B"
      walk_at "V"
      refine w_call hA (ih M rfl) (by omega) rfl ?_
      refine w_cons ?_
      walk_at "V"
      refine g_ixT hA (g4.seqT hpa) (atI_at (j := 0) rfl) ?_
      refine g_ixL hA (SqL.of hv) (atI_at atu) ?_
      refine w_cons (w_tailT hA ?_)
      walk_at "V"
      refine ⟨pa, _, _, rfl, g4.seqT hpa, fun p2 hp2 => ?_⟩
      have g5 := Grow.new (T := m.T) (o := .tup (pv js)) hp2
      walk_at "V"
      refine ⟨x, w, p2, tj, p, js, rfl, g5.tab (g4.tab hT), Grow.da g5 (dx.sub fun _ _ => trivial), by have := Tm.dep_mem (List.mem_of_getElem? htj); omega, Tm.wfs_iff.1 kwf tj (List.mem_of_getElem? htj), SqT.of upd_same, hvj, hp, Grow.da (g4.trans g5) dw, fun u H6 g6 du6 => ?_⟩
      have g56 := g5.trans g6
      have hv6 := Grow.extN g56 _ _ hv (fun _ w => by cases w)
      walk_at "V"
      refine g_ixT hA ((g4.trans g56).seqT hpa) (atI_at (j := 0) rfl) ?_
      refine ⟨D1, us, i, i, rfl, rfl, hv6, ?_, ?_⟩
      · rw [show us.length = us.length from rfl]; exact ixN_at (by omega)
      have gX := GrowX.lst (T := m.T) (ys := us.set i u) hv6
      have nD : ∀ a, New (upd H4 p2 (.tup (pv js))) a → a ≠ D1 := fun a z e => by
        rw [e] at z
        have z1 := g5.extN _ _ hv (fun _ w => by cases w)
        rw [show (upd H4 p2 (.tup (pv js))) D1 = none from z] at z1; cases z1
      have gAll := Grow.intoNew (g4.trans g56) gX (fun _ w => by rw [w]; exact hD1)
      have dset := gX.daAll (DaAll.set (du6.sub fun a z => ⟨g4.keep _ (g5.keep _ z), nD a z⟩) i (Grow.daAll g56 du)) fun a z => z.2
      walk_at "B"
      walk_at "V"
      refine w_call hA W (by omega) rfl ?_
      walk_at "V"
      refine ⟨.ref a, D1, _, t, t.kids.set i (Tm.rep p js tj), Any, New H, rfl, Grow.da gAll d, hD1, upd_same, ?_, ?_, fun u2 t' H7 k1 k2 g7 d7 => ?_⟩
      · have e : Tm.pys (t.kids.set i (Tm.rep p js tj)) = (Tm.pys t.kids).set i (Tm.rep p js tj).py := by
          rw [Tm.pys_map, Tm.pys_map, List.map_set]
        rw [e]
        exact dset.sub fun a z => z.1
      · cases t with
        | part _ _ _ => simp [Tm.isPart] at hnp
        | all f ts => exact .inl ⟨f, ts, rfl⟩
        | rank r ts => exact .inr ⟨r, ts, rfl⟩
      · have et : t' = Tm.rep p (i :: js) t := by
          cases t with
          | part _ _ _ => simp [Tm.isPart] at hnp
          | all f ts => rw [Tm.rep_all (ts := ts) htj]; exact k1 f ts rfl
          | rank r ts =>
            rw [Tm.rep_rank (ts := ts) htj, k2 r ts rfl]
            have z : r ≤ (ts.length : Int) := hw.2.2.2.1
            show Tm.rank (min r ((ts.set i (Tm.rep p js tj)).length : Int)) _ = _
            rw [List.length_set, Int.min_eq_left z]
            rfl
        exact q u2 H7 (gAll.trans g7) (by rw [← et]; exact d7)
theorem c_replaced {m : Md} {f : Addr} {fd : FuncData} (F : C8.Def m.K m.mg "replaced" st_replaced f fd) (b : L2.Binds m.K fd ps_replaced []) (W : Cal m 1 "with_terms" (sp_with_termsA m)) : ∀ N, Cal m (N + 3) "copied" (sp_copied m N) → (∀ M, M ≤ N → Cal m (M + 3) "copied" (sp_copied m M)) → Cal m (N + 4) "replaced" (sp_replaced m N) := by
  intro N
  induction N with
  | zero => exact fun Cp _ => replaced_step F b W 0 Cp fun M e => by omega
  | succ N ih =>
    refine fun Cp all => replaced_step F b W (N + 1) Cp fun M e => ?_
    obtain rfl : M = N := by omega
    exact ih (all M (by omega)) fun L hL => all L (by omega)
namespace Tm
mutual
/-- what is left when the parts at the paths gs are left out -/
def thin (gs : List (List Nat)) (js : List Nat) : Tm → Option Tm
  | .part n z w => if js ∈ gs then none else some (.part n z w)
  | .all f ts => match thins gs js 0 ts with | [] => none | u :: us => some (.all f (u :: us))
  | .rank r ts => match thins gs js 0 ts with | [] => none | u :: us => some (.rank (min r ((u :: us).length : Int)) (u :: us))
def thins (gs : List (List Nat)) (js : List Nat) (i : Nat) : List Tm → List Tm
  | [] => []
  | t :: ts => (thin gs (js ++ [i]) t).toList ++ thins gs js (i + 1) ts
end
theorem thins_append (gs : List (List Nat)) (js : List Nat) : ∀ (a b : List Tm) (i : Nat), thins gs js i (a ++ b) = thins gs js i a ++ thins gs js (i + a.length) b
  | [], b, i => by simp [thins]
  | t :: a, b, i => by
    rw [List.cons_append, thins, thins, thins_append gs js a b (i + 1), List.append_assoc, List.length_cons, show i + 1 + a.length = i + (a.length + 1) from by omega]
theorem thins_take {gs : List (List Nat)} {js : List Nat} {ts : List Tm} {j : Nat} {t : Tm} (h : ts[j]? = some t) : thins gs js 0 (ts.take (j + 1)) = thins gs js 0 (ts.take j) ++ (thin gs (js ++ [j]) t).toList := by
  have lj : j < ts.length := (List.getElem?_eq_some_iff.1 h).1
  rw [List.take_add_one, h, Option.toList, thins_append, List.length_take, Nat.min_eq_left (by omega)]
  simp [thins]
/-- the value of a term or of none -/
def opd : Option Tm → PyData
  | none => .none
  | some t => t.py
/-- what is left of each -/
def thinL (gs : List (List Nat)) (js : List Nat) (ts : List Tm) : List (Option Tm) := ts.mapIdx fun i t => thin gs (js ++ [i]) t
theorem thins_L (gs : List (List Nat)) (js : List Nat) (ts : List Tm) (i : Nat) : thins gs js i ts = (ts.mapIdx fun k t => thin gs (js ++ [i + k]) t).flatMap Option.toList := by
  induction ts generalizing i with
  | nil => rfl
  | cons t ts ih =>
    rw [thins, List.mapIdx_cons, List.flatMap_cons, ih (i + 1)]
    have e : (fun k t => thin gs (js ++ [i + 1 + k]) t) = fun k t => thin gs (js ++ [i + (k + 1)]) t := by
      funext k t; rw [show i + 1 + k = i + (k + 1) from by omega]
    rw [e]
    rfl
end Tm
/-- a path as a key -/
abbrev kyN (js : List Nat) : List Key := js.map fun j : Nat => .inl (j : Int)
theorem kyN_pv (js : List Nat) : (kyN js).map kV = pv js := by
  simp [pv, pI, List.map_map]
  intros
  rfl
theorem kyN_inj {a b : List Nat} (h : kyN a = kyN b) : a = b := by
  induction a generalizing b with
  | nil => cases b with
    | nil => rfl
    | cons _ _ => cases h
  | cons x a ih => cases b with
    | nil => cases h
    | cons y b =>
      have e := List.cons.inj h
      have e1 : (x : Int) = y := Sum.inl.inj e.1
      rw [ih e.2, show x = y from by omega]
theorem valV_mem (gs : List (List Nat)) (js : List Nat) (v : V) : (valV (gs.map fun g => (kyN g, v)) (kyN js)).isSome = decide (js ∈ gs) := by
  induction gs with
  | nil => rfl
  | cons g gs ih =>
    unfold valV at ih ⊢
    rw [List.map_cons, List.find?_cons]
    by_cases c : g = js
    · subst c; simp
    · rw [decide_eq_false (fun e => c (kyN_inj e))]
      rw [ih]
      simp
      exact fun e => absurd e.symm c
section
variable {m : Md} {N : List Str} {sc : Scope} {k : Nat} {X : Cx} {H : Hp} {Q : VK}
/-- p + (i,), the tuple itself told -/
theorem g_snocH (h : At m N sc k X) {l r : Addr} {js : List Nat} {i : Nat} (h1 : H l = some (.tup (pv js))) (h2 : H r = some (.tup [.int i])) (hz : js.length + 1 ≤ sizeLine) (q : ∀ p H', Grow m.T H H' → H' p = some (.tup (pv (js ++ [i]))) → Q (.ref p) H') : gOp X (binaryOp .Add) (.ref l) (.ref r) H Q := by
  refine gOp.of op_catA ⟨l, r, pv js, [.int i], rfl, rfl, SqT.of h1, SqT.of h2, by simpa using hz, fun e => ?_, ⟨fun _ e => absurd e (by simp), fun _ _ p hp => ?_⟩⟩
  · have e' : js = [] := by cases js with
      | nil => rfl
      | cons _ _ => cases e
    subst e'
    exact q r H GrowX.refl h2
  · refine q p _ (Grow.new hp) ?_
    rw [upd_same]
    simp [pv, pI]
end
/-- thinned(term, path, gone) -/
def sp_thinned (m : Md) (N : Nat) : Sp := fun vs H Q _ => ∃ (v : V) (p d : Addr) (t : Tm) (js : List Nat) (gs : List (List Nat)) (w : V), vs = [v, .ref p, .ref d] ∧ Da m.K Any H v t.py ∧ t.dep ≤ N ∧ t.wf ∧ H p = some (.tup (pv js)) ∧ js.length + N ≤ 1000 ∧ H d = some (.dT (gs.map fun g => (kyN g, w))) ∧
  ∀ (u : V) (H' : Hp), Grow m.T H H' → Da m.K (New H) H' u (Tm.opd (Tm.thin gs js t)) → Q u H'
/-- those that are not None -/
abbrev noN (us : List V) : List V := us.filter fun v => !decide (v = .non)
theorem noN_take {us : List V} {j : Nat} {v : V} (h : us[j]? = some v) : noN (us.take (j + 1)) = noN (us.take j) ++ if v = .non then [] else [v] := by
  rw [List.take_add_one, h, Option.toList, noN, List.filter_append]
  by_cases c : v = .non
  · subst c; simp
  · rw [if_neg c]; simp [c]
theorem da_noN {K : PySem.W.Frag} {A : Addr → Prop} {H : Hp} : ∀ (os : List (Option Tm)) (us : List V), DaAll K A H us (os.map Tm.opd) → DaAll K A H (noN us) (Tm.pys (os.flatMap Option.toList))
  | [], _, h => by cases h; exact .nil
  | none :: os, _, h => by
    cases h with
    | cons h1 h2 =>
      cases h1
      have z := da_noN os _ h2
      simpa [noN] using z
  | some t :: os, _, h => by
    cases h with
    | @cons v vs _ _ h1 h2 =>
      have z := da_noN os _ h2
      have nn : v ≠ .non := fun e => by
        subst e
        have h1' : Da K A H .non t.py := h1
        cases t <;> cases h1'
      have e : noN (v :: vs) = v :: noN vs := by simp [noN, nn]
      rw [e]
      exact .cons h1 z
theorem thinned_step {m : Md} {f : Addr} {fd : FuncData} (F : C8.Def m.K m.mg "thinned" st_thinned f fd) (b : L2.Binds m.K fd ps_thinned []) (hen : m.mg "enumerate" = none) (P : Cal m 1 "is_part" (sp_is_part m)) (W : Cal m 1 "with_terms" (sp_with_termsA m)) (N : Nat) (ih : ∀ M, M + 1 = N → Cal m (N + 1) "thinned" (sp_thinned m M)) : Cal m (N + 2) "thinned" (sp_thinned m N) := by
  refine cal_of F b sc_thinned (fun vs H Q E h => by obtain ⟨_, _, _, _, _, _, _, rfl, _⟩ := h; rfl) fun X vs H Q E hA h => ?_
  obtain ⟨v, p, d, t, js, gs, w, rfl, da, hdp, hw, hp, hj, hd, q⟩ := h
  obtain ⟨n0, n3, n1, n2⟩ := nv_thinned
  walk_at "B"
  walk_at "V"
  refine w_call hA P (by omega) rfl ?_
  walk_at "V"
  refine ⟨v, t, Any, rfl, da, fun H1 g1 => ?_⟩
  walk_at "V"
  have hp1 := Grow.extN g1 _ _ hp (fun _ z => by cases z)
  have hd1 := Grow.extN g1 _ _ hd (fun _ z => by cases z)
  refine ite2 (fun h0 => ?_) fun h0 => ?_
  · cases t with
    | all _ _ => simp [Tm.isPart] at h0
    | rank _ _ => simp [Tm.isPart] at h0
    | part n z wt =>
      walk_at "V"
      refine g_inDT hA hd1 (by rw [kyN_pv]; exact hp1) ?_
      rw [valV_mem]
      walk_at "V"
      refine ite2 (fun h1 => ?_) fun h1 => ?_
      · walk_at "V"
        refine q _ _ g1 ?_
        rw [Tm.thin, if_pos (of_decide_eq_true h1)]
        exact .non
      · walk_at "V"
        refine q _ _ g1 ?_
        rw [Tm.thin, if_neg (fun z => h1 (decide_eq_true z))]
        exact da_parts (Grow.da g1 da)
  · have hnp : t.isPart = false := by simpa using h0
    refine b_nil ?_
    obtain ⟨L, rfl⟩ : ∃ L, L + 1 = N := ⟨N - 1, by have := Tm.kids_dep hnp; omega⟩
    obtain ⟨a, l, xs, rfl, hs, hl, dk⟩ := da_kid2 (Grow.da g1 da) hnp
    obtain ⟨kne, klen, kwf⟩ := Tm.kids_wf hw hnp
    have kdep := Tm.kids_dep hnp
    have hxl : xs.length = t.kids.length := by rw [dk.length, Tm.pys_length]
    walk_at "B"
    refine s_lcEn hA hen rfl n3 (by decide +kernel) (i := 4) (j := 5) ⟨rfl, rfl⟩ ⟨rfl, rfl⟩ ?_
    walk_at "V"
    refine g_ixT hA hs (at_last _ _) ?_
    refine ⟨l, xs, rfl, hl, fun D1 hD1 => ⟨fun j H4 => Grow m.T H1 H4 ∧ ∃ us, us.length = j ∧ H4 D1 = some (.lst us) ∧ DaAll m.K (fun a => New H a ∧ a ≠ D1) H4 us ((Tm.thinL gs js (t.kids.take j)).map Tm.opd), ⟨Grow.new hD1, [], rfl, upd_same, .nil⟩, fun j H4 _ hp4 => GrowX.seqL hp4.1 hl fun z => z, ?_, ?_⟩⟩
    · rintro j x T H4 hx ⟨g4, us, ul, hv, du⟩ hT X' hX'
      have c1 := nc_of hX' 1 "path"
      have c2 := nc_of hX' 2 "gone"
      have c4 := nl_of hX' 4 "at"
      have c5 := nl_of hX' 5 "inner"
      obtain ⟨pd, hpd, dx⟩ := dk.getV hx
      rw [Tm.pys_map, List.getElem?_map] at hpd
      obtain ⟨tj, htj, rfl⟩ := Option.map_eq_some_iff.1 hpd
      have htm := List.mem_of_getElem? htj
      have hjl : j < t.kids.length := (List.getElem?_eq_some_iff.1 htj).1
      have gT := Grow.new (T := m.T) (o := .tup [.int j, x]) hT
      have g5 := g4.trans gT
      have hv5 := gT.extN _ _ hv (fun _ z => by cases z)
      have du5 := Grow.daAll gT du
      have keep5 : ∀ a, (upd H4 T (.tup [.int j, x])) a = none → H4 a = none := fun a z => gT.keep _ z
      generalize upd H4 T (.tup [.int j, x]) = H5 at g5 hv5 du5 keep5 ⊢
      have hp5 := Grow.extN g5 _ _ hp1 (fun _ z => by cases z)
      have hd5 := Grow.extN g5 _ _ hd1 (fun _ z => by cases z)
      refine w_call hX' (ih L rfl) (by omega) rfl ?_
      walk_at "V"
      refine ⟨by walk_at "S", fun T2 hT2 => ?_⟩
      have gT2 := Grow.new (T := m.T) (o := .tup [.int (j : Int)]) hT2
      refine g_snocH hX' (gT2.extN _ _ hp5 (fun _ z => by cases z)) upd_same (by rw [sizeLine_eq]; omega) fun p2 H6 g6 hp6 => ?_
      have g56 := gT2.trans g6
      walk_at "V"
      refine ⟨x, p2, d, tj, js ++ [j], gs, w, rfl, Grow.da (g5.trans g56) dx, by have := Tm.dep_mem htm; omega, Tm.wfs_iff.1 kwf tj htm, hp6, by rw [List.length_append, List.length_singleton]; omega, Grow.extN g56 _ _ hd5 (fun _ z => by cases z), fun u H7 g7 d7 => ?_⟩
      have g57 := g56.trans g7
      have hv7 := Grow.extN g57 _ _ hv5 (fun _ z => by cases z)
      have gX := GrowX.lst (T := m.T) (ys := us ++ [u]) hv7
      refine ⟨_, hv7, by rw [ul, sizeLine_eq]; omega, Grow.intoNew (g5.trans g57) gX (fun _ w => by rw [w]; exact hD1), us ++ [u], by simp [ul], upd_same, ?_⟩
      have e : (Tm.thinL gs js (t.kids.take (j + 1))).map Tm.opd = (Tm.thinL gs js (t.kids.take j)).map Tm.opd ++ [Tm.opd (Tm.thin gs (js ++ [j]) tj)] := by
        rw [List.take_add_one, htj, Option.toList, Tm.thinL, List.mapIdx_append, List.map_append, List.length_take, Nat.min_eq_left (by omega)]
        simp [Tm.thinL]
      rw [e]
      refine gX.daAll (DaAll.append (Grow.daAll g57 du5) (.cons (d7.sub fun a z => ⟨g1.keep _ (g5.keep _ (g56.keep _ z)), fun w => ?_⟩) .nil)) fun a z => z.2
      rw [w] at z
      rw [show H5 D1 = none from g56.keep _ z] at hv5; cases hv5
    · rintro H4 ⟨g4, us, ul, hv, du⟩
      rw [hxl, List.take_length] at du
      walk_at "B"
      refine s_lcLi hA n3 (by decide +kernel) (i := 5) ⟨rfl, rfl⟩ ?_
      walk_at "V"
      refine ⟨D1, us, rfl, SqL.of hv, fun D2 hD2 => ⟨fun j H5 => Grow m.T H4 H5 ∧ H5 D2 = some (.lst (noN (us.take j))), ⟨Grow.new hD2, upd_same⟩, fun j H5 _ hp5 => GrowX.seqL hp5.1 (SqL.of hv) fun z => z, ?_, ?_⟩⟩
      · rintro j x H5 hx ⟨g5, hv5⟩ X' hX'
        have c5 := nl_of hX' 5 "inner"
        walk_at "V"
        by_cases c : x = .non
        · rw [if_neg (by simp [c])]
          show Grow m.T H4 H5 ∧ _
          rw [noN_take hx, if_pos c, List.append_nil]
          exact ⟨g5, hv5⟩
        · rw [if_pos (by simp [c])]
          intro X' hX'
          have c5 := nl_of hX' 5 "inner"
          walk_at "V"
          have gX := GrowX.lst (T := m.T) (ys := noN (us.take j) ++ [x]) hv5
          refine ⟨_, hv5, ?_, Grow.intoNew g5 gX (fun _ w => by rw [w]; exact hD2), by rw [noN_take hx, if_neg c]; exact upd_same⟩
          have l1 : (noN (us.take j)).length ≤ us.length := Nat.le_trans (List.length_filter_le _ _) (by rw [List.length_take]; omega)
          rw [sizeLine_eq]; omega
      · rintro H5 ⟨g5, hv5⟩
        rw [List.take_length] at hv5
        have d5 := da_noN _ _ (Grow.daAll g5 du)
        have eL : (Tm.thinL gs js t.kids).flatMap Option.toList = Tm.thins gs js 0 t.kids := by
          rw [Tm.thins_L]
          simp [Tm.thinL]
        rw [eL] at d5
        have g15 := g4.trans g5
        have nD2 : New H D2 := g1.keep _ (g4.keep _ hD2)
        have hth : Tm.thin gs js t = match Tm.thins gs js 0 t.kids with | [] => none | u :: ts => some (match t with | .all f _ => .all f (u :: ts) | .rank r _ => .rank (min r ((u :: ts).length : Int)) (u :: ts) | p => p) := by
          cases t with
          | part _ _ _ => simp [Tm.isPart] at hnp
          | all f ts => rw [Tm.thin]; show _ = match Tm.thins gs js 0 ts with | [] => none | u :: us => some (Tm.all f (u :: us)); cases Tm.thins gs js 0 ts <;> rfl
          | rank r ts => rw [Tm.thin]; show _ = match Tm.thins gs js 0 ts with | [] => none | u :: us => some (Tm.rank (min r ((u :: us).length : Int)) (u :: us)); cases Tm.thins gs js 0 ts <;> rfl
        walk_at "B"
        walk_at "V"
        refine ⟨!(noN us).isEmpty, .inl ⟨noN us, by rw [hA.kk]; exact SqL.of hv5, rfl⟩, ?_⟩
        cases e : Tm.thins gs js 0 t.kids with
        | nil =>
          rw [e] at d5 hth
          have e2 : noN us = [] := by cases hn : noN us with
            | nil => rfl
            | cons _ _ => rw [hn] at d5; cases d5
          rw [if_neg (by simp [e2])]
          walk_at "V"
          refine q _ _ (g1.trans g15) ?_
          rw [hth]
          exact .non
        | cons t1 ts1 =>
          rw [e] at d5 hth
          have e2 : (!(noN us).isEmpty) = true := by cases hn : noN us with
            | nil => rw [hn] at d5; cases d5
            | cons _ _ => rfl
          rw [if_pos e2]
          walk_at "V"
          refine w_call hA W (by omega) rfl ?_
          walk_at "V"
          refine ⟨.ref a, D2, _, t, t1 :: ts1, Any, New H, rfl, Grow.da (g1.trans g15) da, nD2, hv5, d5.sub fun a z => z.1, ?_, fun u t' H7 k1 k2 g7 d7 => ?_⟩
          · cases t with
            | part _ _ _ => simp [Tm.isPart] at hnp
            | all f ts => exact .inl ⟨f, ts, rfl⟩
            | rank r ts => exact .inr ⟨r, ts, rfl⟩
          · refine q u H7 ((g1.trans g15).trans g7) ?_
            rw [hth]
            cases t with
            | part _ _ _ => simp [Tm.isPart] at hnp
            | all f ts => rw [k1 f ts rfl] at d7; exact d7
            | rank r ts => rw [k2 r ts rfl] at d7; exact d7
theorem c_thinned {m : Md} {f : Addr} {fd : FuncData} (F : C8.Def m.K m.mg "thinned" st_thinned f fd) (b : L2.Binds m.K fd ps_thinned []) (hen : m.mg "enumerate" = none) (P : Cal m 1 "is_part" (sp_is_part m)) (W : Cal m 1 "with_terms" (sp_with_termsA m)) : ∀ N, Cal m (N + 2) "thinned" (sp_thinned m N) := by
  intro N
  induction N with
  | zero => exact thinned_step F b hen P W 0 fun M e => by omega
  | succ N ih =>
    refine thinned_step F b hen P W (N + 1) fun M e => ?_
    obtain rfl : M = N := by omega
    exact ih
namespace Tm
mutual
/-- the parts with their paths -/
def ptN (js : List Nat) : Tm → List (List Nat × Tm)
  | .part n z w => [(js, .part n z w)]
  | .all _ ts => ptNs js 0 ts
  | .rank _ ts => ptNs js 0 ts
def ptNs (js : List Nat) (i : Nat) : List Tm → List (List Nat × Tm)
  | [] => []
  | t :: ts => ptN (js ++ [i]) t ++ ptNs js (i + 1) ts
end
/-- the part at a path -/
def sub : List Nat → Tm → Option Tm
  | [], t => if t.isPart = true then some t else none
  | i :: js, t => (t.kids[i]?).bind (sub js)
theorem ptNs_append (js : List Nat) : ∀ (a b : List Tm) (i : Nat), ptNs js i (a ++ b) = ptNs js i a ++ ptNs js (i + a.length) b
  | [], b, i => by simp [ptNs]
  | t :: a, b, i => by
    rw [List.cons_append, ptNs, ptNs, ptNs_append js a b (i + 1), List.append_assoc, List.length_cons, show i + 1 + a.length = i + (a.length + 1) from by omega]
theorem ptNs_take {js : List Nat} {ts : List Tm} {j : Nat} {t : Tm} (h : ts[j]? = some t) : ptNs js 0 (ts.take (j + 1)) = ptNs js 0 (ts.take j) ++ ptN (js ++ [j]) t := by
  have lj : j < ts.length := (List.getElem?_eq_some_iff.1 h).1
  rw [List.take_add_one, h, Option.toList, ptNs_append, List.length_take, Nat.min_eq_left (by omega)]
  simp [ptNs]
theorem ptN_kids (js : List Nat) {t : Tm} (h : t.isPart = false) : ptN js t = ptNs js 0 t.kids := by
  cases t with
  | part _ _ _ => simp [isPart] at h
  | all f ts => rfl
  | rank r ts => rfl
mutual
theorem ptN_len : ∀ (t : Tm) (js : List Nat), (ptN js t).length = t.cnt
  | .part _ _ _, _ => rfl
  | .all _ ts, js => ptNs_len ts js 0
  | .rank _ ts, js => ptNs_len ts js 0
theorem ptNs_len : ∀ (ts : List Tm) (js : List Nat) (i : Nat), (ptNs js i ts).length = cnts ts
  | [], _, _ => rfl
  | t :: ts, js, i => by rw [ptNs, List.length_append, ptN_len t, ptNs_len ts]; rfl
end
theorem siz_mem : ∀ {ts : List Tm} {t : Tm}, t ∈ ts → t.siz ≤ sizs ts
  | a :: ts, t, h => by
    show t.siz ≤ a.siz + sizs ts
    rcases List.mem_cons.1 h with e | e
    · rw [e]; omega
    · have := siz_mem e; omega
theorem ptNs_mem' (hN : ∀ (t : Tm), t ∈ ts → ∀ js e, e ∈ ptN js t ↔ ∃ ks, e.1 = js ++ ks ∧ sub ks t = some e.2) : ∀ (js : List Nat) (i : Nat) (e : List Nat × Tm), e ∈ ptNs js i ts ↔ ∃ k ks tk, ts[k]? = some tk ∧ e.1 = js ++ (i + k) :: ks ∧ sub ks tk = some e.2 := by
  induction ts with
  | nil => intro js i e; simp [ptNs]
  | cons t ts ih =>
    intro js i e
    rw [ptNs, List.mem_append, hN t List.mem_cons_self, ih (fun t ht => hN t (List.mem_cons_of_mem _ ht))]
    constructor
    · rintro (⟨ks, e1, e2⟩ | ⟨k, ks, tk, h1, e1, e2⟩)
      · exact ⟨0, ks, t, rfl, by rw [e1]; simp, e2⟩
      · exact ⟨k + 1, ks, tk, h1, by rw [e1, show i + 1 + k = i + (k + 1) from by omega], e2⟩
    · rintro ⟨k, ks, tk, h1, e1, e2⟩
      cases k with
      | zero => cases h1; exact .inl ⟨ks, by rw [e1]; simp, e2⟩
      | succ k => exact .inr ⟨k, ks, tk, h1, by rw [e1, show i + 1 + k = i + (k + 1) from by omega], e2⟩
theorem ptN_mem : ∀ (n : Nat) (t : Tm), t.siz ≤ n → ∀ js e, e ∈ ptN js t ↔ ∃ ks, e.1 = js ++ ks ∧ sub ks t = some e.2 := by
  intro n
  induction n with
  | zero => intro t h; have := siz_pos t; omega
  | succ n ih =>
    intro t h js e
    by_cases hp : t.isPart = true
    · cases t with
      | part nn z w =>
        constructor
        · intro he
          have he' := List.mem_singleton.1 he
          subst he'
          exact ⟨[], by simp, by simp [sub, isPart]⟩
        · rintro ⟨ks, e1, e2⟩
          cases ks with
          | nil =>
            rw [sub, if_pos hp] at e2
            have e3 := Option.some.inj e2
            refine List.mem_singleton.2 ?_
            rw [List.append_nil] at e1
            exact Prod.ext e1 e3.symm
          | cons i ks => simp [sub, kids] at e2
      | all _ _ => simp [isPart] at hp
      | rank _ _ => simp [isPart] at hp
    · have hp' : t.isPart = false := by simpa using hp
      rw [ptN_kids js hp', ptNs_mem' (fun tk hk => ih tk (by
        have z : tk.siz ≤ sizs t.kids := siz_mem hk
        have z2 : sizs t.kids < t.siz := by
          cases t with
          | part _ _ _ => simp [isPart] at hp'
          | all f ts => simp [kids, siz]
          | rank r ts => simp [kids, siz]
        omega))]
      constructor
      · rintro ⟨k, ks, tk, h1, e1, e2⟩
        exact ⟨k :: ks, by rw [e1]; simp, by rw [sub, h1]; exact e2⟩
      · rintro ⟨ks, e1, e2⟩
        cases ks with
        | nil => rw [sub, if_neg hp] at e2; cases e2
        | cons k ks =>
          rw [sub] at e2
          obtain ⟨tk, h1, h2⟩ := Option.bind_eq_some_iff.1 e2
          exact ⟨k, ks, tk, h1, by rw [e1]; simp, h2⟩
theorem sub_vp : ∀ {js : List Nat} {t p : Tm}, sub js t = some p → vp js t ∧ p.isPart = true
  | [], t, p, h => by
    rw [sub] at h
    by_cases c : t.isPart = true
    · rw [if_pos c] at h; cases h; exact ⟨c, c⟩
    · rw [if_neg c] at h; cases h
  | i :: js, t, p, h => by
    rw [sub] at h
    obtain ⟨tk, h1, h2⟩ := Option.bind_eq_some_iff.1 h
    exact ⟨⟨tk, h1, (sub_vp h2).1⟩, (sub_vp h2).2⟩
/-- whose path it is -/
theorem pt_iff {t p : Tm} {js : List Nat} : (js, p) ∈ ptN [] t ↔ sub js t = some p := by
  rw [ptN_mem _ t (Nat.le_refl _)]
  constructor
  · rintro ⟨ks, e1, e2⟩
    rw [List.nil_append] at e1
    rw [show js = ks from e1]; exact e2
  · exact fun h => ⟨js, rfl, h⟩
mutual
theorem ptN_nodup : ∀ (t : Tm) (js : List Nat), ((ptN js t).map (·.1)).Nodup
  | .part _ _ _, _ => by simp [ptN]
  | .all _ ts, js => ptNs_nodup ts js 0
  | .rank _ ts, js => ptNs_nodup ts js 0
theorem ptNs_nodup : ∀ (ts : List Tm) (js : List Nat) (i : Nat), ((ptNs js i ts).map (·.1)).Nodup
  | [], _, _ => by simp [ptNs]
  | t :: ts, js, i => by
    rw [ptNs, List.map_append, List.nodup_append]
    refine ⟨ptN_nodup t _, ptNs_nodup ts _ _, fun a ha b hb => ?_⟩
    obtain ⟨e, he, rfl⟩ := List.mem_map.1 ha
    obtain ⟨e', he', rfl⟩ := List.mem_map.1 hb
    obtain ⟨ks, e1, _⟩ := (ptN_mem _ t (Nat.le_refl _) _ _).1 he
    obtain ⟨k, ks', tk, _, e2, _⟩ := (ptNs_mem' (fun tk _ => ptN_mem _ tk (Nat.le_refl _)) _ _ _).1 he'
    rw [e1, e2]
    intro z
    rw [List.append_assoc] at z
    have z2 := List.append_cancel_left z
    have z3 := (List.cons.inj z2).1
    omega
end
end Tm
/-- a pair of path and part, the path's tuple told -/
def PtA (K : PySem.W.Frag) (H : Hp) (u : V) (e : List Nat × Tm) : Prop := ∃ (T b : Addr) (w : V), u = .ref T ∧ SqT K H T [.ref b, w] ∧ H b = some (.tup (pv e.1)) ∧ Da K NoA H w e.2.py
theorem Paired.app {α β : Type} {F : α → β → Prop} {a c : List α} {b d : List β} (h : Paired F a b) (k : Paired F c d) : Paired F (a ++ c) (b ++ d) := by
  induction h with
  | nil => exact k
  | cons h _ ih => exact .cons h ih
theorem Paired.imp {α β : Type} {F G : α → β → Prop} {a : List α} {b : List β} (h : Paired F a b) (k : ∀ x y, F x y → G x y) : Paired G a b := by
  induction h with
  | nil => exact .nil
  | cons h _ ih => exact .cons (k _ _ h) ih
/-- lists may change: no pair stands in one -/
theorem PtA.pairs {T : List (Addr × Str)} {S : Addr → Prop} {K : PySem.W.Frag} {H H' : Hp} {us : List V} {es : List (List Nat × Tm)} (g : GrowX T S H H') (hS : ∀ c, S c → ∃ xs, H c = some (.lst xs)) (h : Paired (PtA K H) us es) : Paired (PtA K H') us es :=
  Paired.imp h fun u e ⟨t, b, w, e1, e2, e3, e4⟩ => ⟨t, b, w, e1, GrowX.seqT g e2, g.tup _ _ e3, g.da e4 fun _ z => z.elim⟩
theorem PtA.pairsG {T : List (Addr × Str)} {K : PySem.W.Frag} {H H' : Hp} {us : List V} {es : List (List Nat × Tm)} (g : Grow T H H') (h : Paired (PtA K H) us es) : Paired (PtA K H') us es := PtA.pairs g (fun _ z => z.elim) h
def sp_parts_at (m : Md) (M : Nat) : Sp := fun vs H Q _ => ∃ (v : V) (p : Addr) (t : Tm) (js : List Nat), vs = [v, .ref p] ∧ Da m.K Any H v t.py ∧ t.dep ≤ M ∧ t.wf ∧ t.cnt ≤ 1000 ∧ H p = some (.tup (pv js)) ∧ js.length + M ≤ 1000 ∧
  ∀ u us H', Grow m.T H H' → New H u → H' u = some (.lst us) → Paired (PtA m.K H') us (t.ptN js) → Q (.ref u) H'
theorem parts_step {m : Md} {f : Addr} {fd : FuncData} (F : C8.Def m.K m.mg "parts_at" st_parts_at f fd) (b : L2.Binds m.K fd ps_parts_at []) (hen : m.mg "enumerate" = none) (P : Cal m 1 "is_part" (sp_is_part m)) (M : Nat) (ih : ∀ L, L + 1 = M → Cal m (M + 1) "parts_at" (sp_parts_at m L)) : Cal m (M + 2) "parts_at" (sp_parts_at m M) := by
  refine cal_of F b sc_parts_at (fun vs H Q E h => by obtain ⟨_, _, _, _, rfl, _⟩ := h; rfl) fun X vs H Q E hA h => ?_
  obtain ⟨v, p, t, js, rfl, d, hdp, hw, hc, hp, hj, q⟩ := h
  obtain ⟨n0, n1, n2, n3, n4⟩ := nv_parts_at
  walk_at "B"
  walk_at "V"
  refine w_call hA P (by omega) rfl ?_
  walk_at "V"
  refine ⟨v, t, Any, rfl, d, fun H1 g1 => ?_⟩
  walk_at "V"
  refine ite2 (fun h0 => ?_) fun h0 => ?_
  · cases t with
    | all _ _ => simp [Tm.isPart] at h0
    | rank _ _ => simp [Tm.isPart] at h0
    | part n z w =>
      walk_at "V"
      refine ⟨by walk_at "S", fun T hT => ?_⟩
      walk_at "V"
      have g2 := Grow.new (T := m.T) (o := .tup [.ref p, v]) hT
      refine ⟨by walk_at "S", fun u hu => ?_⟩
      have g3 := Grow.new (T := m.T) (o := .lst [.ref T]) hu
      have gA := (g1.trans g2).trans g3
      refine q u [.ref T] _ gA (g1.keep _ (g2.keep _ hu)) upd_same (.cons ⟨T, p, v, rfl, SqT.of (g3.extN _ _ upd_same (fun _ z => by cases z)), Grow.extN gA _ _ hp (fun _ z => by cases z), da_parts (Grow.da gA d)⟩ .nil)
  · have hnp : t.isPart = false := by simpa using h0
    refine b_nil (b_cons ?_)
    walk_at "V"
    refine ⟨by walk_at "S", fun D1 hD1 => ?_⟩
    obtain ⟨L, rfl⟩ : ∃ L, L + 1 = M := ⟨M - 1, by have := Tm.kids_dep hnp; omega⟩
    have g2 := Grow.new (T := m.T) (o := .lst []) hD1
    have hDn : New H D1 := g1.keep _ hD1
    have hd1 : (upd H1 D1 (.lst [])) D1 = some (.lst []) := upd_same
    generalize upd H1 D1 (.lst []) = H2 at g2 hd1 ⊢
    obtain ⟨a, l, hd0, xs, rfl, _, hs, _, _, _, hl, da, _⟩ := da_kids (Grow.da g1 d) hnp
    obtain ⟨kne, klen, kwf⟩ := Tm.kids_wf hw hnp
    have kdep := Tm.kids_dep hnp
    have kcnt := Tm.kids_cnt hnp
    have hxl : xs.length = t.kids.length := by rw [da.length, Tm.pys_length]
    walk_at "B"
    refine s_forEn hA (pg_tup hA.calm (pgs_cons (pg_nl hA n3) (pgs_cons (pg_nl hA n4) pgs_nil (by with_unfolding_all rfl)) (by with_unfolding_all rfl)) (by with_unfolding_all rfl) (by with_unfolding_all rfl)) hen rfl ?_
    walk_at "V"
    refine g_ixT hA (GrowX.seqT g2 hs) (at_last _ _) ?_
    refine ⟨l, xs, rfl, GrowX.seqL g2 hl fun z => z, fun j σ H4 => (∃ s3 s4, σ = [some (.ref a), some (.ref p), some (.ref D1), s3, s4]) ∧ Grow m.T H1 H4 ∧ ∃ us, H4 D1 = some (.lst us) ∧ Paired (PtA m.K H4) us (Tm.ptNs js 0 (t.kids.take j)), ?_, ?_, ?_, ?_⟩
    · exact ⟨⟨_, _, rfl⟩, g2, [], hd1, .nil⟩
    · rintro j σ H4 _ ⟨_, g14, _⟩
      exact GrowX.seqL g14 hl fun z => z
    · rintro j x T σ H4 hx ⟨⟨s3, s4, rfl⟩, g14, us, hu, du⟩ hT
      obtain ⟨pd, hpd, dx⟩ := da.getV hx
      rw [Tm.pys_map, List.getElem?_map] at hpd
      obtain ⟨tj, htj, rfl⟩ := Option.map_eq_some_iff.1 hpd
      have htm := List.mem_of_getElem? htj
      have hjl : j < t.kids.length := (List.getElem?_eq_some_iff.1 htj).1
      refine ⟨T, [.int j, x], rfl, by rw [hA.kk]; exact SqT.of upd_same, rfl, .int j, [x], rfl, x, [], rfl, rfl, ?_⟩
      have gT := Grow.new (T := m.T) (o := .tup [.int j, x]) hT
      have hu5 : (upd H4 T (.tup [.int j, x])) D1 = some (.lst us) := gT.extN _ _ hu (fun _ z => by cases z)
      have g15 := g14.trans gT
      generalize upd H4 T (.tup [.int j, x]) = H5 at gT hu5 g15 ⊢
      walk_at "B"
      refine s_expr (g_extend ?_)
      walk_at "V"
      refine ⟨tyL hu5, ?_⟩
      refine w_cons (w_call hA (ih L rfl) (by omega) rfl ?_)
      refine w_cons ?_
      walk_at "v"
      refine w_cons ?_
      walk_at "V"
      refine ⟨by walk_at "S", fun T2 hT2 => ?_⟩
      have gT2 := Grow.new (T := m.T) (o := .tup [.int j]) hT2
      have hp5 := Grow.extN (g1.trans (g15.trans gT2)) _ _ hp (fun _ z => by cases z)
      refine g_snocH hA hp5 upd_same (by rw [sizeLine_eq]; omega) fun pa H6 g6 hpa => ?_
      have g56 := gT2.trans g6
      have dN : Da m.K Any H6 x tj.py := Grow.da (g15.trans g56) dx
      refine w_nil ?_
      refine ⟨x, pa, tj, js ++ [j], rfl, dN, by have := Tm.dep_mem htm; omega, Tm.wfs_iff.1 kwf tj htm, ?_, hpa, by rw [List.length_append, List.length_singleton]; omega, fun u ws H7 g7 nu hu7 dw => ?_⟩
      · have z : tj.cnt ≤ Tm.cnts t.kids := by
          have e : t.kids = t.kids.take j ++ tj :: t.kids.drop (j + 1) := by
            have q1 := List.take_append_drop j t.kids
            rw [List.drop_eq_getElem_cons hjl] at q1
            have q2 : t.kids[j] = tj := by rw [List.getElem?_eq_getElem hjl] at htj; exact Option.some.inj htj
            rw [q2] at q1
            exact q1.symm
          rw [e, Tm.cnts_append]
          show tj.cnt ≤ _ + (tj.cnt + _)
          omega
        omega
      · have g57 := g56.trans g7
        have huD : H7 D1 = some (.lst us) := Grow.extN g57 _ _ hu5 (fun _ z => by cases z)
        refine w_nil ⟨D1, u, us, ws, rfl, rfl, huD, hu7, ?_, ?_⟩
        · have l1 := paired_len du
          have l2 := paired_len dw
          rw [Tm.ptN_len] at l2
          rw [Tm.ptNs_len] at l1
          have z1 : Tm.cnts (t.kids.take j) ≤ Tm.cnts t.kids := by
            have q1 := List.take_append_drop j t.kids
            rw [← q1, Tm.cnts_append, List.take_append_drop]
            omega
          rw [sizeLine_eq]
          have z2 : tj.cnt ≤ 1000 := by
            have e : t.kids = t.kids.take j ++ tj :: t.kids.drop (j + 1) := by
              have q1 := List.take_append_drop j t.kids
              rw [List.drop_eq_getElem_cons hjl] at q1
              have q2 : t.kids[j] = tj := by rw [List.getElem?_eq_getElem hjl] at htj; exact Option.some.inj htj
              rw [q2] at q1
              exact q1.symm
            have : Tm.cnts t.kids = Tm.cnts (t.kids.take j) + (tj.cnt + Tm.cnts (t.kids.drop (j + 1))) := by
              conv => lhs; rw [e, Tm.cnts_append]
              rfl
            omega
          omega
        · have gX := GrowX.lst (T := m.T) (ys := us ++ ws) huD
          refine b_nil ⟨⟨_, _, rfl⟩, Grow.intoNew ((g14.trans gT).trans g57) gX (fun c z => by rw [z]; exact hD1), us ++ ws, upd_same, ?_⟩
          rw [Tm.ptNs_take htj]
          exact PtA.pairs gX (fun c z => by rw [z]; exact ⟨us, huD⟩) (Paired.app (PtA.pairsG (gT.trans g57) du) dw)
    · rintro σ H4 ⟨⟨s3, s4, rfl⟩, g14, us, hu, du⟩
      rw [hxl, List.take_length] at du
      walk_at "B"
      walk_at "V"
      rw [Tm.ptN_kids js hnp] at q
      exact q D1 us H4 (g1.trans g14) hDn hu du
theorem c_parts_at {m : Md} {f : Addr} {fd : FuncData} (F : C8.Def m.K m.mg "parts_at" st_parts_at f fd) (b : L2.Binds m.K fd ps_parts_at []) (hen : m.mg "enumerate" = none) (P : Cal m 1 "is_part" (sp_is_part m)) : ∀ M, Cal m (M + 2) "parts_at" (sp_parts_at m M) := by
  intro M
  induction M with
  | zero => exact parts_step F b hen P 0 fun L e => by omega
  | succ M ih =>
    refine parts_step F b hen P (M + 1) fun L e => ?_
    obtain rfl : L = M := by omega
    exact ih
/-- the class of errors in what follows is not reached -/
def sp_need_rule (m : Md) (C : Addr) : Sp := fun vs H Q _ => ∃ (i : Addr) (t : Tm), vs = [.ref i] ∧ RuleAt m C Any H i t ∧ Q .non H
theorem c_need_rule {m : Md} {C f : Addr} {fd : FuncData} (R : RuleC m C) (F : C8.Def m.K m.mg "need_rule" st_need_rule f fd) (b : L2.Binds m.K fd ps_need_rule []) (hi : m.mg "isinstance" = none) : Cal m 1 "need_rule" (sp_need_rule m C) := by
  refine cal_of F b sc_need_rule (fun vs H Q E h => by obtain ⟨_, _, rfl, _⟩ := h; rfl) fun X vs H Q E hA h => ?_
  obtain ⟨i, t, rfl, ⟨dx, u, hi1, d⟩, k⟩ := h
  have n0 := nv_need_rule
  walk_at "B"
  walk_at "V"
  refine g_blt hA hi rfl bt_isinstance ?_
  walk_at "V"
  refine w_glb (v := .ref C) hA R.gR rfl rfl ?_
  walk_at "V"
  refine g_isi hA (.own C) (.base (.ins hi1 R.cl R.ha R.hn R.ht R.hm)) R.own ?_
  walk_at "V"
  exact iteF (b_nil (b_nil k))
/-- parts(rule) -/
def sp_parts (m : Md) (C : Addr) (M : Nat) : Sp := fun vs H Q _ => ∃ (i : Addr) (t : Tm), vs = [.ref i] ∧ RuleAt m C Any H i t ∧ Tabs m.T H ∧ t.dep ≤ M ∧ t.wf ∧ t.cnt ≤ 1000 ∧
  ∀ u us H', Grow m.T H H' → New H u → H' u = some (.lst us) → Paired (PtA m.K H') us (t.ptN []) → Q (.ref u) H'
theorem c_parts {m : Md} {C f : Addr} {fd : FuncData} (F : C8.Def m.K m.mg "parts" st_parts f fd) (b : L2.Binds m.K fd ps_parts []) (M : Nat) (hM : M ≤ 900) (Nr : Cal m 1 "need_rule" (sp_need_rule m C)) (Pa : Cal m (M + 2) "parts_at" (sp_parts_at m M)) (Te : MetX m C8.CX0 (M + 4) C "term" (sp_rterm m C M) []) : Cal m (M + 5) "parts" (sp_parts m C M) := by
  refine cal_of F b sc_parts (fun vs H Q E h => by obtain ⟨_, _, rfl, _⟩ := h; rfl) fun X vs H Q E hA h => ?_
  obtain ⟨i, t, rfl, r, hT, hdp, hw, hc, q⟩ := h
  have n0 := nv_parts
  walk_at "B"
  walk_at "V"
  refine w_call hA Nr (by omega) rfl ?_
  walk_at "V"
  refine ⟨i, t, rfl, r, ?_⟩
  walk_at "B"
  walk_at "V"
  refine w_call hA Pa (by omega) rfl ?_
  refine w_cons (w_met0 (E := C8.E0) hA Te (by omega) C8.pass0 ?_)
  walk_at "V"
  obtain ⟨dx, u0, hi, du⟩ := r
  refine ⟨i, dx, _, rfl, hi, rfl, ?_⟩
  refine ⟨i, t, rfl, ⟨dx, u0, hi, du⟩, hT, hdp, hw, fun u H1 g1 fr => ?_⟩
  walk_at "V"
  refine ⟨by walk_at "S", fun p hp => ?_⟩
  walk_at "V"
  have g2 := Grow.new (T := m.T) (o := .tup []) hp
  refine ⟨u, p, t, [], rfl, Grow.da g2 (fr.da.sub fun _ _ => trivial), hdp, hw, hc, upd_same, by show 0 + M ≤ 1000; omega, fun w us H2 g3 nw hu d => ?_⟩
  exact q w us H2 ((GrowX.trans g1 g2).trans g3) (GrowX.new (GrowX.trans g1 g2) nw) hu d
section
variable {K : PySem.W.Frag} {H : Hp}
/-- what dict(..) of the pairs asks -/
theorem pt_dict : ∀ {us : List V} {es : List (List Nat × Tm)}, Paired (PtA K H) us es → ∃ (ps : List Addr) (ks : List (Addr × List Key × V)), us = ps.map V.ref ∧ Paired (fun p kv => SqT K H p [.ref kv.1, kv.2.2] ∧ H kv.1 = some (.tup (kv.2.1.map kV))) ps ks ∧ Paired (fun kv e => kv.2.1 = kyN e.1 ∧ Da K NoA H kv.2.2 e.2.py) ks es := by
  intro us es h
  induction h with
  | nil => exact ⟨[], [], rfl, .nil, .nil⟩
  | @cons u e us es h _ ih =>
    obtain ⟨ps, ks, rfl, h1, h2⟩ := ih
    obtain ⟨T, b, w, rfl, hs, hb, dw⟩ := h
    exact ⟨T :: ps, (b, kyN e.1, w) :: ks, rfl, .cons ⟨hs, by rw [kyN_pv]; exact hb⟩ h1, .cons ⟨rfl, dw⟩ h2⟩
theorem pt_keys {ks : List (Addr × List Key × V)} {es : List (List Nat × Tm)} (h : Paired (fun kv e => kv.2.1 = kyN e.1 ∧ Da K NoA H kv.2.2 e.2.py) ks es) : ks.map (·.2.1) = es.map fun e => kyN e.1 := by
  induction h with
  | nil => rfl
  | cons h _ ih => rw [List.map_cons, List.map_cons, ih, h.1]
theorem nodup_ky {es : List (List Nat × Tm)} (h : (es.map (·.1)).Nodup) : (es.map fun e => kyN e.1).Nodup := by
  induction es with
  | nil => exact List.nodup_nil
  | cons e es ih =>
    rw [List.map_cons, List.nodup_cons] at h ⊢
    refine ⟨fun z => h.1 ?_, ih h.2⟩
    obtain ⟨e', h1, h2⟩ := List.mem_map.1 z
    exact List.mem_map.2 ⟨e', h1, kyN_inj h2⟩
/-- looking a path up -/
theorem pt_look {ks : List (Addr × List Key × V)} {es : List (List Nat × Tm)} (h : Paired (fun kv e => kv.2.1 = kyN e.1 ∧ Da K NoA H kv.2.2 e.2.py) ks es) (js : List Nat) :
    (∃ p w, (js, p) ∈ es ∧ valV (ks.map (·.2)) (kyN js) = some w ∧ Da K NoA H w p.py) ∨ ((∀ p, (js, p) ∉ es) ∧ valV (ks.map (·.2)) (kyN js) = none) := by
  induction h with
  | nil => exact .inr ⟨fun _ z => (by cases z), rfl⟩
  | @cons kv e ks es h _ ih =>
    unfold valV at ih ⊢
    rw [List.map_cons, List.find?_cons]
    by_cases c : kv.2.1 = kyN js
    · rw [decide_eq_true c]
      have e1 : e.1 = js := kyN_inj (h.1.symm.trans c)
      exact .inl ⟨e.2, kv.2.2, by rw [← e1]; exact List.mem_cons_self, rfl, h.2⟩
    · rw [decide_eq_false c]
      rcases ih with ⟨p, w, h1, h2, h3⟩ | ⟨h1, h2⟩
      · exact .inl ⟨p, w, List.mem_cons_of_mem _ h1, h2, h3⟩
      · refine .inr ⟨fun p z => ?_, h2⟩
        rcases List.mem_cons.1 z with e1 | e1
        · exact c (by rw [h.1, ← e1])
        · exact h1 p e1
end
/-- a whole number from 0 -/
def isCt : PyData → Bool
  | .int i => decide (0 ≤ i)
  | _ => false
/-- a tuple of such -/
def isPth : PyData → Bool
  | .tuple ds => ds.all isCt
  | _ => false
def sp_is_count (m : Md) : Sp := fun vs H Q _ => ∃ (v : V) (d : PyData) (A : Addr → Prop), vs = [v] ∧ Ob m.K A H v d ∧ Q (.bl (isCt d)) H
theorem c_is_count {m : Md} {f : Addr} {fd : FuncData} (F : C8.Def m.K m.mg "is_count" st_is_count f fd) (b : L2.Binds m.K fd ps_is_count []) (Wh : Cal m 1 "is_whole" (sp_is_whole m)) : Cal m 2 "is_count" (sp_is_count m) := by
  refine cal_of F b sc_is_count (fun vs H Q E h => by obtain ⟨_, _, _, rfl, _⟩ := h; rfl) fun X vs H Q E hA h => ?_
  obtain ⟨v, d, A, rfl, o, k⟩ := h
  have n0 := nv_is_count
  walk_at "B"
  walk_at "V"
  refine w_call hA Wh (by omega) rfl ?_
  walk_at "V"
  refine ⟨v, d, A, rfl, o, ?_⟩
  walk_at "V"
  cases o with
  | int i =>
    refine iteT ?_
    walk_at "V"
    exact k
  | _ => exact iteF k
/-- is_path(value) -/
def sp_is_path (m : Md) : Sp := fun vs H Q _ => ∃ (v : V) (d : PyData), vs = [v] ∧ Ob m.K Any H v d ∧ (∀ ds, d = .tuple ds → ds.length ≤ 1000) ∧ ∀ H', Grow m.T H H' → Q (.bl (isPth d)) H'
theorem c_is_path {m : Md} {f : Addr} {fd : FuncData} (F : C8.Def m.K m.mg "is_path" st_is_path f fd) (b : L2.Binds m.K fd ps_is_path []) (hi : m.mg "isinstance" = none) (h1 : m.mg "tuple" = none) (hall : m.mg "all" = none) (Ct : Cal m 2 "is_count" (sp_is_count m)) : Cal m 3 "is_path" (sp_is_path m) := by
  refine cal_of F b sc_is_path (fun vs H Q E h => by obtain ⟨_, _, rfl, _⟩ := h; rfl) fun X vs H Q E hA h => ?_
  obtain ⟨v, d, rfl, o, hd, q⟩ := h
  have n0 := nv_is_path
  walk_at "B"
  walk_at "V"
  refine g_blt hA hi rfl bt_isinstance ?_
  walk_at "V"
  refine w_tyn hA h1 rfl bt_tuple ?_
  walk_at "V"
  refine g_isi hA (.ty "tuple") o.ty (kit_ty (kit_all "tuple" (by decide) d)) ?_
  walk_at "V"
  refine ite2 (fun h0 => ?_) fun h0 => ?_
  · obtain ⟨ds, rfl⟩ : ∃ ds, d = .tuple ds := by
      cases d <;> first | exact ⟨_, rfl⟩ | simp [isIn, tyD] at h0
    obtain ⟨a, xs, rfl, hs, da⟩ : ∃ a xs, v = .ref a ∧ SqT m.K H a xs ∧ ObAll m.K Any H xs ds := by
      cases o with | tup s r => exact ⟨_, _, rfl, s, r⟩
    have hz := hd ds rfl
    have hl := da.length
    walk_at "V"
    refine g_blt hA hall rfl bt_all ?_
    refine w_cons (w_lcT hA (by decide +kernel) (i := 1) ⟨rfl, rfl⟩ ?_)
    walk_at "V"
    refine ⟨a, xs, rfl, hs, fun D hD => ⟨fun j H' => Grow m.T H H' ∧ H' D = some (.lst (((ds.take j).map isCt).map V.bl)), ?_, ?_, ?_, ?_⟩⟩
    · exact ⟨Grow.new hD, upd_same⟩
    · rintro j H' _ ⟨g, _⟩
      exact GrowX.seqT g hs
    · rintro j x H' hx ⟨g, hv⟩ X' hX'
      have c1 := nl_of hX' 1 "step"
      obtain ⟨dj, hdj, oj⟩ := da.getV hx
      refine w_call hX' Ct (by omega) rfl ?_
      walk_at "V"
      refine ⟨x, dj, Any, rfl, g.ob oj, ?_⟩
      have hjl := (List.getElem?_eq_some_iff.1 hx).1
      refine ⟨_, hv, by rw [List.length_map, List.length_map, List.length_take, sizeLine_eq]; omega, Grow.intoNew g (GrowX.lst hv) (fun _ w => by rw [w]; exact hD), ?_⟩
      rw [upd_same, List.take_add_one, hdj]
      simp
    · rintro H' ⟨g, hv⟩
      rw [hl, List.take_length] at hv
      walk_at "V"
      refine g_all hA (SqL.of hv) ?_
      have e : isPth (.tuple ds) = (ds.map isCt).all id := by
        rw [isPth, List.all_map]
        rfl
      rw [e] at q
      exact q H' g
  · have e : isPth d = false := by
      cases d <;> first | rfl | simp [isIn, tyD] at h0
    rw [e] at q
    exact q H GrowX.refl
/-- need_whole(value): a number passes, None is refused -/
def sp_need_whole (m : Md) (CW : Addr) : Sp := fun vs H Q E => (∃ i : Int, vs = [.int i] ∧ Q .non H) ∨ (vs = [.non] ∧ ∀ (H' : Hp) (dE : Addr), Grow m.T H H' → H' dE = none → E (.ref CW) (some dE) (upd H' dE (.xd [("value", .non)])))
theorem c_need_whole {m : Md} {CW f : Addr} {fd : FuncData} (F : C8.Def m.K m.mg "need_whole" st_need_whole f fd) (b : L2.Binds m.K fd ps_need_whole []) (Wh : Cal m 1 "is_whole" (sp_is_whole m)) (Er : ErrC m "InvalidWhole" CW "value") : CalX m (L2.CX m.P m.w) 3 "need_whole" (sp_need_whole m CW) [] := by
  refine calX_of F b sc_need_whole (fun vs H Q E h => by rcases h with ⟨_, rfl, _⟩ | ⟨rfl, _⟩ <;> rfl) fun X vs H Q E hA hM hF tk h => ?_
  have n0 := nv_need_whole
  rcases h with ⟨i, rfl, q⟩ | ⟨rfl, q⟩
  · walk_at "B"
    walk_at "V"
    refine w_call hA Wh (by omega) rfl ?_
    walk_at "V"
    refine ⟨.int i, .int i, Any, rfl, .int _, ?_⟩
    walk_at "V"
    rw [show isWh (.int i) = true from rfl]
    exact iteF (b_nil (b_nil q))
  · walk_at "B"
    walk_at "V"
    refine w_call hA Wh (by omega) rfl ?_
    walk_at "V"
    refine ⟨.non, .none, Any, rfl, .non, ?_⟩
    walk_at "V"
    rw [show isWh .none = false from rfl]
    refine iteT (b_one ?_)
    refine s_raise hA tk Er (by omega) rfl ?_
    walk_at "V"
    exact fun dE hE => q H dE GrowX.refl hE
/-- a path's tuple -/
def GoodP (H : Hp) (v : V) (js : List Nat) : Prop := ∃ b, v = .ref b ∧ H b = some (.tup (pv js)) ∧ js.length ≤ 1000
/-- an object that is no path -/
def BadP (K : PySem.W.Frag) (H : Hp) (v : V) : Prop := ∃ d, Ob K Any H v d ∧ isPth d = false ∧ ∀ ds, d = .tuple ds → ds.length ≤ 1000
/-- a path as data -/
def pthD (js : List Nat) : PyData := .tuple (js.map fun j : Nat => .int (j : Int))
theorem ob_pth {K : PySem.W.Frag} {A : Addr → Prop} {H : Hp} {b : Addr} {js : List Nat} (hb : H b = some (.tup (pv js))) : Ob K A H (.ref b) (pthD js) := by
  refine .tup (SqT.of hb) ?_
  clear hb
  induction js with
  | nil => exact .nil
  | cons j js ih => exact .cons (.int _) ih
theorem isPth_pthD (js : List Nat) : isPth (pthD js) = true := by
  rw [pthD, isPth, List.all_eq_true]
  intro d hd
  obtain ⟨j, _, rfl⟩ := List.mem_map.1 hd
  exact decide_eq_true (Int.natCast_nonneg j)
theorem GoodP.grow {T : List (Addr × Str)} {S : Addr → Prop} {H H' : Hp} {v : V} {js : List Nat} (g : GrowX T S H H') (h : GoodP H v js) : GoodP H' v js := by
  obtain ⟨b, e, hb, l⟩ := h
  exact ⟨b, e, g.tup _ _ hb, l⟩
theorem BadP.grow {T : List (Addr × Str)} {K : PySem.W.Frag} {H H' : Hp} {v : V} (g : Grow T H H') (h : BadP K H v) : BadP K H' v := by
  obtain ⟨d, o, e, l⟩ := h
  exact ⟨d, g.ob o, e, l⟩
/-- is_path of either -/
theorem goodP_is {m : Md} {H : Hp} {v : V} {js : List Nat} {Q : VK} {E : XK} (h : GoodP H v js) (q : ∀ H', Grow m.T H H' → Q (.bl true) H') : sp_is_path m [v] H Q E := by
  obtain ⟨b, rfl, hb, l⟩ := h
  refine ⟨.ref b, pthD js, rfl, ob_pth hb, fun ds e => ?_, fun H' g => by rw [isPth_pthD]; exact q H' g⟩
  cases e
  rw [List.length_map]; exact l
theorem badP_is {m : Md} {H : Hp} {v : V} {Q : VK} {E : XK} (h : BadP m.K H v) (q : ∀ H', Grow m.T H H' → Q (.bl false) H') : sp_is_path m [v] H Q E := by
  obtain ⟨d, o, e, l⟩ := h
  exact ⟨v, d, rfl, o, l, fun H' g => by rw [e]; exact q H' g⟩
/-- what a lookup leaves -/
def SubAt (K : PySem.W.Frag) (H : Hp) (u : V) (o : Option Tm) : Prop := (o = none ∧ u = .non) ∨ ∃ p, o = some p ∧ Da K NoA H u p.py
def sp_part_at (m : Md) (C : Addr) (M : Nat) : Sp := fun vs H Q _ => ∃ (i : Addr) (v : V) (t : Tm), vs = [.ref i, v] ∧ RuleAt m C Any H i t ∧ Tabs m.T H ∧ t.dep ≤ M ∧ t.wf ∧ t.cnt ≤ 1000 ∧
  ((∃ js, GoodP H v js ∧ ∀ u H', Grow m.T H H' → SubAt m.K H' u (t.sub js) → Q u H') ∨ (BadP m.K H v ∧ ∀ H', Grow m.T H H' → Q .non H'))
theorem c_part_at {m : Md} {C f : Addr} {fd : FuncData} (F : C8.Def m.K m.mg "_part_at" st_x_part_at f fd) (b : L2.Binds m.K fd ps_x_part_at []) (hd : m.mg "dict" = none) (M : Nat) (hM : M ≤ 900) (Ip : Cal m 3 "is_path" (sp_is_path m)) (Ps : Cal m (M + 5) "parts" (sp_parts m C M)) : Cal m (M + 6) "_part_at" (sp_part_at m C M) := by
  refine cal_of F b sc_x_part_at (fun vs H Q E h => by obtain ⟨_, _, _, rfl, _⟩ := h; rfl) fun X vs H Q E hA h => ?_
  obtain ⟨i, v, t, rfl, r, hT, hdp, hw, hc, h⟩ := h
  obtain ⟨n0, n1⟩ := nv_x_part_at
  walk_at "B"
  walk_at "V"
  refine w_call hA Ip (by omega) rfl ?_
  walk_at "V"
  rcases h with ⟨js, gp, k⟩ | ⟨bp, k⟩
  · refine goodP_is gp fun H1 g1 => ?_
    walk_at "V"
    refine iteF (b_nil ?_)
    walk_at "B"
    walk_at "V"
    refine w_dget1 hA ?_
    refine g_typ hA hd rfl bt_dict ?_
    refine w_cons (w_call hA Ps (by omega) rfl ?_)
    walk_at "V"
    refine ⟨i, t, rfl, r.grow (T := m.T) g1 (fun _ _ z => z) (fun z => z), g1.tab hT, hdp, hw, hc, fun u us H2 g2 nu hu d => ?_⟩
    obtain ⟨ps, ks, rfl, h1, h2⟩ := pt_dict d
    have nd : (ks.map (·.2.1)).Nodup := by rw [pt_keys h2]; exact nodup_ky (Tm.ptN_nodup t [])
    walk_at "V"
    refine g_dictPT hA (SqL.of hu) h1 nd fun p hp => ?_
    have g3 := Grow.new (T := m.T) (o := .dT (ks.map (·.2))) hp
    have g13 := (g1.trans g2).trans g3
    refine ⟨p, rfl, .inr ⟨_, .inl upd_same⟩, ?_⟩
    walk_at "V"
    obtain ⟨bb, rfl, hb, _⟩ := gp.grow g13
    refine ⟨_, DGet.t upd_same (k := kyN js) (by rw [kyN_pv]; exact hb), ?_⟩
    rcases pt_look h2 js with ⟨pp, w, m1, e1, dw⟩ | ⟨m1, e1⟩
    · rw [e1]
      exact k _ _ g13 (.inr ⟨pp, Tm.pt_iff.1 m1, Grow.da g3 dw⟩)
    · rw [e1]
      refine k _ _ g13 (.inl ⟨?_, rfl⟩)
      cases e : t.sub js with
      | none => rfl
      | some pp => exact absurd (Tm.pt_iff.2 e) (m1 pp)
  · refine badP_is bp fun H1 g1 => ?_
    walk_at "V"
    refine iteT ?_
    walk_at "V"
    exact k H1 g1
namespace Tm
theorem sub_nms : ∀ {js : List Nat} {t p : Tm}, sub js t = some p → t.nms → p.nms
  | [], t, p, h, n => by
    rw [sub] at h
    by_cases c : t.isPart = true
    · rw [if_pos c] at h; cases h; exact n
    · rw [if_neg c] at h; cases h
  | i :: js, t, p, h, n => by
    rw [sub] at h
    obtain ⟨tk, h1, h2⟩ := Option.bind_eq_some_iff.1 h
    refine sub_nms h2 ?_
    have hm := List.mem_of_getElem? h1
    cases t with
    | part _ _ _ => simp [kids] at hm
    | all f ts => exact nmss_iff.1 n tk hm
    | rank r ts => exact nmss_iff.1 n tk hm
theorem mem_set {ts : List Tm} {i : Nat} {u t : Tm} (h : t ∈ ts.set i u) : t ∈ ts ∨ t = u := List.mem_or_eq_of_mem_set h
theorem rep_gd {p : Tm} (hp : ∀ N, Gd N p) : ∀ {js : List Nat} {t : Tm} {N : Nat}, Gd N t → Gd N (rep p js t)
  | [], _, N, _ => hp N
  | i :: js, .part n z w, _, h => h
  | i :: js, .all f ts, N, h => by
    have hd : deps ts + 1 ≤ N := h.dep
    obtain ⟨M, rfl⟩ : ∃ M, M + 1 = N := ⟨N - 1, by omega⟩
    have hk : ∀ k ∈ ts, Gd M k := Gd.kids (t := .all f ts) h
    rw [rep]
    refine Gd.all (fun t ht => ?_) (fun e => ?_) (by rw [List.length_set]; exact h.wf.2.1)
    · rcases mem_set ht with z | z
      · exact hk t z
      · rw [z]
        refine rep_gd hp ?_
        rw [List.getD_eq_getElem?_getD]
        cases e : ts[i]? with
        | none => exact hp M
        | some tk => exact hk tk (List.mem_of_getElem? e)
    · have l : (ts.set i (rep p js (ts.getD i p))).length = 0 := by rw [e]; rfl
      rw [List.length_set] at l
      exact h.wf.1 (List.length_eq_zero_iff.1 l)
  | i :: js, .rank r ts, N, h => by
    have hd : deps ts + 1 ≤ N := h.dep
    obtain ⟨M, rfl⟩ : ∃ M, M + 1 = N := ⟨N - 1, by omega⟩
    have hk : ∀ k ∈ ts, Gd M k := Gd.kids (t := .rank r ts) h
    rw [rep]
    refine Gd.rank (fun t ht => ?_) (fun e => ?_) (by rw [List.length_set]; exact h.wf.2.1) h.wf.2.2.1 (by rw [List.length_set]; exact h.wf.2.2.2.1)
    · rcases mem_set ht with z | z
      · exact hk t z
      · rw [z]
        refine rep_gd hp ?_
        rw [List.getD_eq_getElem?_getD]
        cases e : ts[i]? with
        | none => exact hp M
        | some tk => exact hk tk (List.mem_of_getElem? e)
    · have l : (ts.set i (rep p js (ts.getD i p))).length = 0 := by rw [e]; rfl
      rw [List.length_set] at l
      exact h.wf.1 (List.length_eq_zero_iff.1 l)
theorem part_gd {n : Bool} {z : Str} {w : Int} (h : IsName z) (N : Nat) : Gd N (.part n z w) := ⟨trivial, h, Nat.zero_le _⟩
end Tm
/-- where an error is let out -/
def Outs (m : Md) (H : Hp) (E : XK) (C : Addr) (v : V) : Prop := ∀ (H' : Hp) (dE : Addr), Grow m.T H H' → H' dE = none → E (.ref C) (some dE) (upd H' dE (.xd [("value", v)]))
theorem Outs.pre {m : Md} {H H1 : Hp} {E : XK} {C : Addr} {v : V} (h : Outs m H E C v) (g : Grow m.T H H1) : Outs m H1 E C v := fun H' dE g' hE => h H' dE (g.trans g') hE
def sp_waited (m : Md) (C CP CW : Addr) (M : Nat) : Sp := fun vs H Q E => ∃ (i : Addr) (v x : V) (t : Tm) (G : Nat), vs = [.ref i, v, x] ∧ RuleAt m C Any H i t ∧ Tabs m.T H ∧ Tm.Gd G t ∧ 2 * G + 1 ≤ M ∧ t.cnt ≤ 1000 ∧
  ((∃ (js : List Nat) (n : Bool) (z : Str) (w0 w : Int), GoodP H v js ∧ t.sub js = some (.part n z w0) ∧ x = .int w ∧ ∀ j H', Grow m.T H H' → New H j → RuleAt m C (New H) H' j (Tm.rep (.part n z w) js t) → Q (.ref j) H') ∨
    (∃ (js : List Nat) (p : Tm), GoodP H v js ∧ t.sub js = some p ∧ x = .non ∧ Outs m H E CW .non) ∨
    (((∃ js, GoodP H v js ∧ t.sub js = none) ∨ BadP m.K H v) ∧ Outs m H E CP v))
theorem c_waited {m : Md} {C CT CP CW f : Addr} {fd : FuncData} (F : C8.Def m.K m.mg "waited" st_waited f fd) (b : L2.Binds m.K fd ps_waited []) (M : Nat) (hM : M ≤ 900) (Nr : Cal m 1 "need_rule" (sp_need_rule m C)) (Pa : Cal m (M + 6) "_part_at" (sp_part_at m C M)) (Nw : CalX m (L2.CX m.P m.w) 3 "need_whole" (sp_need_whole m CW) []) (Rp : Cal m (M + 4) "replaced" (sp_replaced m M)) (Te : MetX m C8.CX0 (M + 4) C "term" (sp_rterm m C M) [])
    (Mk : MakX m (L2.CX m.P m.w) (M + 4) "Rule" C (sp_rinit m C CT M) []) (Er : ErrC m "InvalidPath" CP "value") : CalX m (L2.CX m.P m.w) (M + 7) "waited" (sp_waited m C CP CW M) [] := by
  refine calX_of F b sc_waited (fun vs H Q E h => by obtain ⟨_, _, _, _, _, rfl, _⟩ := h; rfl) fun X vs H Q E hA hM' hF tk h => ?_
  obtain ⟨i, v, x, t, G, rfl, r, hT, gd, hG, hc, h⟩ := h
  replace hA : At m nl_waited (C8.fnScope st_waited) (M + 6) X := hA
  have hdep := gd.dep
  obtain ⟨n0, n1, n2, n3⟩ := nv_waited
  walk_at "B"
  walk_at "V"
  refine w_call hA Nr (by omega) rfl ?_
  walk_at "V"
  refine ⟨i, t, rfl, r, ?_⟩
  walk_at "B"
  walk_at "V"
  refine w_call hA Pa (by omega) rfl ?_
  walk_at "V"
  have pass : ∀ {σ : L2.St}, L2.PassesAt (L2.CX m.P m.w) X σ E := fun {σ} => pass_at hA tk fun _ _ _ z => z
  rcases h with ⟨js, n, z, w0, w, gp, e, rfl, k⟩ | ⟨js, p, gp, e, rfl, k⟩ | ⟨hb, k⟩
  · refine ⟨i, v, t, rfl, r, hT, by omega, gd.wf, hc, .inl ⟨js, gp, fun u H1 g1 su => ?_⟩⟩
    rw [e] at su
    obtain ⟨p, e1, dp⟩ : ∃ p, some (Tm.part n z w0) = some p ∧ Da m.K NoA H1 u p.py := by
      rcases su with ⟨e1, _⟩ | z
      · cases e1
      · exact z
    cases e1
    obtain ⟨a, rfl, hs⟩ := da_part dp
    walk_at "B"
    walk_at "V"
    refine iteF (b_nil ?_)
    walk_at "B"
    walk_at "V"
    refine w_callXA hA Nw (by omega) rfl pass ?_
    walk_at "V"
    refine .inl ⟨w, rfl, ?_⟩
    walk_at "B"
    walk_at "V"
    refine w_rule hA Mk (by omega) rfl ?_
    refine w_call hA Rp (by omega) rfl ?_
    refine w_cons (w_met0 (E := C8.E0) hA Te (by omega) C8.pass0 ?_)
    walk_at "V"
    obtain ⟨dx, u0, hi, du⟩ := r.grow (T := m.T) g1 (fun _ _ z => z) (fun z => z)
    refine ⟨i, dx, _, rfl, hi, rfl, i, t, rfl, ⟨dx, u0, hi, du⟩, g1.tab hT, by omega, gd.wf, fun y H2 g2 fr => ?_⟩
    have g12 := g1.trans g2
    walk_at "V"
    refine g_ixT hA (g2.seqT hs) (atI_at (j := 0) rfl) ?_
    walk_at "V"
    refine g_ixT hA (g2.seqT hs) (atI_at (j := 1) rfl) ?_
    walk_at "V"
    refine ⟨by walk_at "S", fun q hq => ?_⟩
    have g3 := Grow.new (T := m.T) (o := .tup [.str (if n then "now" else "of"), .str z, .int w]) hq
    obtain ⟨bb, rfl, hbb, _⟩ := gp.grow (g12.trans g3)
    have vpp := Tm.sub_vp e
    walk_at "V"
    refine ⟨y, .ref q, bb, t, .part n z w, js, rfl, (g12.trans g3).tab hT, Grow.da g3 (fr.da.sub fun _ _ => trivial), by omega, gd.wf, SqT.of hbb, vpp.1, rfl, .tup (SqT.of upd_same) (.cons (.str _) (.cons (.str _) (.cons (.int _) .nil))), fun y2 H4 g4 d4 => ?_⟩
    have g14 := (g12.trans g3).trans g4
    have hz : IsName z := Tm.sub_nms e gd.nms
    refine ⟨Tm.rep (.part n z w) js t, G, d4.sub fun _ _ => trivial, Tm.rep_gd (Tm.part_gd hz) gd, hG, g14.tab hT, fun j H5 g5 nj ra => ?_⟩
    exact k j H5 (g14.trans g5) (g14.keep _ nj) (ra.sub fun a z => g14.keep _ z)
  · refine ⟨i, v, t, rfl, r, hT, by omega, gd.wf, hc, .inl ⟨js, gp, fun u H1 g1 su => ?_⟩⟩
    rw [e] at su
    obtain ⟨p', e1, dp⟩ : ∃ p', some p = some p' ∧ Da m.K NoA H1 u p'.py := by
      rcases su with ⟨e1, _⟩ | z
      · cases e1
      · exact z
    cases e1
    have un : u ≠ .non := fun c => by
      subst c
      cases p <;> cases dp
    walk_at "B"
    walk_at "V"
    rw [if_neg (by simp [un])]
    refine b_nil ?_
    walk_at "B"
    walk_at "V"
    refine w_callXA hA Nw (by omega) rfl pass ?_
    walk_at "V"
    exact .inr ⟨rfl, k.pre g1⟩
  · have core : ∀ H1, Grow m.T H H1 → L2.VK → True := fun _ _ _ => trivial
    refine ⟨i, v, t, rfl, r, hT, by omega, gd.wf, hc, ?_⟩
    rcases hb with ⟨js, gp, e⟩ | bp
    · refine .inl ⟨js, gp, fun u H1 g1 su => ?_⟩
      rw [e] at su
      obtain rfl : u = .non := by
        rcases su with ⟨_, z⟩ | ⟨p, e1, _⟩
        · exact z
        · cases e1
      walk_at "B"
      walk_at "V"
      refine iteT (b_one ?_)
      refine s_raise hA tk Er (by omega) rfl ?_
      walk_at "V"
      exact fun dE hE => k H1 dE g1 hE
    · refine .inr ⟨bp, fun H1 g1 => ?_⟩
      walk_at "B"
      walk_at "V"
      refine iteT (b_one ?_)
      refine s_raise hA tk Er (by omega) rfl ?_
      walk_at "V"
      exact fun dE hE => k H1 dE g1 hE
theorem nd_len {α : Type} [DecidableEq α] : ∀ (a b : List α), a.Nodup → (∀ x ∈ a, x ∈ b) → a.length ≤ b.length
  | [], _, _, _ => Nat.zero_le _
  | x :: a, b, n, h => by
    rw [List.nodup_cons] at n
    have hx := h x List.mem_cons_self
    have z := nd_len a (b.erase x) n.2 fun y hy => (List.mem_erase_of_ne (fun e => n.1 (by rw [← e]; exact hy))).2 (h y (List.mem_cons_of_mem _ hy))
    rw [List.length_erase_of_mem hx] at z
    have : 0 < b.length := List.length_pos_of_mem hx
    rw [List.length_cons]; omega
theorem nd_less {α : Type} [DecidableEq α] : ∀ (b : List α), ¬ b.Nodup → ∃ b' : List α, b'.length + 1 = b.length ∧ ∀ x ∈ b, x ∈ b'
  | [], h => absurd List.nodup_nil h
  | y :: l, h => by
    by_cases c : y ∈ l
    · exact ⟨l, rfl, fun x hx => (List.mem_cons.1 hx).elim (fun e => by rw [e]; exact c) id⟩
    · have : ¬ l.Nodup := fun n => h (List.nodup_cons.2 ⟨c, n⟩)
      obtain ⟨l', e, k⟩ := nd_less l this
      exact ⟨y :: l', by rw [List.length_cons, List.length_cons, ← e], fun x hx => (List.mem_cons.1 hx).elim (fun e => by rw [e]; exact List.mem_cons_self) fun z => List.mem_cons_of_mem _ (k x z)⟩
/-- how many different ones there are -/
theorem nd_lt {α : Type} [DecidableEq α] {a b : List α} (n : a.Nodup) (h1 : ∀ x ∈ a, x ∈ b) (h2 : ∀ x ∈ b, x ∈ a) : decide ((a.length : Int) < b.length) = !decide b.Nodup := by
  by_cases c : b.Nodup
  · have z := nd_len b a c h2
    rw [decide_eq_true c]
    simp
    omega
  · obtain ⟨b', e, k⟩ := nd_less b c
    have z := nd_len a b' n fun x hx => k x (h1 x hx)
    rw [decide_eq_false c]
    simp
    omega
namespace Tm
/-- all lots of paths that may be left out -/
def lotB (t : Tm) (gs : List (List Nat)) : Bool := decide gs.Nodup && gs.all (fun g => (t.sub g).isSome) && decide (gs.length < t.cnt)
mutual
theorem thin_none (gs : List (List Nat)) : ∀ (t : Tm) (js : List Nat), thin gs js t = none → ∀ e ∈ ptN js t, e.1 ∈ gs
  | .part n z w, js, h, e, he => by
    have he' := List.mem_singleton.1 he
    rw [thin] at h
    by_cases c : js ∈ gs
    · rw [he']; exact c
    · rw [if_neg c] at h; cases h
  | .all f ts, js, h, e, he => by
    rw [thin] at h
    refine thins_none gs ts js 0 ?_ e he
    cases q : thins gs js 0 ts with
    | nil => rfl
    | cons _ _ => rw [q] at h; cases h
  | .rank r ts, js, h, e, he => by
    rw [thin] at h
    refine thins_none gs ts js 0 ?_ e he
    cases q : thins gs js 0 ts with
    | nil => rfl
    | cons _ _ => rw [q] at h; cases h
theorem thins_none (gs : List (List Nat)) : ∀ (ts : List Tm) (js : List Nat) (i : Nat), thins gs js i ts = [] → ∀ e ∈ ptNs js i ts, e.1 ∈ gs
  | [], _, _, _, _, he => by cases he
  | t :: ts, js, i, h, e, he => by
    rw [thins] at h
    obtain ⟨h1, h2⟩ := List.append_eq_nil_iff.1 h
    rw [ptNs] at he
    rcases List.mem_append.1 he with z | z
    · refine thin_none gs t _ ?_ e z
      cases q : thin gs (js ++ [i]) t with
      | none => rfl
      | some _ => rw [q] at h1; cases h1
    · exact thins_none gs ts js (i + 1) h2 e z
end
mutual
theorem thin_gd (gs : List (List Nat)) : ∀ (t : Tm) (js : List Nat) (N : Nat) (t' : Tm), thin gs js t = some t' → Gd N t → Gd N t'
  | .part n z w, js, N, t', h, g => by
    rw [thin] at h
    by_cases c : js ∈ gs
    · rw [if_pos c] at h; cases h
    · rw [if_neg c] at h; cases h; exact g
  | .all f ts, js, N, t', h, g => by
    have hd : deps ts + 1 ≤ N := g.dep
    obtain ⟨M, rfl⟩ : ∃ M, M + 1 = N := ⟨N - 1, by omega⟩
    obtain ⟨h1, h2⟩ := thins_gd gs ts js 0 M (Gd.kids (t := .all f ts) g)
    rw [thin] at h
    cases q : thins gs js 0 ts with
    | nil => rw [q] at h; cases h
    | cons u us =>
      rw [q] at h h1 h2
      cases h
      exact Gd.all h1 (by simp) (by have := g.wf.2.1; omega)
  | .rank r ts, js, N, t', h, g => by
    have hd : deps ts + 1 ≤ N := g.dep
    obtain ⟨M, rfl⟩ : ∃ M, M + 1 = N := ⟨N - 1, by omega⟩
    obtain ⟨h1, h2⟩ := thins_gd gs ts js 0 M (Gd.kids (t := .rank r ts) g)
    rw [thin] at h
    cases q : thins gs js 0 ts with
    | nil => rw [q] at h; cases h
    | cons u us =>
      rw [q] at h h1 h2
      cases h
      have r1 : 1 ≤ r := g.wf.2.2.1
      have l1 : (u :: us).length = us.length + 1 := rfl
      exact Gd.rank h1 (by simp) (by have := g.wf.2.1; omega) (by omega) (by omega)
theorem thins_gd (gs : List (List Nat)) : ∀ (ts : List Tm) (js : List Nat) (i N : Nat), (∀ t ∈ ts, Gd N t) → (∀ t ∈ thins gs js i ts, Gd N t) ∧ (thins gs js i ts).length ≤ ts.length
  | [], _, _, _, _ => ⟨fun _ h => (by cases h), Nat.le_refl _⟩
  | t :: ts, js, i, N, h => by
    obtain ⟨h1, h2⟩ := thins_gd gs ts js (i + 1) N fun t z => h t (List.mem_cons_of_mem _ z)
    rw [thins]
    refine ⟨fun u hu => ?_, ?_⟩
    · rcases List.mem_append.1 hu with z | z
      · have e : thin gs (js ++ [i]) t = some u := by
          cases q : thin gs (js ++ [i]) t with
          | none => rw [q] at z; cases z
          | some w => rw [q] at z; rw [List.mem_singleton.1 z]
        exact thin_gd gs t _ N u e (h t List.mem_cons_self)
      · exact h1 u z
    · rw [List.length_append, List.length_cons]
      have : (thin gs (js ++ [i]) t).toList.length ≤ 1 := by cases thin gs (js ++ [i]) t <;> simp
      omega
end
/-- what may be left out leaves something -/
theorem thin_some {gs : List (List Nat)} {t : Tm} (h : lotB t gs = true) : ∃ t', thin gs [] t = some t' := by
  cases e : thin gs [] t with
  | some t' => exact ⟨t', rfl⟩
  | none =>
    have z := thin_none gs t [] e
    have l := nd_len ((ptN [] t).map (·.1)) gs (ptN_nodup t []) fun x hx => by
      obtain ⟨e, he, rfl⟩ := List.mem_map.1 hx
      exact z e he
    rw [List.length_map, ptN_len] at l
    simp only [lotB, Bool.and_eq_true, decide_eq_true_eq] at h
    omega
end Tm
/-- what stands in a lot -/
def LotE (K : PySem.W.Frag) (H : Hp) (x : V) (e : Option (List Nat)) : Prop := match e with
  | some js => GoodP H x js
  | none => BadP K H x
/-- a lot of paths, good or not -/
def LotAt (K : PySem.W.Frag) (H : Hp) (v : V) (es : List (Option (List Nat))) : Prop := ∃ l xs, v = .ref l ∧ SqL K H l xs ∧ xs.length ≤ 60 ∧ Paired (LotE K H) xs es
/-- what is no list -/
def NoLot (K : PySem.W.Frag) (H : Hp) (v : V) : Prop := ∃ d, Ob K Any H v d ∧ isIn "list" d = false
/-- may it be left out -/
def lotOk (t : Tm) (es : List (Option (List Nat))) : Bool := es.all Option.isSome && Tm.lotB t (es.filterMap id)
theorem LotE.grow {T : List (Addr × Str)} {K : PySem.W.Frag} {H H' : Hp} {x : V} {e : Option (List Nat)} (g : Grow T H H') (h : LotE K H x e) : LotE K H' x e := by
  cases e with
  | none => exact BadP.grow g h
  | some js => exact GoodP.grow g h
theorem lot_good {K : PySem.W.Frag} {H : Hp} : ∀ {xs : List V} {es : List (Option (List Nat))}, Paired (LotE K H) xs es → es.all Option.isSome = true → ∃ ks : List (Addr × List Nat), xs = ks.map (fun p => V.ref p.1) ∧ es.filterMap id = ks.map (·.2) ∧ ∀ p ∈ ks, H p.1 = some (.tup (pv p.2)) := by
  intro xs es h
  induction h with
  | nil => exact fun _ => ⟨[], rfl, rfl, fun _ z => (by cases z)⟩
  | @cons x e xs es h _ ih =>
    intro ha
    rw [List.all_cons, Bool.and_eq_true] at ha
    obtain ⟨ks, rfl, e2, k⟩ := ih ha.2
    cases e with
    | none => cases ha.1
    | some js =>
      obtain ⟨b, rfl, hb, _⟩ : GoodP H x js := h
      refine ⟨(b, js) :: ks, rfl, by rw [List.filterMap_cons, e2]; rfl, fun p hp => ?_⟩
      rcases List.mem_cons.1 hp with z | z
      · rw [z]; exact hb
      · exact k p z
theorem pI_inj {a b : List Nat} (h : pI a = pI b) : a = b := by
  induction a generalizing b with
  | nil => cases b with
    | nil => rfl
    | cons _ _ => cases h
  | cons x a ih => cases b with
    | nil => cases h
    | cons y b =>
      have e := List.cons.inj h
      have e1 : (x : Int) = y := e.1
      rw [ih e.2, show x = y from by omega]
theorem nd_pI : ∀ (gs : List (List Nat)), (gs.map pI).Nodup ↔ gs.Nodup
  | [] => by simp
  | g :: gs => by
    rw [List.map_cons, List.nodup_cons, List.nodup_cons, nd_pI gs]
    refine and_congr_left fun _ => not_congr ⟨fun h => ?_, fun h => List.mem_map_of_mem h⟩
    obtain ⟨g', h1, h2⟩ := List.mem_map.1 h
    rw [← pI_inj h2]; exact h1
def sp_ipl (m : Md) (C : Addr) (M : Nat) : Sp := fun vs H Q _ => ∃ (i : Addr) (v : V) (t : Tm), vs = [.ref i, v] ∧ RuleAt m C Any H i t ∧ Tabs m.T H ∧ t.dep ≤ M ∧ t.wf ∧ t.cnt ≤ 1000 ∧
  ((NoLot m.K H v ∧ ∀ H', Grow m.T H H' → Q (.bl false) H') ∨ ∃ es, LotAt m.K H v es ∧ ∀ H', Grow m.T H H' → Q (.bl (lotOk t es)) H')
theorem c_ipl {m : Md} {C f : Addr} {fd : FuncData} (F : C8.Def m.K m.mg "_is_path_list" st_x_is_path_list f fd) (b : L2.Binds m.K fd ps_x_is_path_list []) (hi : m.mg "isinstance" = none) (h1 : m.mg "list" = none) (hd : m.mg "dict" = none) (hall : m.mg "all" = none) (hlen : m.mg "len" = none) (hset : m.mg "set" = none) (M : Nat) (hM : M ≤ 900) (Ip : Cal m 3 "is_path" (sp_is_path m)) (Ps : Cal m (M + 5) "parts" (sp_parts m C M)) : Cal m (M + 6) "_is_path_list" (sp_ipl m C M) := by
  refine cal_ofM F b sc_x_is_path_list (fun vs H Q E h => by obtain ⟨_, _, _, rfl, _⟩ := h; rfl) fun X vs H Q E hA hM9 h => ?_
  replace hA : At m nl_x_is_path_list (C8.fnScope st_x_is_path_list) (M + 5) X := hA
  obtain ⟨i, v, t, rfl, r, hT, hdp, hw, hc, h⟩ := h
  obtain ⟨n0, n1, n2⟩ := nv_x_is_path_list
  walk_at "B"
  walk_at "V"
  refine g_blt hA hi rfl bt_isinstance ?_
  walk_at "V"
  refine w_tyn hA h1 rfl bt_list ?_
  walk_at "V"
  rcases h with ⟨⟨d, o, e⟩, k⟩ | ⟨es, ⟨l, xs, rfl, hl, h60, hp⟩, k⟩
  · refine g_isi hA (.ty "list") o.ty (kit_ty (kit_all "list" (by decide) d)) ?_
    rw [e]
    walk_at "V"
    refine iteT (iteT ?_)
    walk_at "V"
    exact k H GrowX.refl
  · have hxl := paired_len hp
    refine g_isi hA (.ty "list") (tyx_lst hl) (kit_ty (kit_all "list" (by decide) (.list []))) ?_
    walk_at "V"
    rw [show isIn "list" (PyData.list []) = true from rfl]
    refine iteF ?_
    walk_at "V"
    refine g_blt hA hall rfl bt_all ?_
    refine w_cons (w_lcL hA (by decide +kernel) (i := 3) ⟨rfl, rfl⟩ ?_)
    walk_at "V"
    refine ⟨l, xs, rfl, hl, fun D hD => ⟨fun j H' => Grow m.T H H' ∧ H' D = some (.lst (((es.take j).map Option.isSome).map V.bl)), ?_, ?_, ?_, ?_⟩⟩
    · exact ⟨Grow.new hD, upd_same⟩
    · rintro j H' _ ⟨g, _⟩
      exact GrowX.seqL g hl fun z => z
    · rintro j x H' hx ⟨g, hv⟩ X' hX'
      have c3 := nl_of hX' 3 "path"
      have hjl := (List.getElem?_eq_some_iff.1 hx).1
      have he : es[j]? = some es[j] := List.getElem?_eq_getElem (by omega)
      obtain ⟨x', hx', le⟩ := paired_at hp j _ he
      rw [hx] at hx'
      cases hx'
      refine w_call hX' Ip (by omega) rfl ?_
      walk_at "V"
      have goal : ∀ (bb : Bool) H5, bb = es[j].isSome → Grow m.T H' H5 → App D (fun H' => Grow m.T H H' ∧ H' D = some (.lst (((es.take (j + 1)).map Option.isSome).map V.bl))) (.bl bb) H5 := by
        rintro bb H5 rfl g5
        have hv5 := g5.extN _ _ hv (fun _ w => by cases w)
        refine ⟨_, hv5, by rw [List.length_map, List.length_map, List.length_take, sizeLine_eq]; omega, Grow.intoNew (g.trans g5) (GrowX.lst hv5) (fun _ w => by rw [w]; exact hD), ?_⟩
        have e2 : ((es.take (j + 1)).map Option.isSome).map V.bl = ((es.take j).map Option.isSome).map V.bl ++ [V.bl es[j].isSome] := by
          rw [List.take_add_one, he]
          simp only [Option.toList, List.map_append, List.map_cons, List.map_nil]
        rw [upd_same, e2]
      have le' := LotE.grow g le
      cases eq : es[j] with
      | some js =>
        rw [eq] at le'
        exact goodP_is le' fun H5 g5 => goal true H5 (by rw [eq]; rfl) g5
      | none =>
        rw [eq] at le'
        exact badP_is le' fun H5 g5 => goal false H5 (by rw [eq]; rfl) g5
    · rintro H1 ⟨g1, hv⟩
      rw [hxl, List.take_length] at hv
      walk_at "V"
      refine g_all hA (SqL.of hv) ?_
      walk_at "V"
      have eA : (es.map Option.isSome).all id = es.all Option.isSome := by rw [List.all_map]; rfl
      rw [eA]
      by_cases ca : es.all Option.isSome = true
      · rw [ca]
        refine iteF (b_nil ?_)
        obtain ⟨ks, rfl, ef, hk⟩ := lot_good hp ca
        have hl1 := g1.seqL hl fun z => z
        walk_at "B"
        refine s_nc hA n2 hM9.fn ?_
        refine g_typ hA hd rfl bt_dict ?_
        refine w_cons (w_call hA Ps (by omega) rfl ?_)
        walk_at "V"
        refine ⟨i, t, rfl, r.grow (T := m.T) g1 (fun _ _ z => z) (fun z => z), g1.tab hT, hdp, hw, hc, fun u us H2 g2 nu hu d => ?_⟩
        obtain ⟨ps, kd, rfl, q1, q2⟩ := pt_dict d
        have nd : (kd.map (·.2.1)).Nodup := by rw [pt_keys q2]; exact nodup_ky (Tm.ptN_nodup t [])
        walk_at "V"
        refine g_dictPT hA (SqL.of hu) q1 nd fun p hp2 => ?_
        have g3 := Grow.new (T := m.T) (o := .dT (kd.map (·.2))) hp2
        have g13 := (g1.trans g2).trans g3
        have hl3 := GrowX.seqL g13 hl fun z => z
        have hk3 : ∀ p ∈ ks, upd H2 _ _ p.1 = some (.tup (pv p.2)) := fun p hp => g13.tup _ _ (hk p hp)
        have hd3 := @upd_same H2 p (.dT (kd.map (·.2)))
        generalize upd H2 p (.dT (kd.map (·.2))) = H3 at g3 g13 hl3 hk3 hd3 ⊢
        have hes : es.filterMap id = ks.map (·.2) := ef
        have hB : lotOk t es = Tm.lotB t (ks.map (·.2)) := by rw [lotOk, ca, hes, Bool.true_and]
        rw [hB] at k
        have hkl : ks.length ≤ 60 := by rw [List.length_map] at h60; exact h60
        walk_at "B"
        walk_at "V"
        refine g_blt hA hlen rfl bt_len ?_
        refine w_cons (g_typ hA hset rfl bt_set ?_)
        walk_at "V"
        refine g_setT hA (l := l) (ks := ks.map fun p => (p.1, pI p.2)) (by rw [List.map_map]; exact hl3) (fun p hp => ?_) (by rw [List.length_map]; omega) fun a L ha m1 m2 => ?_
        · obtain ⟨q, hq, rfl⟩ := List.mem_map.1 hp
          exact SqT.of (hk3 q hq)
        have gS := Grow.new (T := m.T) (o := SetTO m.P m.w a L) ha
        walk_at "V"
        refine g_lenST hA upd_same fun ndL => ?_
        walk_at "V"
        refine g_blt hA hlen rfl bt_len ?_
        walk_at "V"
        refine g_lenL hA (GrowX.seqL gS hl3 fun z => z) ?_
        walk_at "V"
        have eS : decide ((L.length : Int) < ((ks.map fun p => V.ref p.1).length : Nat)) = !decide (ks.map (·.2)).Nodup := by
          have z := nd_lt (a := L.map (·.2)) (b := (ks.map (·.2)).map pI) ndL (fun x hx => by
            obtain ⟨p, hp, rfl⟩ := List.mem_map.1 hx
            obtain ⟨q, hq, e⟩ := List.mem_map.1 (m1 p hp)
            rw [← e]
            exact List.mem_map_of_mem (List.mem_map_of_mem hq)) (fun x hx => by
            obtain ⟨y, hy, rfl⟩ := List.mem_map.1 hx
            obtain ⟨q, hq, rfl⟩ := List.mem_map.1 hy
            exact m2 (q.1, pI q.2) (List.mem_map_of_mem (f := fun p : Addr × List Nat => (p.1, pI p.2)) hq))
          rw [List.length_map, List.length_map, List.length_map] at z
          rw [List.length_map, z, decide_eq_decide.2 (nd_pI _)]
        rw [eS]
        have hd4 := Grow.extN gS _ _ hd3 (fun _ z => by cases z)
        have hk4 : ∀ p ∈ ks, upd H3 a (SetTO m.P m.w a L) p.1 = some (.tup (pv p.2)) := fun p hp => gS.tup _ _ (hk3 p hp)
        have hl4 := GrowX.seqL gS hl3 fun z => z
        have g14 := g13.trans gS
        generalize upd H3 a (SetTO m.P m.w a L) = H4 at gS hd4 hk4 hl4 g14 ⊢
        by_cases cn : (ks.map (·.2)).Nodup
        · rw [decide_eq_true cn]
          refine iteF ?_
          walk_at "V"
          refine g_blt hA hall rfl bt_all ?_
          refine w_cons (w_lcL hA (by decide +kernel) (i := 3) ⟨rfl, rfl⟩ ?_)
          walk_at "V"
          refine ⟨l, _, rfl, hl4, fun D hD => ⟨fun j H' => Grow m.T H4 H' ∧ H' D = some (.lst (((ks.take j).map fun p => (t.sub p.2).isSome).map V.bl)), ?_, ?_, ?_, ?_⟩⟩
          · exact ⟨Grow.new hD, upd_same⟩
          · rintro j H' _ ⟨g, _⟩
            exact GrowX.seqL g hl4 fun z => z
          · rintro j x H' hx ⟨g, hv⟩ X' hX'
            have c3 := nl_of hX' 3 "path"
            have c2 := nc_of hX' 2 "there"
            rw [List.getElem?_map] at hx
            obtain ⟨q, hq, rfl⟩ := Option.map_eq_some_iff.1 hx
            have hjl := (List.getElem?_eq_some_iff.1 hq).1
            walk_at "V"
            refine g_inDT hX' (Grow.extN g _ _ hd4 (fun _ z => by cases z)) (z := kyN q.2) (by rw [kyN_pv]; exact g.tup _ _ (hk4 q (List.mem_of_getElem? hq))) ?_
            have e1 : (valV (kd.map (·.2)) (kyN q.2)).isSome = (t.sub q.2).isSome := by
              rcases pt_look q2 q.2 with ⟨pp, w, m1, e1, _⟩ | ⟨m1, e1⟩
              · rw [e1, Tm.pt_iff.1 m1]; rfl
              · rw [e1]
                cases e : t.sub q.2 with
                | none => rfl
                | some pp => exact absurd (Tm.pt_iff.2 e) (m1 pp)
            rw [e1]
            have e2 : ((ks.take (j + 1)).map fun p => (t.sub p.2).isSome).map V.bl = ((ks.take j).map fun p => (t.sub p.2).isSome).map V.bl ++ [V.bl (t.sub q.2).isSome] := by
              rw [List.take_add_one, hq]
              simp only [Option.toList, List.map_append, List.map_cons, List.map_nil]
            refine ⟨_, hv, by rw [List.length_map, List.length_map, List.length_take, sizeLine_eq]; omega, Grow.intoNew g (GrowX.lst hv) (fun _ w => by rw [w]; exact hD), ?_⟩
            rw [upd_same, e2]
          · rintro H5 ⟨g5, hv⟩
            rw [List.length_map, List.take_length] at hv
            walk_at "V"
            refine g_all hA (SqL.of hv) ?_
            walk_at "V"
            have eB : (ks.map fun p => (t.sub p.2).isSome).all id = (ks.map (·.2)).all fun g => (t.sub g).isSome := by rw [List.all_map, List.all_map]; rfl
            rw [eB]
            by_cases cb : ((ks.map (·.2)).all fun g => (t.sub g).isSome) = true
            · rw [cb]
              refine iteF (b_nil ?_)
              walk_at "B"
              walk_at "V"
              refine g_blt hA hlen rfl bt_len ?_
              walk_at "V"
              refine g_lenL hA (GrowX.seqL g5 hl4 fun z => z) ?_
              walk_at "V"
              refine g_blt hA hlen rfl bt_len ?_
              walk_at "V"
              refine g_lenDT hA (Grow.extN g5 _ _ hd4 (fun _ z => by cases z)) ?_
              walk_at "V"
              have l1 : (kd.map (·.2)).length = t.cnt := by rw [List.length_map, paired_len q2, Tm.ptN_len]
              have z := k H5 (g14.trans g5)
              rw [Tm.lotB, decide_eq_true cn, cb, List.length_map] at z
              rw [l1, List.length_map]
              have e9 : decide ((ks.length : Int) < (t.cnt : Nat)) = decide (ks.length < t.cnt) := by rw [decide_eq_decide]; omega
              rw [e9]
              exact z
            · have cb' : ((ks.map (·.2)).all fun g => (t.sub g).isSome) = false := by simpa using cb
              rw [cb']
              refine iteT ?_
              walk_at "V"
              have z := k H5 (g14.trans g5)
              rw [Tm.lotB, decide_eq_true cn, cb'] at z
              exact z
        · rw [decide_eq_false cn]
          refine iteT (iteT ?_)
          walk_at "V"
          have z := k H4 g14
          rw [Tm.lotB, decide_eq_false cn] at z
          exact z
      · have ca' : es.all Option.isSome = false := by simpa using ca
        rw [ca']
        refine iteT ?_
        walk_at "V"
        have := k H1 g1
        rw [lotOk, ca'] at this
        exact this
def sp_left_out (m : Md) (C CP : Addr) (M : Nat) : Sp := fun vs H Q E => ∃ (i : Addr) (v : V) (t : Tm) (G : Nat), vs = [.ref i, v] ∧ RuleAt m C Any H i t ∧ Tabs m.T H ∧ Tm.Gd G t ∧ 2 * G + 1 ≤ M ∧ t.cnt ≤ 1000 ∧
  ((∃ es, LotAt m.K H v es ∧ lotOk t es = true ∧ ∀ j H' t', Grow m.T H H' → New H j → Tm.thin (es.filterMap id) [] t = some t' → RuleAt m C (New H) H' j t' → Q (.ref j) H') ∨
    ((NoLot m.K H v ∨ ∃ es, LotAt m.K H v es ∧ lotOk t es = false) ∧ Outs m H E CP v))
theorem c_left_out {m : Md} {C CT CP f : Addr} {fd : FuncData} (F : C8.Def m.K m.mg "left_out" st_left_out f fd) (b : L2.Binds m.K fd ps_left_out []) (M : Nat) (hM : M ≤ 900) (Nr : Cal m 1 "need_rule" (sp_need_rule m C)) (Il : Cal m (M + 6) "_is_path_list" (sp_ipl m C M)) (Th : Cal m (M + 2) "thinned" (sp_thinned m M)) (Te : MetX m C8.CX0 (M + 4) C "term" (sp_rterm m C M) [])
    (Mk : MakX m (L2.CX m.P m.w) (M + 4) "Rule" C (sp_rinit m C CT M) []) (Er : ErrC m "InvalidPath" CP "value") : CalX m (L2.CX m.P m.w) (M + 7) "left_out" (sp_left_out m C CP M) [] := by
  refine calX_of F b sc_left_out (fun vs H Q E h => by obtain ⟨_, _, _, _, rfl, _⟩ := h; rfl) fun X vs H Q E hA hM' hF tk h => ?_
  obtain ⟨i, v, t, G, rfl, r, hT, gd, hG, hc, h⟩ := h
  replace hA : At m nl_left_out (C8.fnScope st_left_out) (M + 6) X := hA
  have hdep := gd.dep
  obtain ⟨n0, n1⟩ := nv_left_out
  walk_at "B"
  walk_at "V"
  refine w_call hA Nr (by omega) rfl ?_
  walk_at "V"
  refine ⟨i, t, rfl, r, ?_⟩
  walk_at "B"
  walk_at "V"
  refine w_call hA Il (by omega) rfl ?_
  walk_at "V"
  refine ⟨i, v, t, rfl, r, hT, by omega, gd.wf, hc, ?_⟩
  rcases h with ⟨es, la, ok, k⟩ | ⟨hb, k⟩
  · refine .inr ⟨es, la, fun H1 g1 => ?_⟩
    rw [ok]
    walk_at "V"
    refine iteF (b_nil ?_)
    obtain ⟨l, xs, rfl, hl, h60, hp⟩ := la
    have ok2 := ok
    rw [lotOk, Bool.and_eq_true] at ok2
    obtain ⟨ks, rfl, ef, hk⟩ := lot_good hp ok2.1
    obtain ⟨t', et⟩ := Tm.thin_some ok2.2
    rw [ef] at et k ok2
    have nd : (ks.map (·.2)).Nodup := by
      have z := ok2.2
      simp only [Tm.lotB, Bool.and_eq_true, decide_eq_true_eq] at z
      exact z.1.1
    have hkl : ks.length ≤ 60 := by rw [List.length_map] at h60; exact h60
    walk_at "B"
    walk_at "V"
    refine w_rule hA Mk (by omega) rfl ?_
    refine w_call hA Th (by omega) rfl ?_
    refine w_cons (w_met0 (E := C8.E0) hA Te (by omega) C8.pass0 ?_)
    walk_at "V"
    obtain ⟨dx, u0, hi, du⟩ := r.grow (T := m.T) g1 (fun _ _ z => z) (fun z => z)
    refine ⟨i, dx, _, rfl, hi, rfl, i, t, rfl, ⟨dx, u0, hi, du⟩, g1.tab hT, by omega, gd.wf, fun y H2 g2 fr => ?_⟩
    walk_at "V"
    refine ⟨by walk_at "S", fun q hq => ?_⟩
    have g3 := Grow.new (T := m.T) (o := .tup []) hq
    have g13 := (g1.trans g2).trans g3
    have dy := Grow.da g3 (fr.da.sub fun _ _ => trivial : Da m.K Any _ _ _)
    have hq3 := @upd_same H2 q (.tup [])
    have hl3 := GrowX.seqL g13 hl fun z => z
    have hk3 : ∀ p ∈ ks, upd H2 q (.tup []) p.1 = some (.tup (pv p.2)) := fun p hp => g13.tup _ _ (hk p hp)
    generalize upd H2 q (.tup []) = H3 at g3 g13 dy hq3 hl3 hk3 ⊢
    walk_at "V"
    refine w_dcT hA (by decide +kernel) (i := 2) ⟨rfl, rfl⟩ ?_
    walk_at "V"
    refine ⟨l, _, rfl, hl3, fun D hD => ⟨fun j H' => Grow m.T H3 H' ∧ H' D = some (.dT (((ks.take j).map (·.2)).map fun g => (kyN g, V.bl true))), ?_, ?_, ?_, ?_⟩⟩
    · exact ⟨Grow.new hD, upd_same⟩
    · rintro j H' _ ⟨g, _⟩
      exact GrowX.seqL g hl3 fun z => z
    · rintro j x H' hx ⟨g, hv⟩ X' hX'
      have c2 := nl_of hX' 2 "path"
      rw [List.getElem?_map] at hx
      obtain ⟨p, hpp, rfl⟩ := Option.map_eq_some_iff.1 hx
      have hjl := (List.getElem?_eq_some_iff.1 hpp).1
      walk_at "V"
      intro X' hX'
      walk_at "V"
      refine ⟨_, kyN p.2, p.1, rfl, by rw [kyN_pv]; exact g.tup _ _ (hk3 p (List.mem_of_getElem? hpp)), hv, by rw [List.length_map, List.length_map, List.length_take, sizeLine_eq]; omega, ?_⟩
      have e1 : putK (((ks.take j).map (·.2)).map fun g => (kyN g, V.bl true)) (kyN p.2) (.bl true) = ((ks.take (j + 1)).map (·.2)).map fun g => (kyN g, V.bl true) := by
        have e2 : (ks.take (j + 1)).map (·.2) = (ks.take j).map (·.2) ++ [p.2] := by
          rw [List.take_add_one, hpp]
          simp only [Option.toList, List.map_append, List.map_cons, List.map_nil]
        unfold putK
        rw [e2, List.map_append, List.map_cons, List.map_nil, if_neg]
        intro c
        rw [List.any_eq_true] at c
        obtain ⟨y, hy, e⟩ := c
        obtain ⟨gg, hg, rfl⟩ := List.mem_map.1 hy
        have e3 : gg = p.2 := kyN_inj (of_decide_eq_true e)
        have nd2 : ((ks.take (j + 1)).map (·.2)).Nodup := by
          rw [List.map_take]
          exact List.Nodup.sublist (List.take_sublist _ _) nd
        rw [e2, List.nodup_append] at nd2
        exact nd2.2.2 gg hg p.2 List.mem_cons_self e3
      rw [e1]
      refine ⟨Grow.intoNew g (GrowX.set (S := (· = D)) rfl hv (fun _ z => by cases z) (fun _ z => by unfold CodeO at z; cases z) (fun _ z => by cases z) (fun _ _ z => by cases z)) (fun _ w => by rw [w]; exact hD), upd_same⟩
    · rintro H4 ⟨g4, hv⟩
      rw [List.length_map, List.take_length] at hv
      have g14 := g13.trans g4
      walk_at "V"
      refine ⟨y, q, D, t, [], ks.map (·.2), .bl true, rfl, Grow.da g4 dy, by omega, gd.wf, Grow.extN g4 _ _ hq3 (fun _ z => by cases z), by show 0 + M ≤ 1000; omega, hv, fun u H5 g5 d5 => ?_⟩
      rw [et] at d5
      have g15 := g14.trans g5
      refine ⟨t', G, d5.sub fun _ _ => trivial, Tm.thin_gd _ t [] G t' et gd, hG, g15.tab hT, fun j H6 g6 nj ra => ?_⟩
      exact k j H6 t' (g15.trans g6) (g15.keep _ nj) et (ra.sub fun a z => g15.keep _ z)
  · have fin : ∀ H1, Grow m.T H H1 → wB X (C8.fnBody st_left_out).tail.tail { nx := fun _ H' => Q .non H', rt := Q } (start nl_left_out [.ref i, v]) H1 → True := fun _ _ _ => trivial
    rcases hb with nl | ⟨es, la, nok⟩
    · refine .inl ⟨nl, fun H1 g1 => ?_⟩
      walk_at "V"
      refine iteT (b_one ?_)
      refine s_raise hA tk Er (by omega) rfl ?_
      walk_at "V"
      exact fun dE hE => k H1 dE g1 hE
    · refine .inr ⟨es, la, fun H1 g1 => ?_⟩
      rw [nok]
      walk_at "V"
      refine iteT (b_one ?_)
      refine s_raise hA tk Er (by omega) rfl ?_
      walk_at "V"
      exact fun dE hE => k H1 dE g1 hE
def sp_walk (m : Md) (N : Nat) : Sp := fun vs H Q _ => ∃ (v : V) (p : Addr) (t : Tm) (js : List Nat), vs = [v, .ref p] ∧ Da m.K Any H v t.py ∧ t.dep ≤ N ∧ t.wf ∧ t.cnt ≤ 1000 ∧ H p = some (.tup (pv js)) ∧ js.length + N ≤ 1000 ∧
  ∀ u us H', Grow m.T H H' → New H u → H' u = some (.lst us) → Paired (PtA m.K H') us (t.ptN js) → Q (.ref u) H'
theorem walk_step {m : Md} {f : Addr} {fd : FuncData} (F : C8.Def m.K m.mg "_law_walk" st_walk f fd) (b : L2.Binds m.K fd ps_walk []) (hrng : m.mg "range" = none) (hlen : m.mg "len" = none) (N : Nat) (ih : ∀ L, L + 1 = N → Cal m N "_law_walk" (sp_walk m L)) : Cal m (N + 1) "_law_walk" (sp_walk m N) := by
  refine cal_of F b sc_walk (fun vs H Q E h => by obtain ⟨_, _, _, _, rfl, _⟩ := h; rfl) fun X vs H Q E hA h => ?_
  obtain ⟨v, p, t, js, rfl, d, hdp, hw, hc, hp, hj, q⟩ := h
  obtain ⟨n0, n1, n2, n3⟩ := nv_walk
  obtain ⟨a0, xs0, rfl, hs0, hx0⟩ := da_word d
  walk_at "B"
  walk_at "V"
  refine g_ixT hA hs0 (atI_at (j := 0) hx0) ?_
  walk_at "V"
  refine ⟨by walk_at "S", fun pw hpw => ?_⟩
  have g1 := Grow.new (T := m.T) (o := .tup [.str "of", .str "now"]) hpw
  refine g_inF hA (.inr (SqT.of upd_same)) rfl rfl ?_
  rw [kw_part]
  have hp1 := g1.tup _ _ hp
  have d1 := Grow.da g1 d
  generalize upd H pw (.tup [.str "of", .str "now"]) = H1 at g1 hp1 d1 ⊢
  walk_at "V"
  refine ite2 (fun h0 => ?_) fun h0 => ?_
  · cases t with
    | all _ _ => simp [Tm.isPart] at h0
    | rank _ _ => simp [Tm.isPart] at h0
    | part n z w =>
      walk_at "V"
      refine ⟨by walk_at "S", fun T hT => ?_⟩
      walk_at "V"
      have g2 := Grow.new (T := m.T) (o := .tup [.ref p, .ref a0]) hT
      refine ⟨by walk_at "S", fun u hu => ?_⟩
      have g3 := Grow.new (T := m.T) (o := .lst [.ref T]) hu
      have gA := (g1.trans g2).trans g3
      refine q u [.ref T] _ gA (g1.keep _ (g2.keep _ hu)) upd_same (.cons ⟨T, p, .ref a0, rfl, SqT.of (g3.extN _ _ upd_same (fun _ z => by cases z)), g3.tup _ _ (g2.tup _ _ hp1), da_parts (Grow.da gA d)⟩ .nil)
  · have hnp : t.isPart = false := by simpa using h0
    refine b_nil (b_cons ?_)
    walk_at "V"
    refine ⟨by walk_at "S", fun D1 hD1 => ?_⟩
    obtain ⟨L, rfl⟩ : ∃ L, L + 1 = N := ⟨N - 1, by have := Tm.kids_dep hnp; omega⟩
    have g2 := Grow.new (T := m.T) (o := .lst []) hD1
    have hd1 : (upd H1 D1 (.lst [])) D1 = some (.lst []) := upd_same
    generalize upd H1 D1 (.lst []) = H2 at g2 hd1 ⊢
    have g12 := g1.trans g2
    have hp2 := g2.tup _ _ hp1
    obtain ⟨a, l, xs, ea, hs, hl, dk⟩ := da_kid2 (Grow.da g2 d1) hnp
    cases ea
    obtain ⟨kne, klen, kwf⟩ := Tm.kids_wf hw hnp
    have kdep := Tm.kids_dep hnp
    have kcnt := Tm.kids_cnt hnp
    have hxl : xs.length = t.kids.length := by rw [dk.length, Tm.pys_length]
    walk_at "B"
    refine s_forR hA (pg_nl hA n3) hrng rfl ?_
    walk_at "V"
    refine g_blt hA hlen rfl bt_len ?_
    walk_at "V"
    refine g_ixT hA hs (at_last _ _) ?_
    walk_at "V"
    refine g_lenL hA hl ?_
    walk_at "V"
    have kl : t.kids.length ≤ 1000 := by omega
    refine ⟨by omega, by omega, fun j σ H4 => ∃ (D : Addr) (us : List V) (s3 : Option V), σ = [some (.ref a0), some (.ref p), some (.ref D), s3] ∧ Grow m.T H2 H4 ∧ New H1 D ∧ H4 D = some (.lst us) ∧ Paired (PtA m.K H4) us (Tm.ptNs js 0 (t.kids.take j)), ?_, ?_, ?_⟩
    · exact ⟨D1, [], _, rfl, GrowX.refl, hD1, hd1, .nil⟩
    · rintro j σ H4 hj4 ⟨D, us, s3, rfl, g4, nD, hu, du⟩
      have hj : j < t.kids.length := by rw [← hxl]; omega
      have hx : xs[j]? = some xs[j] := List.getElem?_eq_getElem (by omega)
      obtain ⟨pd, hpd, dx⟩ := dk.getV hx
      rw [Tm.pys_map, List.getElem?_map] at hpd
      obtain ⟨tj, htj, rfl⟩ := Option.map_eq_some_iff.1 hpd
      have htm := List.mem_of_getElem? htj
      generalize xs[j] = x at hx dx
      walk_at "B"
      walk_at "V"
      refine w_call hA (ih L rfl) (by omega) rfl ?_
      refine w_cons ?_
      walk_at "V"
      refine g_ixT hA (GrowX.seqT g4 hs) (at_last _ _) ?_
      walk_at "V"
      refine g_ixL hA (GrowX.seqL g4 hl fun z => z) (atI_at hx) ?_
      walk_at "V"
      refine ⟨by walk_at "S", fun T2 hT2 => ?_⟩
      have gT2 := Grow.new (T := m.T) (o := .tup [.int (j : Int)]) hT2
      refine g_snocH hA (gT2.tup _ _ (g4.tup _ _ hp2)) upd_same (by rw [sizeLine_eq]; omega) fun p2 H6 g6 hp6 => ?_
      have g46 := gT2.trans g6
      refine w_nil ⟨x, p2, tj, js ++ [j], rfl, Grow.da (g4.trans g46) dx, by have := Tm.dep_mem htm; omega, Tm.wfs_iff.1 kwf tj htm, ?_, hp6, by rw [List.length_append, List.length_singleton]; omega, fun u ws H7 g7 nu hu7 dw => ?_⟩
      · have e : t.kids = t.kids.take j ++ tj :: t.kids.drop (j + 1) := by
          have q1 := List.take_append_drop j t.kids
          rw [List.drop_eq_getElem_cons hj] at q1
          have q2 : t.kids[j] = tj := by rw [List.getElem?_eq_getElem hj] at htj; exact Option.some.inj htj
          rw [q2] at q1
          exact q1.symm
        have z : Tm.cnts t.kids = Tm.cnts (t.kids.take j) + (tj.cnt + Tm.cnts (t.kids.drop (j + 1))) := by
          conv => lhs; rw [e, Tm.cnts_append]
          rfl
        omega
      have g47 := g46.trans g7
      have hu47 := Grow.extN g47 _ _ hu (fun _ z => by cases z)
      have l1 := paired_len du
      have l2 := paired_len dw
      rw [Tm.ptN_len] at l2
      rw [Tm.ptNs_len] at l1
      have zc : Tm.cnts (t.kids.take j) + tj.cnt ≤ 1000 := by
        have e : t.kids = t.kids.take j ++ tj :: t.kids.drop (j + 1) := by
          have q1 := List.take_append_drop j t.kids
          rw [List.drop_eq_getElem_cons hj] at q1
          have q2 : t.kids[j] = tj := by rw [List.getElem?_eq_getElem hj] at htj; exact Option.some.inj htj
          rw [q2] at q1
          exact q1.symm
        have z : Tm.cnts t.kids = Tm.cnts (t.kids.take j) + (tj.cnt + Tm.cnts (t.kids.drop (j + 1))) := by
          conv => lhs; rw [e, Tm.cnts_append]
          rfl
        omega
      refine g_cat hu47 hu7 (by rw [sizeLine_eq]; omega) fun D2 hD2 => ?_
      have gD := Grow.new (T := m.T) (o := .lst (us ++ ws)) hD2
      walk_at "V"
      refine ⟨D2, us ++ ws, _, rfl, (g4.trans g47).trans gD, g2.keep _ (g4.keep _ (GrowX.keep g47 _ hD2)), upd_same, ?_⟩
      rw [Tm.ptNs_take htj]
      exact PtA.pairsG gD (Paired.app (PtA.pairsG g47 du) dw)
    · rintro σ H4 ⟨D, us, s3, rfl, g4, nD, hu, du⟩
      have e : ((xs.length : Int)).toNat = t.kids.length := by omega
      rw [e, List.take_length, ← Tm.ptN_kids js hnp] at du
      walk_at "B"
      walk_at "V"
      exact q D us H4 (g12.trans g4) (g1.keep _ nD) hu du
theorem c_walk {m : Md} {f : Addr} {fd : FuncData} (F : C8.Def m.K m.mg "_law_walk" st_walk f fd) (b : L2.Binds m.K fd ps_walk []) (hrng : m.mg "range" = none) (hlen : m.mg "len" = none) : ∀ N, Cal m (N + 1) "_law_walk" (sp_walk m N) := by
  intro N
  induction N with
  | zero => exact walk_step F b hrng hlen 0 fun L e => by omega
  | succ N ih =>
    refine walk_step F b hrng hlen (N + 1) fun L e => ?_
    obtain rfl : L = N := by omega
    exact ih
theorem pth_lay : ∀ js : List Nat, PyData.canLayAll0 (js.map fun j : Nat => PyData.int (j : Int)) = true
  | [] => rfl
  | j :: js => by
    rw [List.map_cons, PyData.canLayAll0, pth_lay js]
    rfl
theorem pth_depth : ∀ js : List Nat, PyData.depthAll (js.map fun j : Nat => PyData.int (j : Int)) = 0
  | [] => rfl
  | j :: js => by
    rw [List.map_cons, PyData.depthAll, pth_depth js]
    rfl
theorem pth_shaped (js : List Nat) : SeqAt.shaped (pthD js) = true := by
  unfold SeqAt.shaped pthD
  rw [PyData.canLay0, pth_lay, PyData.depth, pth_depth]
  rfl
theorem eqv_pths : ∀ a b : List Nat, PyData.eqvAll (a.map fun j : Nat => PyData.int (j : Int)) (b.map fun j : Nat => PyData.int (j : Int)) = decide (a = b)
  | [], [] => rfl
  | [], _ :: _ => rfl
  | _ :: _, [] => rfl
  | x :: a, y :: b => by
    rw [List.map_cons, List.map_cons, PyData.eqvAll, eqv_pths a b]
    have e : PyData.eqv (.int (x : Int)) (.int (y : Int)) = decide (x = y) := by
      have z : ((x : Int) == (y : Int)) = decide (x = y) := by
        rw [Bool.eq_iff_iff, beq_iff_eq, decide_eq_true_eq]
        omega
      simpa [PyData.eqv] using z
    rw [e]
    by_cases c : x = y <;> simp [c]
theorem eqv_pth (a b : List Nat) : PyData.eqv (pthD a) (pthD b) = decide (a = b) := by
  rw [pthD, pthD, PyData.eqv, eqv_pths]
theorem dp_pth {K : PySem.W.Frag} {H : Hp} {b : Addr} {js : List Nat} (hb : SqT K H b (pv js)) : Dp K H (.ref b) (pthD js) := by
  refine Da.dp _ _ (A := Any) (.tup hb ?_)
  clear hb
  induction js with
  | nil => exact .nil
  | cons j js ih => exact .cons (.int _) ih
/-- anew(term, path, part) -/
def sp_anew (m : Md) (N : Nat) : Sp := fun vs H Q _ => ∃ (v w : V) (pa : Addr) (t p : Tm) (js : List Nat) (A : Addr → Prop), vs = [v, .ref pa, w] ∧ (∀ a, A a → H a ≠ none) ∧ Da m.K A H v t.py ∧ t.dep ≤ N ∧ t.wf ∧ SqT m.K H pa (pv js) ∧ Tm.vp js t ∧ Da m.K NoA H w p.py ∧ ∀ (u : V) (H' : Hp), Grow m.T H H' → Da m.K (fun a => A a ∨ New H a) H' u (Tm.rep p js t).py → Q u H'
theorem anew_step {m : Md} {f : Addr} {fd : FuncData} (F : C8.Def m.K m.mg "_law_anew" st_anew f fd) (b : L2.Binds m.K fd ps_anew []) (hlist : m.mg "list" = none) (N : Nat) (ih : ∀ M, M + 1 = N → Cal m N "_law_anew" (sp_anew m M)) : Cal m (N + 1) "_law_anew" (sp_anew m N) := by
  refine cal_of F b sc_anew (fun vs H Q E h => by obtain ⟨_, _, _, _, _, _, _, rfl, _⟩ := h; rfl) fun X vs H Q E hA h => ?_
  obtain ⟨v, w, pa, t, p, js, A, rfl, hAn, d, hd, hw, hpa, hv, dw, q⟩ := h
  obtain ⟨n0, n1, n2, n3⟩ := nv_anew
  walk_at "B"
  walk_at "V"
  refine ⟨by walk_at "S", fun pe hpe => ?_⟩
  have g1 := Grow.new (T := m.T) (o := .tup []) hpe
  refine g_eqD hA (dp_pth (g1.seqT hpa)) (dp_pth (js := []) (SqT.of upd_same)) (pth_shaped _) (pth_shaped _) ?_
  rw [eqv_pth]
  refine ⟨_, rfl, ?_⟩
  have hpa1 := g1.seqT hpa
  have d1 := Grow.da g1 d
  have dw1 := Grow.da g1 dw
  generalize upd H pe (.tup []) = H1 at g1 hpa1 d1 dw1 ⊢
  cases js with
  | nil =>
    refine iteT ?_
    walk_at "V"
    exact q w H1 g1 (dw1.sub fun _ z => z.elim)
  | cons i js =>
    refine iteF (b_nil ?_)
    obtain ⟨hnp, hi⟩ := Tm.vp_cons hv
    obtain ⟨tj, htj, hvj⟩ := hv
    obtain ⟨M, rfl⟩ : ∃ M, M + 1 = N := ⟨N - 1, by have := Tm.kids_dep hnp; omega⟩
    obtain ⟨a, l, hd0, xs, rfl, _, hs, hne, hd2, _, hl, da, mk, _⟩ := da_kids d1 hnp
    obtain ⟨kne, klen, kwf⟩ := Tm.kids_wf hw hnp
    have kdep := Tm.kids_dep hnp
    have hxl : xs.length = t.kids.length := by rw [da.length, Tm.pys_length]
    walk_at "B"
    walk_at "V"
    refine g_typ hA hlist rfl bt_list ?_
    walk_at "V"
    refine g_ixT hA hs (at_last _ _) ?_
    walk_at "V"
    refine g_listOf hA (.inl hl) fun D hD => ?_
    have g2 := Grow.new (T := m.T) (o := .lst xs) hD
    have hD2 := @upd_same H1 D (.lst xs)
    have g12 := g1.trans g2
    have hs2 := g2.seqT hs
    have hpa2 := g2.seqT hpa1
    have da2 := Grow.daAll g2 da
    have dw2 := Grow.da g2 dw1
    have nD : ∀ a, A a → a ≠ D := fun a z e => by
      rw [e] at z
      have z1 := hAn D z
      cases e1 : H D with
      | none => exact z1 e1
      | some o =>
        have z2 : H D = none := g1.keep _ hD
        rw [z2] at e1; cases e1
    have nD2 : ∀ a, New (upd H1 D (.lst xs)) a → a ≠ D := fun a z e => by
      rw [e] at z
      rw [show (upd H1 D (.lst xs)) D = none from z] at hD2; cases hD2
    have hAn2 : ∀ a, A a → (upd H1 D (.lst xs)) a ≠ none := fun a z e => hAn a z (g12.keep _ e)
    generalize upd H1 D (.lst xs) = H2 at g2 hD2 g12 hs2 hpa2 da2 dw2 nD2 hAn2 ⊢
    have atx : xs[i]? = some (xs.getD i .non) := by
      have lt : i < xs.length := by omega
      rw [List.getD_eq_getElem?_getD, List.getElem?_eq_getElem lt]
      rfl
    obtain ⟨pd, hpd, dx⟩ := da2.getV atx
    rw [Tm.pys_map, List.getElem?_map, htj] at hpd
    cases hpd
    generalize xs.getD i .non = x at atx dx
    walk_at "B"
    walk_at "V"
    refine w_call hA (ih M rfl) (by omega) rfl ?_
    refine w_cons ?_
    walk_at "V"
    refine g_ixT hA hpa2 (atI_at (j := 0) rfl) ?_
    refine g_ixL hA (SqL.of hD2) (atI_at atx) ?_
    refine w_cons (w_tailT hA ?_)
    walk_at "V"
    refine ⟨pa, _, _, rfl, hpa2, fun p2 hp2 => ?_⟩
    have g5 := Grow.new (T := m.T) (o := .tup (pv js)) hp2
    walk_at "V"
    refine ⟨x, w, p2, tj, p, js, A, rfl, fun a z e => hAn2 a z (g5.keep _ e), Grow.da g5 dx, by have := Tm.dep_mem (List.mem_of_getElem? htj); omega, Tm.wfs_iff.1 kwf tj (List.mem_of_getElem? htj), SqT.of upd_same, hvj, Grow.da g5 dw2, fun u H6 g6 du6 => ?_⟩
    have g56 := g5.trans g6
    have hv6 := Grow.extN g56 _ _ hD2 (fun _ w => by cases w)
    walk_at "V"
    refine g_ixT hA (GrowX.seqT g56 hpa2) (atI_at (j := 0) rfl) ?_
    refine ⟨D, xs, i, i, rfl, rfl, hv6, ixN_at (by omega), ?_⟩
    have gX := GrowX.lst (T := m.T) (ys := xs.set i u) hv6
    have gAll := Grow.intoNew (g2.trans g56) gX (fun _ w => by rw [w]; exact hD)
    have dset := gX.daAll (DaAll.set (A := fun a => (A a ∨ New H2 a) ∧ a ≠ D) (du6.sub fun a z => z.elim (fun z => ⟨.inl z, nD a z⟩) fun z => ⟨.inr (g5.keep _ z), nD2 a (g5.keep _ z)⟩) i (Grow.daAll g56 (da2.sub fun a z => ⟨.inl z, nD a z⟩))) fun a z => z.2
    have hs7 := gX.seqT (GrowX.seqT g56 hs2)
    have hD7 := @upd_same H6 D (.lst (xs.set i u))
    generalize upd H6 D (.lst (xs.set i u)) = H7 at gX gAll dset hs7 hD7 ⊢
    walk_at "B"
    walk_at "V"
    refine w_sliceToT hA ?_
    walk_at "V"
    refine ⟨a, hd0 ++ [.ref l], rfl, hs7, six_last _ _, fun ph hph => ?_⟩
    rw [cut_last]
    have g8 := Grow.new (T := m.T) (o := .tup hd0) hph
    have hh8 := @upd_same H7 ph (.tup hd0)
    walk_at "V"
    refine ⟨by walk_at "S", fun pi hpi => ?_⟩
    have g9 := Grow.new (T := m.T) (o := .tup [.ref D]) hpi
    refine g_catT hA (SqT.of (g9.tup _ _ hh8)) (SqT.of upd_same) hne (by simp) (by rw [sizeLine_eq]; simp; omega) fun pr hpr => ?_
    have g10 := Grow.new (T := m.T) (o := .tup (hd0 ++ [.ref D])) hpr
    have g89 := (g8.trans g9).trans g10
    have et : Tm.rep p (i :: js) t = t.over (t.kids.set i (Tm.rep p js tj)) := by
      cases t with
      | part _ _ _ => simp [Tm.isPart] at hnp
      | all f ts => rw [Tm.rep_all (ts := ts) htj]; rfl
      | rank r ts => rw [Tm.rep_rank (ts := ts) htj]; rfl
    have ep : Tm.pys (t.kids.set i (Tm.rep p js tj)) = (Tm.pys t.kids).set i (Tm.rep p js tj).py := by rw [Tm.pys_map, Tm.pys_map, List.map_set]
    refine q _ _ ((g1.trans gAll).trans g89) ?_
    rw [et]
    refine mk _ _ pr D (xs.set i u) _ (SqT.of upd_same) (.inr (g1.keep _ hD)) (SqL.of (Grow.extN g89 _ _ hD7 (fun _ z => by cases z))) ?_
    rw [ep]
    exact Grow.daAll g89 (dset.sub fun a z => z.1.elim .inl fun z => .inr (g12.keep _ z))
theorem c_anew {m : Md} {f : Addr} {fd : FuncData} (F : C8.Def m.K m.mg "_law_anew" st_anew f fd) (b : L2.Binds m.K fd ps_anew []) (hlist : m.mg "list" = none) : ∀ N, Cal m (N + 1) "_law_anew" (sp_anew m N) := by
  intro N
  induction N with
  | zero => exact anew_step F b hlist 0 fun M e => by omega
  | succ N ih =>
    refine anew_step F b hlist (N + 1) fun M e => ?_
    obtain rfl : M = N := by omega
    exact ih
theorem depthAll_pth : ∀ gs : List (List Nat), PyData.depthAll (gs.map pthD) ≤ 1
  | [] => Nat.zero_le _
  | g :: gs => by
    rw [List.map_cons, PyData.depthAll, pthD, PyData.depth, pth_depth]
    have := depthAll_pth gs
    omega
theorem layAll_pth : ∀ gs : List (List Nat), PyData.canLayAll0 (gs.map pthD) = true
  | [] => rfl
  | g :: gs => by
    rw [List.map_cons, PyData.canLayAll0, layAll_pth gs, pthD, PyData.canLay0, pth_lay]
    rfl
theorem pths_shaped (gs : List (List Nat)) : SeqAt.shaped (.list (gs.map pthD)) = true := by
  unfold SeqAt.shaped
  rw [PyData.canLay0, layAll_pth, PyData.depth, Bool.true_and, decide_eq_true_eq]
  have := depthAll_pth gs
  omega
theorem any_pth (gs : List (List Nat)) (js : List Nat) : ((gs.map pthD).any fun z => PyData.eqv z (pthD js)) = decide (js ∈ gs) := by
  induction gs with
  | nil => rfl
  | cons g gs ih =>
    rw [List.map_cons, List.any_cons, ih, eqv_pth]
    by_cases c : g = js
    · subst c; simp
    · rw [decide_eq_false c, Bool.false_or]
      have c2 : ¬ js = g := fun e => c e.symm
      by_cases d : js ∈ gs <;> simp [d, c2]
/-- a list of paths -/
abbrev PsAt (K : PySem.W.Frag) (H : Hp) (v : V) (gs : List (List Nat)) : Prop := Da K Any H v (.list (gs.map pthD))
section
variable {m : Md} {N : List Str} {sc : Scope} {k : Nat} {X : Cx} {H : Hp} {Q : VK}
/-- path in paths -/
theorem g_inPs (h : At m N sc k X) {b : Addr} {l : V} {js : List Nat} {gs : List (List Nat)} (hb : SqT m.K H b (pv js)) (hl : PsAt m.K H l gs) (q : Q (.bl (decide (js ∈ gs))) H) : gOp X (compareOp .In) (.ref b) l H Q :=
  gOp.of (op_inD (by have := h.room.un; omega)) ⟨pthD js, gs.map pthD, by rw [h.kk]; exact dp_pth hb, by rw [h.kk]; exact Da.dp _ _ hl, pth_shaped _, pths_shaped _, by rw [any_pth]; exact q⟩
end
namespace Tm
theorem shaped_list {N : Nat} {ts : List Tm} (h : ∀ t ∈ ts, Gd N t) (hN : N ≤ 30) : SeqAt.shaped (.list (pys ts)) = true := by
  unfold SeqAt.shaped
  have l := nmss_lay ts (nmss_iff.2 fun t z => (h t z).nms)
  have d := depths_le ts
  have e := deps_le_iff.2 fun t z => (h t z).dep
  rw [PyData.canLay0, l, PyData.depth, Bool.true_and, decide_eq_true_eq]
  omega
theorem eqv_nil (ts : List Tm) : PyData.eqv (.list (pys ts)) (.list []) = ts.isEmpty := by cases ts <;> rfl
end Tm
def sp_less (m : Md) (N : Nat) : Sp := fun vs H Q _ => ∃ (v l : V) (p : Addr) (t : Tm) (js : List Nat) (gs : List (List Nat)), vs = [v, .ref p, l] ∧ Da m.K Any H v t.py ∧ Tm.Gd N t ∧ H p = some (.tup (pv js)) ∧ js.length + N ≤ 1000 ∧ PsAt m.K H l gs ∧
  ∀ u us H', Grow m.T H H' → New H u → H' u = some (.lst us) → DaAll m.K (New H) H' us (Tm.pys (Tm.thin gs js t).toList) → Q (.ref u) H'
theorem less_step {m : Md} {f : Addr} {fd : FuncData} (F : C8.Def m.K m.mg "_law_less" st_less f fd) (b : L2.Binds m.K fd ps_less []) (hrng : m.mg "range" = none) (hlen : m.mg "len" = none) (hmin : m.mg "min" = none) (N : Nat) (hN : N ≤ 30) (ih : ∀ L, L + 1 = N → Cal m N "_law_less" (sp_less m L)) : Cal m (N + 1) "_law_less" (sp_less m N) := by
  refine cal_of F b sc_less (fun vs H Q E h => by obtain ⟨_, _, _, _, _, _, rfl, _⟩ := h; rfl) fun X vs H Q E hA h => ?_
  obtain ⟨v, lg, p, t, js, gs, rfl, d, gd, hp, hj, hg, q⟩ := h
  obtain ⟨n0, n1, n2, n3, n4⟩ := nv_less
  obtain ⟨a0, xs0, rfl, hs0, hx0⟩ := da_word d
  walk_at "B"
  walk_at "V"
  refine g_ixT hA hs0 (atI_at (j := 0) hx0) ?_
  walk_at "V"
  refine ⟨by walk_at "S", fun pw hpw => ?_⟩
  have g1 := Grow.new (T := m.T) (o := .tup [.str "of", .str "now"]) hpw
  refine g_inF hA (.inr (SqT.of upd_same)) rfl rfl ?_
  rw [kw_part]
  have hp1 := g1.tup _ _ hp
  have d1 := Grow.da g1 d
  have hg1 := Grow.da g1 hg
  generalize upd H pw (.tup [.str "of", .str "now"]) = H1 at g1 hp1 d1 hg1 ⊢
  walk_at "V"
  refine ite2 (fun h0 => ?_) fun h0 => ?_
  · cases t with
    | all _ _ => simp [Tm.isPart] at h0
    | rank _ _ => simp [Tm.isPart] at h0
    | part n z w =>
      walk_at "V"
      refine g_inPs hA (SqT.of hp1) hg1 ?_
      walk_at "V"
      refine ite2 (fun hh => ?_) fun hh => ?_
      · walk_at "V"
        refine ⟨by walk_at "S", fun u hu => ?_⟩
        have g2 := Grow.new (T := m.T) (o := .lst []) hu
        refine q u [] _ (g1.trans g2) (g1.keep _ hu) upd_same ?_
        rw [Tm.thin, if_pos (of_decide_eq_true hh)]
        exact .nil
      · walk_at "V"
        refine ⟨by walk_at "S", fun u hu => ?_⟩
        have g2 := Grow.new (T := m.T) (o := .lst [.ref a0]) hu
        refine q u [.ref a0] _ (g1.trans g2) (g1.keep _ hu) upd_same ?_
        rw [Tm.thin, if_neg (fun z => hh (decide_eq_true z))]
        exact .cons (da_parts (Grow.da g2 d1)) .nil
  · have hnp : t.isPart = false := by simpa using h0
    refine b_nil (b_cons ?_)
    walk_at "V"
    refine ⟨by walk_at "S", fun D1 hD1 => ?_⟩
    obtain ⟨L, rfl⟩ : ∃ L, L + 1 = N := ⟨N - 1, by have := Tm.kids_dep hnp; have := gd.dep; omega⟩
    have g2 := Grow.new (T := m.T) (o := .lst []) hD1
    have hd1 : (upd H1 D1 (.lst [])) D1 = some (.lst []) := upd_same
    generalize upd H1 D1 (.lst []) = H2 at g2 hd1 ⊢
    have g12 := g1.trans g2
    have hp2 := g2.tup _ _ hp1
    have hg2 := Grow.da g2 hg1
    obtain ⟨a, l, xs, ea, hs, hl, dk⟩ := da_kid2 (Grow.da g2 d1) hnp
    cases ea
    obtain ⟨kne, klen, kwf⟩ := Tm.kids_wf gd.wf hnp
    have kgd := gd.kids
    have hxl : xs.length = t.kids.length := by rw [dk.length, Tm.pys_length]
    walk_at "B"
    refine s_forR hA (pg_nl hA n4) hrng rfl ?_
    walk_at "V"
    refine g_blt hA hlen rfl bt_len ?_
    walk_at "V"
    refine g_ixT hA hs (at_last _ _) ?_
    walk_at "V"
    refine g_lenL hA hl ?_
    walk_at "V"
    refine ⟨by omega, by omega, fun j σ H4 => ∃ (D : Addr) (us : List V) (s4 : Option V), σ = [some (.ref a0), some (.ref p), some lg, some (.ref D), s4] ∧ Grow m.T H2 H4 ∧ New H1 D ∧ H4 D = some (.lst us) ∧ DaAll m.K (New H1) H4 us (Tm.pys (Tm.thins gs js 0 (t.kids.take j))), ?_, ?_, ?_⟩
    · exact ⟨D1, [], _, rfl, GrowX.refl, hD1, hd1, .nil⟩
    · rintro j σ H4 hj4 ⟨D, us, s4, rfl, g4, nD, hu, du⟩
      have hj : j < t.kids.length := by rw [← hxl]; omega
      have hx : xs[j]? = some xs[j] := List.getElem?_eq_getElem (by omega)
      obtain ⟨pd, hpd, dx⟩ := dk.getV hx
      rw [Tm.pys_map, List.getElem?_map] at hpd
      obtain ⟨tj, htj, rfl⟩ := Option.map_eq_some_iff.1 hpd
      have htm := List.mem_of_getElem? htj
      generalize xs[j] = x at hx dx
      walk_at "B"
      walk_at "V"
      refine w_call hA (ih L rfl) (by omega) rfl ?_
      refine w_cons ?_
      walk_at "V"
      refine g_ixT hA (GrowX.seqT g4 hs) (at_last _ _) ?_
      walk_at "V"
      refine g_ixL hA (GrowX.seqL g4 hl fun z => z) (atI_at hx) ?_
      walk_at "V"
      refine ⟨by walk_at "S", fun T2 hT2 => ?_⟩
      have gT2 := Grow.new (T := m.T) (o := .tup [.int (j : Int)]) hT2
      refine g_snocH hA (gT2.tup _ _ (g4.tup _ _ hp2)) upd_same (by rw [sizeLine_eq]; omega) fun p2 H6 g6 hp6 => ?_
      have g46 := gT2.trans g6
      walk_at "V"
      refine ⟨x, lg, p2, tj, js ++ [j], gs, rfl, Grow.da (g4.trans g46) dx, kgd tj htm, hp6, by rw [List.length_append, List.length_singleton]; omega, Grow.da (g4.trans g46) hg2, fun u ws H7 g7 nu hu7 dw => ?_⟩
      have g47 := g46.trans g7
      have hu47 := Grow.extN g47 _ _ hu (fun _ z => by cases z)
      have l1 := (Tm.thins_gd gs (t.kids.take j) js 0 L fun t z => kgd t (List.mem_of_mem_take z)).2
      have l2 := du.length
      have l3 := dw.length
      rw [Tm.pys_length] at l2 l3
      have l4 : (Tm.thin gs (js ++ [j]) tj).toList.length ≤ 1 := by cases Tm.thin gs (js ++ [j]) tj <;> simp
      rw [List.length_take] at l1
      refine g_cat hu47 hu7 (by rw [sizeLine_eq]; omega) fun D2 hD2 => ?_
      have gD := Grow.new (T := m.T) (o := .lst (us ++ ws)) hD2
      walk_at "V"
      refine ⟨D2, us ++ ws, _, rfl, (g4.trans g47).trans gD, g2.keep _ (g4.keep _ (GrowX.keep g47 _ hD2)), upd_same, ?_⟩
      rw [Tm.thins_take htj, Tm.pys_append]
      exact Grow.daAll gD (DaAll.append (Grow.daAll g47 du) (dw.sub fun a z => g2.keep _ (g4.keep _ (GrowX.keep g46 _ z))))
    · rintro σ H4 ⟨D, us, s4, rfl, g4, nD, hu, du⟩
      have e : ((xs.length : Int)).toNat = t.kids.length := by omega
      rw [e, List.take_length] at du
      have tg := Tm.thins_gd gs t.kids js 0 L kgd
      have ul : us.length = (Tm.thins gs js 0 t.kids).length := by rw [du.length, Tm.pys_length]
      have du' : DaAll m.K (New H) H4 us _ := du.sub fun a z => g1.keep _ z
      have nD' : New H D := g1.keep _ nD
      have hth : Tm.thin gs js t = match Tm.thins gs js 0 t.kids with | [] => none | u :: ts => some (match t with | .all f _ => .all f (u :: ts) | .rank r _ => .rank (min r ((u :: ts).length : Int)) (u :: ts) | p => p) := by
        cases t with
        | part _ _ _ => simp [Tm.isPart] at hnp
        | all f ts => rw [Tm.thin]; show _ = match Tm.thins gs js 0 ts with | [] => none | u :: us => some (Tm.all f (u :: us)); cases Tm.thins gs js 0 ts <;> rfl
        | rank r ts => rw [Tm.thin]; show _ = match Tm.thins gs js 0 ts with | [] => none | u :: us => some (Tm.rank (min r ((u :: us).length : Int)) (u :: us)); cases Tm.thins gs js 0 ts <;> rfl
      walk_at "B"
      walk_at "V"
      refine ⟨by walk_at "S", fun pe hpe => ?_⟩
      have g5 := Grow.new (T := m.T) (o := .lst []) hpe
      refine g_eqD hA (d := .list (Tm.pys (Tm.thins gs js 0 t.kids))) (e := .list []) (Da.dp _ _ (Da.lst (A := Any) trivial (SqL.of (g5.extN _ _ hu (fun _ z => by cases z))) ((Grow.daAll g5 du).sub fun _ _ => trivial))) (Dp.lst (SqL.of upd_same) .nil) (Tm.shaped_list tg.1 (by omega)) rfl ?_
      rw [Tm.eqv_nil]
      refine ⟨_, rfl, ?_⟩
      have hu5 := g5.extN _ _ hu (fun _ z => by cases z)
      have du5 := Grow.daAll g5 du'
      have g15 := g12.trans (g4.trans g5)
      generalize upd H4 pe (.lst []) = H5 at g5 hu5 du5 g15 ⊢
      cases e : Tm.thins gs js 0 t.kids with
      | nil =>
        rw [e] at hth
        refine iteT ?_
        walk_at "V"
        refine ⟨by walk_at "S", fun u hu2 => ?_⟩
        have g6 := Grow.new (T := m.T) (o := .lst []) hu2
        refine q u [] _ (g15.trans g6) (GrowX.keep g15 _ hu2) upd_same ?_
        rw [hth]
        exact .nil
      | cons t1 ts1 =>
        rw [e] at hth du5
        have hs5 := GrowX.seqT (g4.trans g5) hs
        refine iteF (b_nil ?_)
        walk_at "B"
        walk_at "V"
        cases t with
        | part _ _ _ => simp [Tm.isPart] at hnp
        | all f ts =>
          refine g_ixT hA hs5 (atI_at (j := 0) rfl) ?_
          walk_at "V"
          rw [if_neg (by cases f <;> decide +kernel)]
          walk_at "V"
          refine g_ixT hA hs5 (atI_at (j := 0) rfl) ?_
          walk_at "V"
          refine ⟨by walk_at "S", fun T hT => ?_⟩
          have g6 := Grow.new (T := m.T) (o := .tup [.str (if f = true then ("first" : Str) else "last"), .ref D]) hT
          walk_at "V"
          refine ⟨by walk_at "S", fun u hu2 => ?_⟩
          have g7 := Grow.new (T := m.T) (o := .lst [.ref T]) hu2
          have g67 := g6.trans g7
          refine q u [.ref T] _ (g15.trans g67) (GrowX.keep g15 _ (g6.keep _ hu2)) upd_same ?_
          rw [hth]
          exact .cons (.tup (SqT.of (g7.tup _ _ upd_same)) (.cons (.str _) (.cons (.lst nD' (SqL.of (Grow.extN g67 _ _ hu5 (fun _ z => by cases z))) (Grow.daAll g67 du5)) .nil))) .nil
        | rank r ts =>
          refine g_ixT hA hs5 (atI_at (j := 0) rfl) ?_
          walk_at "V"
          rw [if_pos (by decide +kernel)]
          walk_at "V"
          refine g_blt hA hmin rfl bt_min ?_
          walk_at "V"
          refine g_ixT hA hs5 (atI_at (j := 1) rfl) ?_
          walk_at "V"
          refine g_blt hA hlen rfl bt_len ?_
          walk_at "V"
          refine g_lenL hA (SqL.of hu5) ?_
          walk_at "V"
          refine g_min2 hA ?_
          have ul2 : us.length = (t1 :: ts1).length := by rw [du5.length, Tm.pys_length]
          rw [ul2]
          have em : (if (((t1 :: ts1).length : Nat) : Int) < r then (((t1 :: ts1).length : Nat) : Int) else r) = min r ((t1 :: ts1).length : Int) := by omega
          rw [em]
          walk_at "V"
          refine ⟨by walk_at "S", fun T hT => ?_⟩
          have g6 := Grow.new (T := m.T) (o := .tup [.str ("rank" : Str), .int (min r ((t1 :: ts1).length : Int)), .ref D]) hT
          walk_at "V"
          refine ⟨by walk_at "S", fun u hu2 => ?_⟩
          have g7 := Grow.new (T := m.T) (o := .lst [.ref T]) hu2
          have g67 := g6.trans g7
          refine q u [.ref T] _ (g15.trans g67) (GrowX.keep g15 _ (g6.keep _ hu2)) upd_same ?_
          rw [hth]
          exact .cons (.tup (SqT.of (g7.tup _ _ upd_same)) (.cons (.str _) (.cons (.int _) (.cons (.lst nD' (SqL.of (Grow.extN g67 _ _ hu5 (fun _ z => by cases z))) (Grow.daAll g67 du5)) .nil)))) .nil
theorem c_less {m : Md} {f : Addr} {fd : FuncData} (F : C8.Def m.K m.mg "_law_less" st_less f fd) (b : L2.Binds m.K fd ps_less []) (hrng : m.mg "range" = none) (hlen : m.mg "len" = none) (hmin : m.mg "min" = none) : ∀ N, N ≤ 30 → Cal m (N + 1) "_law_less" (sp_less m N) := by
  intro N
  induction N with
  | zero => exact fun h => less_step F b hrng hlen hmin 0 h fun L e => by omega
  | succ N ih =>
    refine fun h => less_step F b hrng hlen hmin (N + 1) h fun L e => ?_
    obtain rfl : L = N := by omega
    exact ih (by omega)
/-- what is refused as a path -/
def NoSub (K : PySem.W.Frag) (H : Hp) (v : V) (t : Tm) : Prop := (∃ js, GoodP H v js ∧ t.sub js = none) ∨ BadP K H v
/-- what is refused as a lot -/
def NoLots (K : PySem.W.Frag) (H : Hp) (v : V) (t : Tm) : Prop := NoLot K H v ∨ ∃ es, LotAt K H v es ∧ lotOk t es = false
def sp_caught (m : Md) (C : Addr) (M : Nat) : Sp := fun vs H Q _ => ∃ (i : Addr) (v : V) (t : Tm) (G : Nat) (z : Int), vs = [.int z, .ref i, v] ∧ RuleAt m C Any H i t ∧ Tabs m.T H ∧ Tm.Gd G t ∧ 2 * G + 1 ≤ M ∧ t.cnt ≤ 1000 ∧
  (((z = 0 ∧ NoSub m.K H v t ∨ z = 1 ∧ NoLots m.K H v t) ∧ ∀ p H', Grow m.T H H' → New H p → H' p = some (.lst [.str "path", v]) → Q (.ref p) H') ∨
    (z = 0 ∧ (∃ js p, GoodP H v js ∧ t.sub js = some p) ∧ ∀ p H', Grow m.T H H' → New H p → H' p = some (.lst [.str "whole", .non]) → Q (.ref p) H'))
/-- an error that is out -/
def OutE (m : Md) (H : Hp) (C : Addr) (v : V) : XK := fun cls d H' => cls = .ref C ∧ ∃ dd H1, d = some dd ∧ H1 dd = none ∧ Grow m.T H H1 ∧ H' = upd H1 dd (.xd [("value", v)])
theorem c_caught {m : Md} {C CP CW f : Addr} {fd : FuncData} (F : C8.Def m.K m.mg "_law_caught" st_caught f fd) (b : L2.Binds m.K fd ps_caught []) (M : Nat) (Wt : CalX m (L2.CX m.P m.w) (M + 7) "waited" (sp_waited m C CP CW M) []) (Lo : CalX m (L2.CX m.P m.w) (M + 7) "left_out" (sp_left_out m C CP M) []) (Er : ErrC m "InvalidPath" CP "value") (Ew : ErrC m "InvalidWhole" CW "value") (hne : PySem.W.exmOne m.K (.ref CW) (.ref CP) = some false) : Cal m (M + 8) "_law_caught" (sp_caught m C M) := by
  refine ⟨f, fd, ps_caught, [], fnG_ofF F.fn sc_caught (fun vs H Q E h => by obtain ⟨_, _, _, _, _, rfl, _⟩ := h; rfl) fun X vs H Q E hA hM hF h => ?_, F.mgf, F.kp, b, .nil⟩
  obtain ⟨i, v, t, G, z, rfl, r, hT, gd, hG, hc, h⟩ := h
  replace hA : At m nl_caught (C8.fnScope st_caught) (M + 7) X := hA
  obtain ⟨n0, n1, n2, n3, n4⟩ := nv_caught
  walk_at "B"
  walk_at "V"
  refine s_tryAs2 (C := CP) (C2 := CW) (Wout := fun _ _ _ _ => False) hA hF n4 rfl Er.gC rfl Ew.gC L2.takes0 fun X' hX hF' tk => ?_
  walk_at "B"
  walk_at "V"
  have passP : (∀ p H', Grow m.T H H' → New H p → H' p = some (.lst [.str "path", v]) → Q (.ref p) H') → L2.PassesAt (L2.CX m.P m.w) X' ((L2.start nl_caught [V.int z, V.ref i, v]).set 3 (some V.non)) (OutE m H CP v) := fun k => pass_at hX tk (by
    rintro cls d H' ⟨rfl, dd, H1, rfl, hdd, g1, rfl⟩
    refine .inl ⟨Er.self, fun a ha X2 hS => ?_⟩
    refine b_one ?_
    refine s_nlS hS n3 ?_
    refine w_lst ?_
    refine w_cons (w_str ?_)
    refine w_cons ?_
    refine w_errS hS Er rfl ?_
    refine w_nlS hS n4 rfl ⟨rfl, dd, v, rfl, upd_same, ?_⟩
    refine w_nil ⟨by walk_at "S", fun p hp => ?_⟩
    have gd : Grow m.T H1 (upd H1 dd (.xd [("value", v)])) := Grow.new hdd
    have gp := Grow.new (T := m.T) (o := .lst [.str "path", v]) hp
    walk_at "B"
    walk_at "V"
    exact k p _ ((g1.trans gd).trans gp) (GrowX.keep (g1.trans gd) _ hp) upd_same)
  have passW : (∀ p H', Grow m.T H H' → New H p → H' p = some (.lst [.str "whole", .non]) → Q (.ref p) H') → L2.PassesAt (L2.CX m.P m.w) X' ((L2.start nl_caught [V.int z, V.ref i, v]).set 3 (some V.non)) (OutE m H CW .non) := fun k => pass_at hX tk (by
    rintro cls d H' ⟨rfl, dd, H1, rfl, hdd, g1, rfl⟩
    refine .inr ⟨hne, Ew.self, fun a ha X2 hS => ?_⟩
    refine b_one ?_
    refine s_nlS hS n3 ?_
    refine w_lst ?_
    refine w_cons (w_str ?_)
    refine w_cons ?_
    refine w_errS hS Ew rfl ?_
    refine w_nlS hS n4 rfl ⟨rfl, dd, .non, rfl, upd_same, ?_⟩
    refine w_nil ⟨by walk_at "S", fun p hp => ?_⟩
    have gd : Grow m.T H1 (upd H1 dd (.xd [("value", .non)])) := Grow.new hdd
    have gp := Grow.new (T := m.T) (o := .lst [.str "whole", .non]) hp
    walk_at "B"
    walk_at "V"
    exact k p _ ((g1.trans gd).trans gp) (GrowX.keep (g1.trans gd) _ hp) upd_same)
  rcases h with ⟨⟨rfl, ns⟩ | ⟨rfl, nl⟩, k⟩ | ⟨rfl, ⟨js, pp, gp, e⟩, k⟩
  · refine iteT (b_one (s_expr ?_))
    refine w_callXA hX Wt (by omega) rfl (passP k) ?_
    walk_at "V"
    exact ⟨i, v, .non, t, G, rfl, r, hT, gd, hG, hc, .inr (.inr ⟨ns, fun H' dE g hE => ⟨rfl, dE, H', rfl, hE, g, rfl⟩⟩)⟩
  · refine iteF (b_one (s_expr ?_))
    refine w_callXA hX Lo (by omega) rfl (passP k) ?_
    walk_at "V"
    exact ⟨i, v, t, G, rfl, r, hT, gd, hG, hc, .inr ⟨nl, fun H' dE g hE => ⟨rfl, dE, H', rfl, hE, g, rfl⟩⟩⟩
  · refine iteT (b_one (s_expr ?_))
    refine w_callXA hX Wt (by omega) rfl (passW k) ?_
    walk_at "V"
    exact ⟨i, v, .non, t, G, rfl, r, hT, gd, hG, hc, .inr (.inl ⟨js, pp, gp, e, rfl, fun H' dE g hE => ⟨rfl, dE, H', rfl, hE, g, rfl⟩⟩)⟩
/-- the Booleans among them -/
def boolsOf : List PyData → List Bool
  | [] => []
  | .bool b :: ds => b :: boolsOf ds
  | _ :: ds => boolsOf ds
/-- a tuple in which a Boolean stands -/
def strictB : PyData → Bool
  | .tuple ds => !(boolsOf ds).isEmpty
  | _ => false
theorem boolsOf_append : ∀ a b : List PyData, boolsOf (a ++ b) = boolsOf a ++ boolsOf b
  | [], b => rfl
  | d :: a, b => by
    cases d <;> simp [boolsOf, boolsOf_append a b]
theorem boolsOf_take {ds : List PyData} {j : Nat} {d : PyData} (h : ds[j]? = some d) : boolsOf (ds.take (j + 1)) = boolsOf (ds.take j) ++ boolsOf [d] := by
  rw [List.take_add_one, h, boolsOf_append]; rfl
theorem boolsOf_len : ∀ ds : List PyData, (boolsOf ds).length ≤ ds.length
  | [] => Nat.le_refl _
  | d :: ds => by
    have := boolsOf_len ds
    cases d <;> simp [boolsOf] <;> omega
theorem bools_lay : ∀ bs : List Bool, PyData.canLayAll0 (bs.map PyData.bool) = true ∧ PyData.depthAll (bs.map PyData.bool) = 0
  | [] => ⟨rfl, rfl⟩
  | b :: bs => by
    obtain ⟨h1, h2⟩ := bools_lay bs
    rw [List.map_cons, PyData.canLayAll0, PyData.depthAll, h1, h2]
    exact ⟨rfl, rfl⟩
theorem strict_bad {d : PyData} (h : strictB d = true) : isPth d = false := by
  cases d with
  | tuple ds =>
    rw [isPth]
    have h' : (!(boolsOf ds).isEmpty) = true := h
    clear h
    induction ds with
    | nil => cases h'
    | cons d ds ih =>
      rw [List.all_cons]
      cases d with
      | bool b => rfl
      | _ => rw [ih h', Bool.and_false]
  | _ => rfl
def sp_strict (m : Md) : Sp := fun vs H Q _ => ∃ (v : V) (d : PyData), vs = [v] ∧ Ob m.K Any H v d ∧ (∀ ds, d = .tuple ds → ds.length ≤ 1000) ∧ ∀ H', Grow m.T H H' → Q (.bl (strictB d)) H'
theorem c_strict {m : Md} {f : Addr} {fd : FuncData} (F : C8.Def m.K m.mg "_law_strict" st_strict f fd) (b : L2.Binds m.K fd ps_strict []) (hi : m.mg "isinstance" = none) (h1 : m.mg "tuple" = none) (h2 : m.mg "bool" = none) : Cal m 1 "_law_strict" (sp_strict m) := by
  refine cal_of F b sc_strict (fun vs H Q E h => by obtain ⟨_, _, rfl, _⟩ := h; rfl) fun X vs H Q E hA h => ?_
  obtain ⟨v, d, rfl, o, hd, q⟩ := h
  have n0 := nv_strict
  walk_at "B"
  walk_at "V"
  refine g_blt hA hi rfl bt_isinstance ?_
  walk_at "V"
  refine w_tyn hA h1 rfl bt_tuple ?_
  walk_at "V"
  refine g_isi hA (.ty "tuple") o.ty (kit_ty (kit_all "tuple" (by decide) d)) ?_
  walk_at "V"
  refine ite2 (fun h0 => ?_) fun h0 => ?_
  · obtain ⟨ds, rfl⟩ : ∃ ds, d = .tuple ds := by
      cases d <;> first | exact ⟨_, rfl⟩ | simp [isIn, tyD] at h0
    obtain ⟨a, xs, rfl, hs, da⟩ : ∃ a xs, v = .ref a ∧ SqT m.K H a xs ∧ ObAll m.K Any H xs ds := by
      cases o with | tup s r => exact ⟨_, _, rfl, s, r⟩
    have hz := hd ds rfl
    have hl := da.length
    walk_at "V"
    refine w_lcTi hA (by decide +kernel) (i := 1) ⟨rfl, rfl⟩ ?_
    walk_at "V"
    refine ⟨a, xs, rfl, hs, fun D hD => ⟨fun j H' => Grow m.T H H' ∧ H' D = some (.lst ((boolsOf (ds.take j)).map V.bl)), ?_, ?_, ?_, ?_⟩⟩
    · exact ⟨Grow.new hD, upd_same⟩
    · rintro j H' _ ⟨g, _⟩
      exact GrowX.seqT g hs
    · rintro j x H' hx ⟨g, hv⟩ X' hX'
      have c1 := nl_of hX' 1 "_law_at"
      obtain ⟨dj, hdj, oj⟩ := da.getV hx
      have oj' := g.ob oj
      have e1 := boolsOf_take hdj
      have ll := boolsOf_len (ds.take j)
      rw [List.length_take] at ll
      walk_at "V"
      refine g_blt hX' hi rfl bt_isinstance ?_
      walk_at "V"
      refine w_tyn hX' h2 rfl bt_bool ?_
      walk_at "V"
      refine g_isi hX' (.ty "bool") oj'.ty (kit_ty (kit_all "bool" (by decide) dj)) ?_
      cases oj' with
      | bl bb =>
        rw [show isIn "bool" (.bool bb) = true from rfl]
        refine ⟨_, rfl, iteT ?_⟩
        intro X' hX'
        have c1 := nl_of hX' 1 "_law_at"
        walk_at "V"
        refine ⟨_, hv, by rw [List.length_map, sizeLine_eq]; omega, Grow.intoNew g (GrowX.lst hv) (fun _ w => by rw [w]; exact hD), ?_⟩
        rw [upd_same, e1]
        simp [boolsOf]
      | non => exact ⟨_, rfl, iteF ⟨g, by rw [e1]; simpa [boolsOf] using hv⟩⟩
      | int _ => exact ⟨_, rfl, iteF ⟨g, by rw [e1]; simpa [boolsOf] using hv⟩⟩
      | str _ _ => exact ⟨_, rfl, iteF ⟨g, by rw [e1]; simpa [boolsOf] using hv⟩⟩
      | lst _ _ _ _ => exact ⟨_, rfl, iteF ⟨g, by rw [e1]; simpa [boolsOf] using hv⟩⟩
      | tup _ _ => exact ⟨_, rfl, iteF ⟨g, by rw [e1]; simpa [boolsOf] using hv⟩⟩
      | dct _ _ => exact ⟨_, rfl, iteF ⟨g, by rw [e1]; simpa [boolsOf] using hv⟩⟩
    · rintro H' ⟨g, hv⟩
      rw [hl, List.take_length] at hv
      walk_at "V"
      refine ⟨by walk_at "S", fun pe hpe => ?_⟩
      have g2 := Grow.new (T := m.T) (o := .lst []) hpe
      obtain ⟨ly, dp⟩ := bools_lay (boolsOf ds)
      have dB : ∀ bs : List Bool, DaAll m.K Any (upd H' pe (.lst [])) (bs.map V.bl) (bs.map PyData.bool) := fun bs => by
        induction bs with
        | nil => exact .nil
        | cons b bs ih => exact .cons (.bl b) ih
      refine g_neD hA (d := .list ((boolsOf ds).map PyData.bool)) (e := .list []) (Da.dp _ _ (Da.lst (A := Any) trivial (SqL.of (g2.extN _ _ hv (fun _ z => by cases z))) (dB _))) (Dp.lst (SqL.of upd_same) .nil) ?_ rfl ?_
      · unfold SeqAt.shaped
        rw [PyData.canLay0, ly, PyData.depth, dp]
        rfl
      · have e : (!PyData.eqv (.list ((boolsOf ds).map PyData.bool)) (.list [])) = strictB (.tuple ds) := by
          show _ = !(boolsOf ds).isEmpty
          cases boolsOf ds <;> rfl
        rw [e]
        exact q _ (g.trans g2)
  · have e : strictB d = false := by
      cases d <;> first | rfl | simp [isIn, tyD] at h0
    rw [e] at q
    exact q H GrowX.refl
/-- a thing that is handed as a path -/
def ThingE (K : PySem.W.Frag) (H : Hp) (v : V) : Prop := ∃ d, Ob K Any H v d ∧ (∀ ds, d = .tuple ds → ds.length ≤ 1000) ∧ (isPth d = true → ∃ js, GoodP H v js ∧ d = pthD js)
theorem ThingE.grow {T : List (Addr × Str)} {K : PySem.W.Frag} {H H' : Hp} {v : V} (g : Grow T H H') (h : ThingE K H v) : ThingE K H' v := by
  obtain ⟨d, o, l, k⟩ := h
  exact ⟨d, g.ob o, l, fun z => by obtain ⟨js, gp, e⟩ := k z; exact ⟨js, gp.grow g, e⟩⟩
theorem ThingE.bad {K : PySem.W.Frag} {H : Hp} {v : V} (h : BadP K H v) : ThingE K H v := by
  obtain ⟨d, o, e, l⟩ := h
  exact ⟨d, o, l, fun z => by rw [e] at z; cases z⟩
theorem ThingE.good {K : PySem.W.Frag} {H : Hp} {v : V} {js : List Nat} (h : GoodP H v js) : ThingE K H v := by
  have h0 := h
  obtain ⟨b, rfl, hb, l⟩ := h
  exact ⟨pthD js, ob_pth hb, fun ds e => by cases e; rw [List.length_map]; exact l, fun _ => ⟨js, h0, rfl⟩⟩
/-- data that are no path -/
def badB (d : PyData) : Bool := !isPth d && match d with
  | .tuple ds => decide (ds.length ≤ 1000)
  | _ => true
theorem badB_iff {d : PyData} (h : badB d = true) : isPth d = false ∧ ∀ qs, d = .tuple qs → qs.length ≤ 1000 := by
  unfold badB at h
  rw [Bool.and_eq_true, Bool.not_eq_true'] at h
  refine ⟨h.1, fun qs e => ?_⟩
  subst e
  exact of_decide_eq_true h.2
/-- a list of things -/
def ThL (m : Md) (H : Hp) (D : Addr) (n : Nat) : Prop := ∃ us, H D = some (.lst us) ∧ us.length ≤ n ∧ ∀ u ∈ us, ThingE m.K H u
theorem ThL.grow {m : Md} {H H' : Hp} {D : Addr} {n : Nat} (g : Grow m.T H H') (h : ThL m H D n) : ThL m H' D n := by
  obtain ⟨us, h1, h2, h3⟩ := h
  exact ⟨us, g.extN _ _ h1 (fun _ z => by cases z), h2, fun u hu => (h3 u hu).grow g⟩
section
variable {m : Md} {N : List Str} {sc : Scope} {k : Nat} {X : Cx} {e : Expr} {es : List Expr} {σ : L2.St} {H : Hp} {Q : VK}
theorem env0 : EnvOk m X σ [] Any H := fun x d pos e => by cases e
/-- the first n of a display, no paths among them -/
theorem w_bads (n : Nat) : ∀ (es : List Expr) (H : Hp) (Q : List V → Hp → Prop) (ds : List PyData), lits [] (es.take n) = some ds → ds.all badB = true → (∀ vs H', Grow m.T H H' → vs.length ≤ n → (∀ v ∈ vs, ThingE m.K H' v) → wA X (es.drop n) σ H' fun xs H2 => Q (vs ++ xs) H2) → wA X es σ H Q := by
  induction n with
  | zero =>
    intro es H Q ds _ _ q
    exact q [] H GrowX.refl (Nat.zero_le _) (fun _ z => by cases z)
  | succ n ih =>
    intro es H Q ds hl hb q
    cases es with
    | nil => exact q [] H GrowX.refl (Nat.zero_le _) (fun _ z => by cases z)
    | cons e es =>
      have hl2 : ((lit [] e).bind fun d => (lits [] (es.take n)).map fun ds => d :: ds) = some ds := hl
      obtain ⟨d, h1, h2⟩ := Option.bind_eq_some_iff.1 hl2
      obtain ⟨ds', h3, rfl⟩ := Option.map_eq_some_iff.1 h2
      refine w_cons (w_lit (m := m) (env := []) (H0 := H) (A := Any) env0 e d H _ h1 GrowX.refl fun v H1 g1 o => ?_) (starPlain h1)
      rw [List.all_cons, Bool.and_eq_true] at hb
      have hbd := badB_iff hb.1
      have bad : ThingE m.K H1 v := .bad ⟨d, o.mono (fun _ _ => trivial) (fun _ _ _ z => z) (fun _ _ z => z) (fun _ _ _ z => z) _ _, hbd.1, hbd.2⟩
      refine ih es H1 _ ds' h3 hb.2 fun vs H2 g2 lv hv => ?_
      refine q (v :: vs) H2 (g1.trans g2) (by rw [List.length_cons]; omega) fun u hu => ?_
      rcases List.mem_cons.1 hu with z | z
      · rw [z]; exact bad.grow g2
      · exact hv u z
end
/-- 0 and 1 as Booleans -/
def mixV (j : Nat) : V := if (j : Int) < 2 then .bl (decide ((j : Int) = 1)) else .int (j : Int)
def mixD (j : Nat) : PyData := if (j : Int) < 2 then .bool (decide ((j : Int) = 1)) else .int (j : Int)
def MixP (H : Hp) (u : V) : Prop := ∃ (b : Addr) (js : List Nat), u = .ref b ∧ H b = some (.tup (js.map mixV)) ∧ js.length ≤ 1000
theorem MixP.grow {T : List (Addr × Str)} {S : Addr → Prop} {H H' : Hp} {v : V} (g : GrowX T S H H') (h : MixP H v) : MixP H' v := by
  obtain ⟨b, js, e, hb, l⟩ := h
  exact ⟨b, js, e, g.tup _ _ hb, l⟩
theorem mix_all : ∀ js : List Nat, (js.map mixD).all isCt = true → js.map mixV = pv js ∧ js.map mixD = js.map fun j : Nat => .int (j : Int)
  | [], _ => ⟨rfl, rfl⟩
  | j :: js, h => by
    rw [List.map_cons, List.all_cons, Bool.and_eq_true] at h
    obtain ⟨h1, h2⟩ := mix_all js h.2
    have c : ¬ (j : Int) < 2 := fun c => by
      have z := h.1
      rw [mixD, if_pos c] at z
      cases z
    refine ⟨?_, ?_⟩
    · rw [List.map_cons, h1, mixV, if_neg c]; rfl
    · rw [List.map_cons, h2, mixD, if_neg c]; rfl
theorem ThingE.mix {K : PySem.W.Frag} {H : Hp} {v : V} (h : MixP H v) : ThingE K H v := by
  obtain ⟨b, js, rfl, hb, l⟩ := h
  refine ⟨.tuple (js.map mixD), .tup (SqT.of hb) ?_, fun ds e => by cases e; rw [List.length_map]; exact l, fun z => ?_⟩
  · clear hb l
    induction js with
    | nil => exact .nil
    | cons j js ih =>
      refine .cons ?_ ih
      unfold mixV mixD
      by_cases c : (j : Int) < 2
      · rw [if_pos c, if_pos c]; exact .bl _
      · rw [if_neg c, if_neg c]; exact .int _
  · obtain ⟨e1, e2⟩ := mix_all js z
    exact ⟨js, ⟨b, rfl, by rw [← e1]; exact hb, l⟩, by rw [e2]; rfl⟩
section
variable {m : Md} {N : List Str} {sc : Scope} {k : Nat} {X : Cx} {H : Hp} {Q : VK}
/-- tuple(xs) of a list -/
theorem g_tupL (h : At m N sc k X) {l : Addr} {xs : List V} (hs : SqL m.K H l xs) (q : ∀ p, H p = none → Q (.ref p) (upd H p (.tup xs))) : gCall X (.type "tuple") [.ref l] H Q := ⟨_, call_tuple_of, l, xs, rfl, .inl ⟨by rw [h.kk]; exact hs, q⟩⟩
end
theorem NoSub.grow {T : List (Addr × Str)} {K : PySem.W.Frag} {H H' : Hp} {v : V} {t : Tm} (g : Grow T H H') (h : NoSub K H v t) : NoSub K H' v t := by
  rcases h with ⟨js, gp, e⟩ | bp
  · exact .inl ⟨js, gp.grow g, e⟩
  · exact .inr (bp.grow g)
/-- the firsts of the pairs -/
theorem pt_firsts {K : PySem.W.Frag} {H : Hp} {ws : List V} {es : List (List Nat × Tm)} (h : Paired (PtA K H) ws es) : ∃ bs : List V, TupsAt H bs (es.map fun e => pI e.1) ∧ bs.length = ws.length ∧ ∀ (i : Nat) (z : V), ws[i]? = some z → ∃ (T : Addr) (b w : V), z = .ref T ∧ SqT K H T [b, w] ∧ bs[i]? = some b := by
  induction h with
  | nil => exact ⟨[], .nil, rfl, fun i z e => by simp at e⟩
  | cons h _ ih =>
    obtain ⟨bs, h1, h2, h3⟩ := ih
    obtain ⟨T, b, w, rfl, hs, hb, _⟩ := h
    refine ⟨.ref b :: bs, .cons ⟨b, rfl, hb⟩ h1, by rw [List.length_cons, List.length_cons, h2], fun i z e => ?_⟩
    cases i with
    | zero => cases e; exact ⟨T, .ref b, w, rfl, hs, rfl⟩
    | succ i => exact h3 i z e
theorem TupsAt.grow {T : List (Addr × Str)} {S : Addr → Prop} {H H' : Hp} {bs : List V} {gs : List (List Int)} (g : GrowX T S H H') (h : TupsAt H bs gs) : TupsAt H' bs gs := Paired.imp h fun u e ⟨b, e1, e2⟩ => ⟨b, e1, g.tup _ _ e2⟩
theorem eqP_self (js : List Nat) : eqP (pI js) (pthD js) = true := by
  have z := eqIs_self (pI js)
  rw [List.map_map] at z
  exact z
def sp_odd_paths (m : Md) : Sp := fun vs H Q _ => ∃ (r : V) (w : Addr) (ws : List V) (t : Tm), vs = [r, .ref w] ∧ H w = some (.lst ws) ∧ Paired (PtA m.K H) ws (t.ptN []) ∧ 0 < t.cnt ∧ t.cnt ≤ 60 ∧ t.dep ≤ 900 ∧
  ∀ (D : Addr) (us : List V) (H' : Hp), Grow m.T H H' → New H D → H' D = some (.lst us) → us.length ≤ 200 → (∀ u ∈ us, NoSub m.K H' u t) → Q (.ref D) H'
theorem paired_mem {α β : Type} {F : α → β → Prop} {as : List α} {bs : List β} (p : Paired F as bs) : ∀ a ∈ as, ∃ b ∈ bs, F a b := by
  induction p with
  | nil => intro a h; cases h
  | cons h _ ih =>
    intro a ha
    rcases List.mem_cons.1 ha with e | e
    · exact ⟨_, List.mem_cons_self, by rw [e]; exact h⟩
    · obtain ⟨b, hb, f⟩ := ih a e
      exact ⟨b, List.mem_cons_of_mem _ hb, f⟩
theorem sub_len : ∀ {js : List Nat} {t p : Tm}, t.sub js = some p → js.length ≤ t.dep
  | [], _, _, _ => Nat.zero_le _
  | i :: js, t, p, h => by
    rw [Tm.sub] at h
    obtain ⟨tk, h1, h2⟩ := Option.bind_eq_some_iff.1 h
    have z := sub_len h2
    have hm := List.mem_of_getElem? h1
    cases t with
    | part _ _ _ => simp [Tm.kids] at hm
    | all f ts =>
      have z2 : tk.dep ≤ Tm.deps ts := Tm.dep_mem hm
      show js.length + 1 ≤ Tm.deps ts + 1
      omega
    | rank r ts =>
      have z2 : tk.dep ≤ Tm.deps ts := Tm.dep_mem hm
      show js.length + 1 ≤ Tm.deps ts + 1
      omega
theorem c_odd_paths {m : Md} {f : Addr} {fd : FuncData} (F : C8.Def m.K m.mg "_law_odd_paths" st_odd_paths f fd) (b : L2.Binds m.K fd ps_odd_paths []) (htup : m.mg "tuple" = none) (St : Cal m 1 "_law_strict" (sp_strict m)) : Cal m 2 "_law_odd_paths" (sp_odd_paths m) := by
  refine cal_ofM F b sc_odd_paths (fun vs H Q E h => by obtain ⟨_, _, _, _, rfl, _⟩ := h; rfl) fun X vs H Q E hA hM h => ?_
  obtain ⟨r, w, ws, t, rfl, hw, dw, c0, hc, hdep, q⟩ := h
  replace hA : At m nl_odd_paths (C8.fnScope st_odd_paths) 1 X := hA
  obtain ⟨n0, n2, n1⟩ := nv_odd_paths
  have hwl : ws.length = t.cnt := by rw [paired_len dw, Tm.ptN_len]
  walk_at "B"
  walk_at "v"
  refine w_lst ?_
  refine w_bads (m := m) 8 _ _ _ _ rfl (by decide +kernel) fun v1 H1 g1 l1 b1 => ?_
  (try dsimp only [List.drop_succ_cons, List.drop_zero, List.drop])
  refine w_cons ?_
  walk_at "V"
  refine ⟨by walk_at "S", fun p9 hp9 => ?_⟩
  have g9 := Grow.new (T := m.T) (o := .tup [.int 99]) hp9
  have gp9 : GoodP (upd H1 p9 (.tup [.int 99])) (.ref p9) [99] := ⟨p9, rfl, upd_same, by decide⟩
  have gA := g1.trans g9
  generalize upd H1 p9 (.tup [.int 99]) = H2 at g9 gp9 gA ⊢
  refine w_bads (m := m) 2 _ _ _ _ rfl (by decide +kernel) fun v2 H3 g3 l3 b3 => ?_
  (try dsimp only [List.drop_succ_cons, List.drop_zero, List.drop])
  have gA := gA.trans g3
  obtain ⟨wi, ul, rfl⟩ : ∃ wi ul, ws = wi ++ [ul] := by
    have ne : ws ≠ [] := fun e => by rw [e] at hwl; simp at hwl; omega
    exact ⟨ws.dropLast, ws.getLast ne, (List.dropLast_concat_getLast ne).symm⟩
  obtain ⟨el, hel, T, bl, wl, rfl, hT, hbl, _⟩ := paired_mem dw ul (by simp)
  have plen : ∀ e ∈ t.ptN [], e.1.length ≤ 900 := fun e he => by
    have z := sub_len (Tm.pt_iff.1 (show (e.1, e.2) ∈ t.ptN [] from he))
    omega
  have hl9 := plen el hel
  have hw3 := Grow.extN gA _ _ hw (fun _ z => by cases z)
  have hT3 := GrowX.seqT gA hT
  have hbl3 := gA.tup _ _ hbl
  refine w_cons ?_
  walk_at "V"
  refine g_ixL hA (SqL.of hw3) (at_last _ _) ?_
  walk_at "V"
  refine g_ixT hA hT3 (atI_at (j := 0) rfl) ?_
  walk_at "V"
  refine ⟨by walk_at "S", fun p0 hp0 => ?_⟩
  have g4 := Grow.new (T := m.T) (o := .tup [.int 0]) hp0
  refine g_snocH hA (js := el.1) (i := 0) (g4.tup _ _ hbl3) upd_same (by rw [sizeLine_eq]; omega) fun p12 H5 g5 hp12 => ?_
  have gp12 : GoodP H5 (.ref p12) (el.1 ++ [0]) := ⟨p12, rfl, hp12, by rw [List.length_append, List.length_singleton]; omega⟩
  have g45 := g4.trans g5
  have gA := gA.trans g45
  refine w_bads (m := m) 2 _ _ _ _ rfl (by decide +kernel) fun v3 H6 g6 l6 b6 => ?_
  (try dsimp only [List.drop_succ_cons, List.drop_zero, List.drop])
  have gA := gA.trans g6
  refine w_nil ⟨?_, fun D1 hD1 => ?_⟩
  · rw [sizeLine_eq]; simp; omega
  have gD1 := Grow.new (T := m.T) (o := .lst (v1 ++ (.ref p9 :: (v2 ++ (.ref p12 :: (v3 ++ [])))))) hD1
  have c56 : Grow m.T H5 H6 := g6
  have c36 := g45.trans g6
  have c26 := g3.trans c36
  have c16 := g9.trans c26
  have th1 : ThL m (upd H6 D1 (.lst (v1 ++ (.ref p9 :: (v2 ++ (.ref p12 :: (v3 ++ [])))))) ) D1 14 := ⟨_, upd_same, by simp; omega, fun u hu => by
    simp only [List.mem_append, List.mem_cons, List.not_mem_nil, or_false] at hu
    rcases hu with h | rfl | h | rfl | h
    · exact (b1 u h).grow (c16.trans gD1)
    · exact .good (gp9.grow (c26.trans gD1))
    · exact (b3 u h).grow (c36.trans gD1)
    · exact .good (gp12.grow (c56.trans gD1))
    · exact (b6 u h).grow gD1⟩
  have gA := gA.trans gD1
  have nD1 : New H D1 := GrowX.keep (((g1.trans g9).trans g3).trans c36) _ hD1
  generalize upd H6 D1 (.lst (v1 ++ (.ref p9 :: (v2 ++ (.ref p12 :: (v3 ++ [])))))) = H7 at th1 gA gD1 ⊢
  -- the pairs, as they stand from here on
  have hw7 := Grow.extN gA _ _ hw (fun _ z => by cases z)
  have dw7 := PtA.pairsG gA dw
  generalize hws : wi ++ [V.ref T] = ws at hw7 dw7 hw dw hwl
  -- a comprehension over the pairs that keeps some, as things
  walk_at "B"
  refine s_nl hA n2 (g_bin (g_bin (w_nl hA n2 rfl (w_lst ?_))))
  refine w_bads (m := m) 3 _ _ _ _ rfl (by decide +kernel) fun v4 H8 g8 l8 b8 => ?_
  (try dsimp only [List.drop_succ_cons, List.drop_zero, List.drop])
  refine w_nil ⟨by rw [sizeLine_eq]; simp; omega, fun D2 hD2 => ?_⟩
  have gD2 := Grow.new (T := m.T) (o := .lst (v4 ++ [])) hD2
  have g88 := g8.trans gD2
  obtain ⟨us1, e1, n1', k1⟩ := th1.grow g88
  walk_at "V"
  refine g_cat e1 upd_same (by rw [sizeLine_eq]; simp; omega) fun D3 hD3 => ?_
  have gD3 := Grow.new (T := m.T) (o := .lst (us1 ++ (v4 ++ []))) hD3
  have g83 := g88.trans gD3
  have th3 : ThL m (upd (upd H8 D2 (.lst (v4 ++ []))) D3 (.lst (us1 ++ (v4 ++ [])))) D3 17 := ⟨_, upd_same, by simp; omega, fun u hu => by
    simp only [List.mem_append, List.not_mem_nil, or_false] at hu
    rcases hu with h | h
    · exact (k1 u h).grow gD3
    · exact (b8 u h).grow (gD2.trans gD3)⟩
  have hw9 := Grow.extN g83 _ _ hw7 (fun _ z => by cases z)
  have dw9 := PtA.pairsG g83 dw7
  have gA := gA.trans g83
  generalize upd (upd H8 D2 (.lst (v4 ++ []))) D3 (.lst (us1 ++ (v4 ++ []))) = H9 at th3 hw9 dw9 gA ⊢
  refine w_lcPi hA (by decide +kernel) (i := 3) (j := 4) ⟨rfl, rfl⟩ ⟨rfl, rfl⟩ ?_
  walk_at "V"
  refine ⟨w, ws, rfl, SqL.of hw9, fun D4 hD4 => ⟨fun j H' => Grow m.T H9 H' ∧ ∃ us, H' D4 = some (.lst us) ∧ us.length ≤ j ∧ ∀ u ∈ us, ∃ js, GoodP H' u js, ⟨Grow.new hD4, [], upd_same, Nat.le_refl _, fun _ z => by cases z⟩, fun j H' _ hp' => GrowX.seqL hp'.1 (SqL.of hw9) fun z => z, ?_, ?_⟩⟩
  · rintro j z H' hz ⟨g, us, eu, lu, ku⟩
    have hmem := List.mem_of_getElem? hz
    obtain ⟨e, he, Tz, bz, wz, rfl, hTz, hbz, _⟩ := paired_mem dw9 z hmem
    refine ⟨Tz, _, _, rfl, GrowX.seqT g hTz, fun X' hX' => ?_⟩
    have c3 := nl_of hX' 3 "_law_path"
    have hjl : j < ws.length := (List.getElem?_eq_some_iff.1 hz).1
    have hb' := g.tup _ _ hbz
    have le9 := plen e he
    walk_at "V"
    refine ⟨by walk_at "S", fun pe hpe => ?_⟩
    have gE := Grow.new (T := m.T) (o := .tup []) hpe
    have hbE := gE.tup _ _ hb'
    refine g_neD hX' (dp_pth (SqT.of hbE)) (dp_pth (js := []) (SqT.of upd_same)) (pth_shaped _) (pth_shaped _) ?_
    rw [eqv_pth]
    refine ⟨_, rfl, ?_⟩
    have ggE := g.trans gE
    have euE := gE.extN _ _ eu (fun _ z => by cases z)
    have kuE : ∀ u ∈ us, ∃ js, GoodP (upd H' pe (.tup [])) u js := fun u hu => by obtain ⟨js, z⟩ := ku u hu; exact ⟨js, z.grow gE⟩
    generalize upd H' pe (.tup []) = HE at gE hbE ggE euE kuE ⊢
    by_cases c : e.1 = []
    · rw [if_neg (by simp [c])]
      exact ⟨ggE, us, euE, by omega, kuE⟩
    · rw [if_pos (by simp [c])]
      intro X' hX'
      have c3 := nl_of hX' 3 "_law_path"
      obtain ⟨js0, x0, e1⟩ : ∃ js0 x0, e.1 = js0 ++ [x0] := ⟨e.1.dropLast, e.1.getLast c, (List.dropLast_concat_getLast c).symm⟩
      have epv : pv e.1 = pv js0 ++ [V.int (x0 : Int)] := by rw [e1]; simp [pv, pI]
      have hbF : HE bz = some (.tup (pv js0 ++ [V.int (x0 : Int)])) := by rw [hbE, epv]
      refine w_sliceToT hX' ?_
      walk_at "V"
      refine ⟨bz, pv js0 ++ [V.int (x0 : Int)], rfl, SqT.of hbF, six_last _ _, fun pn hpn => ?_⟩
      rw [cut_last]
      have gN := Grow.new (T := m.T) (o := .tup (pv js0)) hpn
      have l0 : js0.length ≤ 1000 := by
        have : e.1.length = js0.length + 1 := by rw [e1]; simp
        omega
      have euN := gN.extN _ _ euE (fun _ z => by cases z)
      have gX := GrowX.lst (T := m.T) (ys := us ++ [V.ref pn]) euN
      have gFin := Grow.intoNew (ggE.trans gN) gX (fun _ w => by rw [w]; exact hD4)
      refine ⟨us, euN, by rw [sizeLine_eq]; omega, gFin, us ++ [V.ref pn], upd_same, by simp; omega, fun u hu => ?_⟩
      rcases List.mem_append.1 hu with z | z
      · obtain ⟨js, zz⟩ := kuE u z
        exact ⟨js, (zz.grow gN).grow gX⟩
      · rw [List.mem_singleton.1 z]
        exact ⟨js0, pn, rfl, gX.tup _ _ upd_same, l0⟩
  · rintro H10 ⟨g10, us, eu, lu, ku⟩
    obtain ⟨us3, e3, l3', k3⟩ := th3.grow g10
    refine g_cat e3 eu (by rw [sizeLine_eq]; omega) fun D5 hD5 => ?_
    have gD5 := Grow.new (T := m.T) (o := .lst (us3 ++ us)) hD5
    have th5 : ThL m (upd H10 D5 (.lst (us3 ++ us))) D5 80 := ⟨_, upd_same, by simp; omega, fun u hu => by
      rcases List.mem_append.1 hu with h | h
      · exact (k3 u h).grow gD5
      · exact (ku u h).elim fun js z => .good (z.grow gD5)⟩
    have g15 := g10.trans gD5
    have hw11 := Grow.extN g15 _ _ hw9 (fun _ z => by cases z)
    have dw11 := PtA.pairsG g15 dw9
    have gA := gA.trans g15
    generalize upd H10 D5 (.lst (us3 ++ us)) = H11 at th5 hw11 dw11 gA ⊢
    walk_at "B"
    walk_at "V"
    refine w_lcPi hA (by decide +kernel) (i := 3) (j := 4) ⟨rfl, rfl⟩ ⟨rfl, rfl⟩ ?_
    walk_at "V"
    refine ⟨w, ws, rfl, SqL.of hw11, fun D6 hD6 => ⟨fun j H' => Grow m.T H11 H' ∧ ∃ us, H' D6 = some (.lst us) ∧ us.length ≤ j ∧ ∀ u ∈ us, MixP H' u, ⟨Grow.new hD6, [], upd_same, Nat.le_refl _, fun _ z => by cases z⟩, fun j H' _ hp' => GrowX.seqL hp'.1 (SqL.of hw11) fun z => z, ?_, ?_⟩⟩
    · rintro j z H' hz ⟨g, us, eu, lu, ku⟩
      have hmem := List.mem_of_getElem? hz
      obtain ⟨e, he, Tz, bz, wz, rfl, hTz, hbz, _⟩ := paired_mem dw11 z hmem
      refine ⟨Tz, _, _, rfl, GrowX.seqT g hTz, fun X' hX' => ?_⟩
      have c3 := nl_of hX' 3 "_law_path"
      have hjl : j < ws.length := (List.getElem?_eq_some_iff.1 hz).1
      have hb' := g.tup _ _ hbz
      have le9 := plen e he
      walk_at "V"
      refine ⟨by walk_at "S", fun pe hpe => ?_⟩
      have gE := Grow.new (T := m.T) (o := .tup []) hpe
      have hbE := gE.tup _ _ hb'
      refine g_neD hX' (dp_pth (SqT.of hbE)) (dp_pth (js := []) (SqT.of upd_same)) (pth_shaped _) (pth_shaped _) ?_
      rw [eqv_pth]
      refine ⟨_, rfl, ?_⟩
      have ggE := g.trans gE
      have euE := gE.extN _ _ eu (fun _ z => by cases z)
      have kuE : ∀ u ∈ us, MixP (upd H' pe (.tup [])) u := fun u hu => (ku u hu).grow gE
      generalize upd H' pe (.tup []) = HE at gE hbE ggE euE kuE ⊢
      by_cases c : e.1 = []
      · rw [if_neg (by simp [c])]
        exact ⟨ggE, us, euE, by omega, kuE⟩
      · rw [if_pos (by simp [c])]
        intro X' hX'
        have c3 := nl_of hX' 3 "_law_path"
        refine g_typ hX' htup rfl bt_tuple ?_
        refine w_cons (w_lcT hX' (by decide +kernel) (i := 5) ⟨rfl, rfl⟩ ?_)
        walk_at "V"
        refine ⟨bz, pv e.1, rfl, SqT.of hbE, fun D8 hD8 => ⟨fun jj H'' => Grow m.T HE H'' ∧ H'' D8 = some (.lst ((e.1.take jj).map mixV)), ⟨Grow.new hD8, upd_same⟩, fun jj H'' _ hq => GrowX.seqT hq.1 (SqT.of hbE), ?_, ?_⟩⟩
        · rintro jj y H'' hy ⟨g8, hv8⟩ X2 hX2
          have c5 := nl_of hX2 5 "_law_at"
          rw [List.getElem?_map, List.getElem?_map] at hy
          obtain ⟨y1, hy1, rfl⟩ := Option.map_eq_some_iff.1 hy
          obtain ⟨jn, hjn, rfl⟩ := Option.map_eq_some_iff.1 hy1
          have hjj : jj < e.1.length := (List.getElem?_eq_some_iff.1 hjn).1
          have et : (e.1.take (jj + 1)).map mixV = (e.1.take jj).map mixV ++ [mixV jn] := by
            rw [List.take_add_one, hjn]
            simp only [Option.toList, List.map_append, List.map_cons, List.map_nil]
          have app : App D8 (fun H'' => Grow m.T HE H'' ∧ H'' D8 = some (.lst ((e.1.take (jj + 1)).map mixV))) (mixV jn) H'' := by
            refine ⟨_, hv8, by rw [List.length_map, List.length_take, sizeLine_eq]; omega, Grow.intoNew g8 (GrowX.lst hv8) (fun _ w => by rw [w]; exact hD8), ?_⟩
            rw [upd_same, et]
          walk_at "V"
          by_cases c2 : (jn : Int) < 2
          · rw [decide_eq_true c2]
            refine iteT ?_
            walk_at "V"
            have em : mixV jn = .bl (decide ((jn : Int) = 1)) := by rw [mixV, if_pos c2]
            rw [em] at app
            exact app
          · rw [decide_eq_false c2]
            refine iteF ?_
            walk_at "V"
            have em : mixV jn = .int (jn : Int) := by rw [mixV, if_neg c2]
            rw [em] at app
            exact app
        · rintro H'' ⟨g8, hv8⟩
          have el9 : (pv e.1).length = e.1.length := by simp [pv, pI]
          rw [el9, List.take_length] at hv8
          walk_at "V"
          refine g_tupL hX' (SqL.of hv8) fun pn hpn => ?_
          have gN := Grow.new (T := m.T) (o := .tup (e.1.map mixV)) hpn
          have g8N := g8.trans gN
          have euN := Grow.extN g8N _ _ euE (fun _ z => by cases z)
          have gX := GrowX.lst (T := m.T) (ys := us ++ [V.ref pn]) euN
          have gFin := Grow.intoNew (ggE.trans g8N) gX (fun _ w => by rw [w]; exact hD6)
          refine ⟨us, euN, by rw [sizeLine_eq]; omega, gFin, us ++ [V.ref pn], upd_same, by simp; omega, fun u hu => ?_⟩
          rcases List.mem_append.1 hu with z | z
          · exact ((kuE u z).grow g8N).grow gX
          · rw [List.mem_singleton.1 z]
            exact ⟨pn, e.1, rfl, gX.tup _ _ upd_same, by omega⟩
    · rintro H12 ⟨g12, us, eu, lu, ku⟩
      obtain ⟨us5, e5, l5', k5⟩ := th5.grow g12
      refine g_cat e5 eu (by rw [sizeLine_eq]; omega) fun D7 hD7 => ?_
      have gD7 := Grow.new (T := m.T) (o := .lst (us5 ++ us)) hD7
      have k7 : ∀ u ∈ us5 ++ us, ThingE m.K (upd H12 D7 (.lst (us5 ++ us))) u := fun u hu => by
        rcases List.mem_append.1 hu with h | h
        · exact (k5 u h).grow gD7
        · exact .mix ((ku u h).grow gD7)
      have h7 := @upd_same H12 D7 (.lst (us5 ++ us))
      have l7 : (us5 ++ us).length ≤ 140 := by rw [List.length_append]; omega
      have g17 := g12.trans gD7
      have hw13 := Grow.extN g17 _ _ hw11 (fun _ z => by cases z)
      have dw13 := PtA.pairsG g17 dw11
      have gA := gA.trans g17
      generalize us5 ++ us = things at h7 k7 l7 gD7 g17 hw13 dw13 gA ⊢
      generalize upd H12 D7 (.lst things) = H13 at h7 k7 gD7 g17 hw13 dw13 gA ⊢
      obtain ⟨bs, tb, bl2, bw⟩ := pt_firsts dw13
      walk_at "B"
      walk_at "V"
      refine w_lcLi hA (by decide +kernel) (i := 6) ⟨rfl, rfl⟩ ?_
      walk_at "V"
      refine ⟨D7, things, rfl, SqL.of h7, fun D9 hD9 => ⟨fun j H' => Grow m.T H13 H' ∧ ∃ us, H' D9 = some (.lst us) ∧ us.length ≤ j ∧ ∀ u ∈ us, NoSub m.K H13 u t, ⟨Grow.new hD9, [], upd_same, Nat.le_refl _, fun _ z => by cases z⟩, fun j H' _ hp' => GrowX.seqL hp'.1 (SqL.of h7) fun z => z, ?_, ?_⟩⟩
      · rintro j x H' hx ⟨g, us, eu, lu, ku⟩ X' hX'
        have c6 := nl_of hX' 6 "_law_thing"
        have c1 := nc_of hX' 1 "_law_walk_here"
        have hjl : j < things.length := (List.getElem?_eq_some_iff.1 hx).1
        obtain ⟨d, o, ld, kd⟩ := k7 x (List.mem_of_getElem? hx)
        have fin : ∀ H3, Grow m.T H' H3 → NoSub m.K H13 x t → App D9 (fun H' => Grow m.T H13 H' ∧ ∃ us, H' D9 = some (.lst us) ∧ us.length ≤ j + 1 ∧ ∀ u ∈ us, NoSub m.K H13 u t) x H3 := fun H3 g3 ns => by
          have eu3 := g3.extN _ _ eu (fun _ z => by cases z)
          have gX := GrowX.lst (T := m.T) (ys := us ++ [x]) eu3
          refine ⟨us, eu3, by rw [sizeLine_eq]; omega, Grow.intoNew (g.trans g3) gX (fun _ w => by rw [w]; exact hD9), us ++ [x], upd_same, by simp; omega, fun u hu => ?_⟩
          rcases List.mem_append.1 hu with z | z
          · exact ku u z
          · rw [List.mem_singleton.1 z]; exact ns
        have skip : ∀ H3, Grow m.T H' H3 → (Grow m.T H13 H3 ∧ ∃ us, H3 D9 = some (.lst us) ∧ us.length ≤ j + 1 ∧ ∀ u ∈ us, NoSub m.K H13 u t) := fun H3 g3 => ⟨g.trans g3, us, g3.extN _ _ eu (fun _ z => by cases z), by omega, ku⟩
        walk_at "V"
        refine w_call hX' St (by omega) rfl ?_
        walk_at "V"
        refine ⟨x, d, rfl, g.ob o, ld, fun H2 g2 => ?_⟩
        refine ⟨_, rfl, ?_⟩
        by_cases cs : strictB d = true
        · rw [cs]
          refine iteT (iteT ?_)
          intro X' hX'
          have c6 := nl_of hX' 6 "_law_thing"
          walk_at "V"
          exact fin H2 g2 (.inr ⟨d, o, strict_bad cs, ld⟩)
        · have cs' : strictB d = false := by simpa using cs
          rw [cs']
          refine iteF ?_
          walk_at "V"
          refine w_lcP hX' (by decide +kernel) (i := 3) (j := 4) ⟨rfl, rfl⟩ ⟨rfl, rfl⟩ ?_
          walk_at "V"
          have g02 := g.trans g2
          have hwz := Grow.extN g02 _ _ hw13 (fun _ z => by cases z)
          have tbz := tb.grow g02
          refine ⟨w, ws, rfl, SqL.of hwz, fun D10 hD10 => ⟨fun jj H'' => Grow m.T H2 H'' ∧ H'' D10 = some (.lst (bs.take jj)), ⟨Grow.new hD10, upd_same⟩, fun jj H'' _ hp' => GrowX.seqL hp'.1 (SqL.of hwz) fun z => z, ?_, ?_⟩⟩
          · rintro jj z H'' hz ⟨g9, hv9⟩
            obtain ⟨T2, b2, w2, rfl, hT2, hb2⟩ := bw jj z hz
            refine ⟨T2, b2, w2, rfl, GrowX.seqT (g02.trans g9) hT2, fun X2 hX2 => ?_⟩
            have c3 := nl_of hX2 3 "_law_path"
            have hjj : jj < bs.length := (List.getElem?_eq_some_iff.1 hb2).1
            walk_at "V"
            refine ⟨_, hv9, by rw [List.length_take, sizeLine_eq]; omega, Grow.intoNew g9 (GrowX.lst hv9) (fun _ w => by rw [w]; exact hD10), ?_⟩
            rw [upd_same, List.take_add_one, hb2]
            rfl
          · rintro H'' ⟨g9, hv9⟩
            rw [← bl2, List.take_length] at hv9
            have g2' := g2.trans g9
            refine g_notInTups hX' (Grow.ob (g.trans g2') o) (SqL.of hv9) (tb.grow (g.trans g2')) ?_
            refine ⟨_, rfl, ?_⟩
            by_cases ca : ((t.ptN []).map fun e => pI e.1).any (fun js => eqP js d) = true
            · rw [ca]
              refine iteF ?_
              exact skip H'' g2'
            · have ca' : ((t.ptN []).map fun e => pI e.1).any (fun js => eqP js d) = false := by simpa using ca
              rw [ca']
              refine iteT ?_
              intro X' hX'
              have c6 := nl_of hX' 6 "_law_thing"
              walk_at "V"
              refine fin H'' g2' ?_
              by_cases ip : isPth d = true
              · obtain ⟨js, gp, rfl⟩ := kd ip
                refine .inl ⟨js, gp, ?_⟩
                cases es : t.sub js with
                | none => rfl
                | some pp =>
                  have hm := Tm.pt_iff.2 es
                  have z : ((t.ptN []).map fun e => pI e.1).any (fun js' => eqP js' (pthD js)) = true := List.any_eq_true.2 ⟨pI js, List.mem_map.2 ⟨(js, pp), hm, rfl⟩, eqP_self js⟩
                  rw [z] at ca'; cases ca'
              · exact .inr ⟨d, o, by simpa using ip, ld⟩
      · rintro H14 ⟨g14, us, eu, lu, ku⟩
        exact q D9 us H14 (gA.trans g14) (GrowX.keep gA _ hD9) eu (by omega) fun u hu => (ku u hu).grow g14
section
variable {m : Md} {N : List Str} {sc : Scope} {k : Nat} {X : Cx} {e : Expr} {es : List Expr} {σ : L2.St} {H : Hp} {Q : VK}
/-- the first n of a display, all of which keep P -/
theorem w_litP (P : Hp → V → Prop) (B : PyData → Bool) (hP : ∀ H v d, Ob m.K Any H v d → B d = true → P H v) (hG : ∀ H H' v, Grow m.T H H' → P H v → P H' v) (n : Nat) : ∀ (es : List Expr) (H : Hp) (Q : List V → Hp → Prop) (ds : List PyData), lits [] (es.take n) = some ds → ds.all B = true → (∀ vs H', Grow m.T H H' → vs.length ≤ n → (∀ v ∈ vs, P H' v) → wA X (es.drop n) σ H' fun xs H2 => Q (vs ++ xs) H2) → wA X es σ H Q := by
  induction n with
  | zero =>
    intro es H Q ds _ _ q
    exact q [] H GrowX.refl (Nat.zero_le _) (fun _ z => by cases z)
  | succ n ih =>
    intro es H Q ds hl hb q
    cases es with
    | nil => exact q [] H GrowX.refl (Nat.zero_le _) (fun _ z => by cases z)
    | cons e es =>
      have hl2 : ((lit [] e).bind fun d => (lits [] (es.take n)).map fun ds => d :: ds) = some ds := hl
      obtain ⟨d, h1, h2⟩ := Option.bind_eq_some_iff.1 hl2
      obtain ⟨ds', h3, rfl⟩ := Option.map_eq_some_iff.1 h2
      refine w_cons (w_lit (m := m) (env := []) (H0 := H) (A := Any) env0 e d H _ h1 GrowX.refl fun v H1 g1 o => ?_) (starPlain h1)
      rw [List.all_cons, Bool.and_eq_true] at hb
      have bad : P H1 v := hP H1 v d (o.mono (fun _ _ => trivial) (fun _ _ _ z => z) (fun _ _ z => z) (fun _ _ _ z => z) _ _) hb.1
      refine ih es H1 _ ds' h3 hb.2 fun vs H2 g2 lv hv => ?_
      refine q (v :: vs) H2 (g1.trans g2) (by rw [List.length_cons]; omega) fun u hu => ?_
      rcases List.mem_cons.1 hu with z | z
      · rw [z]; exact hG _ _ _ g2 bad
      · exact hv u z
/-- xs * 2 -/
theorem g_twice {l : Addr} {xs : List V} (hl : H l = some (.lst xs)) (hz : xs.length ≤ 1000) (q : ∀ p, H p = none → Q (.ref p) (upd H p (.lst (xs ++ xs)))) : gOp X (binaryOp .Mult) (.ref l) (.int 2) H Q := by
  refine gOp.of op_rep ⟨l, 2, xs, rfl, rfl, hl, by decide, by decide, by show xs.length * 2 ≤ sizeLine; rw [sizeLine_eq]; omega, fun p hp => ?_⟩
  have e : (List.replicate (2 : Int).toNat xs).flatten = xs ++ xs := by
    show (List.replicate 2 xs).flatten = _
    simp [List.replicate]
  first
    | (rw [e]; exact q p hp)
    | exact e ▸ q p hp
end
theorem LotAt.grow {T : List (Addr × Str)} {K : PySem.W.Frag} {H H' : Hp} {v : V} {es : List (Option (List Nat))} (g : Grow T H H') (h : LotAt K H v es) : LotAt K H' v es := by
  obtain ⟨l, xs, e, hl, hz, hp⟩ := h
  exact ⟨l, xs, e, GrowX.seqL g hl fun z => z, hz, Paired.imp hp fun x e z => LotE.grow g z⟩
theorem NoLots.grow {T : List (Addr × Str)} {K : PySem.W.Frag} {H H' : Hp} {v : V} {t : Tm} (g : Grow T H H') (h : NoLots K H v t) : NoLots K H' v t := by
  rcases h with ⟨d, o, e⟩ | ⟨es, la, e⟩
  · exact .inl ⟨d, g.ob o, e⟩
  · exact .inr ⟨es, la.grow g, e⟩
/-- no list, or a list of one that is no path -/
def lotBadB : PyData → Bool
  | .list [d] => badB d
  | .list _ => false
  | _ => true
theorem noLots_bad {K : PySem.W.Frag} {H : Hp} {v : V} {d : PyData} {t : Tm} (o : Ob K Any H v d) (h : lotBadB d = true) : NoLots K H v t := by
  cases o with
  | lst a s r l =>
    rename_i ad xs ds
    match ds, r, h with
    | [d], .cons o .nil, h =>
      have z := badB_iff h
      refine .inr ⟨[none], ⟨ad, _, rfl, s, by simp, .cons ⟨d, o, z.1, z.2⟩ .nil⟩, rfl⟩
  | non => exact .inl ⟨_, .non, rfl⟩
  | bl b => exact .inl ⟨_, .bl b, rfl⟩
  | int i => exact .inl ⟨_, .int i, rfl⟩
  | str x l => exact .inl ⟨_, .str x l, rfl⟩
  | tup s r => exact .inl ⟨_, .tup s r, rfl⟩
  | dct a e => exact .inl ⟨_, .dct a e, rfl⟩
/-- the firsts of the pairs are paths -/
theorem pt_goods {K : PySem.W.Frag} {H : Hp} {ws : List V} {es : List (List Nat × Tm)} (h : Paired (PtA K H) ws es) (hl : ∀ e ∈ es, e.1.length ≤ 1000) : ∃ bs : List V, Paired (GoodP H) bs (es.map (·.1)) ∧ bs.length = ws.length ∧ ∀ (i : Nat) (z : V), ws[i]? = some z → ∃ (T : Addr) (b w : V), z = .ref T ∧ SqT K H T [b, w] ∧ bs[i]? = some b := by
  induction h with
  | nil => exact ⟨[], .nil, rfl, fun i z e => by simp at e⟩
  | @cons u e us es h _ ih =>
    obtain ⟨bs, h1, h2, h3⟩ := ih fun e he => hl e (List.mem_cons_of_mem _ he)
    obtain ⟨T, b, w, rfl, hs, hb, _⟩ := h
    refine ⟨.ref b :: bs, .cons ⟨b, rfl, hb, hl e List.mem_cons_self⟩ h1, by rw [List.length_cons, List.length_cons, h2], fun i z e => ?_⟩
    cases i with
    | zero => cases e; exact ⟨T, .ref b, w, rfl, hs, rfl⟩
    | succ i => exact h3 i z e
theorem goods_lot {K : PySem.W.Frag} {H : Hp} {bs : List V} {gs : List (List Nat)} (h : Paired (GoodP H) bs gs) : Paired (LotE K H) bs (gs.map some) := by
  induction h with
  | nil => exact .nil
  | cons h _ ih => exact .cons h ih
theorem Paired.rev {α β : Type} {F : α → β → Prop} {a : List α} {b : List β} (h : Paired F a b) : Paired F a.reverse b.reverse := by
  induction h with
  | nil => exact .nil
  | cons h _ ih => rw [List.reverse_cons, List.reverse_cons]; exact Paired.app ih (.cons h .nil)
theorem Paired.tk {α β : Type} {F : α → β → Prop} {a : List α} {b : List β} (h : Paired F a b) : ∀ n, Paired F (a.take n) (b.take n) := by
  induction h with
  | nil => intro n; rw [List.take_nil, List.take_nil]; exact .nil
  | cons h _ ih =>
    intro n
    cases n with
    | zero => exact .nil
    | succ n => exact .cons h (ih n)
theorem somes_id (gs : List (List Nat)) : (gs.map some).filterMap id = gs ∧ (gs.map some).all Option.isSome = true := by
  induction gs with
  | nil => exact ⟨rfl, rfl⟩
  | cons g gs ih => exact ⟨by rw [List.map_cons, List.filterMap_cons]; simp [ih.1], by rw [List.map_cons, List.all_cons, ih.2]; rfl⟩
/-- lots of good paths that may not be left out -/
theorem noLots_good {K : PySem.W.Frag} {H : Hp} {l : Addr} {bs : List V} {gs : List (List Nat)} {t : Tm} (hl : SqL K H l bs) (hz : bs.length ≤ 60) (h : Paired (GoodP H) bs gs) (hn : Tm.lotB t gs = false) : NoLots K H (.ref l) t :=
  .inr ⟨gs.map some, ⟨l, bs, rfl, hl, hz, goods_lot h⟩, by rw [lotOk, (somes_id gs).1, hn, Bool.and_false]⟩
/-- a lot in which something is no path -/
theorem noLots_one {K : PySem.W.Frag} {H : Hp} {l : Addr} {bs : List V} {u : V} {gs : List (List Nat)} {t : Tm} (hl : SqL K H l (bs ++ [u])) (hz : bs.length ≤ 59) (h : Paired (GoodP H) bs gs) (hb : BadP K H u) : NoLots K H (.ref l) t := by
  refine .inr ⟨gs.map some ++ [none], ⟨l, _, rfl, hl, by rw [List.length_append, List.length_singleton]; omega, Paired.app (goods_lot h) (.cons hb .nil)⟩, ?_⟩
  rw [lotOk, List.all_append]
  simp
theorem lotB_dup {t : Tm} {a b : List (List Nat)} (h : ∃ g, g ∈ a ∧ g ∈ b) : Tm.lotB t (a ++ b) = false := by
  have : ¬ (a ++ b).Nodup := fun n => by
    obtain ⟨g, h1, h2⟩ := h
    exact (List.nodup_append.1 n).2.2 g h1 g h2 rfl
  rw [Tm.lotB, decide_eq_false this]; rfl
theorem lotB_all {t : Tm} {gs : List (List Nat)} (h : gs.length = t.cnt) : Tm.lotB t gs = false := by
  have : ¬ gs.length < t.cnt := by omega
  rw [Tm.lotB, decide_eq_false this, Bool.and_false]
theorem lotB_none {t : Tm} {g : List Nat} (h : t.sub g = none) : Tm.lotB t [g] = false := by
  rw [Tm.lotB, List.all_cons, h]
  simp
theorem kids_cnt_len : ∀ (ts : List Tm), Tm.wfs ts → (∀ t ∈ ts, 0 < t.cnt) → ts.length ≤ Tm.cnts ts
  | [], _, _ => Nat.zero_le _
  | t :: ts, w, h => by
    have z := kids_cnt_len ts w.2 fun t ht => h t (List.mem_cons_of_mem _ ht)
    have := h t List.mem_cons_self
    show ts.length + 1 ≤ t.cnt + Tm.cnts ts
    omega
theorem sub_kid {t : Tm} {i : Nat} {js : List Nat} (h : t.kids.length ≤ i) : t.sub (i :: js) = none := by
  rw [Tm.sub, List.getElem?_eq_none h]; rfl
theorem sub_snoc : ∀ {js : List Nat} {t p : Tm} {i : Nat}, t.sub js = some p → t.sub (js ++ [i]) = none
  | [], t, p, i, h => by
    rw [Tm.sub] at h
    by_cases c : t.isPart = true
    · refine sub_kid ?_
      cases t with
      | part _ _ _ => exact Nat.zero_le _
      | all _ _ => simp [Tm.isPart] at c
      | rank _ _ => simp [Tm.isPart] at c
    · rw [if_neg c] at h; cases h
  | j :: js, t, p, i, h => by
    rw [Tm.sub] at h
    obtain ⟨tk, h1, h2⟩ := Option.bind_eq_some_iff.1 h
    rw [List.cons_append, Tm.sub, h1]
    exact sub_snoc h2
/-- v in a tuple of tuples of numbers -/
theorem g_inTups {m : Md} {N : List Str} {sc : Scope} {k : Nat} {X : Cx} {H : Hp} {Q : VK} {A : Addr → Prop} {v : V} {d : PyData} (h : At m N sc k X) {l : Addr} {xs : List V} {gs : List (List Int)} (o : Ob m.K A H v d) (hl : SqT m.K H l xs) (hx : TupsAt H xs gs) (q : Q (.bl (gs.any fun js => eqP js d)) H) : gOp X (compareOp .In) v (.ref l) H Q := fun pins s σ u w I r rz => by
  cases rz
  have hu := h.room.un
  obtain ⟨its, rv, pl, hz⟩ := I.tuple (by rw [h.kk]; exact hl)
  have o' : Ob X.K A H v d := by rw [h.kk]; exact o
  refine SeqAt.in_tupleAt (eqV H d) pl (fun y hy => ?_) ⟨_, H, I, ?_, q⟩
  · obtain ⟨b, js, rfl, hb⟩ := tups_mem hx rv y (by simpa using hy)
    rw [eqV_at hb]
    exact ob_eqP I hb o' r (by show X.A.units + 1 + 1 < cLine; omega)
  · have e : its.toArray.any (eqV H d) = its.any (eqV H d) := by simp
    rw [e, eqV_any hx rv]
    rfl
def boolV (j : Nat) : V := .bl (decide ((j : Int) = 1))
/-- a lot of one tuple of Booleans -/
def BoolLot (D : Addr) (H : Hp) (u : V) : Prop := ∃ (l b : Addr) (js : List Nat), u = .ref l ∧ l ≠ D ∧ H l = some (.lst [.ref b]) ∧ H b = some (.tup (js.map boolV)) ∧ js ≠ [] ∧ js.length ≤ 1000
theorem BoolLot.grow {T : List (Addr × Str)} {S : Addr → Prop} {D : Addr} {H H' : Hp} {u : V} (g : GrowX T S H H') (hS : ∀ {a}, S a → a = D) (h : BoolLot D H u) : BoolLot D H' u := by
  obtain ⟨l, b, js, e, ne, h1, h2, h3, h4⟩ := h
  exact ⟨l, b, js, e, ne, g.ext _ _ (fun z => ne (hS z)) h1 (fun _ z => by cases z), g.tup _ _ h2, h3, h4⟩
theorem BoolLot.no {K : PySem.W.Frag} {D : Addr} {H : Hp} {u : V} {t : Tm} (h : BoolLot D H u) : NoLots K H u t := by
  obtain ⟨l, b, js, rfl, _, h1, h2, h3, h4⟩ := h
  refine noLots_one (bs := []) (gs := []) (SqL.of h1) (by simp) .nil ⟨.tuple (js.map fun j : Nat => .bool (decide ((j : Int) = 1))), .tup (SqT.of h2) ?_, ?_, fun ds e => by cases e; rw [List.length_map]; exact h4⟩
  · clear h1 h2 h3 h4
    induction js with
    | nil => exact .nil
    | cons j js ih => exact .cons (.bl _) ih
  · cases js with
    | nil => exact absurd rfl h3
    | cons j js => rfl
def sp_odd_lots (m : Md) : Sp := fun vs H Q _ => ∃ (w : Addr) (ws : List V) (t : Tm), vs = [.ref w] ∧ H w = some (.lst ws) ∧ Paired (PtA m.K H) ws (t.ptN []) ∧ 0 < t.cnt ∧ t.cnt ≤ 60 ∧ t.dep ≤ 900 ∧ t.sub [99] = none ∧
  ∀ (D : Addr) (us : List V) (H' : Hp), Grow m.T H H' → New H D → H' D = some (.lst us) → us.length ≤ 200 → (∀ u ∈ us, NoLots m.K H' u t) → Q (.ref D) H'
theorem c_odd_lots {m : Md} {f : Addr} {fd : FuncData} (F : C8.Def m.K m.mg "_law_odd_lots" st_odd_lots f fd) (b : L2.Binds m.K fd ps_odd_lots []) (htup : m.mg "tuple" = none) (hlist : m.mg "list" = none) : Cal m 1 "_law_odd_lots" (sp_odd_lots m) := by
  refine cal_ofM F b sc_odd_lots (fun vs H Q E h => by obtain ⟨_, _, _, rfl, _⟩ := h; rfl) fun X vs H Q E hA hM h => ?_
  obtain ⟨w, ws, t, rfl, hw, dw, c0, hc, hdep, h99, q⟩ := h
  replace hA : At m nl_odd_lots (C8.fnScope st_odd_lots) 0 X := hA
  obtain ⟨n0, n1, n2⟩ := nv_odd_lots
  have hwl : ws.length = t.cnt := by rw [paired_len dw, Tm.ptN_len]
  have plen : ∀ e ∈ t.ptN [], e.1.length ≤ 900 := fun e he => by
    have z := sub_len (Tm.pt_iff.1 (show (e.1, e.2) ∈ t.ptN [] from he))
    omega
  obtain ⟨bs, gb, bl2, bw⟩ := pt_goods dw fun e he => Nat.le_trans (plen e he) (by decide)
  walk_at "B"
  refine s_par hA n1 n2 (w_cons (w_lst ?_))
  refine w_litP (fun H v => NoLots m.K H v t) lotBadB (fun H v d o h => noLots_bad o h) (fun H H' v g h => NoLots.grow g h) 7 _ _ _ _ rfl (by decide +kernel) fun v1 H1 g1 l1 b1 => ?_
  (try dsimp only [List.drop_succ_cons, List.drop_zero, List.drop])
  refine w_cons ?_
  walk_at "V"
  refine ⟨by walk_at "S", fun p9 hp9 => ?_⟩
  have g9 := Grow.new (T := m.T) (o := .tup [.int 99]) hp9
  walk_at "V"
  refine ⟨by walk_at "S", fun q9 hq9 => ?_⟩
  have g99 := Grow.new (T := m.T) (o := .lst [.ref p9]) hq9
  have k9 : NoLots m.K (upd (upd H1 p9 (.tup [.int 99])) q9 (.lst [.ref p9])) (.ref q9) t := noLots_good (gs := [[99]]) (SqL.of upd_same) (by simp) (.cons ⟨p9, rfl, g99.tup _ _ upd_same, by simp⟩ .nil) (lotB_none h99)
  have gA := (g1.trans g9).trans g99
  have c12 := g9.trans g99
  generalize upd (upd H1 p9 (.tup [.int 99])) q9 (.lst [.ref p9]) = H2 at k9 gA c12 ⊢
  refine w_litP (fun H v => NoLots m.K H v t) lotBadB (fun H v d o h => noLots_bad o h) (fun H H' v g h => NoLots.grow g h) 1 _ _ _ _ rfl (by decide +kernel) fun v2 H3 g3 l3 b3 => ?_
  (try dsimp only [List.drop_succ_cons, List.drop_zero, List.drop])
  refine w_nil ⟨by rw [sizeLine_eq]; simp; omega, fun D1 hD1 => ?_⟩
  have gD1 := Grow.new (T := m.T) (o := .lst (v1 ++ (.ref q9 :: (v2 ++ [])))) hD1
  have k1 : ∀ u ∈ v1 ++ (V.ref q9 :: (v2 ++ [])), NoLots m.K (upd H3 D1 (.lst (v1 ++ (.ref q9 :: (v2 ++ []))))) u t := fun u hu => by
    simp only [List.mem_append, List.mem_cons, List.not_mem_nil, or_false] at hu
    rcases hu with h | rfl | h
    · exact (b1 u h).grow (c12.trans (g3.trans gD1))
    · exact k9.grow (g3.trans gD1)
    · exact (b3 u h).grow gD1
  have e1 := @upd_same H3 D1 (.lst (v1 ++ (.ref q9 :: (v2 ++ []))))
  have z1 : (v1 ++ (V.ref q9 :: (v2 ++ []))).length ≤ 9 := by simp; omega
  have gA := (gA.trans g3).trans gD1
  generalize v1 ++ (V.ref q9 :: (v2 ++ [])) = us1 at k1 e1 z1 gD1 gA ⊢
  generalize upd H3 D1 (.lst us1) = H4 at k1 e1 gA ⊢
  -- the paths
  have hw4 := Grow.extN gA _ _ hw (fun _ z => by cases z)
  have gb4 : Paired (GoodP H4) bs ((t.ptN []).map (·.1)) := Paired.imp gb fun x e z => z.grow gA
  refine w_cons (w_lcP hA (by decide +kernel) (i := 3) (j := 4) ⟨rfl, rfl⟩ ⟨rfl, rfl⟩ ?_)
  walk_at "V"
  refine ⟨w, ws, rfl, SqL.of hw4, fun D2 hD2 => ⟨fun jj H'' => Grow m.T H4 H'' ∧ H'' D2 = some (.lst (bs.take jj)), ⟨Grow.new hD2, upd_same⟩, fun jj H'' _ hp' => GrowX.seqL hp'.1 (SqL.of hw4) fun z => z, ?_, ?_⟩⟩
  · rintro jj z H'' hz ⟨g9, hv9⟩
    obtain ⟨T2, b2, w2, rfl, hT2, hb2⟩ := bw jj z hz
    refine ⟨T2, b2, w2, rfl, GrowX.seqT (gA.trans g9) hT2, fun X2 hX2 => ?_⟩
    have c3 := nl_of hX2 3 "_law_path"
    have hjj : jj < bs.length := (List.getElem?_eq_some_iff.1 hb2).1
    walk_at "V"
    refine ⟨_, hv9, by rw [List.length_take, sizeLine_eq]; omega, Grow.intoNew g9 (GrowX.lst hv9) (fun _ w => by rw [w]; exact hD2), ?_⟩
    rw [upd_same, List.take_add_one, hb2]
    rfl
  rintro H5 ⟨g5, hv5⟩
  rw [← bl2, List.take_length] at hv5
  refine w_nil ⟨.ref D1, .ref D2, rfl, ?_⟩
  have e6 := Grow.extN g5 _ _ e1 (fun _ z => by cases z)
  have k6 : ∀ u ∈ us1, NoLots m.K H5 u t := fun u hu => (k1 u hu).grow g5
  have gb6 : Paired (GoodP H5) bs ((t.ptN []).map (·.1)) := Paired.imp gb4 fun x e z => z.grow g5
  have gA := gA.trans g5
  have gl : ((t.ptN []).map (·.1)).length = t.cnt := by rw [List.length_map, Tm.ptN_len]
  generalize hgs : (t.ptN []).map (·.1) = gs at gb6 gl
  have bl : bs.length = gs.length := paired_len gb6
  obtain ⟨gg, gs', hgs2⟩ : ∃ gg gs', gs = gg :: gs' := by
    cases gs with
    | nil => simp at gl; omega
    | cons g gs => exact ⟨g, gs, rfl⟩
  obtain ⟨b0, bs', hbs2⟩ : ∃ b0 bs', bs = b0 :: bs' := by
    cases bs with
    | nil => rw [hgs2] at bl; simp at bl
    | cons b bs => exact ⟨b, bs, rfl⟩
  have bz : bs.length ≤ 60 := by omega
  walk_at "B"
  refine s_nl hA n1 (g_bin (w_nl hA n1 rfl (w_lst ?_)))
  have acc : ∀ u ∈ ([] : List V), NoLots m.K H5 u t := fun _ z => by cases z
  refine w_cons (w_rev hA ?_)
  walk_at "V"
  refine ⟨D2, bs, rfl, SqL.of hv5, fun q1 hq1 => ?_⟩
  have s1 := Grow.new (T := m.T) (o := .lst bs.reverse) hq1
  have x1 : NoLots m.K (upd H5 q1 (.lst bs.reverse)) (.ref q1) t := noLots_good (gs := gs.reverse) (SqL.of upd_same) (by rw [List.length_reverse]; exact bz) (Paired.imp (Vf.Paired.rev gb6) fun x e (z : GoodP H5 x e) => GoodP.grow s1 z) (lotB_all (by rw [List.length_reverse]; exact gl))
  have acc : ∀ u ∈ [] ++ [V.ref q1], NoLots m.K (upd H5 q1 (.lst bs.reverse)) u t := fun u hu => by
    rcases List.mem_append.1 hu with z | z
    · exact (acc u z).grow s1
    · rw [List.mem_singleton.1 z]; exact x1
  have hv5 := Grow.extN s1 _ _ hv5 (fun _ z => by cases z)
  have e6 := Grow.extN s1 _ _ e6 (fun _ z => by cases z)
  have k6 : ∀ u ∈ us1, NoLots m.K _ u t := fun u hu => (k6 u hu).grow s1
  have gb6 := Paired.imp gb6 fun x e (z : GoodP _ x e) => GoodP.grow s1 z
  have gA := GrowX.trans gA s1
  generalize upd H5 q1 (.lst bs.reverse) = H7 at acc hv5 e6 k6 gb6 gA ⊢
  refine w_cons (g_bin (w_sliceTo hA ?_))
  walk_at "V"
  refine ⟨D2, bs, rfl, SqL.of hv5, fun q2 hq2 => ?_⟩
  rw [show cutV bs none (some 2) = bs.take 2 from cut_to (k := 2) (by decide)]
  have s2a := Grow.new (T := m.T) (o := .lst (bs.take 2)) hq2
  refine w_sliceTo hA ?_
  walk_at "V"
  refine ⟨D2, bs, rfl, SqL.of (s2a.extN _ _ hv5 (fun _ z => by cases z)), fun q3 hq3 => ?_⟩
  rw [show cutV bs none (some 1) = bs.take 1 from cut_to (k := 1) (by decide)]
  have s2b := Grow.new (T := m.T) (o := .lst (bs.take 1)) hq3
  have u2 := s2b.extN _ _ (upd_same (H := H7) (a := q2) (o := .lst (bs.take 2))) (fun _ z => by cases z)
  refine g_cat u2 upd_same (by rw [sizeLine_eq, List.length_take, List.length_take]; omega) fun q4 hq4 => ?_
  have s2c := Grow.new (T := m.T) (o := .lst (bs.take 2 ++ bs.take 1)) hq4
  have s2 := (s2a.trans s2b).trans s2c
  have x2 : NoLots m.K (upd (upd (upd H7 q2 (.lst (bs.take 2))) q3 (.lst (bs.take 1))) q4 (.lst (bs.take 2 ++ bs.take 1))) (.ref q4) t := noLots_good (gs := gs.take 2 ++ gs.take 1) (SqL.of upd_same) (by rw [List.length_append, List.length_take, List.length_take]; omega) (Paired.imp (Paired.app (Vf.Paired.tk gb6 2) (Vf.Paired.tk gb6 1)) fun x e (z : GoodP H7 x e) => GoodP.grow s2 z) (lotB_dup ⟨gg, by rw [hgs2]; simp, by rw [hgs2]; simp⟩)
  have acc : ∀ u ∈ ([] ++ [V.ref q1]) ++ [V.ref q4], NoLots m.K (upd (upd (upd H7 q2 (.lst (bs.take 2))) q3 (.lst (bs.take 1))) q4 (.lst (bs.take 2 ++ bs.take 1))) u t := fun u hu => by
    rcases List.mem_append.1 hu with z | z
    · exact (acc u z).grow s2
    · rw [List.mem_singleton.1 z]; exact x2
  have hv5 := Grow.extN s2 _ _ hv5 (fun _ z => by cases z)
  have e6 := Grow.extN s2 _ _ e6 (fun _ z => by cases z)
  have k6 : ∀ u ∈ us1, NoLots m.K _ u t := fun u hu => (k6 u hu).grow s2
  have gb6 := Paired.imp gb6 fun x e (z : GoodP _ x e) => GoodP.grow s2 z
  have gA := GrowX.trans gA s2
  generalize upd (upd (upd H7 q2 (.lst (bs.take 2))) q3 (.lst (bs.take 1))) q4 (.lst (bs.take 2 ++ bs.take 1)) = H8 at acc hv5 e6 k6 gb6 gA ⊢
  refine w_litP (fun H v => NoLots m.K H v t) lotBadB (fun H v d o h => noLots_bad o h) (fun H H' v g h => NoLots.grow g h) 1 _ _ _ _ rfl (by decide +kernel) fun v3 H9 s3 l3 b3 => ?_
  (try dsimp only [List.drop_succ_cons, List.drop_zero, List.drop])
  have acc : ∀ u ∈ (([] ++ [V.ref q1]) ++ [V.ref q4]) ++ v3, NoLots m.K H9 u t := fun u hu => by
    rcases List.mem_append.1 hu with z | z
    · exact (acc u z).grow s3
    · exact b3 u z
  have hv5 := Grow.extN s3 _ _ hv5 (fun _ z => by cases z)
  have e6 := Grow.extN s3 _ _ e6 (fun _ z => by cases z)
  have k6 : ∀ u ∈ us1, NoLots m.K _ u t := fun u hu => (k6 u hu).grow s3
  have gb6 := Paired.imp gb6 fun x e (z : GoodP _ x e) => GoodP.grow s3 z
  have gA := GrowX.trans gA s3
  refine w_cons (g_bin (w_sliceTo hA ?_))
  walk_at "V"
  refine ⟨D2, bs, rfl, SqL.of hv5, fun q5 hq5 => ?_⟩
  rw [show cutV bs none (some 1) = bs.take 1 from cut_to (k := 1) (by decide)]
  have s4a := Grow.new (T := m.T) (o := .lst (bs.take 1)) hq5
  walk_at "V"
  refine ⟨by walk_at "S", fun q6 hq6 => ?_⟩
  have s4b := Grow.new (T := m.T) (o := .lst [.int 0]) hq6
  walk_at "V"
  refine ⟨by walk_at "S", fun q7 hq7 => ?_⟩
  have s4c := Grow.new (T := m.T) (o := .lst [.ref q6]) hq7
  have u4 := Grow.extN (s4b.trans s4c) _ _ (upd_same (H := H9) (a := q5) (o := .lst (bs.take 1))) (fun _ z => by cases z)
  refine g_cat u4 upd_same (by rw [sizeLine_eq, List.length_take]; simp; omega) fun q8 hq8 => ?_
  have s4d := Grow.new (T := m.T) (o := .lst (bs.take 1 ++ [.ref q6])) hq8
  have s4 := ((s4a.trans s4b).trans s4c).trans s4d
  have x4 : NoLots m.K _ (.ref q8) t := noLots_one (gs := gs.take 1) (SqL.of (upd_same (H := upd (upd (upd H9 q5 (.lst (bs.take 1))) q6 (.lst [.int 0])) q7 (.lst [.ref q6])) (a := q8) (o := .lst (bs.take 1 ++ [.ref q6])))) (by rw [List.length_take]; omega) (Paired.imp (Vf.Paired.tk gb6 1) fun x e (z : GoodP H9 x e) => GoodP.grow s4 z) ⟨.list [.int 0], .lst trivial (SqL.of (Grow.extN (s4c.trans s4d) _ _ upd_same (fun _ z => by cases z))) (.cons (.int 0) .nil) (by simp), rfl, fun ds e => by cases e⟩
  have acc : ∀ u ∈ ((([] ++ [V.ref q1]) ++ [V.ref q4]) ++ v3) ++ [V.ref q8], NoLots m.K (upd (upd (upd (upd H9 q5 (.lst (bs.take 1))) q6 (.lst [.int 0])) q7 (.lst [.ref q6])) q8 (.lst (bs.take 1 ++ [.ref q6]))) u t := fun u hu => by
    rcases List.mem_append.1 hu with z | z
    · exact (acc u z).grow s4
    · rw [List.mem_singleton.1 z]; exact x4
  have hv5 := Grow.extN s4 _ _ hv5 (fun _ z => by cases z)
  have e6 := Grow.extN s4 _ _ e6 (fun _ z => by cases z)
  have k6 : ∀ u ∈ us1, NoLots m.K _ u t := fun u hu => (k6 u hu).grow s4
  have gb6 := Paired.imp gb6 fun x e (z : GoodP _ x e) => GoodP.grow s4 z
  have gA := GrowX.trans gA s4
  generalize upd (upd (upd (upd H9 q5 (.lst (bs.take 1))) q6 (.lst [.int 0])) q7 (.lst [.ref q6])) q8 (.lst (bs.take 1 ++ [.ref q6])) = H10 at acc hv5 e6 k6 gb6 gA ⊢
  refine w_cons (w_nl hA n2 rfl ?_)
  have x5 : NoLots m.K H10 (.ref D2) t := noLots_good (gs := gs) (SqL.of hv5) bz gb6 (lotB_all gl)
  refine w_cons (g_bin (w_sliceTo hA ?_))
  walk_at "V"
  refine ⟨D2, bs, rfl, SqL.of hv5, fun q9' hq9' => ?_⟩
  rw [show cutV bs none (some 1) = bs.take 1 from cut_to (k := 1) (by decide)]
  have s6a := Grow.new (T := m.T) (o := .lst (bs.take 1)) hq9'
  walk_at "V"
  refine g_twice upd_same (by rw [List.length_take]; omega) fun q10 hq10 => ?_
  have s6b := Grow.new (T := m.T) (o := .lst (bs.take 1 ++ bs.take 1)) hq10
  have s6 := s6a.trans s6b
  have x6 : NoLots m.K _ (.ref q10) t := noLots_good (gs := gs.take 1 ++ gs.take 1) (SqL.of (upd_same (H := upd H10 q9' (.lst (bs.take 1))) (a := q10) (o := .lst (bs.take 1 ++ bs.take 1)))) (by rw [List.length_append, List.length_take]; omega) (Paired.imp (Paired.app (Vf.Paired.tk gb6 1) (Vf.Paired.tk gb6 1)) fun x e (z : GoodP H10 x e) => GoodP.grow s6 z) (lotB_dup ⟨gg, by rw [hgs2]; simp, by rw [hgs2]; simp⟩)
  have acc : ∀ u ∈ (((([] ++ [V.ref q1]) ++ [V.ref q4]) ++ v3) ++ [V.ref q8]) ++ [V.ref D2], NoLots m.K H10 u t := fun u hu => by
    rcases List.mem_append.1 hu with z | z
    · exact acc u z
    · rw [List.mem_singleton.1 z]; exact x5
  have acc : ∀ u ∈ ((((([] ++ [V.ref q1]) ++ [V.ref q4]) ++ v3) ++ [V.ref q8]) ++ [V.ref D2]) ++ [V.ref q10], NoLots m.K (upd (upd H10 q9' (.lst (bs.take 1))) q10 (.lst (bs.take 1 ++ bs.take 1))) u t := fun u hu => by
    rcases List.mem_append.1 hu with z | z
    · exact (acc u z).grow s6
    · rw [List.mem_singleton.1 z]; exact x6
  have hv5 := Grow.extN s6 _ _ hv5 (fun _ z => by cases z)
  have e6 := Grow.extN s6 _ _ e6 (fun _ z => by cases z)
  have k6 : ∀ u ∈ us1, NoLots m.K _ u t := fun u hu => (k6 u hu).grow s6
  have gb6 := Paired.imp gb6 fun x e (z : GoodP _ x e) => GoodP.grow s6 z
  have gA := GrowX.trans gA s6
  generalize upd (upd H10 q9' (.lst (bs.take 1))) q10 (.lst (bs.take 1 ++ bs.take 1)) = H11 at acc hv5 e6 k6 gb6 gA ⊢
  refine w_nil ⟨by rw [sizeLine_eq]; simp; omega, fun D3 hD3 => ?_⟩
  have sD3 := Grow.new (T := m.T) (o := .lst (V.ref q1 :: V.ref q4 :: (v3 ++ [V.ref q8, V.ref D2, V.ref q10]))) hD3
  refine g_cat (Grow.extN sD3 _ _ e6 (fun _ z => by cases z)) upd_same (by rw [sizeLine_eq]; simp; omega) fun D4 hD4 => ?_
  have sD4 := Grow.new (T := m.T) (o := .lst (us1 ++ (V.ref q1 :: V.ref q4 :: (v3 ++ [V.ref q8, V.ref D2, V.ref q10])))) hD4
  have sD := sD3.trans sD4
  have k7 : ∀ u ∈ us1 ++ (V.ref q1 :: V.ref q4 :: (v3 ++ [V.ref q8, V.ref D2, V.ref q10])), NoLots m.K (upd (upd H11 D3 (.lst (V.ref q1 :: V.ref q4 :: (v3 ++ [V.ref q8, V.ref D2, V.ref q10])))) D4 (.lst (us1 ++ (V.ref q1 :: V.ref q4 :: (v3 ++ [V.ref q8, V.ref D2, V.ref q10]))))) u t := fun u hu => by
    rcases List.mem_append.1 hu with z | z
    · exact (k6 u z).grow sD
    · exact (acc u (by simpa using z)).grow sD
  have e7 := @upd_same (upd H11 D3 (.lst (V.ref q1 :: V.ref q4 :: (v3 ++ [V.ref q8, V.ref D2, V.ref q10])))) D4 (.lst (us1 ++ (V.ref q1 :: V.ref q4 :: (v3 ++ [V.ref q8, V.ref D2, V.ref q10]))))
  have z7 : (us1 ++ (V.ref q1 :: V.ref q4 :: (v3 ++ [V.ref q8, V.ref D2, V.ref q10]))).length ≤ 20 := by simp; omega
  have hv5 := Grow.extN sD _ _ hv5 (fun _ z => by cases z)
  have gb6 := Paired.imp gb6 fun x e (z : GoodP _ x e) => GoodP.grow sD z
  have gA := GrowX.trans gA sD
  clear e6 k6 acc
  generalize us1 ++ (V.ref q1 :: V.ref q4 :: (v3 ++ [V.ref q8, V.ref D2, V.ref q10])) = us2 at k7 e7 z7 hv5 gb6 gA sD4 sD ⊢
  generalize upd (upd H11 D3 (.lst (V.ref q1 :: V.ref q4 :: (v3 ++ [V.ref q8, V.ref D2, V.ref q10])))) D4 (.lst us2) = H12 at k7 e7 hv5 gb6 gA ⊢
  have e6 := e7
  have k6 := k7
  clear e7 k7
  obtain ⟨p0, rfl, hp0, hl0⟩ : GoodP H12 b0 gg := by
    rw [hbs2, hgs2] at gb6
    cases gb6 with | cons h _ => exact h
  walk_at "B"
  refine s_nl hA n1 (g_bin (w_nl hA n1 rfl (w_lst ?_)))
  have acc : ∀ u ∈ ([] : List V), NoLots m.K H12 u t := fun _ z => by cases z
  refine w_cons (g_bin (w_sliceTo hA ?_))
  walk_at "V"
  refine ⟨D2, bs, rfl, SqL.of hv5, fun r1 hr1 => ?_⟩
  rw [show cutV bs none (some 1) = bs.take 1 from cut_to (k := 1) (by decide)]
  have s1a := Grow.new (T := m.T) (o := .lst (bs.take 1)) hr1
  walk_at "V"
  refine ⟨by walk_at "S", fun r2 hr2 => ?_⟩
  have s1b := Grow.new (T := m.T) (o := .lst [.non]) hr2
  have u1 := Grow.extN s1b _ _ (upd_same (H := H12) (a := r1) (o := .lst (bs.take 1))) (fun _ z => by cases z)
  refine g_cat u1 upd_same (by rw [sizeLine_eq, List.length_take]; simp; omega) fun r3 hr3 => ?_
  have s1c := Grow.new (T := m.T) (o := .lst (bs.take 1 ++ [.non])) hr3
  have s1 := (s1a.trans s1b).trans s1c
  have x1 : NoLots m.K _ (.ref r3) t := noLots_one (gs := gs.take 1) (SqL.of (upd_same (H := upd (upd H12 r1 (.lst (bs.take 1))) r2 (.lst [.non])) (a := r3) (o := .lst (bs.take 1 ++ [.non])))) (by rw [List.length_take]; omega) (Paired.imp (Vf.Paired.tk gb6 1) fun x e (z : GoodP H12 x e) => GoodP.grow s1 z) ⟨.none, .non, rfl, fun ds e => by cases e⟩
  have hp0 := GrowX.tup s1 _ _ hp0
  have acc : ∀ u ∈ [] ++ [V.ref r3], NoLots m.K (upd (upd (upd H12 r1 (.lst (bs.take 1))) r2 (.lst [.non])) r3 (.lst (bs.take 1 ++ [.non]))) u t := fun u hu => by
    rcases List.mem_append.1 hu with z | z
    · exact (acc u z).grow s1
    · rw [List.mem_singleton.1 z]; exact x1
  have hv5 := Grow.extN s1 _ _ hv5 (fun _ z => by cases z)
  have e6 := Grow.extN s1 _ _ e6 (fun _ z => by cases z)
  have k6 : ∀ u ∈ us2, NoLots m.K _ u t := fun u hu => (k6 u hu).grow s1
  have gb6 := Paired.imp gb6 fun x e (z : GoodP _ x e) => GoodP.grow s1 z
  have gA := GrowX.trans gA s1
  generalize upd (upd (upd H12 r1 (.lst (bs.take 1))) r2 (.lst [.non])) r3 (.lst (bs.take 1 ++ [.non])) = H13 at acc hp0 hv5 e6 k6 gb6 gA ⊢
  refine w_cons (g_typ hA htup rfl bt_tuple ?_)
  refine w_cons (w_sliceTo hA ?_)
  walk_at "V"
  refine ⟨D2, bs, rfl, SqL.of hv5, fun r4 hr4 => ?_⟩
  rw [show cutV bs none (some 1) = bs.take 1 from cut_to (k := 1) (by decide)]
  have s2a := Grow.new (T := m.T) (o := .lst (bs.take 1)) hr4
  refine w_nil (g_tupL hA (SqL.of upd_same) fun r5 hr5 => ?_)
  have s2b := Grow.new (T := m.T) (o := .tup (bs.take 1)) hr5
  have s2 := s2a.trans s2b
  have x2 : NoLots m.K _ (.ref r5) t := .inl ⟨.tuple [pthD gg], .tup (SqT.of (upd_same (H := upd H13 r4 (.lst (bs.take 1))) (a := r5) (o := .tup (bs.take 1)))) (by
    have et : bs.take 1 = [V.ref p0] := by rw [hbs2]; rfl
    have z := ObAll.cons (ob_pth (K := m.K) (A := Any) (GrowX.tup s2 _ _ hp0)) ObAll.nil
    rw [← et] at z
    exact z), rfl⟩
  have hp0 := GrowX.tup s2 _ _ hp0
  have acc : ∀ u ∈ ([] ++ [V.ref r3]) ++ [V.ref r5], NoLots m.K (upd (upd H13 r4 (.lst (bs.take 1))) r5 (.tup (bs.take 1))) u t := fun u hu => by
    rcases List.mem_append.1 hu with z | z
    · exact (acc u z).grow s2
    · rw [List.mem_singleton.1 z]; exact x2
  have hv5 := Grow.extN s2 _ _ hv5 (fun _ z => by cases z)
  have e6 := Grow.extN s2 _ _ e6 (fun _ z => by cases z)
  have k6 : ∀ u ∈ us2, NoLots m.K _ u t := fun u hu => (k6 u hu).grow s2
  have gb6 := Paired.imp gb6 fun x e (z : GoodP _ x e) => GoodP.grow s2 z
  have gA := GrowX.trans gA s2
  generalize upd (upd H13 r4 (.lst (bs.take 1))) r5 (.tup (bs.take 1)) = H14 at acc hp0 hv5 e6 k6 gb6 gA ⊢
  have gl0 : gg.length ≤ 900 := by
    have hm : gg ∈ (t.ptN []).map (·.1) := by rw [hgs, hgs2]; exact List.mem_cons_self
    obtain ⟨e, he, rfl⟩ := List.mem_map.1 hm
    exact plen e he
  have sub0 : t.sub (gg ++ [0]) = none := by
    have hm : gg ∈ (t.ptN []).map (·.1) := by rw [hgs, hgs2]; exact List.mem_cons_self
    obtain ⟨e, he, rfl⟩ := List.mem_map.1 hm
    exact sub_snoc (Tm.pt_iff.1 (show (e.1, e.2) ∈ t.ptN [] from he))
  refine w_cons (w_lst (w_cons (g_bin ?_)))
  walk_at "V"
  refine g_ixL hA (SqL.of hv5) (atI_at (j := 0) (by rw [hbs2]; rfl)) ?_
  walk_at "V"
  refine ⟨by walk_at "S", fun r6 hr6 => ?_⟩
  have s3a := Grow.new (T := m.T) (o := .tup [.int 0]) hr6
  refine g_snocH hA (js := gg) (i := 0) (s3a.tup _ _ hp0) upd_same (by rw [sizeLine_eq]; omega) fun r7 H15 s3b hr7 => ?_
  refine w_nil ⟨by walk_at "S", fun r8 hr8 => ?_⟩
  have s3c := Grow.new (T := m.T) (o := .lst [.ref r7]) hr8
  have s3 := (s3a.trans s3b).trans s3c
  have x3 : NoLots m.K _ (.ref r8) t := noLots_good (gs := [gg ++ [0]]) (SqL.of (upd_same (H := H15) (a := r8) (o := .lst [.ref r7]))) (by simp) (.cons ⟨r7, rfl, s3c.tup _ _ hr7, by rw [List.length_append, List.length_singleton]; omega⟩ .nil) (lotB_none sub0)
  have hp0 := GrowX.tup s3 _ _ hp0
  have acc : ∀ u ∈ (([] ++ [V.ref r3]) ++ [V.ref r5]) ++ [V.ref r8], NoLots m.K (upd H15 r8 (.lst [.ref r7])) u t := fun u hu => by
    rcases List.mem_append.1 hu with z | z
    · exact (acc u z).grow s3
    · rw [List.mem_singleton.1 z]; exact x3
  have hv5 := Grow.extN s3 _ _ hv5 (fun _ z => by cases z)
  have e6 := Grow.extN s3 _ _ e6 (fun _ z => by cases z)
  have k6 : ∀ u ∈ us2, NoLots m.K _ u t := fun u hu => (k6 u hu).grow s3
  have gb6 := Paired.imp gb6 fun x e (z : GoodP _ x e) => GoodP.grow s3 z
  have gA := GrowX.trans gA s3
  generalize upd H15 r8 (.lst [.ref r7]) = H16 at acc hp0 hv5 e6 k6 gb6 gA ⊢
  refine w_cons (w_lst (w_cons (g_typ hA hlist rfl bt_list ?_)))
  walk_at "V"
  refine g_ixL hA (SqL.of hv5) (atI_at (j := 0) (by rw [hbs2]; rfl)) ?_
  walk_at "V"
  refine g_listOf hA (.inr (SqT.of hp0)) fun r9 hr9 => ?_
  have s4a := Grow.new (T := m.T) (o := .lst (pv gg)) hr9
  refine w_nil ⟨by walk_at "S", fun r10 hr10 => ?_⟩
  have s4b := Grow.new (T := m.T) (o := .lst [.ref r9]) hr10
  have s4 := s4a.trans s4b
  have oI : ∀ js : List Nat, ObAll m.K Any (upd (upd H16 r9 (.lst (pv gg))) r10 (.lst [.ref r9])) (pv js) (js.map fun j : Nat => .int (j : Int)) := fun js => by
    induction js with
    | nil => exact .nil
    | cons j js ih => exact .cons (.int _) ih
  have x4 : NoLots m.K _ (.ref r10) t := noLots_one (bs := []) (gs := []) (SqL.of (upd_same (H := upd H16 r9 (.lst (pv gg))) (a := r10) (o := .lst [.ref r9]))) (by simp) .nil ⟨.list (gg.map fun j : Nat => .int (j : Int)), .lst trivial (SqL.of (Grow.extN s4b _ _ upd_same (fun _ z => by cases z))) (oI gg) (by simp [pv, pI]; omega), rfl, fun ds e => by cases e⟩
  have hp0 := GrowX.tup s4 _ _ hp0
  have acc : ∀ u ∈ ((([] ++ [V.ref r3]) ++ [V.ref r5]) ++ [V.ref r8]) ++ [V.ref r10], NoLots m.K (upd (upd H16 r9 (.lst (pv gg))) r10 (.lst [.ref r9])) u t := fun u hu => by
    rcases List.mem_append.1 hu with z | z
    · exact (acc u z).grow s4
    · rw [List.mem_singleton.1 z]; exact x4
  have hv5 := Grow.extN s4 _ _ hv5 (fun _ z => by cases z)
  have e6 := Grow.extN s4 _ _ e6 (fun _ z => by cases z)
  have k6 : ∀ u ∈ us2, NoLots m.K _ u t := fun u hu => (k6 u hu).grow s4
  have gb6 := Paired.imp gb6 fun x e (z : GoodP _ x e) => GoodP.grow s4 z
  have gA := GrowX.trans gA s4
  generalize upd (upd H16 r9 (.lst (pv gg))) r10 (.lst [.ref r9]) = H17 at acc hp0 hv5 e6 k6 gb6 gA ⊢
  refine w_nil ⟨by walk_at "S", fun D5 hD5 => ?_⟩
  have sD5 := Grow.new (T := m.T) (o := .lst [V.ref r3, V.ref r5, V.ref r8, V.ref r10]) hD5
  refine g_cat (Grow.extN sD5 _ _ e6 (fun _ z => by cases z)) upd_same (by rw [sizeLine_eq]; simp; omega) fun D6 hD6 => ?_
  have sD6 := Grow.new (T := m.T) (o := .lst (us2 ++ [V.ref r3, V.ref r5, V.ref r8, V.ref r10])) hD6
  have sD' := sD5.trans sD6
  have k8 : ∀ u ∈ us2 ++ [V.ref r3, V.ref r5, V.ref r8, V.ref r10], NoLots m.K (upd (upd H17 D5 (.lst [V.ref r3, V.ref r5, V.ref r8, V.ref r10])) D6 (.lst (us2 ++ [V.ref r3, V.ref r5, V.ref r8, V.ref r10]))) u t := fun u hu => by
    rcases List.mem_append.1 hu with z | z
    · exact (k6 u z).grow sD'
    · exact (acc u (by simpa using z)).grow sD'
  have e8 := @upd_same (upd H17 D5 (.lst [V.ref r3, V.ref r5, V.ref r8, V.ref r10])) D6 (.lst (us2 ++ [V.ref r3, V.ref r5, V.ref r8, V.ref r10]))
  have z8 : (us2 ++ [V.ref r3, V.ref r5, V.ref r8, V.ref r10]).length ≤ 24 := by simp; omega
  have hv5 := Grow.extN sD' _ _ hv5 (fun _ z => by cases z)
  have gb6 := Paired.imp gb6 fun x e (z : GoodP _ x e) => GoodP.grow sD' z
  have gA := GrowX.trans gA sD'
  clear e6 k6 acc
  generalize us2 ++ [V.ref r3, V.ref r5, V.ref r8, V.ref r10] = us3 at k8 e8 z8 hv5 gb6 gA sD6 sD' ⊢
  generalize upd (upd H17 D5 (.lst [V.ref r3, V.ref r5, V.ref r8, V.ref r10])) D6 (.lst us3) = H18 at k8 e8 hv5 gb6 gA ⊢
  walk_at "B"
  walk_at "V"
  refine w_lcLi hA (by decide +kernel) (i := 3) ⟨rfl, rfl⟩ ?_
  walk_at "V"
  refine ⟨D2, bs, rfl, SqL.of hv5, fun D7 hD7 => ⟨fun j H' => Grow m.T H18 H' ∧ ∃ us, H' D7 = some (.lst us) ∧ us.length ≤ j ∧ ∀ u ∈ us, BoolLot D7 H' u, ⟨Grow.new hD7, [], upd_same, Nat.le_refl _, fun _ z => by cases z⟩, fun j H' _ hp' => GrowX.seqL hp'.1 (SqL.of hv5) fun z => z, ?_, ?_⟩⟩
  · rintro j x H' hx ⟨g, us, eu, lu, ku⟩ X' hX'
    have c3 := nl_of hX' 3 "_law_path"
    have hjl : j < bs.length := (List.getElem?_eq_some_iff.1 hx).1
    have hgj : gs[j]? = some gs[j] := List.getElem?_eq_getElem (by omega)
    obtain ⟨x', hx', gp⟩ := paired_at gb6 j _ hgj
    rw [hx] at hx'
    cases hx'
    generalize gs[j] = js at hgj gp
    obtain ⟨bx, rfl, hbx, lx⟩ := gp
    have hbx' := g.tup _ _ hbx
    walk_at "V"
    refine ⟨by walk_at "S", fun a0 ha0 => ?_⟩
    have t1 := Grow.new (T := m.T) (o := .tup [.int 0]) ha0
    walk_at "V"
    refine ⟨by walk_at "S", fun a1 ha1 => ?_⟩
    have t2 := Grow.new (T := m.T) (o := .tup [.int 1]) ha1
    walk_at "V"
    refine ⟨by walk_at "S", fun a2 ha2 => ?_⟩
    have t3 := Grow.new (T := m.T) (o := .tup [.ref a0, .ref a1]) ha2
    have tA := (t1.trans t2).trans t3
    have hb3 := GrowX.tup tA _ _ hbx'
    refine g_inTups hX' (d := pthD js) (A := Any) (gs := [[0], [1]]) (ob_pth hb3) (SqT.of upd_same) (.cons ⟨a0, rfl, GrowX.tup (t2.trans t3) _ _ upd_same⟩ (.cons ⟨a1, rfl, t3.tup _ _ upd_same⟩ .nil)) ?_
    refine ⟨_, rfl, ?_⟩
    have ggE := g.trans tA
    have euE := Grow.extN tA _ _ eu (fun _ z => by cases z)
    have kuE : ∀ u ∈ us, BoolLot D7 (upd (upd (upd H' a0 (.tup [.int 0])) a1 (.tup [.int 1])) a2 (.tup [.ref a0, .ref a1])) u := fun u hu => (ku u hu).grow tA (fun z => z.elim)
    generalize upd (upd (upd H' a0 (.tup [.int 0])) a1 (.tup [.int 1])) a2 (.tup [.ref a0, .ref a1]) = HE at hb3 ggE euE kuE ⊢
    cases js with
    | nil => exact iteF ⟨ggE, us, euE, by omega, kuE⟩
    | cons j0 js =>
      refine ite2 (fun _ => ?_) fun _ => ⟨ggE, us, euE, by omega, kuE⟩
      intro X' hX'
      have c3 := nl_of hX' 3 "_law_path"
      refine w_lst (w_cons (g_typ hX' htup rfl bt_tuple ?_))
      refine w_cons (w_lcT hX' (by decide +kernel) (i := 5) ⟨rfl, rfl⟩ ?_)
      walk_at "V"
      refine ⟨bx, pv (j0 :: js), rfl, SqT.of hb3, fun D8 hD8 => ⟨fun jj H'' => Grow m.T HE H'' ∧ H'' D8 = some (.lst (((j0 :: js).take jj).map boolV)), ⟨Grow.new hD8, upd_same⟩, fun jj H'' _ hq => GrowX.seqT hq.1 (SqT.of hb3), ?_, ?_⟩⟩
      · rintro jj y H'' hy ⟨g8, hv8⟩ X2 hX2
        have c5 := nl_of hX2 5 "_law_at"
        rw [List.getElem?_map, List.getElem?_map] at hy
        obtain ⟨y1, hy1, rfl⟩ := Option.map_eq_some_iff.1 hy
        obtain ⟨jn, hjn, rfl⟩ := Option.map_eq_some_iff.1 hy1
        have hjj : jj < (j0 :: js).length := (List.getElem?_eq_some_iff.1 hjn).1
        walk_at "V"
        refine ⟨_, hv8, by rw [List.length_map, List.length_take, sizeLine_eq]; omega, Grow.intoNew g8 (GrowX.lst hv8) (fun _ w => by rw [w]; exact hD8), ?_⟩
        rw [upd_same, List.take_add_one, hjn]
        simp only [Option.toList, List.map_append, List.map_cons, List.map_nil]
        rfl
      · rintro H'' ⟨g8, hv8⟩
        have el9 : (pv (j0 :: js)).length = (j0 :: js).length := by simp [pv, pI]
        rw [el9, List.take_length] at hv8
        refine w_nil (g_tupL hX' (SqL.of hv8) fun pn hpn => ?_)
        have gN := Grow.new (T := m.T) (o := .tup ((j0 :: js).map boolV)) hpn
        refine w_nil ⟨by walk_at "S", fun pl hpl => ?_⟩
        have gL := Grow.new (T := m.T) (o := .lst [.ref pn]) hpl
        have g8N := (g8.trans gN).trans gL
        have euN := Grow.extN g8N _ _ euE (fun _ z => by cases z)
        have plD : pl ≠ D7 := fun e => by
          rw [e] at hpl
          have z := Grow.extN (g8.trans gN) _ _ euE (fun _ z => by cases z)
          rw [hpl] at z; cases z
        have gX := GrowX.lst (T := m.T) (ys := us ++ [V.ref pl]) euN
        have gFin := Grow.intoNew (ggE.trans g8N) gX (fun _ w => by rw [w]; exact hD7)
        refine ⟨us, euN, by rw [sizeLine_eq]; omega, gFin, us ++ [V.ref pl], upd_same, by simp; omega, fun u hu => ?_⟩
        rcases List.mem_append.1 hu with z | z
        · exact ((kuE u z).grow g8N (fun z => z.elim)).grow gX (fun z => z)
        · rw [List.mem_singleton.1 z]
          exact BoolLot.grow gX (fun z => z) ⟨pl, pn, j0 :: js, rfl, plD, upd_same, gL.tup _ _ upd_same, by simp, lx⟩
  · rintro H19 ⟨g19, us, eu, lu, ku⟩
    refine g_cat (Grow.extN g19 _ _ e8 (fun _ z => by cases z)) eu (by rw [sizeLine_eq]; omega) fun D8 hD8 => ?_
    have gF := Grow.new (T := m.T) (o := .lst (us3 ++ us)) hD8
    have gAfin := GrowX.trans gA g19
    have gA := GrowX.trans gA (g19.trans gF)
    refine q D8 (us3 ++ us) _ gA ?_ upd_same (by rw [List.length_append]; omega) fun u hu => ?_
    · have z := hD8
      exact GrowX.keep gAfin _ z
    · rcases List.mem_append.1 hu with z | z
      · exact (k8 u z).grow (g19.trans gF)
      · exact ((ku u z).no).grow gF
/-- the data of the pairs of path and part -/
def pdD (e : List Nat × Tm) : PyData := .tuple [pthD e.1, e.2.py]
/-- the numbers of a path are small -/
def Sm (js : List Nat) : Prop := js.length ≤ 100 ∧ ∀ j ∈ js, j ≤ 1000
theorem sm_wt : ∀ js : List Nat, (∀ j ∈ js, j ≤ 1000) → PyData.weightAll (js.map fun j : Nat => PyData.int (j : Int)) ≤ 48 * js.length ∧ PyData.intsShortAll 13 (js.map fun j : Nat => PyData.int (j : Int)) = true ∧ PyData.showableAll (js.map fun j : Nat => PyData.int (j : Int)) = true
  | [], _ => ⟨Nat.le_refl _, rfl, rfl⟩
  | j :: js, h => by
    have hj := h j List.mem_cons_self
    obtain ⟨h1, h2, h3⟩ := sm_wt js fun i hi => h i (List.mem_cons_of_mem _ hi)
    have e1 := Tm.wt_int (i := (j : Int)) (by omega)
    have e2 := PyData.shown_int_le (i := (j : Int)) (by omega)
    have e3 : (j : Int).natAbs.log2 < 1920 := by
      rcases Nat.eq_zero_or_pos (j : Int).natAbs with e | e
      · rw [e]; decide
      · exact (Nat.log2_lt (by omega)).2 (by omega)
    refine ⟨?_, ?_, ?_⟩
    · rw [List.map_cons, PyData.weightAll, List.length_cons]; omega
    · rw [List.map_cons, PyData.intsShortAll, h2, Bool.and_true]
      simpa [PyData.intsShort] using e2
    · rw [List.map_cons, PyData.showableAll, h3, Bool.and_true]
      simpa [PyData.showable] using e3
section
variable {W : Int} {zs ns : List Str}
theorem pds_facts (hz : ∀ z ∈ zs, IsName z) (hn : ∀ z ∈ ns, IsName z) (hW : W < 10 ^ 12) : ∀ es : List (List Nat × Tm), (∀ e ∈ es, Sm e.1 ∧ e.2.ok W zs ns ∧ e.2.isPart = true) →
    PyData.weightAll (es.map pdD) ≤ 6000 * es.length ∧ PyData.intsShortAll 13 (es.map pdD) = true ∧ PyData.showableAll (es.map pdD) = true ∧ PyData.canLayAll0 (es.map pdD) = true ∧ PyData.depthAll (es.map pdD) ≤ 2
  | [], _ => ⟨Nat.le_refl _, rfl, rfl, rfl, Nat.zero_le _⟩
  | e :: es, h => by
    obtain ⟨⟨l1, sm⟩, ok, ip⟩ := h e List.mem_cons_self
    obtain ⟨h1, h2, h3, h4, h5⟩ := pds_facts hz hn hW es fun e he => h e (List.mem_cons_of_mem _ he)
    obtain ⟨w1, w2, w3⟩ := sm_wt e.1 sm
    have sz : e.2.siz = 1 := by
      cases he : e.2 with
      | part _ _ _ => rfl
      | all _ _ => rw [he] at ip; simp [Tm.isPart] at ip
      | rank _ _ => rw [he] at ip; simp [Tm.isPart] at ip
    have p1 := Tm.weight_le hz hn hW e.2 ok (by simp only [Tm.sizs]; omega)
    have p2 := Tm.short hz hn hW e.2 ok (by omega)
    have p3 := Tm.shows hz hn hW e.2 ok (by omega)
    have p4 := Tm.canLay hz hn e.2 ok
    have p5 : e.2.py.depth ≤ 1 := by
      cases he : e.2 with
      | part _ _ _ => exact Nat.le_refl _
      | all _ _ => rw [he] at ip; simp [Tm.isPart] at ip
      | rank _ _ => rw [he] at ip; simp [Tm.isPart] at ip
    have q1 : (pthD e.1).weight ≤ 4800 := by rw [pthD, PyData.weight]; omega
    have q2 : PyData.intsShort 13 (pthD e.1) = true := by rw [pthD, PyData.intsShort]; exact w2
    have q3 : (pthD e.1).showable = true := by rw [pthD, PyData.showable]; exact w3
    have q4 : (pthD e.1).canLay0 = true := by rw [pthD, PyData.canLay0]; exact pth_lay _
    have q5 : (pthD e.1).depth ≤ 1 := by rw [pthD, PyData.depth, pth_depth]; omega
    refine ⟨?_, ?_, ?_, ?_, ?_⟩
    · rw [List.map_cons, PyData.weightAll, pdD, PyData.weight, PyData.weightAll, PyData.weightAll, PyData.weightAll, List.length_cons]
      omega
    · rw [List.map_cons, PyData.intsShortAll, pdD, PyData.intsShort, PyData.intsShortAll, PyData.intsShortAll, PyData.intsShortAll, q2, p2, h2]; rfl
    · rw [List.map_cons, PyData.showableAll, pdD, PyData.showable, PyData.showableAll, PyData.showableAll, PyData.showableAll, q3, p3, h3]; rfl
    · rw [List.map_cons, PyData.canLayAll0, pdD, PyData.canLay0, PyData.canLayAll0, PyData.canLayAll0, PyData.canLayAll0, q4, p4, h4]; rfl
    · rw [List.map_cons, PyData.depthAll, pdD, PyData.depth, PyData.depthAll, PyData.depthAll, PyData.depthAll]
      omega
/-- the text of a list of pairs -/
theorem pds_fits (hz : ∀ z ∈ zs, IsName z) (hn : ∀ z ∈ ns, IsName z) (hW : W < 10 ^ 12) (es : List (List Nat × Tm)) (h : ∀ e ∈ es, Sm e.1 ∧ e.2.ok W zs ns ∧ e.2.isPart = true) (hl : es.length ≤ 60) :
    (PyData.list (es.map pdD)).showable = true ∧ (PyData.list (es.map pdD)).shown.length ≤ sizeLine ∧ (PyData.list (es.map pdD)).depth ≤ 60 ∧ SeqAt.shaped (.list (es.map pdD)) = true := by
  obtain ⟨h1, h2, h3, h4, h5⟩ := pds_facts hz hn hW es h
  have d1 : (PyData.list (es.map pdD)).depth ≤ 3 := by rw [PyData.depth]; omega
  have c1 : (PyData.list (es.map pdD)).canLay0 = true := by rw [PyData.canLay0]; exact h4
  refine ⟨by rw [PyData.showable]; exact h3, ?_, by omega, ?_⟩
  · have z := shown_le13 (d := .list (es.map pdD)) ?_ (by rw [PyData.intsShort]; exact h2)
    · rw [sizeLine_eq]; omega
    · unfold PyData.layable0
      rw [c1]
      have w : (PyData.list (es.map pdD)).weight ≤ 2 ^ 20 := by rw [PyData.weight]; omega
      simp only [Bool.true_and, Bool.and_eq_true, decide_eq_true_eq]
      exact ⟨by omega, w⟩
  · unfold SeqAt.shaped
    rw [c1, Bool.true_and, decide_eq_true_eq]
    omega
end
theorem pt_da {K : PySem.W.Frag} {A : Addr → Prop} {H : Hp} {us : List V} {es : List (List Nat × Tm)} (h : Paired (PtA K H) us es) : DaAll K A H us (es.map pdD) := by
  induction h with
  | nil => exact .nil
  | cons h _ ih =>
    obtain ⟨T, b, w, rfl, hs, hb, dw⟩ := h
    refine .cons (.tup hs (.cons (.tup (SqT.of hb) ?_) (.cons (dw.sub fun _ z => z.elim) .nil))) ih
    clear hs hb dw
    rename_i e _ _ _
    induction e.1 with
    | nil => exact .nil
    | cons j js ih2 => exact .cons (.int _) ih2
namespace Tm
theorem sub_ok {W : Int} {zs ns : List Str} : ∀ {js : List Nat} {t p : Tm}, sub js t = some p → t.ok W zs ns → p.ok W zs ns
  | [], t, p, h, k => by
    rw [sub] at h
    by_cases c : t.isPart = true
    · rw [if_pos c] at h; cases h; exact k
    · rw [if_neg c] at h; cases h
  | i :: js, t, p, h, k => by
    rw [sub] at h
    obtain ⟨tk, h1, h2⟩ := Option.bind_eq_some_iff.1 h
    have hm := List.mem_of_getElem? h1
    refine sub_ok h2 ?_
    cases t with
    | part _ _ _ => simp [kids] at hm
    | all f ts => exact oks_iff.1 k.2 tk hm
    | rank r ts => exact oks_iff.1 k.2.2.2 tk hm
theorem sub_small {n : Nat} : ∀ {js : List Nat} {t p : Tm}, sub js t = some p → t.wf → ∀ j ∈ js, j ≤ 1000
  | [], _, _, _, _ => fun j hj => by cases hj
  | i :: js, t, p, h, w => by
    rw [sub] at h
    obtain ⟨tk, h1, h2⟩ := Option.bind_eq_some_iff.1 h
    have hm := List.mem_of_getElem? h1
    have hi := (List.getElem?_eq_some_iff.1 h1).1
    have key : t.kids.length ≤ 1000 ∧ tk.wf := by
      cases t with
      | part _ _ _ => simp [kids] at hm
      | all f ts => exact ⟨Nat.le_of_lt w.2.1, wfs_iff.1 w.2.2 tk hm⟩
      | rank r ts => exact ⟨Nat.le_of_lt w.2.1, wfs_iff.1 w.2.2.2.2 tk hm⟩
    intro j hj
    rcases List.mem_cons.1 hj with e | e
    · rw [e]; omega
    · exact sub_small (n := n) h2 key.2 j e
mutual
theorem cnt_pos : ∀ t : Tm, t.wf → 0 < t.cnt
  | .part _ _ _, _ => Nat.one_pos
  | .all _ ts, w => cnts_pos ts w.1 w.2.2
  | .rank _ ts, w => cnts_pos ts w.1 w.2.2.2.2
theorem cnts_pos : ∀ ts : List Tm, ts ≠ [] → wfs ts → 0 < cnts ts
  | [], h, _ => absurd rfl h
  | t :: ts, _, w => by
    have := cnt_pos t w.1
    show 0 < t.cnt + cnts ts
    omega
end
theorem len_cnts : ∀ ts : List Tm, wfs ts → ts.length ≤ cnts ts
  | [], _ => Nat.zero_le _
  | t :: ts, w => by
    have := cnt_pos t w.1
    have := len_cnts ts w.2
    show ts.length + 1 ≤ t.cnt + cnts ts
    omega
theorem sub99 {t : Tm} (w : t.wf) (h : t.cnt ≤ 60) : t.sub [99] = none := by
  refine sub_kid ?_
  cases t with
  | part _ _ _ => exact Nat.zero_le _
  | all f ts =>
    have := len_cnts ts w.2.2
    have h' : cnts ts ≤ 60 := h
    show ts.length ≤ 99
    omega
  | rank r ts =>
    have := len_cnts ts w.2.2.2.2
    have h' : cnts ts ≤ 60 := h
    show ts.length ≤ 99
    omega
end Tm
section
variable {m : Md} {N : List Str} {sc : Scope} {k : Nat} {X : Cx} {H : Hp} {Q : VK} {pins : List (Addr × Obj)} {σ : L2.St} {s : Shared}
/-- lists of one thing, the same one -/
theorem eq_ones {A0 : Around} {a b : Addr} {x : V} {d : PyData} (I : Inv X pins σ H s) (ha : H a = some (.lst [x])) (hb : H b = some (.lst [x])) (o : Ob X.K Any H x d) (ne : a ≠ b) (hu : A0.units + 1 < cLine) : SeqAt.EqAt A0 s (.ref a) (.ref b) true := by
  obtain ⟨its, rv, pl, _⟩ := I.list (SqL.of (K := X.K) ha)
  obtain ⟨its2, rv2, pl2, _⟩ := I.list (SqL.of (K := X.K) hb)
  cases rv with | @cons _ w1 _ _ r1 rv =>
  cases rv
  cases rv2 with | @cons _ w2 _ _ r2 rv2 =>
  cases rv2
  have key := SeqAt.RcAt.lists (A := A0) (e := fun _ => true) pl.isList pl2.isList rfl (by omega) (fun j h1 h2 => by
    have hj : j = 0 := by simp at h1; omega
    subst hj
    exact same_eq I o r1 r2 (by show A0.units + 1 < cLine; omega))
  exact SeqAt.EqAt.of_refs ne (by simpa using key)
/-- [z, x] != [z, y], x and y equal -/
theorem g_neTwo (h : At m N sc k X) {a b : Addr} {z : Str} {x y : V} (hz : z.length ≤ sizeLine) (ha : H a = some (.lst [.str z, x])) (hb : H b = some (.lst [.str z, y])) (eq : ∀ (pins : List (Addr × Obj)) (s : Shared) (σ : L2.St) (u1 u2 : Value), Inv X pins σ H s → L2.RelV x u1 → L2.RelV y u2 → SeqAt.EqAt X.A.in1 s u1 u2 true) (q : Q (.bl false) H) : gOp X (compareOp .NotEq) (.ref a) (.ref b) H Q := fun pins s σ v u I r rz => by
  cases r
  cases rz
  have hu := h.hu
  obtain ⟨its, rv, pl, _⟩ := I.list (SqL.of (K := X.K) ha)
  obtain ⟨its2, rv2, pl2, _⟩ := I.list (SqL.of (K := X.K) hb)
  cases rv with | @cons _ w1 _ _ r1 rv =>
  cases rv with | @cons _ w3 _ _ r3 rv =>
  cases rv
  cases rv2 with | @cons _ w2 _ _ r2 rv2 =>
  cases rv2 with | @cons _ w4 _ _ r4 rv2 =>
  cases rv2
  have key := SeqAt.RcNeAt.lists (A := X.A) (e := fun _ => true) pl.isList pl2.isList rfl (by omega) (fun j h1 h2 => by
    have hj : j = 0 ∨ j = 1 := by simp at h1; omega
    rcases hj with e | e
    · subst e
      exact same_eq I (Ob.str (A := Any) z hz) r1 r2 (by show X.A.units + 1 < cLine; omega)
    · subst e
      exact eq pins s σ _ _ I r3 r4)
  exact key X.prog X.w X.xe _ ⟨.bl false, H, I, rfl, q⟩
end
/-- what is refused is an object -/
theorem NoSub.ob {K : PySem.W.Frag} {H : Hp} {v : V} {t : Tm} (h : NoSub K H v t) : ∃ d, Ob K Any H v d := by
  rcases h with ⟨js, ⟨b, rfl, hb, _⟩, _⟩ | ⟨d, o, _⟩
  · exact ⟨_, ob_pth hb⟩
  · exact ⟨d, o⟩
/-- a lot of one thing that is refused -/
theorem NoSub.lot {K : PySem.W.Frag} {H : Hp} {v : V} {t : Tm} {l : Addr} (hl : H l = some (.lst [v])) (h : NoSub K H v t) : NoLots K H (.ref l) t := by
  rcases h with ⟨js, gp, e⟩ | bp
  · exact noLots_good (gs := [js]) (SqL.of hl) (by simp) (.cons gp .nil) (lotB_none e)
  · exact noLots_one (bs := []) (gs := []) (SqL.of hl) (by simp) .nil bp
theorem NoLots.same {X : Cx} {H : Hp} {v : V} {t : Tm} {pins : List (Addr × Obj)} {σ : L2.St} {s : Shared} {A0 : Around} {u u' : Value} (I : Inv X pins σ H s) (h : NoLots X.K H v t) (r : L2.RelV v u) (r' : L2.RelV v u') (hu : A0.units < cLine) : SeqAt.EqAt A0 s u u' true := by
  rcases h with ⟨d, o, _⟩ | ⟨es, ⟨l, xs, rfl, _⟩, _⟩
  · exact same_eq I o r r' hu
  · cases r
    cases r'
    exact SeqAt.EqAt.same _
theorem s_mono {X : Cx} {st : Stmt} {σ : L2.St} {H : Hp} {nx nx' : L2.St → Hp → Prop} {rt : VK} {bk ct : L2.St → Hp → Prop} (h : wS X st ⟨nx', rt, bk, ct⟩ σ H) (k : ∀ σ H, nx' σ H → nx σ H) : wS X st ⟨nx, rt, bk, ct⟩ σ H := by
  unfold wS at h ⊢
  refine fun pins s I => thn (h pins s I) fun f s1 z => ?_
  cases f with
  | next => obtain ⟨σ', H', I', q⟩ := z; exact ⟨σ', H', I', k _ _ q⟩
  | brk => exact z
  | cont => exact z
  | ret u => exact z
mutual
theorem Ob.da {K : PySem.W.Frag} {A : Addr → Prop} {H : Hp} : ∀ (d : PyData) (v : V), Ob K A H v d → d.hasDict = false → Da K A H v d
  | .none, _, h, _ => by cases h; exact .non
  | .bool b, _, h, _ => by cases h; exact .bl b
  | .int i, _, h, _ => by cases h; exact .int i
  | .str x, _, h, _ => by cases h; exact .str x
  | .list ds, _, h, n => by cases h with | lst a s r _ => exact .lst a s (ObAll.da ds _ r n)
  | .tuple ds, _, h, n => by cases h with | tup s r => exact .tup s (ObAll.da ds _ r n)
  | .dict _, _, _, n => by cases n
theorem ObAll.da {K : PySem.W.Frag} {A : Addr → Prop} {H : Hp} : ∀ (ds : List PyData) (vs : List V), ObAll K A H vs ds → PyData.hasDictAll ds = false → DaAll K A H vs ds
  | [], _, h, _ => by cases h; exact .nil
  | d :: ds, _, h, n => by
    have n' : (d.hasDict || PyData.hasDictAll ds) = false := n
    rw [Bool.or_eq_false_iff] at n'
    cases h with | cons a b => exact .cons (Ob.da d _ a n'.1) (ObAll.da ds _ b n'.2)
end
/-- a display that is a term -/
theorem w_litT {m : Md} {N : List Str} {sc : Scope} {k : Nat} {X : Cx} {e : Expr} {σ : L2.St} {H : Hp} {Q : VK} (h : At m N sc k X) (t : Tm) (q : ∀ v H', Grow m.T H H' → Da m.K (New H) H' v t.py → Q v H') (hl : lit [] e = some t.py := by rfl) : wE X e σ H Q := by
  refine w_lit (m := m) (A := fun _ => False) (H0 := H) (env := []) (X := X) (σ := σ) (fun x d pos hx => by cases hx) e t.py H Q hl GrowX.refl fun v H' g o => q v H' g ?_
  exact Ob.da _ _ (ob_sub o fun a z => z.elim (fun w => w.elim) fun w => w.1) (Tm.no_dict t)
/-- a list that is there and is not the purse -/
def Lv (H : Hp) (p a : Addr) : Prop := a ≠ p ∧ H a ≠ none
theorem lv_grow {T : List (Addr × Str)} {S : Addr → Prop} {K : PySem.W.Frag} {H H' : Hp} {p : Addr} {v : V} {d : PyData} (g : GrowX T S H H') (hS : ∀ a, S a → a = p) (h : Da K (Lv H p) H v d) : Da K (Lv H' p) H' v d :=
  (g.da h fun a z s => z.1 (hS a s)).sub fun a z => ⟨z.1, fun e => z.2 (g.keep _ e)⟩
theorem s_par3 {m : Md} {N : List Str} {sc : Scope} {k i j l k1 k2 : Nat} {X : Cx} {a b c : Expr} {σ : L2.St} {H : Hp} {nx : L2.St → Hp → Prop} {rt : VK} {bk ct : L2.St → Hp → Prop} {pos p1 p2 p3 p4 p5 : Pos} {x y z : Str} (h : At m N sc k X) (n1 : NL N sc i x) (n2 : NL N sc j y) (n3 : NL N sc l z) (q : wA X [a, b, c] σ H fun vs H1 => ∃ u v w, vs = [u, v, w] ∧ nx (((σ.set i (some u)).set j (some v)).set l (some w)) H1) (hij : i ≠ j := by decide) (hil : i ≠ l := by decide) (hjl : j ≠ l := by decide)
    (hw : ∀ env : Env, swappedStores [.Tuple [.Name x p1, .Name y p2, .Name z p3] k1 p4] (.Tuple [a, b, c] k2 p5) { env with scope := sc } = pure (some [x, y, z]) := by with_unfolding_all (intro _; rfl))
    (hs : swapsWithSole [.Tuple [.Name x p1, .Name y p2, .Name z p3] k1 p4] (.Tuple [a, b, c] k2 p5) pos.line X.env = pure false := by with_unfolding_all rfl) : wS X (.Assign [.Tuple [.Name x p1, .Name y p2, .Name z p3] k1 p4] (.Tuple [a, b, c] k2 p5) pos) ⟨nx, rt, bk, ct⟩ σ H :=
  toS (ps_par3 h.calm (by rw [h.nn]; exact h.nd) (by rw [h.nn]; exact n1.ix) (by rw [h.nn]; exact n2.ix) (by rw [h.nn]; exact n3.ix) hij hil hjl (by rw [h.ss]; exact n1.loc) (by rw [h.ss]; exact n2.loc) (by rw [h.ss]; exact n3.loc) cA (by have := hw X.env; rw [env_sc h.ss] at this; exact this) hs) q

/-- what stays while the purse is drawn from -/
structure Kp (m : Md) (C p i u : Addr) (v : V) (t : Tm) (us : List V) (H : Hp) : Prop where
  ri : RuleAt m C (· ≠ p) H i t
  dv : Da m.K (Lv H p) H v t.py
  hu : H u = some (.lst us)
  du : Paired (PtA m.K H) us (t.ptN [])
theorem Kp.grow {m : Md} {C p i u : Addr} {v : V} {t : Tm} {us : List V} {S : Addr → Prop} {H H' : Hp} (k : Kp m C p i u v t us H) (g : GrowX m.T S H H') (hS : ∀ a, S a → a = p) (hip : i ≠ p) (hup : u ≠ p) : Kp m C p i u v t us H' :=
  ⟨k.ri.grow (T := m.T) g (fun a z s => z (hS a s)) (fun s => hip (hS i s)), lv_grow g hS k.dv, g.ext _ _ (fun s => hup (hS u s)) k.hu (fun _ z => by cases z), Paired.imp k.du fun x e ⟨T, b, w, e1, e2, e3, e4⟩ => ⟨T, b, w, e1, GrowX.seqT g e2, g.tup _ _ e3, g.da e4 fun _ z => z.elim⟩⟩
namespace Tm
mutual
theorem thin_nil : ∀ (t : Tm) (js : List Nat), t.wf → thin [] js t = some t
  | .part n z w, js, _ => by rw [thin, if_neg (by simp)]
  | .all f ts, js, w => by
    rw [thin, thins_nil ts js 0 w.2.2]
    cases ts with
    | nil => exact absurd rfl w.1
    | cons _ _ => rfl
  | .rank r ts, js, w => by
    rw [thin, thins_nil ts js 0 w.2.2.2.2]
    cases ts with
    | nil => exact absurd rfl w.1
    | cons a as =>
      have z := w.2.2.2.1
      show some (Tm.rank (min r ((a :: as).length : Int)) (a :: as)) = _
      rw [Int.min_eq_left z]
theorem thins_nil : ∀ (ts : List Tm) (js : List Nat) (i : Nat), wfs ts → thins [] js i ts = ts
  | [], _, _, _ => rfl
  | t :: ts, js, i, w => by
    rw [thins, thin_nil t _ w.1, thins_nil ts js (i + 1) w.2]
    rfl
end
end Tm
theorem goods_da {K : PySem.W.Frag} {A : Addr → Prop} {H : Hp} {vs : List V} {gs : List (List Nat)} (h : Paired (GoodP H) vs gs) : DaAll K A H vs (gs.map pthD) := by
  induction h with
  | nil => exact .nil
  | @cons x g _ _ h _ ih =>
    obtain ⟨b, rfl, hb, lx⟩ := h
    refine .cons (.tup (SqT.of hb) ?_) ih
    clear hb lx
    induction g with
    | nil => exact .nil
    | cons j js ih2 => exact .cons (.int _) ih2
theorem Paired.perm {α β : Type} {F : α → β → Prop} {as as' : List α} (p : as'.Perm as) : ∀ {bs : List β}, Paired F as bs → ∃ bs', bs'.Perm bs ∧ Paired F as' bs' := by
  induction p with
  | nil => intro bs h; cases h; exact ⟨[], .refl _, .nil⟩
  | cons x _ ih =>
    intro bs h
    cases h with
    | cons h1 h2 =>
      obtain ⟨bs', q1, q2⟩ := ih h2
      exact ⟨_ :: bs', q1.cons _, .cons h1 q2⟩
  | swap x y l =>
    intro bs h
    cases h with
    | cons h1 h2 =>
      cases h2 with
      | cons h3 h4 => exact ⟨_ :: _ :: _, .swap _ _ _, .cons h3 (.cons h1 h4)⟩
  | trans _ _ ih1 ih2 =>
    intro bs h
    obtain ⟨b1, q1, q2⟩ := ih2 h
    obtain ⟨b2, q3, q4⟩ := ih1 q2
    exact ⟨b2, q3.trans q1, q4⟩
def sp_right (m : Md) : Sp := fun vs H Q _ => ∃ (p : Addr), vs = [.ref p] ∧ Purse H p 0 ∧ Tabs m.T H ∧ ∀ H', Drew m p 0 100000 H H' → Q (.bl true) H'
theorem c_right {m : Md} {C CT CP CW f : Addr} {fd : FuncData} (F : C8.Def m.K m.mg "_law_right" st_right f fd) (b : L2.Binds m.K fd ps_right []) (R : RuleC m C) (E2 : RuleE m C)
    (D : Cal m 2 "_law_draw" (sp_draw m)) (Nm : Cal m 4 "_law_names" (sp_names m)) (Oo : Cal m 3 "_law_one_of" (sp_one_of m)) (Tr : Cal m 14 "_law_term" (sp_term m 8)) (Mk : MakX m (L2.CX m.P m.w) 44 "Rule" C (sp_rinit m C CT 40) []) (Me : MetX m C8.CX0 44 C "term" (sp_rterm m C 40) []) (mE : MetX m C8.CX0 1 C "__eq__" (sp_req m C) []) (hrepr : m.mg "repr" = none)
    (hlen : m.mg "len" = none) (hlist : m.mg "list" = none) (St2 : Cal m 2 "_law_odd_paths" (sp_odd_paths m)) (Ol : Cal m 1 "_law_odd_lots" (sp_odd_lots m)) (Ca : Cal m 48 "_law_caught" (sp_caught m C 40)) (Lo : CalX m (L2.CX m.P m.w) 47 "left_out" (sp_left_out m C CP 40) []) (Le : Cal m 17 "_law_less" (sp_less m 16)) (Sh : Cal m 3 "_law_shuffled" (sp_shuffled m)) (Wk : Cal m 17 "_law_walk" (sp_walk m 16)) (Wa : Cal m 4 "_law_wait" (sp_wait m)) (Ps : Cal m 45 "parts" (sp_parts m C 40)) (An : Cal m 17 "_law_anew" (sp_anew m 16)) (Wt : CalX m (L2.CX m.P m.w) 47 "waited" (sp_waited m C CP CW 40) []) : Cal m 92 "_law_right" (sp_right m) := by
  refine cal_ofM F b sc_right (fun vs H Q E h => by obtain ⟨_, rfl, _⟩ := h; rfl) fun X vs H Q E hA hM h => ?_
  obtain ⟨p, rfl, hp, hT, k⟩ := h
  replace hA : At m nl_right (C8.fnScope st_right) 91 X := hA
  obtain ⟨n1, n2, n3, n4, n5, n6, n7, n8, n9, n10, n11, n0⟩ := nv_right
  have new_ne : ∀ {H' : Hp} {n' : Nat} {a : Addr}, Purse H' p n' → New H' a → a ≠ p := fun {H' n' a} hp' z w => by obtain ⟨_, e⟩ := hp'.at_; rw [← w, show H' a = none from z] at e; cases e
  walk_at "B"
  walk_at "V"
  refine w_call hA Nm (by omega) rfl ?_
  walk_at "V"
  refine ⟨p, 0, 3, rfl, hp, by omega, by omega, fun l zs H1 nm zl d1 nl1 hl1 => ?_⟩
  have hlp : l ≠ p := new_ne hp nl1
  walk_at "B"
  walk_at "V"
  refine w_call hA Tr (by omega) rfl ?_
  walk_at "V"
  refine w_sliceTo hA ?_
  walk_at "V"
  refine w_call hA D (by omega) rfl ?_
  walk_at "V"
  refine ⟨p, _, _, rfl, d1.purse, by omega, by omega, by omega, fun r1 H2 q1 q2 d2 => ?_⟩
  have hl2 := d2.grow.ext _ _ hlp hl1 (fun _ w => by cases w)
  walk_at "V"
  refine ⟨l, _, rfl, SqL.of hl2, fun l2 hl2n => ?_⟩
  have e4 : (r1 : Int) = (r1.toNat : Nat) := by omega
  rw [e4, cut_to (by omega), ← List.map_take]
  generalize r1.toNat = c4
  have gl2 := Grow.new (T := m.T) (o := .lst ((zs.take c4).map V.str)) hl2n
  have d12 := (d1.trans d2).post gl2
  have hl2p : l2 ≠ p := new_ne (d1.trans d2).purse hl2n
  have hl12 := gl2.extN _ _ hl2 (fun _ w => by cases w)
  have hl22 := upd_same (H := H2) (a := l2) (o := .lst ((zs.take c4).map V.str))
  generalize upd H2 l2 (.lst ((zs.take c4).map V.str)) = H2b at gl2 d12 hl12 hl22 ⊢
  have hzs : ∀ z ∈ zs, IsName z := nm.isn
  have hns : ∀ z ∈ zs.take c4, IsName z := fun z hz => nm.isn z (List.mem_of_mem_take hz)
  walk_at "V"
  refine w_call hA D (by omega) rfl ?_
  walk_at "V"
  refine ⟨p, _, _, rfl, d12.purse, by omega, by omega, by omega, fun r2 H3 q3 q4 d3 => ?_⟩
  walk_at "V"
  have D4 := d12.trans d3
  obtain ⟨c, hcc⟩ : ∃ c : Nat, 1 + r2 = c := ⟨(1 + r2).toNat, by omega⟩
  rw [hcc]
  have keepL : ∀ {j : Nat} {H' : Hp}, Drew m p (0 + (160 + 8)) j H2b H' → H' l = some (.lst (zs.map V.str)) ∧ H' l2 = some (.lst ((zs.take c4).map V.str)) := fun {j H'} d => ⟨d.grow.ext _ _ hlp hl12 (fun _ w => by cases w), d.grow.ext _ _ hl2p hl22 (fun _ w => by cases w)⟩
  obtain ⟨l4, l24⟩ := keepL d3
  refine ⟨p, _, l, l2, zs, zs.take c4, c, _, rfl, by omega, by omega, by omega, D4.purse, by omega, SqL.of l4, SqL.of l24, hlp, hl2p, by omega, by omega, by rw [List.length_take]; omega, hns, fun v t H5 tok ts tc da d5 => ?_⟩
  have D5 : Drew m p 0 5000 H H5 := (D4.trans d5).mono (by omega)
  have hl5 := d5.grow.ext _ _ hlp l4 (fun _ w => by cases w)
  have hdl := Tm.dep_le t
  have gd : Tm.Gd 15 t := ⟨Tm.ok_wf t tok (by omega), Tm.ok_nms hzs hns t tok, by omega⟩
  have dap : Da m.K (Lv H5 p) H5 v t.py := da.sub fun a z => ⟨new_ne D4.purse z.1, z.2⟩
  have hc : t.cnt ≤ 60 := by omega
  have tsub : ∀ js pp, t.sub js = some pp → pp.ok 200000000000 zs (zs.take c4) := fun js pp e => Tm.sub_ok e tok
  clear d1 d2 d12 d3 d5 D4 hl1 hl2 gl2 hl12 hl22 keepL
  refine b_cons (s_mono (nx' := fun σ' H' => ∃ (v' : V) (t' : Tm), σ' = [some (.ref p), some (.ref l), some v', none, none, none, none, none, none, none, none, none] ∧ Da m.K (Lv H' p) H' v' t'.py ∧ Tm.Gd 16 t' ∧ t'.cnt ≤ 60 ∧ (∀ js pp, t'.sub js = some pp → pp.ok 200000000000 zs (zs.take c4)) ∧ Drew m p 0 5100 H H') ?_ fun σ' H6 ⟨v', t', es, dap', gd', hc', tsub', D6⟩ => ?_)
  · walk_at "V"
    refine w_call hA D (by omega) rfl ?_
    walk_at "V"
    refine ⟨p, _, _, rfl, D5.purse, by omega, by omega, by omega, fun r4 H6 q7 q8 d6 => ?_⟩
    have D6 := D5.trans d6
    have dap6 := lv_grow d6.grow (fun _ z => z) dap
    walk_at "V"
    refine ite2 (fun _ => ?_) fun _ => ?_
    · walk_at "V"
      refine w_call hA Oo (by omega) rfl ?_
      walk_at "V"
      refine ⟨by walk_at "S", fun a1 ha1 => ?_⟩
      have g1 := Grow.new (T := m.T) (o := .lst [v]) ha1
      have a1p := new_ne D6.purse ha1
      have h11 := upd_same (H := H6) (a := a1) (o := .lst [v])
      have dv1 := lv_grow g1 (fun _ z => z.elim) dap6
      have D7 := D6.post g1
      generalize upd H6 a1 (.lst [v]) = H7 at g1 h11 dv1 D7 ⊢
      walk_at "V"
      refine ⟨by walk_at "S", fun b1 hb1 => ?_⟩
      have g2 := Grow.new (T := m.T) (o := .tup [.str ("first" : Str), .ref a1]) hb1
      have x1 : Da m.K (Lv (upd H7 b1 (.tup [.str ("first" : Str), .ref a1])) p) (upd H7 b1 (.tup [.str ("first" : Str), .ref a1])) (.ref b1) (Tm.all true [t]).py := .tup (SqT.of upd_same) (.cons (.str _) (.cons (.lst ⟨a1p, by rw [Grow.extN g2 _ _ h11 (fun _ w => by cases w)]; simp⟩ (SqL.of (Grow.extN g2 _ _ h11 (fun _ w => by cases w))) (.cons (lv_grow g2 (fun _ z => z.elim) dv1) .nil)) .nil))
      have dv2 := lv_grow g2 (fun _ z => z.elim) dv1
      have D8 := D7.post g2
      generalize upd H7 b1 (.tup [.str ("first" : Str), .ref a1]) = H8 at g2 x1 dv2 D8 ⊢
      walk_at "V"
      refine ⟨by walk_at "S", fun a2 ha2 => ?_⟩
      have g3 := Grow.new (T := m.T) (o := .lst [v]) ha2
      have a2p := new_ne D8.purse ha2
      have h22 := upd_same (H := H8) (a := a2) (o := .lst [v])
      have dv3 := lv_grow g3 (fun _ z => z.elim) dv2
      have x1 := lv_grow g3 (fun _ z => z.elim) x1
      have D9 := D8.post g3
      generalize upd H8 a2 (.lst [v]) = H9 at g3 h22 dv3 x1 D9 ⊢
      walk_at "V"
      refine ⟨by walk_at "S", fun b2 hb2 => ?_⟩
      have g4 := Grow.new (T := m.T) (o := .tup [.str ("last" : Str), .ref a2]) hb2
      have x2 : Da m.K (Lv (upd H9 b2 (.tup [.str ("last" : Str), .ref a2])) p) (upd H9 b2 (.tup [.str ("last" : Str), .ref a2])) (.ref b2) (Tm.all false [t]).py := .tup (SqT.of upd_same) (.cons (.str _) (.cons (.lst ⟨a2p, by rw [Grow.extN g4 _ _ h22 (fun _ w => by cases w)]; simp⟩ (SqL.of (Grow.extN g4 _ _ h22 (fun _ w => by cases w))) (.cons (lv_grow g4 (fun _ z => z.elim) dv3) .nil)) .nil))
      have x1 := lv_grow g4 (fun _ z => z.elim) x1
      have dv4 := lv_grow g4 (fun _ z => z.elim) dv3
      have D10 := D9.post g4
      generalize upd H9 b2 (.tup [.str ("last" : Str), .ref a2]) = H10 at g4 x1 x2 dv4 D10 ⊢
      walk_at "V"
      refine ⟨by walk_at "S", fun a3 ha3 => ?_⟩
      have g5 := Grow.new (T := m.T) (o := .lst [v]) ha3
      have a3p := new_ne D10.purse ha3
      have h33 := upd_same (H := H10) (a := a3) (o := .lst [v])
      have dv5 := lv_grow g5 (fun _ z => z.elim) dv4
      have x1 := lv_grow g5 (fun _ z => z.elim) x1
      have x2 := lv_grow g5 (fun _ z => z.elim) x2
      have D11 := D10.post g5
      generalize upd H10 a3 (.lst [v]) = H11 at g5 h33 dv5 x1 x2 D11 ⊢
      walk_at "V"
      refine ⟨by walk_at "S", fun b3 hb3 => ?_⟩
      have g6 := Grow.new (T := m.T) (o := .tup [.str ("rank" : Str), .int 1, .ref a3]) hb3
      have x3 : Da m.K (Lv (upd H11 b3 (.tup [.str ("rank" : Str), .int 1, .ref a3])) p) (upd H11 b3 (.tup [.str ("rank" : Str), .int 1, .ref a3])) (.ref b3) (Tm.rank 1 [t]).py := .tup (SqT.of upd_same) (.cons (.str _) (.cons (.int _) (.cons (.lst ⟨a3p, by rw [Grow.extN g6 _ _ h33 (fun _ w => by cases w)]; simp⟩ (SqL.of (Grow.extN g6 _ _ h33 (fun _ w => by cases w))) (.cons (lv_grow g6 (fun _ z => z.elim) dv5) .nil)) .nil)))
      have x1 := lv_grow g6 (fun _ z => z.elim) x1
      have x2 := lv_grow g6 (fun _ z => z.elim) x2
      have D12 := D11.post g6
      generalize upd H11 b3 (.tup [.str ("rank" : Str), .int 1, .ref a3]) = H12 at g6 x1 x2 x3 D12 ⊢
      walk_at "V"
      refine ⟨by walk_at "S", fun lo hlo => ?_⟩
      have g7 := Grow.new (T := m.T) (o := .lst [.ref b1, .ref b2, .ref b3]) hlo
      have lop := new_ne D12.purse hlo
      walk_at "V"
      refine ⟨p, _, lo, _, rfl, (D12.post g7).purse, by omega, SqL.of upd_same, lop, by simp, by simp, fun j w H13 hj d13 => ?_⟩
      have x1 := lv_grow d13.grow (fun _ z => z) (lv_grow g7 (fun _ z => z.elim) x1)
      have x2 := lv_grow d13.grow (fun _ z => z) (lv_grow g7 (fun _ z => z.elim) x2)
      have x3 := lv_grow d13.grow (fun _ z => z) (lv_grow g7 (fun _ z => z.elim) x3)
      have D13 : Drew m p 0 5100 H H13 := ((D12.post g7).trans d13).mono (by omega)
      have one : ∀ u ∈ [t], Tm.Gd 15 u := fun u hu => by rw [List.mem_singleton.1 hu]; exact gd
      have sb1 : ∀ (t' : Tm), t'.kids = [t] → t'.isPart = false → ∀ js pp, t'.sub js = some pp → pp.ok 200000000000 zs (zs.take c4) := fun t' hk hi js pp e => by
        cases js with
        | nil => rw [Tm.sub, hi] at e; cases e
        | cons i js =>
          rw [Tm.sub, hk] at e
          obtain ⟨tk, h1, h2⟩ := Option.bind_eq_some_iff.1 e
          have := List.mem_of_getElem? h1
          rw [List.mem_singleton.1 this] at h2
          exact tsub js pp h2
      have cn1 : Tm.cnts [t] = t.cnt := by simp [Tm.cnts]
      walk_at "V"
      match j, hj with
      | 0, h => cases h; exact ⟨_, _, rfl, x1, Tm.Gd.all one (by simp) (by simp), by show Tm.cnts [t] ≤ 60; omega, sb1 _ rfl rfl, D13⟩
      | 1, h => cases h; exact ⟨_, _, rfl, x2, Tm.Gd.all one (by simp) (by simp), by show Tm.cnts [t] ≤ 60; omega, sb1 _ rfl rfl, D13⟩
      | 2, h => cases h; exact ⟨_, _, rfl, x3, Tm.Gd.rank one (by simp) (by simp) (by decide) (by simp), by show Tm.cnts [t] ≤ 60; omega, sb1 _ rfl rfl, D13⟩
    · exact b_nil ⟨_, _, rfl, dap6, gd.up (by omega), hc, tsub, D6.mono (by omega)⟩
  subst es
  have hT6 := D6.grow.tab hT
  have hdp := gd'.dep
  walk_at "B"
  refine s_par3 hA n3 n4 n5 (w_cons (w_rule hA Mk (by omega) rfl ?_))
  walk_at "V"
  refine ⟨t', 16, dap'.sub fun _ _ => trivial, gd', by omega, hT6, fun i H7 g7 ni ra => ?_⟩
  have hip := new_ne D6.purse ni
  have r7 : RuleAt m C (· ≠ p) H7 i t' := ra.sub fun a z => new_ne D6.purse z
  have D7 := D6.post g7
  have dap7 := lv_grow g7 (fun _ z => z.elim) dap'
  refine w_cons (w_call hA Wk (by omega) rfl ?_)
  walk_at "V"
  refine ⟨by walk_at "S", fun pe hpe => ?_⟩
  have ge := Grow.new (T := m.T) (o := .tup []) hpe
  walk_at "V"
  refine ⟨v', pe, t', [], rfl, Grow.da ge (dap7.sub fun _ _ => trivial), by omega, gd'.wf, by omega, upd_same, by show 0 + 16 ≤ 1000; omega, fun u us H8 g8 nu hu du => ?_⟩
  have D8 := (D7.post ge).post g8
  have hup := new_ne (D7.post ge).purse nu
  have kp8 : Kp m C p i u v' t' us H8 := ⟨r7.grow (T := m.T) (ge.trans g8) (fun _ _ z => z.elim) (fun z => z.elim), lv_grow (ge.trans g8) (fun _ z => z.elim) dap7, hu, du⟩
  refine w_cons (w_call hA Wa (by omega) rfl ?_)
  walk_at "V"
  refine ⟨p, _, rfl, D8.purse, by omega, fun wt H9 w1 w2 d9 => ?_⟩
  have kp9 := kp8.grow d9.grow (fun _ z => z) hip hup
  have D9 := D8.trans d9
  refine w_nil ⟨_, _, _, rfl, ?_⟩
  have kp := kp9
  have D10 : Drew m p 0 6000 H _ := D9.mono (by omega)
  clear kp8 kp9 D9 d9 g8 hu du D8 ge dap7 D7 r7 ra g7 hpe nu ni D6 hT6 dap'
  have plen : ∀ e ∈ t'.ptN [], e.1.length ≤ 16 := fun e he => by
    have z := sub_len (Tm.pt_iff.1 (show (e.1, e.2) ∈ t'.ptN [] from he))
    omega
  have pfit := pds_fits hzs hns (by decide) (t'.ptN []) (fun e he => ⟨⟨by have := plen e he; omega, Tm.sub_small (n := 0) (Tm.pt_iff.1 (show (e.1, e.2) ∈ t'.ptN [] from he)) gd'.wf⟩, tsub' _ _ (Tm.pt_iff.1 (show (e.1, e.2) ∈ t'.ptN [] from he)), (Tm.sub_vp (Tm.pt_iff.1 (show (e.1, e.2) ∈ t'.ptN [] from he))).2⟩) (by rw [Tm.ptN_len]; omega)
  obtain ⟨f1, f2, f3, f4⟩ := pfit
  -- repr(parts(rule)) != repr(walk_here)
  walk_at "B"
  walk_at "V"
  refine g_blt hA hrepr rfl bt_repr ?_
  refine w_cons (w_call hA Ps (by omega) rfl ?_)
  walk_at "V"
  refine ⟨i, t', rfl, kp.ri.any, D10.grow.tab hT, by omega, gd'.wf, by omega, fun u2 us2 Hb gb nu2 hu2 du2 => ?_⟩
  have kp := kp.grow gb (fun _ z => z.elim) hip hup
  have D11 := D10.post gb
  walk_at "V"
  refine g_repr hA (Da.dp _ _ (Da.lst (A := Any) trivial (SqL.of hu2) (pt_da du2))) f1 f2 f3 ?_
  walk_at "V"
  refine g_blt hA hrepr rfl bt_repr ?_
  walk_at "V"
  refine g_repr hA (Da.dp _ _ (Da.lst (A := Any) trivial (SqL.of kp.hu) (pt_da kp.du))) f1 f2 f3 ?_
  walk_at "V"
  rw [if_neg (by simp)]
  refine b_nil ?_
  -- parts(rule).append(None)
  refine b_cons (s_expr (g_append ?_))
  refine w_call hA Ps (by omega) rfl ?_
  walk_at "V"
  refine ⟨i, t', rfl, kp.ri.any, D11.grow.tab hT, by omega, gd'.wf, by omega, fun u3 us3 Hc gc nu3 hu3 du3 => ?_⟩
  refine ⟨tyL hu3, ?_⟩
  walk_at "V"
  have l3 := paired_len du3
  rw [Tm.ptN_len] at l3
  refine ⟨u3, us3, .non, rfl, rfl, hu3, by rw [sizeLine_eq]; omega, ?_⟩
  have gd := Grow.intoNew gc (GrowX.lst (T := m.T) (ys := us3 ++ [.non]) hu3) (fun c z => by rw [z]; exact nu3)
  have kp := kp.grow gd (fun _ z => z.elim) hip hup
  have D12 := D11.post gd
  generalize upd Hc u3 (.lst (us3 ++ [.non])) = Hd at kp D12 gd ⊢
  -- parts(rule) != walk_here
  walk_at "B"
  walk_at "V"
  refine w_call hA Ps (by omega) rfl ?_
  walk_at "V"
  refine ⟨i, t', rfl, kp.ri.any, D12.grow.tab hT, by omega, gd'.wf, by omega, fun u4 us4 He ge nu4 hu4 du4 => ?_⟩
  have kp := kp.grow ge (fun _ z => z.elim) hip hup
  have D13 := D12.post ge
  walk_at "V"
  refine g_neD hA (Da.dp _ _ (Da.lst (A := Any) trivial (SqL.of hu4) (pt_da du4))) (Da.dp _ _ (Da.lst (A := Any) trivial (SqL.of kp.hu) (pt_da kp.du))) f4 f4 ?_
  rw [SeqAt.eqv_refl _ (SeqAt.canLay_of_shaped f4)]
  refine ⟨_, rfl, iteF (b_nil ?_)⟩
  have hus : us.length = t'.cnt := by rw [paired_len kp.du, Tm.ptN_len]
  -- for path, part in walk_here
  walk_at "B"
  refine s_forL hA (pg_tup hA.calm (pgs_cons (pg_nl hA n6) (pgs_cons (pg_nl hA n7) pgs_nil (by with_unfolding_all rfl)) (by with_unfolding_all rfl)) (by with_unfolding_all rfl) (by with_unfolding_all rfl)) ?_
  walk_at "V"
  refine ⟨u, us, rfl, SqL.of kp.hu, fun j σ H' => (∃ s6 s7, σ = [some (.ref p), some (.ref l), some v', some (.ref i), some (.ref u), some (.int wt), s6, s7, none, none, none, none]) ∧ Grow m.T He H', ⟨⟨_, _, rfl⟩, GrowX.refl⟩, fun j σ H' _ hq => GrowX.seqL hq.2 (SqL.of kp.hu) fun z => z, ?_, ?_⟩
  · rintro j z σ H' hz ⟨⟨s6, s7, rfl⟩, g⟩
    have kq := kp.grow g (fun _ z => z.elim) hip hup
    obtain ⟨e, he, T, bz, wz, rfl, hTz, hbz, dwz⟩ := paired_mem kq.du z (List.mem_of_getElem? hz)
    refine ⟨T, [.ref bz, wz], rfl, by rw [hA.kk]; exact hTz, rfl, .ref bz, [wz], rfl, wz, [], rfl, rfl, ?_⟩
    have hsub := Tm.pt_iff.1 (show (e.1, e.2) ∈ t'.ptN [] from he)
    have hvp := Tm.sub_vp hsub
    have hgp : GoodP H' (.ref bz) e.1 := ⟨bz, rfl, hbz, by have := plen e he; omega⟩
    obtain ⟨n, zz, w0, ep⟩ : ∃ n zz w0, e.2 = .part n zz w0 := by
      cases h : e.2 with
      | part n z w => exact ⟨n, z, w, rfl⟩
      | all _ _ => rw [h] at hvp; simp [Tm.isPart] at hvp
      | rank _ _ => rw [h] at hvp; simp [Tm.isPart] at hvp
    rw [ep] at hsub dwz
    have hnm : IsName zz := Tm.sub_nms hsub gd'.nms
    have tabq : Tabs m.T H' := g.tab (D13.grow.tab hT)
    walk_at "B"
    walk_at "V"
    refine w_callXA (E := fun _ _ _ => False) hA Wt (by omega) rfl (pass_at hA L2.takes0 fun _ _ _ z => z) ?_
    walk_at "V"
    refine ⟨i, .ref bz, .int wt, t', 16, rfl, kq.ri.any, tabq, gd', by omega, by omega, .inl ⟨e.1, n, zz, w0, wt, hgp, hsub, rfl, fun jx H2 g2 nj rj => ?_⟩⟩
    have kr := kq.grow g2 (fun _ z => z.elim) hip hup
    obtain ⟨ap, rfl, hap⟩ := da_part (Grow.da g2 dwz)
    walk_at "V"
    refine w_rule hA Mk (by omega) rfl ?_
    refine w_call hA An (by omega) rfl ?_
    walk_at "V"
    refine w_sliceToT hA ?_
    walk_at "V"
    refine ⟨ap, _, rfl, hap, by show HT.sIx 3 3 (some 2) ≠ 3; decide, fun q1 hq1 => ?_⟩
    have ecut : cutV [V.str (if n = true then "now" else "of"), .str zz, .int w0] none (some 2) = [V.str (if n = true then "now" else "of"), .str zz] := rfl
    rw [ecut]
    have g3 := Grow.new (T := m.T) (o := .tup [V.str (if n = true then "now" else "of"), .str zz]) hq1
    have hq1s := @upd_same H2 q1 (.tup [V.str (if n = true then "now" else "of"), .str zz])
    walk_at "V"
    refine ⟨by walk_at "S", fun q2 hq2 => ?_⟩
    have g4 := Grow.new (T := m.T) (o := .tup [.int wt]) hq2
    refine g_catT hA (SqT.of (g4.tup _ _ hq1s)) (SqT.of upd_same) (by simp) (by simp) (by rw [sizeLine_eq]; simp) fun q3 hq3 => ?_
    have g5 := Grow.new (T := m.T) (o := .tup ([V.str (if n = true then "now" else "of"), .str zz] ++ [.int wt])) hq3
    have g25 := (g3.trans g4).trans g5
    have ks := kr.grow g25 (fun _ z => z.elim) hip hup
    walk_at "V"
    have tabs5 := GrowX.tab g25 (g2.tab tabq)
    have hbz5 := GrowX.tup (g2.trans g25) _ _ hbz
    have h5 := @upd_same (upd (upd H2 q1 (.tup [V.str (if n = true then "now" else "of"), .str zz])) q2 (.tup [.int wt])) q3 (.tup ([V.str (if n = true then "now" else "of"), .str zz] ++ [.int wt]))
    have rj5 := RuleAt.grow (T := m.T) rj g25 (fun _ _ z => z.elim) (fun z => z.elim)
    refine ⟨v', .ref q3, bz, t', .part n zz wt, e.1, Lv _ p, rfl, fun a z => z.2, ks.dv, by omega, gd'.wf, SqT.of hbz5, hvp.1, .tup (SqT.of h5) (.cons (.str _) (.cons (.str _) (.cons (.int _) .nil))), fun y H6 g6 d6 => ?_⟩
    have gr := Tm.rep_gd (Tm.part_gd (n := n) (w := wt) hnm) (js := e.1) gd'
    refine ⟨Tm.rep (.part n zz wt) e.1 t', 16, d6.sub fun _ _ => trivial, gr, by omega, g6.tab tabs5, fun i2 H7 g7 ni2 ra2 => ?_⟩
    have g67 := g6.trans g7
    have shr := gr.shaped (by omega)
    refine g_neRule hA R E2 mE (by omega) (RuleAt.grow (T := m.T) rj5 g67 (fun _ _ z => z.elim) (fun z => z.elim)).any ra2.any shr shr ?_
    rw [(Tm.eqv_py _ _).2 rfl]
    refine ⟨_, rfl, iteF (b_nil (b_nil ?_))⟩
    exact ⟨⟨_, _, rfl⟩, (((g.trans g2).trans g25).trans g67)⟩
  rintro σ Hf ⟨⟨s6, s7, rfl⟩, gf⟩
  have kp := kp.grow gf (fun _ z => z.elim) hip hup
  have D14 := D13.post gf
  clear D13 D12 D11 D10
  -- gone
  walk_at "B"
  refine s_nl hA n8 (w_sliceTo hA ?_)
  refine w_lcPi hA (by decide +kernel) (i := 6) (j := 7) ⟨rfl, rfl⟩ ⟨rfl, rfl⟩ ?_
  refine w_call hA Sh (by omega) rfl ?_
  walk_at "V"
  refine ⟨p, _, u, us, rfl, D14.purse, by omega, SqL.of kp.hu, hup, by omega, fun rs ys Hg perm dg nrs hrs => ?_⟩
  have kp := kp.grow dg.grow (fun _ z => z) hip hup
  have D15 := D14.trans dg
  have hrp : rs ≠ p := new_ne D14.purse nrs
  obtain ⟨es', pe', dys⟩ := Paired.perm perm kp.du
  have lys : ys.length = t'.cnt := by rw [perm.length_eq]; exact hus
  have les : es'.length = t'.cnt := by rw [pe'.length_eq, Tm.ptN_len]
  refine ⟨rs, ys, rfl, SqL.of hrs, fun Dg hDg => ?_⟩
  have D15b : Drew m p 0 8000 H Hg := D15.mono (by omega)
  have gDg := Grow.new (T := m.T) (o := .lst []) hDg
  have pDg : p ≠ Dg := fun e => by
    obtain ⟨_, z⟩ := D15.purse.at_
    rw [e, hDg] at z; cases z
  refine ⟨fun j H' => Drew m p 8000 (8 * j) Hg H' ∧ ∃ (vals : List V) (gsel : List (List Nat)), H' Dg = some (.lst vals) ∧ vals.length ≤ j ∧ Paired (GoodP H') vals gsel ∧ gsel.Sublist ((es'.take j).map (·.1)), ?_, ?_, ?_, ?_⟩
  · exact ⟨⟨gDg.to, by have z := D15b.purse.new gDg; rw [Nat.zero_add] at z; exact z⟩, [], [], upd_same, Nat.le_refl _, .nil, List.nil_sublist _⟩
  · rintro j H' _ ⟨d, _⟩
    exact SqL.of (d.grow.ext _ _ hrp hrs (fun _ z => by cases z))
  · rintro j z H' hz ⟨d, vals, gsel, hv, lv, gv, sv⟩
    have hj : j < ys.length := (List.getElem?_eq_some_iff.1 hz).1
    have hej : es'[j]? = some es'[j] := List.getElem?_eq_getElem (by omega)
    obtain ⟨z', hz', T, bz, wz, rfl, hTz, hbz, _⟩ := paired_at dys j _ hej
    rw [hz] at hz'
    cases hz'
    have hme : es'[j] ∈ t'.ptN [] := pe'.mem_iff.1 (List.getElem_mem _)
    generalize es'[j] = e at hej hbz hme
    refine ⟨T, _, _, rfl, GrowX.seqT d.grow hTz, fun X' hX' => ?_⟩
    have c0 := nc_of hX' 0 "_law_purse_here"
    have c6 := nl_of hX' 6 "_law_path"
    have et : (es'.take (j + 1)).map (·.1) = (es'.take j).map (·.1) ++ [e.1] := by
      rw [List.take_add_one, hej]
      simp only [Option.toList, List.map_append, List.map_cons, List.map_nil]
    walk_at "V"
    refine w_call hX' D (by omega) rfl ?_
    walk_at "V"
    refine ⟨p, _, _, rfl, d.purse, by omega, by omega, by omega, fun rr H2 _ _ d2 => ?_⟩
    have d3 := (d.trans d2).mono (show 8 * j + 8 ≤ 8 * (j + 1) by omega)
    have hv2 := d2.grow.ext _ _ (fun z => pDg z.symm) hv (fun _ z => by cases z)
    have gv2 := Paired.imp gv fun x y (z : GoodP _ x y) => GoodP.grow d2.grow z
    have hb2 := GrowX.tup d3.grow _ _ hbz
    walk_at "V"
    refine ite2 (fun _ => ?_) fun _ => ?_
    · intro X' hX'
      have c6 := nl_of hX' 6 "_law_path"
      walk_at "V"
      have gX := GrowX.lst (T := m.T) (ys := vals ++ [V.ref bz]) hv2
      refine ⟨vals, hv2, by rw [sizeLine_eq]; omega, ⟨d3.grow.into gX (fun c z => .inl (by rw [z]; exact hDg)), d3.purse.x gX pDg⟩, vals ++ [V.ref bz], gsel ++ [e.1], upd_same, by simp; omega, Paired.app (Paired.imp gv2 fun x y (z : GoodP _ x y) => GoodP.grow gX z) (.cons ⟨bz, rfl, GrowX.tup gX _ _ hb2, by have := plen e hme; omega⟩ .nil), ?_⟩
      rw [et]
      exact sv.append (List.Sublist.refl _)
    · refine ⟨d3, vals, gsel, hv2, by omega, gv2, ?_⟩
      rw [et]
      exact sv.trans (List.sublist_append_left _ _)
  rintro Hh ⟨dh, vals, gsel, hv, lv, gv, sv⟩
  have e9 : es'.take ys.length = es' := by rw [lys, ← les, List.take_length]
  rw [e9] at sv
  have kp := kp.grow dh.grow (fun _ z => z) hip hup
  have D16 := (D15b.trans (by rw [Nat.zero_add]; exact dh)).mono (show 8000 + 8 * ys.length ≤ 9000 by omega)
  have ndp : (es'.map (·.1)).Nodup := (pe'.map (·.1)).nodup_iff.2 (Tm.ptN_nodup t' [])
  clear D15b D15 D14
  walk_at "V"
  refine g_blt hA hlen rfl bt_len ?_
  walk_at "V"
  refine g_lenL hA (SqL.of kp.hu) ?_
  walk_at "V"
  refine ⟨Dg, vals, rfl, SqL.of hv, fun G hG => ?_⟩
  have c0' : 0 < t'.cnt := Tm.cnt_pos t' gd'.wf
  have ec : ((us.length : Nat) : Int) - 1 = ((t'.cnt - 1 : Nat) : Int) := by omega
  rw [ec, cut_to (by omega)]
  have gG := Grow.new (T := m.T) (o := .lst (vals.take (t'.cnt - 1))) hG
  have hGp := new_ne D16.purse hG
  have gp1 : Paired (GoodP (upd Hh G (.lst (vals.take (t'.cnt - 1))))) (vals.take (t'.cnt - 1)) (gsel.take (t'.cnt - 1)) := Paired.imp (Vf.Paired.tk gv _) fun x y (z : GoodP _ x y) => GoodP.grow gG z
  have sg : (gsel.take (t'.cnt - 1)).Sublist (es'.map (·.1)) := (List.take_sublist _ _).trans sv
  have gnd : (gsel.take (t'.cnt - 1)).Nodup := List.Nodup.sublist sg ndp
  have gsub : ∀ g ∈ gsel.take (t'.cnt - 1), (t'.sub g).isSome = true := fun g hg => by
    obtain ⟨e, he, rfl⟩ := List.mem_map.1 (sg.subset hg)
    rw [Tm.pt_iff.1 (show (e.1, e.2) ∈ t'.ptN [] from pe'.mem_iff.1 he)]
    rfl
  have glt : (gsel.take (t'.cnt - 1)).length < t'.cnt := by rw [List.length_take]; omega
  have glB : Tm.lotB t' (gsel.take (t'.cnt - 1)) = true := by
    rw [Tm.lotB, decide_eq_true gnd, decide_eq_true glt, List.all_eq_true.2 gsub]; rfl
  have kp := kp.grow gG (fun _ z => z.elim) hip hup
  have D17 := D16.post gG
  have hG1 := @upd_same Hh G (.lst (vals.take (t'.cnt - 1)))
  have lG : (vals.take (t'.cnt - 1)).length ≤ 60 := by rw [List.length_take]; omega
  generalize vals.take (t'.cnt - 1) = vg at gG gp1 hG1 lG kp D17 ⊢
  generalize gsel.take (t'.cnt - 1) = gs at gp1 gnd gsub glt glB
  generalize upd Hh G (.lst vg) = Hi at gG gp1 hG1 kp D17 ⊢
  clear sg sv gv hv D16 dh
  -- kept, made
  walk_at "B"
  refine s_par hA n9 n10 (w_cons (g_typ hA hlist rfl bt_list ?_))
  walk_at "V"
  refine g_listOf hA (.inl (SqL.of hG1)) fun Kt hKt => ?_
  have gK := Grow.new (T := m.T) (o := .lst vg) hKt
  have hK2 := @upd_same Hi Kt (.lst vg)
  have hG2 := gK.extN _ _ hG1 (fun _ z => by cases z)
  have gp2 := Paired.imp gp1 fun x y (z : GoodP _ x y) => GoodP.grow gK z
  have kp := kp.grow gK (fun _ z => z.elim) hip hup
  have D18 := D17.post gK
  generalize upd Hi Kt (.lst vg) = Hj at gK hK2 hG2 gp2 kp D18 ⊢
  refine w_cons (w_callXA (E := fun _ _ _ => False) hA Lo (by omega) rfl (pass_at hA L2.takes0 fun _ _ _ z => z) ?_)
  walk_at "V"
  refine ⟨i, .ref G, t', 16, rfl, kp.ri.any, D18.grow.tab hT, gd', by omega, by omega, .inl ⟨gs.map some, ⟨G, vg, rfl, SqL.of hG2, lG, goods_lot gp2⟩, by rw [lotOk, (somes_id gs).1, (somes_id gs).2, glB]; rfl, fun jm Hk tm gk njm etm rm => ?_⟩⟩
  rw [(somes_id gs).1] at etm
  refine w_nil ⟨_, _, rfl, ?_⟩
  have kp := kp.grow gk (fun _ z => z.elim) hip hup
  have D19 := D18.post gk
  have gdm := Tm.thin_gd gs t' [] 16 tm etm gd'
  have shm := gdm.shaped (by omega)
  have hK3 := gk.extN _ _ hK2 (fun _ z => by cases z)
  have hG3 := gk.extN _ _ hG2 (fun _ z => by cases z)
  have gp3 := Paired.imp gp2 fun x y (z : GoodP _ x y) => GoodP.grow gk z
  walk_at "B"
  walk_at "V"
  refine w_met0 (E := C8.E0) hA Me (by omega) C8.pass0 ?_
  walk_at "V"
  have rm' := rm
  obtain ⟨dxm, u0m, him, dum⟩ := rm'
  have hdm := gdm.dep
  refine ⟨jm, dxm, _, rfl, him, rfl, jm, tm, rfl, rm.any, D19.grow.tab hT, by omega, gdm.wf, fun v5 Hl gl fr5 => ?_⟩
  have kp := kp.grow gl (fun _ z => z.elim) hip hup
  have D20 := D19.post gl
  have hG4 := gl.extN _ _ hG3 (fun _ z => by cases z)
  have hK4 := gl.extN _ _ hK3 (fun _ z => by cases z)
  have gp4 := Paired.imp gp3 fun x y (z : GoodP _ x y) => GoodP.grow gl z
  walk_at "V"
  refine w_call hA Le (by omega) rfl ?_
  walk_at "V"
  refine ⟨by walk_at "S", fun pe hpe => ?_⟩
  have ge := Grow.new (T := m.T) (o := .tup []) hpe
  walk_at "V"
  have kp := kp.grow ge (fun _ z => z.elim) hip hup
  refine ⟨v', .ref G, pe, t', [], gs, rfl, kp.dv.sub fun _ _ => trivial, gd', upd_same, by show 0 + 16 ≤ 1000; omega, .lst trivial (SqL.of (ge.extN _ _ hG4 (fun _ z => by cases z))) (goods_da (Paired.imp gp4 fun x y (z : GoodP _ x y) => GoodP.grow ge z)), fun ul usl Hm gm nul hul dul => ?_⟩
  rw [etm] at dul
  have gem := ge.trans gm
  have kp := kp.grow gm (fun _ z => z.elim) hip hup
  have D21 := D20.post gem
  have hG5 := Grow.extN gem _ _ hG4 (fun _ z => by cases z)
  have hK5 := Grow.extN gem _ _ hK4 (fun _ z => by cases z)
  have gp5 := Paired.imp gp4 fun x y (z : GoodP _ x y) => GoodP.grow gem z
  obtain ⟨xl, hxl, dxl⟩ : ∃ xl, usl = [xl] ∧ Da m.K Any Hm xl tm.py := by
    have dul' : DaAll m.K (New (upd Hl pe (.tup []))) Hm usl [tm.py] := dul
    cases dul' with
    | cons h1 h2 => cases h2; exact ⟨_, rfl, h1.sub fun _ _ => trivial⟩
  walk_at "V"
  refine g_ixL hA (SqL.of hul) (atI_at (j := 0) (by rw [hxl]; rfl)) ?_
  refine g_neD hA (Da.dp _ _ (Grow.da gem fr5.da)) (Da.dp _ _ dxl) shm shm ?_
  rw [(Tm.eqv_py _ _).2 rfl]
  refine ⟨_, rfl, iteF ?_⟩
  walk_at "V"
  have cl : PyData.canLay0 (.list (gs.map pthD)) = true := SeqAt.canLay_of_shaped (pths_shaped gs)
  refine g_neD hA (d := .list (gs.map pthD)) (e := .list (gs.map pthD)) (Da.dp _ _ (.lst (A := Any) trivial (SqL.of hG5) (goods_da gp5))) (Da.dp _ _ (.lst (A := Any) trivial (SqL.of hK5) (goods_da gp5))) (pths_shaped gs) (pths_shaped gs) ?_
  rw [SeqAt.eqv_refl _ cl]
  refine ⟨_, rfl, iteF ?_⟩
  walk_at "V"
  refine w_callXA (E := fun _ _ _ => False) hA Lo (by omega) rfl (pass_at hA L2.takes0 fun _ _ _ z => z) ?_
  walk_at "V"
  refine ⟨by walk_at "S", fun pn hpn => ?_⟩
  have gn0 := Grow.new (T := m.T) (o := .lst []) hpn
  have kp := kp.grow gn0 (fun _ z => z.elim) hip hup
  have D22 := D21.post gn0
  walk_at "V"
  refine ⟨i, .ref pn, t', 16, rfl, kp.ri.any, D22.grow.tab hT, gd', by omega, by omega, .inl ⟨[], ⟨pn, [], rfl, SqL.of upd_same, by simp, .nil⟩, ?_, fun jn Hn tn gn njn etn rn => ?_⟩⟩
  · show (true && Tm.lotB t' []) = true
    rw [Bool.true_and, Tm.lotB, decide_eq_true List.nodup_nil, decide_eq_true (show ([] : List (List Nat)).length < t'.cnt from c0')]
    rfl
  have etn' : Tm.thin [] [] t' = some tn := etn
  rw [Tm.thin_nil t' [] gd'.wf] at etn'
  cases etn'
  have kp := kp.grow gn (fun _ z => z.elim) hip hup
  have D23 : Drew m p 0 9000 H Hn := D22.post gn
  have sh := gd'.shaped (by omega)
  walk_at "V"
  refine g_neRule hA R E2 mE (by omega) rn.any kp.ri.any sh sh ?_
  rw [(Tm.eqv_py _ _).2 rfl]
  refine ⟨_, rfl, iteF (b_nil ?_)⟩
  clear D22 D21 D20 D19 D18 D17 gp5 gp4 gp3 gp2 gp1
  -- for thing in odd_paths(rule, walk_here)
  walk_at "B"
  refine s_forL hA (pg_nl hA n11) ?_
  refine w_call hA St2 (by omega) rfl ?_
  walk_at "V"
  refine ⟨.ref i, u, us, t', rfl, kp.hu, kp.du, c0', hc', by omega, fun Do uso Ho go ndo hdo lo ns => ?_⟩
  have kp := kp.grow go (fun _ z => z.elim) hip hup
  have D24 := D23.post go
  refine ⟨Do, uso, rfl, SqL.of hdo, fun j σ H' => (∃ s11, σ = [some (.ref p), some (.ref l), some v', some (.ref i), some (.ref u), some (.int wt), s6, s7, some (.ref G), some (.ref Kt), some (.ref jm), s11]) ∧ Grow m.T Ho H', ⟨⟨_, rfl⟩, GrowX.refl⟩, fun j σ H' _ hq => GrowX.seqL hq.2 (SqL.of hdo) fun z => z, ?_, ?_⟩
  · rintro j x σ H' hx ⟨⟨s11, rfl⟩, g⟩
    have kq := kp.grow g (fun _ z => z.elim) hip hup
    have nsx := (ns x (List.mem_of_getElem? hx)).grow g
    have tabq : Tabs m.T H' := g.tab (D24.grow.tab hT)
    walk_at "B"
    walk_at "V"
    refine w_call hA Ca (by omega) rfl ?_
    walk_at "V"
    refine ⟨i, x, t', 16, 0, rfl, kq.ri.any, tabq, gd', by omega, by omega, .inl ⟨.inl ⟨rfl, nsx⟩, fun pc H2 g2 npc hpc => ?_⟩⟩
    walk_at "V"
    refine ⟨by walk_at "S", fun pd hpd => ?_⟩
    have g3 := Grow.new (T := m.T) (o := .lst [.str "path", x]) hpd
    have nsx3 := nsx.grow (g2.trans g3)
    obtain ⟨dx, ox⟩ := nsx3.ob
    refine g_neTwo hA (by decide +kernel) (g3.extN _ _ hpc (fun _ z => by cases z)) upd_same (fun pins s σ u1 u2 I r1 r2 => same_eq I (by rw [hA.kk]; exact ox) r1 r2 (by have := hA.room.un; show X.A.units + 1 < cLine; omega)) ?_
    refine ⟨_, rfl, iteF ?_⟩
    have kq := kq.grow (g2.trans g3) (fun _ z => z.elim) hip hup
    have gA3 := g.trans (g2.trans g3)
    have tab3 := GrowX.tab (g2.trans g3) tabq
    generalize upd H2 pd (.lst [.str "path", x]) = H3 at g3 nsx3 ox kq gA3 tab3 ⊢
    walk_at "V"
    refine w_call hA Ca (by omega) rfl ?_
    walk_at "V"
    refine ⟨by walk_at "S", fun p1 hp1 => ?_⟩
    have g4 := Grow.new (T := m.T) (o := .lst [x]) hp1
    have kq := kq.grow g4 (fun _ z => z.elim) hip hup
    have h1s := @upd_same H3 p1 (.lst [x])
    walk_at "V"
    refine ⟨i, .ref p1, t', 16, 1, rfl, kq.ri.any, g4.tab tab3, gd', by omega, by omega, .inl ⟨.inr ⟨rfl, (nsx3.grow g4).lot h1s⟩, fun pc2 H5 g5 npc2 hpc2 => ?_⟩⟩
    walk_at "V"
    refine ⟨by walk_at "S", fun p2 hp2 => ?_⟩
    have g6 := Grow.new (T := m.T) (o := .lst [x]) hp2
    have h2s := @upd_same H5 p2 (.lst [x])
    walk_at "V"
    refine ⟨by walk_at "S", fun p3 hp3 => ?_⟩
    have g7 := Grow.new (T := m.T) (o := .lst [.str "path", .ref p2]) hp3
    have g67 := g6.trans g7
    have h1e := Grow.extN (g5.trans g67) _ _ h1s (fun _ z => by cases z)
    have h2e := g7.extN _ _ h2s (fun _ z => by cases z)
    have ne12 : p1 ≠ p2 := fun e => by
      rw [← e] at hp2
      have z := g5.extN _ _ h1s (fun _ z => by cases z)
      rw [hp2] at z; cases z
    obtain ⟨dy, oy⟩ := (nsx3.grow (g4.trans (g5.trans g67))).ob
    refine g_neTwo hA (by decide +kernel) (Grow.extN g67 _ _ hpc2 (fun _ z => by cases z)) upd_same (fun pins s σ u1 u2 I r1 r2 => by
      cases r1
      cases r2
      exact eq_ones I h1e h2e (by rw [hA.kk]; exact oy) ne12 (by have := hA.room.un; show X.A.units + 1 + 1 < cLine; omega)) ?_
    refine ⟨_, rfl, iteF (b_nil (b_nil ?_))⟩
    exact ⟨⟨_, rfl⟩, gA3.trans (g4.trans (g5.trans g67))⟩
  rintro σ Hp ⟨⟨s11, rfl⟩, gp⟩
  have kp := kp.grow gp (fun _ z => z.elim) hip hup
  have D25 := D24.post gp
  walk_at "B"
  refine s_forL hA (pg_nl hA n11) ?_
  refine w_call hA Ol (by omega) rfl ?_
  walk_at "V"
  refine ⟨u, us, t', rfl, kp.hu, kp.du, c0', hc', by omega, Tm.sub99 gd'.wf hc', fun Dl usl2 Hq gq ndl hdl ll nl => ?_⟩
  have kp := kp.grow gq (fun _ z => z.elim) hip hup
  have D26 := D25.post gq
  refine ⟨Dl, usl2, rfl, SqL.of hdl, fun j σ H' => (∃ s11, σ = [some (.ref p), some (.ref l), some v', some (.ref i), some (.ref u), some (.int wt), s6, s7, some (.ref G), some (.ref Kt), some (.ref jm), s11]) ∧ Grow m.T Hq H', ⟨⟨_, rfl⟩, GrowX.refl⟩, fun j σ H' _ hq => GrowX.seqL hq.2 (SqL.of hdl) fun z => z, ?_, ?_⟩
  · rintro j x σ H' hx ⟨⟨s11, rfl⟩, g⟩
    have kq := kp.grow g (fun _ z => z.elim) hip hup
    have nlx := (nl x (List.mem_of_getElem? hx)).grow g
    have tabq : Tabs m.T H' := g.tab (D26.grow.tab hT)
    walk_at "B"
    walk_at "V"
    refine w_call hA Ca (by omega) rfl ?_
    walk_at "V"
    refine ⟨i, x, t', 16, 1, rfl, kq.ri.any, tabq, gd', by omega, by omega, .inl ⟨.inr ⟨rfl, nlx⟩, fun pc H2 g2 npc hpc => ?_⟩⟩
    walk_at "V"
    refine ⟨by walk_at "S", fun pd hpd => ?_⟩
    have g3 := Grow.new (T := m.T) (o := .lst [.str "path", x]) hpd
    have nlx3 := nlx.grow (g2.trans g3)
    refine g_neTwo hA (by decide +kernel) (g3.extN _ _ hpc (fun _ z => by cases z)) upd_same (fun pins s σ u1 u2 I r1 r2 => NoLots.same (t := t') I (by rw [hA.kk]; exact nlx3) r1 r2 (by have := hA.room.un; show X.A.units + 1 < cLine; omega)) ?_
    refine ⟨_, rfl, iteF (b_nil (b_nil ?_))⟩
    exact ⟨⟨_, rfl⟩, g.trans (g2.trans g3)⟩
  rintro σ Hr ⟨⟨s11', rfl⟩, gr0⟩
  have kp := kp.grow gr0 (fun _ z => z.elim) hip hup
  have D27 := D26.post gr0
  obtain ⟨e0, he0⟩ : ∃ e0, (t'.ptN [])[0]? = some e0 := by
    cases h : t'.ptN [] with
    | nil => have z := Tm.ptN_len t' []; rw [h] at z; simp at z; omega
    | cons a as => exact ⟨a, rfl⟩
  obtain ⟨z0, hz0, T0, b0, w0', rfl, hT0, hb0, _⟩ := paired_at kp.du 0 e0 he0
  have hsub0 := Tm.pt_iff.1 (show (e0.1, e0.2) ∈ t'.ptN [] from List.mem_of_getElem? he0)
  walk_at "B"
  walk_at "V"
  refine w_call hA Ca (by omega) rfl ?_
  walk_at "V"
  refine g_ixL hA (SqL.of kp.hu) (atI_at (j := 0) hz0) ?_
  walk_at "V"
  refine g_ixT hA hT0 (atI_at (j := 0) rfl) ?_
  walk_at "V"
  refine ⟨i, .ref b0, t', 16, 0, rfl, kp.ri.any, D27.grow.tab hT, gd', by omega, by omega, .inr ⟨rfl, ⟨e0.1, e0.2, ⟨b0, rfl, hb0, by have := plen e0 (List.mem_of_getElem? he0); omega⟩, hsub0⟩, fun pw Hs gs0 npw hpw => ?_⟩⟩
  have kp := kp.grow gs0 (fun _ z => z.elim) hip hup
  have D28 := D27.post gs0
  walk_at "V"
  refine ⟨by walk_at "S", fun pv0 hpv0 => ?_⟩
  have gv0 := Grow.new (T := m.T) (o := .lst [.str "whole", .non]) hpv0
  have kp := kp.grow gv0 (fun _ z => z.elim) hip hup
  have D29 := D28.post gv0
  refine g_eqD hA (d := .list [.str "whole", .none]) (e := .list [.str "whole", .none]) (Dp.lst (SqL.of (gv0.extN _ _ hpw (fun _ z => by cases z))) (.cons (.str _) (.cons .non .nil))) (Dp.lst (SqL.of upd_same) (.cons (.str _) (.cons .non .nil))) (by decide +kernel) (by decide +kernel) ?_
  refine ⟨_, rfl, ?_⟩
  rw [show PyData.eqv (.list [.str "whole", .none]) (.list [.str "whole", .none]) = true from by decide +kernel]
  refine iteT ?_
  walk_at "V"
  refine w_met0 (E := C8.E0) hA Me (by omega) C8.pass0 ?_
  walk_at "V"
  have r9' := kp.ri
  obtain ⟨dx, u0, hi, du0⟩ := r9'
  refine ⟨i, dx, _, rfl, hi, rfl, i, t', rfl, kp.ri.any, D29.grow.tab hT, by omega, gd'.wf, fun v9 Ht g9 fr9 => ?_⟩
  walk_at "V"
  refine g_eqD hA (Da.dp _ _ fr9.da) (Da.dp _ _ (Grow.da g9 kp.dv)) sh sh ?_
  rw [(Tm.eqv_py _ _).2 rfl]
  exact k _ ((D29.post g9).mono (by omega))
def sp_law (m : Md) : Sp := fun vs H Q _ => ∃ (a : Addr) (ns : List Int), vs = [.ref a] ∧ SqL m.K H a (ns.map V.int) ∧ ns.length < 1000 ∧ Tabs m.T H ∧ ∀ H', Q (.bl true) H'
theorem isA : IsName "a" := by unfold IsName; decide +kernel
def pa_t : Tm := .part false "a" 0
def r0_t : Tm := .rank 3 [pa_t, .all true [pa_t, pa_t], pa_t, .all false [pa_t]]
def r1_t : Tm := .rank 3 [pa_t, .all true [pa_t], pa_t]
def r2_t : Tm := .rank 1 [pa_t]
def pm_t : Tm := .part false "a" (-5)
theorem pa_gd {N : Nat} : Tm.Gd N pa_t := ⟨trivial, isA, Nat.zero_le _⟩
theorem r0_gd : Tm.Gd 2 r0_t := Tm.Gd.rank (fun t h => by
  simp only [List.mem_cons, List.not_mem_nil, or_false] at h
  rcases h with rfl | rfl | rfl | rfl
  · exact pa_gd
  · exact Tm.Gd.all (fun t h => by
      simp only [List.mem_cons, List.not_mem_nil, or_false] at h
      rcases h with rfl | rfl <;> exact pa_gd) (by simp) (by simp)
  · exact pa_gd
  · exact Tm.Gd.all (fun t h => by rw [List.mem_singleton.1 h]; exact pa_gd) (by simp) (by simp)) (by simp) (by simp) (by decide) (by decide)
theorem r1_gd : Tm.Gd 2 r1_t := Tm.thin_gd [[3, 0], [1, 1]] r0_t [] 2 r1_t rfl r0_gd
theorem r2_gd : Tm.Gd 2 r2_t := Tm.thin_gd [[1, 0], [3, 0], [0], [1, 1]] r0_t [] 2 r2_t rfl r0_gd
theorem pm_gd {N : Nat} : Tm.Gd N pm_t := ⟨trivial, isA, Nat.zero_le _⟩
theorem r0_thin1 : Tm.lotB r0_t [[3, 0], [1, 1]] = true ∧ Tm.thin [[3, 0], [1, 1]] [] r0_t = some r1_t := ⟨by decide +kernel, rfl⟩
theorem r0_thin2 : Tm.lotB r0_t [[1, 0], [3, 0], [0], [1, 1]] = true ∧ Tm.thin [[1, 0], [3, 0], [0], [1, 1]] [] r0_t = some r2_t := ⟨by decide +kernel, rfl⟩
/-- a display that is a term, one name known -/
theorem w_litN {m : Md} {N : List Str} {sc : Scope} {k i : Nat} {X : Cx} {e : Expr} {σ : L2.St} {H : Hp} {Q : VK} {x : Str} {vp : V} (h : At m N sc k X) (n : NL N sc i x) (hs : σ[i]? = some (some vp)) (o : Ob m.K Any H vp pa_t.py) (t : Tm) (q : ∀ v H', Grow m.T H H' → Da m.K Any H' v t.py → Q v H') (hl : lit [(x, pa_t.py)] e = some t.py := by rfl) (hd : (x == ("__debug__" : Str)) = false := by with_unfolding_all decide) (hcd : (x == ("__classdict__" : Str)) = false := by with_unfolding_all decide) : wE X e σ H Q := by
  refine w_lit (m := m) (A := Any) (H0 := H) (env := [(x, pa_t.py)]) (X := X) (σ := σ) (fun y d pos hx => ?_) e t.py H Q hl GrowX.refl fun v H' g o => q v H' g ?_
  · have hy : y = x ∧ d = pa_t.py := by
      rw [List.lookup_cons] at hx
      by_cases c : y = x
      · subst c; simp at hx; exact ⟨rfl, hx.symm⟩
      · rw [beq_eq_false_iff_ne.mpr c] at hx; cases hx
    obtain ⟨rfl, rfl⟩ := hy
    exact ⟨vp, o, fun H Q z => w_nl h n hs z hd hcd⟩
  · exact Ob.da _ _ (o.mono (fun _ _ => trivial) (fun _ _ _ z => z) (fun _ _ z => z) (fun _ _ _ z => z) _ _) (Tm.no_dict t)
theorem f_law {m : Md} {C CT CP CW f : Addr} {fd : FuncData} (F : C8.Fun m.K "law" "law" st_law f fd) (R : RuleC m C) (E2 : RuleE m C) (Pu : Cal m 2 "_law_purses" (sp_purses m)) (Ri : Cal m 92 "_law_right" (sp_right m))
    (Mk : MakX m (L2.CX m.P m.w) 44 "Rule" C (sp_rinit m C CT 40) []) (Me : MetX m C8.CX0 44 C "term" (sp_rterm m C 40) []) (Lo : CalX m (L2.CX m.P m.w) 47 "left_out" (sp_left_out m C CP 40) []) (Wt : CalX m (L2.CX m.P m.w) 47 "waited" (sp_waited m C CP CW 40) []) (Ps : Cal m 45 "parts" (sp_parts m C 40)) : FnG m C8.CX0 94 f fd ps_law (sp_law m) := by
  refine fnG_of F sc_law (fun vs H Q E h => by obtain ⟨_, _, rfl, _⟩ := h; rfl) fun X vs H Q E hA hM h => ?_
  obtain ⟨a, ns, rfl, hs, hn, hT, k⟩ := h
  replace hA : At m nl_law (C8.fnScope st_law) 93 X := hA
  obtain ⟨n0, n1, n2, n3⟩ := nv_law
  walk_at "B"
  refine s_forL hA (pg_nl hA n1) ?_
  refine w_call hA Pu (by omega) rfl ?_
  walk_at "V"
  refine ⟨a, ns, 2, rfl, hs, hn, by omega, by omega, fun r ps H1 P hl => ?_⟩
  have hrp : ∀ q ∈ ps, r ≠ q := fun q hq w => (List.nodup_cons.1 P.nd).1 (w ▸ hq)
  have hnd := (List.nodup_cons.1 P.nd).2
  refine ⟨r, ps.map V.ref, rfl, P.seq, fun j σ H' => (∃ s1, σ = [some (.ref a), s1, none, none]) ∧ GrowX m.T (· ∈ ps) H1 H' ∧ ∀ q ∈ ps.drop j, Purse H' q 0, ?_, ?_, ?_, ?_⟩
  · exact ⟨⟨_, rfl⟩, GrowX.refl, fun q hq => P.purse q (by simpa using hq)⟩
  · rintro j σ H' _ ⟨_, gg, _⟩
    exact gg.seqL P.seq fun z => hrp r z rfl
  · rintro j x σ H' hx ⟨⟨s1, rfl⟩, gg, hp⟩
    rw [List.getElem?_map] at hx
    obtain ⟨q, hq, rfl⟩ := Option.map_eq_some_iff.1 hx
    have hj : j < ps.length := (List.getElem?_eq_some_iff.1 hq).1
    have ed : ps.drop j = q :: ps.drop (j + 1) := by
      rw [List.drop_eq_getElem_cons hj, (List.getElem?_eq_some_iff.1 hq).2]
    have hqm := List.mem_of_getElem? hq
    walk_at "B"
    walk_at "V"
    refine w_call hA Ri (by omega) rfl ?_
    walk_at "V"
    refine ⟨q, rfl, hp q (by rw [ed]; simp), (P.grow.to.trans gg).tab hT, fun H2 d2 => ?_⟩
    walk_at "V"
    refine iteF (b_nil (b_nil ?_))
    refine ⟨⟨_, rfl⟩, gg.trans (d2.grow.weak fun b z => by rw [z]; exact hqm), fun y hy => ?_⟩
    have hnd2 : (q :: ps.drop (j + 1)).Nodup := by rw [← ed]; exact hnd.sublist (List.drop_sublist _ _)
    exact (hp y (by rw [ed]; simp [hy])).x d2.grow fun z => (List.nodup_cons.1 hnd2).1 (z ▸ hy)
  · rintro σ H9 ⟨⟨s1, rfl⟩, gg, _⟩
    have hT9 : Tabs m.T H9 := (P.grow.to.trans gg).tab hT
    walk_at "B"
    refine s_nl hA n2 (w_litT hA pa_t fun vp Ha g1 dp => ?_)
    have op : Ob m.K Any Ha vp pa_t.py := Da.ob _ _ (dp.sub fun _ _ => trivial) (Tm.Gd.tx (N := 0) pa_gd)
    have tA := g1.tab hT9
    walk_at "B"
    refine s_nl hA n3 (w_rule hA Mk (by omega) rfl (w_litN hA n2 rfl op r0_t fun vr Hb g2 dr => ?_))
    refine ⟨r0_t, 2, dr, r0_gd, by omega, g2.tab tA, fun i0 Hc g3 ni0 ra0 => ?_⟩
    have op := Grow.ob (g2.trans g3) op
    have tC := GrowX.tab (g2.trans g3) tA
    have r3 := ra0.any
    walk_at "B"
    walk_at "V"
    refine w_met0 (E := C8.E0) hA Me (by omega) C8.pass0 ?_
    refine w_callXA (E := fun _ _ _ => False) hA Lo (by omega) rfl (pass_at hA L2.takes0 fun _ _ _ z => z) ?_
    walk_at "V"
    refine ⟨by walk_at "S", fun qa0 hqa0 => ?_⟩
    have ga0 := Grow.new (T := m.T) (o := .tup [.int 3, .int 0]) hqa0
    walk_at "V"
    refine ⟨by walk_at "S", fun qa1 hqa1 => ?_⟩
    have ga1 := Grow.new (T := m.T) (o := .tup [.int 1, .int 1]) hqa1
    walk_at "V"
    refine ⟨by walk_at "S", fun la hla => ?_⟩
    have gla := Grow.new (T := m.T) (o := .lst [V.ref qa0, V.ref qa1]) hla
    have ta2 := gla
    have ta1 := ga1.trans ta2
    have ta0 := ga0.trans ta1
    walk_at "V"
    refine ⟨i0, .ref la, r0_t, 2, rfl, RuleAt.grow (T := m.T) r3 ta0 (fun _ _ z => z) (fun z => z), GrowX.tab ta0 tC, r0_gd, by omega, by decide, .inl ⟨[some [3, 0], some [1, 1]], ⟨la, [V.ref qa0, V.ref qa1], rfl, SqL.of upd_same, by simp, .cons ⟨qa0, rfl, GrowX.tup ta1 _ _ upd_same, by decide⟩ (.cons ⟨qa1, rfl, GrowX.tup ta2 _ _ upd_same, by decide⟩ (.nil))⟩, r0_thin1.1, fun jma Hma tma gma njma etma rma => ?_⟩⟩
    have eza : Tm.thin [[3, 0], [1, 1]] [] r0_t = some tma := etma
    rw [r0_thin1.2] at eza
    cases eza
    have rra := rma
    obtain ⟨dxa, ua, hia, dua⟩ := rra
    have tba := gma.tab (GrowX.tab ta0 tC)
    refine ⟨jma, dxa, _, rfl, hia, rfl, jma, r1_t, rfl, rma.any, tba, by decide, r1_gd.wf, fun va Hna gna fra => ?_⟩
    have Ga := (ta0.trans gma).trans gna
    have op := Grow.ob Ga op
    refine w_litN hA n2 rfl op r1_t fun wa Hoa goa dwa => ?_
    refine g_neD hA (Da.dp _ _ (Grow.da goa fra.da)) (Da.dp _ _ dwa) (r1_gd.shaped (by omega)) (r1_gd.shaped (by omega)) ?_
    rw [(Tm.eqv_py _ _).2 rfl]
    refine ⟨_, rfl, iteF (b_nil ?_)⟩
    have GGa := Ga.trans goa
    have op := Grow.ob goa op
    have r3 := RuleAt.grow (T := m.T) r3 GGa (fun _ _ z => z) (fun z => z)
    have tC := GrowX.tab GGa tC
    walk_at "B"
    walk_at "V"
    refine w_met0 (E := C8.E0) hA Me (by omega) C8.pass0 ?_
    refine w_callXA (E := fun _ _ _ => False) hA Lo (by omega) rfl (pass_at hA L2.takes0 fun _ _ _ z => z) ?_
    walk_at "V"
    refine ⟨by walk_at "S", fun qb0 hqb0 => ?_⟩
    have gb0 := Grow.new (T := m.T) (o := .tup [.int 1, .int 0]) hqb0
    walk_at "V"
    refine ⟨by walk_at "S", fun qb1 hqb1 => ?_⟩
    have gb1 := Grow.new (T := m.T) (o := .tup [.int 3, .int 0]) hqb1
    walk_at "V"
    refine ⟨by walk_at "S", fun qb2 hqb2 => ?_⟩
    have gb2 := Grow.new (T := m.T) (o := .tup [.int 0]) hqb2
    walk_at "V"
    refine ⟨by walk_at "S", fun qb3 hqb3 => ?_⟩
    have gb3 := Grow.new (T := m.T) (o := .tup [.int 1, .int 1]) hqb3
    walk_at "V"
    refine ⟨by walk_at "S", fun lb hlb => ?_⟩
    have glb := Grow.new (T := m.T) (o := .lst [V.ref qb0, V.ref qb1, V.ref qb2, V.ref qb3]) hlb
    have tb4 := glb
    have tb3 := gb3.trans tb4
    have tb2 := gb2.trans tb3
    have tb1 := gb1.trans tb2
    have tb0 := gb0.trans tb1
    walk_at "V"
    refine ⟨i0, .ref lb, r0_t, 2, rfl, RuleAt.grow (T := m.T) r3 tb0 (fun _ _ z => z) (fun z => z), GrowX.tab tb0 tC, r0_gd, by omega, by decide, .inl ⟨[some [1, 0], some [3, 0], some [0], some [1, 1]], ⟨lb, [V.ref qb0, V.ref qb1, V.ref qb2, V.ref qb3], rfl, SqL.of upd_same, by simp, .cons ⟨qb0, rfl, GrowX.tup tb1 _ _ upd_same, by decide⟩ (.cons ⟨qb1, rfl, GrowX.tup tb2 _ _ upd_same, by decide⟩ (.cons ⟨qb2, rfl, GrowX.tup tb3 _ _ upd_same, by decide⟩ (.cons ⟨qb3, rfl, GrowX.tup tb4 _ _ upd_same, by decide⟩ (.nil))))⟩, r0_thin2.1, fun jmb Hmb tmb gmb njmb etmb rmb => ?_⟩⟩
    have ezb : Tm.thin [[1, 0], [3, 0], [0], [1, 1]] [] r0_t = some tmb := etmb
    rw [r0_thin2.2] at ezb
    cases ezb
    have rrb := rmb
    obtain ⟨dxb, ub, hib, dub⟩ := rrb
    have tbb := gmb.tab (GrowX.tab tb0 tC)
    refine ⟨jmb, dxb, _, rfl, hib, rfl, jmb, r2_t, rfl, rmb.any, tbb, by decide, r2_gd.wf, fun vb Hnb gnb frb => ?_⟩
    have Gb := (tb0.trans gmb).trans gnb
    have op := Grow.ob Gb op
    refine w_litN hA n2 rfl op r2_t fun wb Hob gob dwb => ?_
    refine g_neD hA (Da.dp _ _ (Grow.da gob frb.da)) (Da.dp _ _ dwb) (r2_gd.shaped (by omega)) (r2_gd.shaped (by omega)) ?_
    rw [(Tm.eqv_py _ _).2 rfl]
    refine ⟨_, rfl, iteF (b_nil ?_)⟩
    have GGb := Gb.trans gob
    have op := Grow.ob gob op
    have r3 := RuleAt.grow (T := m.T) r3 GGb (fun _ _ z => z) (fun z => z)
    have tC := GrowX.tab GGb tC
    walk_at "B"
    walk_at "V"
    have dp1 : ∀ {H' : Hp}, Ob m.K Any H' vp pa_t.py → Da m.K Any H' vp pa_t.py := fun o => Ob.da _ _ o (Tm.no_dict pa_t)
    refine w_call hA Ps (by omega) rfl (w_cons (w_rule hA Mk (by omega) rfl (w_nl hA n2 rfl ?_)))
    refine ⟨pa_t, 0, dp1 op, pa_gd, by omega, tC, fun i1 Hp1 gp1 ni1 ra1 => ?_⟩
    walk_at "V"
    refine ⟨i1, pa_t, rfl, ra1.any, gp1.tab tC, by decide, trivial, by decide, fun u1 us1 Hp2 gp2 nu1 hu1 du1 => ?_⟩
    have gp12 := gp1.trans gp2
    walk_at "V"
    refine ⟨by walk_at "S", fun pe hpe => ?_⟩
    have gpe := Grow.new (T := m.T) (o := .tup []) hpe
    have hpe1 := @upd_same Hp2 pe (.tup [])
    walk_at "V"
    refine ⟨by walk_at "S", fun pq hpq => ?_⟩
    have gpq := Grow.new (T := m.T) (o := .tup [.ref pe, vp]) hpq
    walk_at "V"
    refine ⟨by walk_at "S", fun pl hpl => ?_⟩
    have gpl := Grow.new (T := m.T) (o := .lst [.ref pq]) hpl
    have gp2l := (gpe.trans gpq).trans gpl
    have op2 := Grow.ob (gp12.trans gp2l) op
    refine g_eqD hA (d := .list [pdD ([], pa_t)]) (e := .list [pdD ([], pa_t)]) (Da.dp _ _ (.lst (A := Any) trivial (SqL.of (Grow.extN gp2l _ _ hu1 (fun _ z => by cases z))) (pt_da (PtA.pairsG gp2l du1)))) (Da.dp _ _ (.lst (A := Any) trivial (SqL.of upd_same) (.cons (.tup (SqT.of (gpl.tup _ _ upd_same)) (.cons (.tup (SqT.of (GrowX.tup (gpq.trans gpl) _ _ hpe1)) .nil) (.cons (dp1 op2) .nil))) .nil))) (by decide +kernel) (by decide +kernel) ?_
    rw [show PyData.eqv (.list [pdD ([], pa_t)]) (.list [pdD ([], pa_t)]) = true from by decide +kernel]
    refine ⟨_, rfl, iteT ?_⟩
    have tD := GrowX.tab (gp12.trans gp2l) tC
    walk_at "V"
    refine w_met0 (E := C8.E0) hA Me (by omega) C8.pass0 ?_
    refine w_callXA (E := fun _ _ _ => False) hA Wt (by omega) rfl (pass_at hA L2.takes0 fun _ _ _ z => z) (w_cons (w_rule hA Mk (by omega) rfl (w_nl hA n2 rfl ?_)))
    refine ⟨pa_t, 0, dp1 op2, pa_gd, by omega, tD, fun i2 Hq1 gq1 ni2 ra2 => ?_⟩
    walk_at "V"
    refine ⟨by walk_at "S", fun pz hpz => ?_⟩
    have gpz := Grow.new (T := m.T) (o := .tup []) hpz
    walk_at "V"
    refine ⟨i2, .ref pz, .int (-5), pa_t, 0, rfl, RuleAt.grow (T := m.T) ra2.any gpz (fun _ _ z => z) (fun z => z), gpz.tab (gq1.tab tD), pa_gd, by omega, by decide, .inl ⟨[], false, "a", 0, -5, ⟨pz, rfl, upd_same, by decide⟩, rfl, rfl, fun jx Hx gx njx rjx => ?_⟩⟩
    have rjm : RuleAt m C (New _) Hx jx pm_t := rjx
    have rj2 := rjm
    obtain ⟨dxj, uj, hij, duj⟩ := rj2
    refine ⟨jx, dxj, _, rfl, hij, rfl, jx, pm_t, rfl, rjm.any, gx.tab (gpz.tab (gq1.tab tD)), by decide, trivial, fun vz Hz gz frz => ?_⟩
    refine w_litT hA pm_t fun wz Hw gw dwz => ?_
    refine g_eqD hA (Da.dp _ _ (Grow.da gw frz.da)) (Da.dp _ _ dwz) ((pm_gd (N := 0)).shaped (by omega)) ((pm_gd (N := 0)).shaped (by omega)) ?_
    rw [(Tm.eqv_py _ _).2 rfl]
    exact k _
/-! ### the head's facts -/
/-- a def of the top, as it stands in the written part -/
def DefF (K : PySem.W.Frag) (x : Str) (st : Stmt) : Prop := ∃ (f : Addr) (fd : FuncData), PySem.W.nsIn K mainGlobals x = some (some (.ref f)) ∧ C8.Fun K x x st f fd ∧ PySem.W.keepIn K (.ref f) = true ∧ fd.defaults = .none
theorem mk_def {K : PySem.W.Frag} {x : Str} {st : Stmt} {f : Addr} {od an : Option Addr} {oc kV doc pm cdv ct : Value} {osl : Array (Option Value)} (a : PySem.W.nsIn K mainGlobals x = some (some (.ref f)))
    (l : K.lookup f = some ⟨oc, od, .func (PySem.W.fnOf x x (C8.fnArgs st) (C8.fnBody st) (C8.fnScope st) .none kV doc pm an cdv ct), osl⟩) (c : PySem.W.codeIn K cdv x = true) (k : PySem.W.keepIn K (.ref f) = true) : DefF K x st :=
  ⟨f, _, a, ⟨⟨oc, od, .none, kV, doc, pm, an, cdv, ct, osl, rfl, l, c⟩⟩, k, rfl⟩
theorem DefF.def_ {K : PySem.W.Frag} {h : Heap} {mg : Str → Option Value} {x : Str} {st : Stmt} (D : DefF K x st) (X : K.In h) (G : h.Ns mainGlobals mg) : ∃ f fd, C8.Def K mg x st f fd ∧ fd.defaults = .none := by
  obtain ⟨f, fd, a, F, k, d⟩ := D
  exact ⟨f, fd, ⟨F, PySem.W.mg_of X G a, k⟩, d⟩
/-- a method -/
def MetF (K : PySem.W.Frag) (C : Addr) (x qual : Str) (st : Stmt) : Prop := ∃ (f : Addr) (fd : FuncData), C8.Fun K x qual st f fd ∧ Meth K C x f ∧ fd.defaults = .none
theorem mk_met {K : PySem.W.Frag} {C : Addr} {x qual : Str} {st : Stmt} {f : Addr} {od an : Option Addr} {oc kV doc pm cdv ct : Value} {osl : Array (Option Value)} (a : PySem.W.findIn K (.ref C) x = some (some (.ref f))) (i : PySem.W.isFn K (.ref f) = true)
    (l : K.lookup f = some ⟨oc, od, .func (PySem.W.fnOf x qual (C8.fnArgs st) (C8.fnBody st) (C8.fnScope st) .none kV doc pm an cdv ct), osl⟩) (c : PySem.W.codeIn K cdv qual = true) (k : PySem.W.keepIn K (.ref f) = true) : MetF K C x qual st :=
  ⟨f, _, ⟨⟨oc, od, .none, kV, doc, pm, an, cdv, ct, osl, rfl, l, c⟩⟩, ⟨a, i, k⟩, rfl⟩
/-- a def's one table -/
def TabF (K : PySem.W.Frag) (x : Str) (st : Stmt) (c P : Addr) : Prop := ∃ (f : Addr) (oc : Value) (od : Option Addr) (kV doc pm : Value) (an : Option Addr) (ct : Value) (osl : Array (Option Value)), PySem.W.nsIn K mainGlobals x = some (some (.ref f)) ∧
  K.lookup f = some ⟨oc, od, .func (PySem.W.fnOf x x (C8.fnArgs st) (C8.fnBody st) (C8.fnScope st) .none kV doc pm an (.ref c) ct), osl⟩ ∧ PySem.W.codeHdIn K c P = true ∧ K.lookup P = none
/-- the __init__ of an own error, which stores its argument -/
theorem init_ok {m : Md} {C f : Addr} {fd : FuncData} (F : FunD m.K "__init__" "InvalidTerm.__init__" (C8.fnArgs st_InvalidTerm_init) (C8.fnBody st_InvalidTerm_init) (C8.fnScope st_InvalidTerm_init) [.non] [] f fd) (O : OexC m.K C) (no : PySem.W.findIn m.K (.ref C) "value" = some none) :
    FnOk m.P m.w m.K m.mg m.base C8.CX0 1 f fd ps_InvalidTerm_init (fun vs H Q _ => ∃ (a : Addr) (v : V), vs = [.ref a, v] ∧ H a = some (exo a C none) ∧ ∀ dx, H dx = none → dx ≠ a → Q .non (upd (upd H dx (exd dx [("value", v)])) a (exo a C (some dx)))) := by
  refine F.ok sc_InvalidTerm_init (fun vs H Q E h => by obtain ⟨_, _, rfl, _⟩ := h; rfl) fun cdv A outer s H vs Q E hr h => ?_
  obtain ⟨a, v, rfl, ha, k⟩ := h
  refine ⟨_, PSs.nox (pss_one (ps_ost (pe_var (i := 0) rfl (.inl rfl) (by with_unfolding_all decide) (by with_unfolding_all decide)) (pe_var (i := 1) rfl (.inl rfl) (by with_unfolding_all decide) (by with_unfolding_all decide)))), ?_⟩
  refine ⟨v, rfl, .ref a, rfl, a, C, rfl, O, no, .inl ⟨ha, fun dx hdx hne => ?_⟩⟩
  exact k dx hdx hne
theorem init_binds {K : PySem.W.Frag} {f : Addr} {fd : FuncData} (F : FunD K "__init__" "InvalidTerm.__init__" (C8.fnArgs st_InvalidTerm_init) (C8.fnBody st_InvalidTerm_init) (C8.fnScope st_InvalidTerm_init) [.non] [] f fd) : L2.Binds K fd ps_InvalidTerm_init [] := by
  obtain ⟨ds, v, b⟩ := F.binds1 (ps := ps_InvalidTerm_init) 2 1 (by simp) rfl (fun T kV doc pm an cdv ct us its l1 l2 => by
    match us, l1, its, l2 with
    | [a, b], _, [c], _ => exact ⟨_, rfl, rfl⟩)
  cases v
  exact b
/-- the __init__ of an own error, which stores its argument -/
theorem init_okPath {m : Md} {C f : Addr} {fd : FuncData} (F : FunD m.K "__init__" "InvalidPath.__init__" (C8.fnArgs st_InvalidPath_init) (C8.fnBody st_InvalidPath_init) (C8.fnScope st_InvalidPath_init) [.non] [] f fd) (O : OexC m.K C) (no : PySem.W.findIn m.K (.ref C) "value" = some none) :
    FnOk m.P m.w m.K m.mg m.base C8.CX0 1 f fd ps_InvalidPath_init (fun vs H Q _ => ∃ (a : Addr) (v : V), vs = [.ref a, v] ∧ H a = some (exo a C none) ∧ ∀ dx, H dx = none → dx ≠ a → Q .non (upd (upd H dx (exd dx [("value", v)])) a (exo a C (some dx)))) := by
  refine F.ok sc_InvalidPath_init (fun vs H Q E h => by obtain ⟨_, _, rfl, _⟩ := h; rfl) fun cdv A outer s H vs Q E hr h => ?_
  obtain ⟨a, v, rfl, ha, k⟩ := h
  refine ⟨_, PSs.nox (pss_one (ps_ost (pe_var (i := 0) rfl (.inl rfl) (by with_unfolding_all decide) (by with_unfolding_all decide)) (pe_var (i := 1) rfl (.inl rfl) (by with_unfolding_all decide) (by with_unfolding_all decide)))), ?_⟩
  refine ⟨v, rfl, .ref a, rfl, a, C, rfl, O, no, .inl ⟨ha, fun dx hdx hne => ?_⟩⟩
  exact k dx hdx hne
theorem init_bindsPath {K : PySem.W.Frag} {f : Addr} {fd : FuncData} (F : FunD K "__init__" "InvalidPath.__init__" (C8.fnArgs st_InvalidPath_init) (C8.fnBody st_InvalidPath_init) (C8.fnScope st_InvalidPath_init) [.non] [] f fd) : L2.Binds K fd ps_InvalidPath_init [] := by
  obtain ⟨ds, v, b⟩ := F.binds1 (ps := ps_InvalidPath_init) 2 1 (by simp) rfl (fun T kV doc pm an cdv ct us its l1 l2 => by
    match us, l1, its, l2 with
    | [a, b], _, [c], _ => exact ⟨_, rfl, rfl⟩)
  cases v
  exact b
/-- the __init__ of an own error, which stores its argument -/
theorem init_okWhole {m : Md} {C f : Addr} {fd : FuncData} (F : FunD m.K "__init__" "InvalidWhole.__init__" (C8.fnArgs st_InvalidWhole_init) (C8.fnBody st_InvalidWhole_init) (C8.fnScope st_InvalidWhole_init) [.non] [] f fd) (O : OexC m.K C) (no : PySem.W.findIn m.K (.ref C) "value" = some none) :
    FnOk m.P m.w m.K m.mg m.base C8.CX0 1 f fd ps_InvalidWhole_init (fun vs H Q _ => ∃ (a : Addr) (v : V), vs = [.ref a, v] ∧ H a = some (exo a C none) ∧ ∀ dx, H dx = none → dx ≠ a → Q .non (upd (upd H dx (exd dx [("value", v)])) a (exo a C (some dx)))) := by
  refine F.ok sc_InvalidWhole_init (fun vs H Q E h => by obtain ⟨_, _, rfl, _⟩ := h; rfl) fun cdv A outer s H vs Q E hr h => ?_
  obtain ⟨a, v, rfl, ha, k⟩ := h
  refine ⟨_, PSs.nox (pss_one (ps_ost (pe_var (i := 0) rfl (.inl rfl) (by with_unfolding_all decide) (by with_unfolding_all decide)) (pe_var (i := 1) rfl (.inl rfl) (by with_unfolding_all decide) (by with_unfolding_all decide)))), ?_⟩
  refine ⟨v, rfl, .ref a, rfl, a, C, rfl, O, no, .inl ⟨ha, fun dx hdx hne => ?_⟩⟩
  exact k dx hdx hne
theorem init_bindsWhole {K : PySem.W.Frag} {f : Addr} {fd : FuncData} (F : FunD K "__init__" "InvalidWhole.__init__" (C8.fnArgs st_InvalidWhole_init) (C8.fnBody st_InvalidWhole_init) (C8.fnScope st_InvalidWhole_init) [.non] [] f fd) : L2.Binds K fd ps_InvalidWhole_init [] := by
  obtain ⟨ds, v, b⟩ := F.binds1 (ps := ps_InvalidWhole_init) 2 1 (by simp) rfl (fun T kV doc pm an cdv ct us its l1 l2 => by
    match us, l1, its, l2 with
    | [a, b], _, [c], _ => exact ⟨_, rfl, rfl⟩)
  cases v
  exact b
/-- the maker of the one lambda -/
def CopF (K : PySem.W.Frag) (x : Str) (st : Stmt) (c : Addr) : Prop := ∃ (f : Addr) (fd : FuncData), PySem.W.nsIn K mainGlobals x = some (some (.ref f)) ∧ C8.Fun K x x st f fd ∧ PySem.W.keepIn K (.ref f) = true ∧ fd.defaults = .none ∧ fd.code = .ref c
theorem mk_cop {K : PySem.W.Frag} {x : Str} {st : Stmt} {f c : Addr} {od an : Option Addr} {oc kV doc pm ct : Value} {osl : Array (Option Value)} (a : PySem.W.nsIn K mainGlobals x = some (some (.ref f)))
    (l : K.lookup f = some ⟨oc, od, .func (PySem.W.fnOf x x (C8.fnArgs st) (C8.fnBody st) (C8.fnScope st) .none kV doc pm an (.ref c) ct), osl⟩) (e : PySem.W.codeIn K (.ref c) x = true) (k : PySem.W.keepIn K (.ref f) = true) : CopF K x st c :=
  ⟨f, _, a, ⟨⟨oc, od, .none, kV, doc, pm, an, .ref c, ct, osl, rfl, l, e⟩⟩, k, rfl, rfl⟩
/-- the class of rules -/
structure RulF (K : PySem.W.Frag) (C : Addr) : Prop where
  gR : PySem.W.nsIn K mainGlobals "Rule" = some (some (.ref C))
  pg : PySem.W.plainGet K C Str.empty = true
  hd : PySem.W.hasDictIn K C = true
  po : PySem.W.plainOver K C = true
  sa : PySem.W.findIn K (.ref C) "__setattr__" = some (some (.builtin "object.__setattr__"))
  no : PySem.W.findIn K (.ref C) "_term" = some none
  ha : PySem.W.findIn K (.ref C) "__class__" = some (some (.builtin "object.__class__"))
  hn : PySem.W.specialIn K (.builtin "object.__class__") "__get__" = some (some (.builtin "getset_descriptor.__get__"))
  ht : PySem.W.takesIn K (.builtin "object.__class__") = some true
  hm : PySem.W.mroIn K C (.type "object") = some true
  own : PySem.W.kitOne K (.ref C) (.ref C) = some true
  oth : ∀ T ∈ ["NoneType", "bool", "int", "str", "list", "tuple", "dict"], PySem.W.kitOne K (.type T) (.ref C) = some false
  nfS : PySem.W.notFirst K C (.ref C) = true
  nfO : ∀ T ∈ ["NoneType", "bool", "int", "str", "list", "tuple", "dict"], PySem.W.notFirst K C (.type T) = true
  ne : PySem.W.findIn K (.ref C) "__ne__" = some (some (.builtin "object.__ne__"))
  mks : PySem.W.makesIn K C = true
  kc : PySem.W.keepIn K (.ref C) = true
/-- the error class -/
structure ErrF (K : PySem.W.Frag) (x : Str) (C : Addr) : Prop where
  gC : PySem.W.nsIn K mainGlobals x = some (some (.ref C))
  cls : ∃ nm q N bs bm sn sub ab col dd k0 k1 k2 k3 k5, K.lookup C = some (excClassObj nm q C N bs bm true sn sub ab col dd k0 k1 k2 k3 k5 "ValueError.__new__") ∧ PySem.HandSPX.refsVE bm = true
  sa : PySem.W.findIn K (.ref C) "__setattr__" = some (some (.builtin "object.__setattr__"))
  exC : PySem.W.subIn K (.ref C) (.type "BaseException") = some true
  tyC : PySem.W.typeIn K (.ref C) = some (.type "type")
  kC : PySem.W.keepIn K (.ref C) = true
  ga : PySem.W.findIn K (.ref C) "__getattribute__" = some (some (.builtin "BaseException.__getattribute__"))
  gg : PySem.W.findIn K (.ref C) "__getattr__" = some none
  hdC : PySem.W.hasDictIn K C = true
  no : PySem.W.findIn K (.ref C) "value" = some none
  self : PySem.W.exmOne K (.ref C) (.ref C) = some true
theorem mk_cls {K : PySem.W.Frag} {C N : Addr} {nm q : Str} {bs bm : List Value} {sn : List Str} {sub : List Value} {ab : Bool} {col : Option Bool} {dd : Option Addr} {k0 k1 k2 k3 k5 : Option Value} (l : K.lookup C = some (excClassObj nm q C N bs bm true sn sub ab col dd k0 k1 k2 k3 k5 "ValueError.__new__")) (r : PySem.HandSPX.refsVE bm = true) :
    ∃ nm q N bs bm sn sub ab col dd k0 k1 k2 k3 k5, K.lookup C = some (excClassObj nm q C N bs bm true sn sub ab col dd k0 k1 k2 k3 k5 "ValueError.__new__") ∧ PySem.HandSPX.refsVE bm = true := ⟨nm, q, N, bs, bm, sn, sub, ab, col, dd, k0, k1, k2, k3, k5, l, r⟩
/-- its __init__ -/
def IniFTerm (K : PySem.W.Frag) (C : Addr) : Prop := ∃ (f : Addr) (fd : FuncData), PySem.W.findIn K (.ref C) "__init__" = some (some (.ref f)) ∧ PySem.W.typeIn K (.ref f) = some (.type "function") ∧ FunD K "__init__" "InvalidTerm.__init__" (C8.fnArgs st_InvalidTerm_init) (C8.fnBody st_InvalidTerm_init) (C8.fnScope st_InvalidTerm_init) [.non] [] f fd
theorem mk_iniTerm {K : PySem.W.Frag} {C f T : Addr} {od an : Option Addr} {oc kV doc pm cdv ct : Value} {osl : Array (Option Value)} {oT : Option Addr} {cT : Value} {sT : Array (Option Value)} {nT : Nat} (a : PySem.W.findIn K (.ref C) "__init__" = some (some (.ref f))) (t : PySem.W.typeIn K (.ref f) = some (.type "function"))
    (l : K.lookup f = some ⟨oc, od, .func (PySem.W.fnOf "__init__" "InvalidTerm.__init__" (C8.fnArgs st_InvalidTerm_init) (C8.fnBody st_InvalidTerm_init) (C8.fnScope st_InvalidTerm_init) (.ref T) kV doc pm an cdv ct), osl⟩) (c : PySem.W.codeIn K cdv "InvalidTerm.__init__" = true)
    (lT : K.lookup T = some ⟨cT, oT, .seq #[.none] nT, sT⟩) (k : PySem.W.keepIn K (.ref f) = true) : IniFTerm K C :=
  ⟨f, _, a, t, ⟨⟨oc, od, .ref T, kV, doc, pm, an, cdv, ct, osl, rfl, l, c, .inr ⟨by simp, T, _, [.none], nT, rfl, lT, rfl, .cons rfl .nil⟩, .inl rfl⟩, k⟩⟩
/-- its __init__ -/
def IniFPath (K : PySem.W.Frag) (C : Addr) : Prop := ∃ (f : Addr) (fd : FuncData), PySem.W.findIn K (.ref C) "__init__" = some (some (.ref f)) ∧ PySem.W.typeIn K (.ref f) = some (.type "function") ∧ FunD K "__init__" "InvalidPath.__init__" (C8.fnArgs st_InvalidPath_init) (C8.fnBody st_InvalidPath_init) (C8.fnScope st_InvalidPath_init) [.non] [] f fd
theorem mk_iniPath {K : PySem.W.Frag} {C f T : Addr} {od an : Option Addr} {oc kV doc pm cdv ct : Value} {osl : Array (Option Value)} {oT : Option Addr} {cT : Value} {sT : Array (Option Value)} {nT : Nat} (a : PySem.W.findIn K (.ref C) "__init__" = some (some (.ref f))) (t : PySem.W.typeIn K (.ref f) = some (.type "function"))
    (l : K.lookup f = some ⟨oc, od, .func (PySem.W.fnOf "__init__" "InvalidPath.__init__" (C8.fnArgs st_InvalidPath_init) (C8.fnBody st_InvalidPath_init) (C8.fnScope st_InvalidPath_init) (.ref T) kV doc pm an cdv ct), osl⟩) (c : PySem.W.codeIn K cdv "InvalidPath.__init__" = true)
    (lT : K.lookup T = some ⟨cT, oT, .seq #[.none] nT, sT⟩) (k : PySem.W.keepIn K (.ref f) = true) : IniFPath K C :=
  ⟨f, _, a, t, ⟨⟨oc, od, .ref T, kV, doc, pm, an, cdv, ct, osl, rfl, l, c, .inr ⟨by simp, T, _, [.none], nT, rfl, lT, rfl, .cons rfl .nil⟩, .inl rfl⟩, k⟩⟩
/-- its __init__ -/
def IniFWhole (K : PySem.W.Frag) (C : Addr) : Prop := ∃ (f : Addr) (fd : FuncData), PySem.W.findIn K (.ref C) "__init__" = some (some (.ref f)) ∧ PySem.W.typeIn K (.ref f) = some (.type "function") ∧ FunD K "__init__" "InvalidWhole.__init__" (C8.fnArgs st_InvalidWhole_init) (C8.fnBody st_InvalidWhole_init) (C8.fnScope st_InvalidWhole_init) [.non] [] f fd
theorem mk_iniWhole {K : PySem.W.Frag} {C f T : Addr} {od an : Option Addr} {oc kV doc pm cdv ct : Value} {osl : Array (Option Value)} {oT : Option Addr} {cT : Value} {sT : Array (Option Value)} {nT : Nat} (a : PySem.W.findIn K (.ref C) "__init__" = some (some (.ref f))) (t : PySem.W.typeIn K (.ref f) = some (.type "function"))
    (l : K.lookup f = some ⟨oc, od, .func (PySem.W.fnOf "__init__" "InvalidWhole.__init__" (C8.fnArgs st_InvalidWhole_init) (C8.fnBody st_InvalidWhole_init) (C8.fnScope st_InvalidWhole_init) (.ref T) kV doc pm an cdv ct), osl⟩) (c : PySem.W.codeIn K cdv "InvalidWhole.__init__" = true)
    (lT : K.lookup T = some ⟨cT, oT, .seq #[.none] nT, sT⟩) (k : PySem.W.keepIn K (.ref f) = true) : IniFWhole K C :=
  ⟨f, _, a, t, ⟨⟨oc, od, .ref T, kV, doc, pm, an, cdv, ct, osl, rfl, l, c, .inr ⟨by simp, T, _, [.none], nT, rfl, lT, rfl, .cons rfl .nil⟩, .inl rfl⟩, k⟩⟩
section
variable {P : Program} {w : World} {K : PySem.W.Frag} {mg : Str → Option Value} {h : Heap} {fa C CT CP CW c Pt : Addr} {tk : Tok}
theorem all_mk (X : K.In h) (G : h.Ns mainGlobals mg) (hfa : mg "law" = some (.ref fa)) (tab : h.get? Pt = some tabO) (off : K.lookup Pt = none) (chd : PySem.W.codeHdIn K c Pt = true)
    (dN : PySem.W.nsIn K mainGlobals "LONGEST_NAME" = some (some (.int 8 tk))) (dC : CopF K "copied" st_copied c) (dL : DefF K "law" st_law) (R0 : RulF K C) (E0 : ErrF K "InvalidTerm" CT) (E1 : ErrF K "InvalidPath" CP) (E3 : ErrF K "InvalidWhole" CW) (I0 : IniFTerm K CT) (I1 : IniFPath K CP) (I3 : IniFWhole K CW) (hne : PySem.W.exmOne K (.ref CW) (.ref CP) = some false)
    (mI : MetF K C "__init__" "Rule.__init__" st_Rule_init) (mT : MetF K C "term" "Rule.term" st_Rule_term) (mE : MetF K C "__eq__" "Rule.__eq__" st_Rule_eq)
    (d_is_whole : DefF K "is_whole" st_is_whole) (d_is_count : DefF K "is_count" st_is_count) (d_is_name : DefF K "is_name" st_is_name) (d_is_path : DefF K "is_path" st_is_path) (d_need_whole : DefF K "need_whole" st_need_whole) (d_is_term : DefF K "is_term" st_is_term) (d_x_is_term_list : DefF K "_is_term_list" st_x_is_term_list) (d_is_part : DefF K "is_part" st_is_part) (d_with_terms : DefF K "with_terms" st_with_terms) (d_rebuilt : DefF K "rebuilt" st_rebuilt) (d_parts_at : DefF K "parts_at" st_parts_at) (d_replaced : DefF K "replaced" st_replaced) (d_thinned : DefF K "thinned" st_thinned) (d_need_rule : DefF K "need_rule" st_need_rule) (d_parts : DefF K "parts" st_parts) (d_waited : DefF K "waited" st_waited) (d_x_part_at : DefF K "_part_at" st_x_part_at) (d_left_out : DefF K "left_out" st_left_out) (d_x_is_path_list : DefF K "_is_path_list" st_x_is_path_list) (d_purse : DefF K "_law_purse" st_purse) (d_mixed : DefF K "_law_mixed" st_mixed) (d_draw : DefF K "_law_draw" st_draw) (d_purses : DefF K "_law_purses" st_purses) (d_one_of : DefF K "_law_one_of" st_one_of) (d_shuffled : DefF K "_law_shuffled" st_shuffled) (d_word : DefF K "_law_word" st_word) (d_names : DefF K "_law_names" st_names) (d_wait : DefF K "_law_wait" st_wait) (d_small_wait : DefF K "_law_small_wait" st_small_wait) (d_part : DefF K "_law_part" st_part) (d_term : DefF K "_law_term" st_term) (d_walk : DefF K "_law_walk" st_walk) (d_anew : DefF K "_law_anew" st_anew) (d_less : DefF K "_law_less" st_less) (d_caught : DefF K "_law_caught" st_caught) (d_strict : DefF K "_law_strict" st_strict) (d_odd_paths : DefF K "_law_odd_paths" st_odd_paths) (d_odd_lots : DefF K "_law_odd_lots" st_odd_lots) (d_right : DefF K "_law_right" st_right)
    (z_isinstance : PySem.W.nsIn K mainGlobals "isinstance" = some none) (z_int : PySem.W.nsIn K mainGlobals "int" = some none) (z_bool : PySem.W.nsIn K mainGlobals "bool" = some none) (z_str : PySem.W.nsIn K mainGlobals "str" = some none) (z_len : PySem.W.nsIn K mainGlobals "len" = some none) (z_all : PySem.W.nsIn K mainGlobals "all" = some none) (z_tuple : PySem.W.nsIn K mainGlobals "tuple" = some none) (z_list : PySem.W.nsIn K mainGlobals "list" = some none) (z_min : PySem.W.nsIn K mainGlobals "min" = some none) (z_max : PySem.W.nsIn K mainGlobals "max" = some none) (z_sum : PySem.W.nsIn K mainGlobals "sum" = some none) (z_range : PySem.W.nsIn K mainGlobals "range" = some none) (z_dict : PySem.W.nsIn K mainGlobals "dict" = some none) (z_set : PySem.W.nsIn K mainGlobals "set" = some none) (z_enumerate : PySem.W.nsIn K mainGlobals "enumerate" = some none) (z_repr : PySem.W.nsIn K mainGlobals "repr" = some none)
    : ∃ fd cs T sp, LawG P w K C8.CX0 94 63 "_law_script" mg fa h fd cs T sp := by
  obtain ⟨f_is_whole, fd_is_whole, F_is_whole, e_is_whole⟩ := d_is_whole.def_ X G
  have b_is_whole := F_is_whole.fn.binds e_is_whole (ps := ps_is_whole) fun _ _ _ _ _ _ us hl => match us, hl with | [_], _ => rfl
  obtain ⟨f_is_count, fd_is_count, F_is_count, e_is_count⟩ := d_is_count.def_ X G
  have b_is_count := F_is_count.fn.binds e_is_count (ps := ps_is_count) fun _ _ _ _ _ _ us hl => match us, hl with | [_], _ => rfl
  obtain ⟨f_is_name, fd_is_name, F_is_name, e_is_name⟩ := d_is_name.def_ X G
  have b_is_name := F_is_name.fn.binds e_is_name (ps := ps_is_name) fun _ _ _ _ _ _ us hl => match us, hl with | [_], _ => rfl
  obtain ⟨f_is_path, fd_is_path, F_is_path, e_is_path⟩ := d_is_path.def_ X G
  have b_is_path := F_is_path.fn.binds e_is_path (ps := ps_is_path) fun _ _ _ _ _ _ us hl => match us, hl with | [_], _ => rfl
  obtain ⟨f_need_whole, fd_need_whole, F_need_whole, e_need_whole⟩ := d_need_whole.def_ X G
  have b_need_whole := F_need_whole.fn.binds e_need_whole (ps := ps_need_whole) fun _ _ _ _ _ _ us hl => match us, hl with | [_], _ => rfl
  obtain ⟨f_is_term, fd_is_term, F_is_term, e_is_term⟩ := d_is_term.def_ X G
  have b_is_term := F_is_term.fn.binds e_is_term (ps := ps_is_term) fun _ _ _ _ _ _ us hl => match us, hl with | [_], _ => rfl
  obtain ⟨f_x_is_term_list, fd_x_is_term_list, F_x_is_term_list, e_x_is_term_list⟩ := d_x_is_term_list.def_ X G
  have b_x_is_term_list := F_x_is_term_list.fn.binds e_x_is_term_list (ps := ps_x_is_term_list) fun _ _ _ _ _ _ us hl => match us, hl with | [_], _ => rfl
  obtain ⟨f_is_part, fd_is_part, F_is_part, e_is_part⟩ := d_is_part.def_ X G
  have b_is_part := F_is_part.fn.binds e_is_part (ps := ps_is_part) fun _ _ _ _ _ _ us hl => match us, hl with | [_], _ => rfl
  obtain ⟨f_with_terms, fd_with_terms, F_with_terms, e_with_terms⟩ := d_with_terms.def_ X G
  have b_with_terms := F_with_terms.fn.binds e_with_terms (ps := ps_with_terms) fun _ _ _ _ _ _ us hl => match us, hl with | [_, _], _ => rfl
  obtain ⟨f_rebuilt, fd_rebuilt, F_rebuilt, e_rebuilt⟩ := d_rebuilt.def_ X G
  have b_rebuilt := F_rebuilt.fn.binds e_rebuilt (ps := ps_rebuilt) fun _ _ _ _ _ _ us hl => match us, hl with | [_, _], _ => rfl
  obtain ⟨f_parts_at, fd_parts_at, F_parts_at, e_parts_at⟩ := d_parts_at.def_ X G
  have b_parts_at := F_parts_at.fn.binds e_parts_at (ps := ps_parts_at) fun _ _ _ _ _ _ us hl => match us, hl with | [_, _], _ => rfl
  obtain ⟨f_replaced, fd_replaced, F_replaced, e_replaced⟩ := d_replaced.def_ X G
  have b_replaced := F_replaced.fn.binds e_replaced (ps := ps_replaced) fun _ _ _ _ _ _ us hl => match us, hl with | [_, _, _], _ => rfl
  obtain ⟨f_thinned, fd_thinned, F_thinned, e_thinned⟩ := d_thinned.def_ X G
  have b_thinned := F_thinned.fn.binds e_thinned (ps := ps_thinned) fun _ _ _ _ _ _ us hl => match us, hl with | [_, _, _], _ => rfl
  obtain ⟨f_need_rule, fd_need_rule, F_need_rule, e_need_rule⟩ := d_need_rule.def_ X G
  have b_need_rule := F_need_rule.fn.binds e_need_rule (ps := ps_need_rule) fun _ _ _ _ _ _ us hl => match us, hl with | [_], _ => rfl
  obtain ⟨f_parts, fd_parts, F_parts, e_parts⟩ := d_parts.def_ X G
  have b_parts := F_parts.fn.binds e_parts (ps := ps_parts) fun _ _ _ _ _ _ us hl => match us, hl with | [_], _ => rfl
  obtain ⟨f_waited, fd_waited, F_waited, e_waited⟩ := d_waited.def_ X G
  have b_waited := F_waited.fn.binds e_waited (ps := ps_waited) fun _ _ _ _ _ _ us hl => match us, hl with | [_, _, _], _ => rfl
  obtain ⟨f_x_part_at, fd_x_part_at, F_x_part_at, e_x_part_at⟩ := d_x_part_at.def_ X G
  have b_x_part_at := F_x_part_at.fn.binds e_x_part_at (ps := ps_x_part_at) fun _ _ _ _ _ _ us hl => match us, hl with | [_, _], _ => rfl
  obtain ⟨f_left_out, fd_left_out, F_left_out, e_left_out⟩ := d_left_out.def_ X G
  have b_left_out := F_left_out.fn.binds e_left_out (ps := ps_left_out) fun _ _ _ _ _ _ us hl => match us, hl with | [_, _], _ => rfl
  obtain ⟨f_x_is_path_list, fd_x_is_path_list, F_x_is_path_list, e_x_is_path_list⟩ := d_x_is_path_list.def_ X G
  have b_x_is_path_list := F_x_is_path_list.fn.binds e_x_is_path_list (ps := ps_x_is_path_list) fun _ _ _ _ _ _ us hl => match us, hl with | [_, _], _ => rfl
  obtain ⟨f_purse, fd_purse, F_purse, e_purse⟩ := d_purse.def_ X G
  have b_purse := F_purse.fn.binds e_purse (ps := ps_purse) fun _ _ _ _ _ _ us hl => match us, hl with | [_, _], _ => rfl
  obtain ⟨f_mixed, fd_mixed, F_mixed, e_mixed⟩ := d_mixed.def_ X G
  have b_mixed := F_mixed.fn.binds e_mixed (ps := ps_mixed) fun _ _ _ _ _ _ us hl => match us, hl with | [_, _, _], _ => rfl
  obtain ⟨f_draw, fd_draw, F_draw, e_draw⟩ := d_draw.def_ X G
  have b_draw := F_draw.fn.binds e_draw (ps := ps_draw) fun _ _ _ _ _ _ us hl => match us, hl with | [_, _], _ => rfl
  obtain ⟨f_purses, fd_purses, F_purses, e_purses⟩ := d_purses.def_ X G
  have b_purses := F_purses.fn.binds e_purses (ps := ps_purses) fun _ _ _ _ _ _ us hl => match us, hl with | [_, _], _ => rfl
  obtain ⟨f_one_of, fd_one_of, F_one_of, e_one_of⟩ := d_one_of.def_ X G
  have b_one_of := F_one_of.fn.binds e_one_of (ps := ps_one_of) fun _ _ _ _ _ _ us hl => match us, hl with | [_, _], _ => rfl
  obtain ⟨f_shuffled, fd_shuffled, F_shuffled, e_shuffled⟩ := d_shuffled.def_ X G
  have b_shuffled := F_shuffled.fn.binds e_shuffled (ps := ps_shuffled) fun _ _ _ _ _ _ us hl => match us, hl with | [_, _], _ => rfl
  obtain ⟨f_word, fd_word, F_word, e_word⟩ := d_word.def_ X G
  have b_word := F_word.fn.binds e_word (ps := ps_word) fun _ _ _ _ _ _ us hl => match us, hl with | [_], _ => rfl
  obtain ⟨f_names, fd_names, F_names, e_names⟩ := d_names.def_ X G
  have b_names := F_names.fn.binds e_names (ps := ps_names) fun _ _ _ _ _ _ us hl => match us, hl with | [_, _], _ => rfl
  obtain ⟨f_wait, fd_wait, F_wait, e_wait⟩ := d_wait.def_ X G
  have b_wait := F_wait.fn.binds e_wait (ps := ps_wait) fun _ _ _ _ _ _ us hl => match us, hl with | [_], _ => rfl
  obtain ⟨f_small_wait, fd_small_wait, F_small_wait, e_small_wait⟩ := d_small_wait.def_ X G
  have b_small_wait := F_small_wait.fn.binds e_small_wait (ps := ps_small_wait) fun _ _ _ _ _ _ us hl => match us, hl with | [_], _ => rfl
  obtain ⟨f_part, fd_part, F_part, e_part⟩ := d_part.def_ X G
  have b_part := F_part.fn.binds e_part (ps := ps_part) fun _ _ _ _ _ _ us hl => match us, hl with | [_, _, _, _], _ => rfl
  obtain ⟨f_term, fd_term, F_term, e_term⟩ := d_term.def_ X G
  have b_term := F_term.fn.binds e_term (ps := ps_term) fun _ _ _ _ _ _ us hl => match us, hl with | [_, _, _, _, _], _ => rfl
  obtain ⟨f_walk, fd_walk, F_walk, e_walk⟩ := d_walk.def_ X G
  have b_walk := F_walk.fn.binds e_walk (ps := ps_walk) fun _ _ _ _ _ _ us hl => match us, hl with | [_, _], _ => rfl
  obtain ⟨f_anew, fd_anew, F_anew, e_anew⟩ := d_anew.def_ X G
  have b_anew := F_anew.fn.binds e_anew (ps := ps_anew) fun _ _ _ _ _ _ us hl => match us, hl with | [_, _, _], _ => rfl
  obtain ⟨f_less, fd_less, F_less, e_less⟩ := d_less.def_ X G
  have b_less := F_less.fn.binds e_less (ps := ps_less) fun _ _ _ _ _ _ us hl => match us, hl with | [_, _, _], _ => rfl
  obtain ⟨f_caught, fd_caught, F_caught, e_caught⟩ := d_caught.def_ X G
  have b_caught := F_caught.fn.binds e_caught (ps := ps_caught) fun _ _ _ _ _ _ us hl => match us, hl with | [_, _, _], _ => rfl
  obtain ⟨f_strict, fd_strict, F_strict, e_strict⟩ := d_strict.def_ X G
  have b_strict := F_strict.fn.binds e_strict (ps := ps_strict) fun _ _ _ _ _ _ us hl => match us, hl with | [_], _ => rfl
  obtain ⟨f_odd_paths, fd_odd_paths, F_odd_paths, e_odd_paths⟩ := d_odd_paths.def_ X G
  have b_odd_paths := F_odd_paths.fn.binds e_odd_paths (ps := ps_odd_paths) fun _ _ _ _ _ _ us hl => match us, hl with | [_, _], _ => rfl
  obtain ⟨f_odd_lots, fd_odd_lots, F_odd_lots, e_odd_lots⟩ := d_odd_lots.def_ X G
  have b_odd_lots := F_odd_lots.fn.binds e_odd_lots (ps := ps_odd_lots) fun _ _ _ _ _ _ us hl => match us, hl with | [_], _ => rfl
  obtain ⟨f_right, fd_right, F_right, e_right⟩ := d_right.def_ X G
  have b_right := F_right.fn.binds e_right (ps := ps_right) fun _ _ _ _ _ _ us hl => match us, hl with | [_], _ => rfl
  obtain ⟨f_law, fd_law, F_law, e_law⟩ := dL.def_ X G
  obtain ⟨f_c, fd_c, a_c, F_c, k_c, e_c, code_c⟩ := dC
  have D_c : C8.Def K mg "copied" st_copied f_c fd_c := ⟨F_c, PySem.W.mg_of X G a_c, k_c⟩
  have b_c := F_c.binds e_c (ps := ps_copied) fun _ _ _ _ _ _ us hl => match us, hl with | [_], _ => rfl
  obtain ⟨f_I, fd_I, F_I, M_I, e_I⟩ := mI
  have b_I := F_I.binds e_I (ps := ps_Rule_init) fun _ _ _ _ _ _ us hl => match us, hl with | [_, _], _ => rfl
  obtain ⟨f_T, fd_T, F_T, M_T, e_T⟩ := mT
  have b_T := F_T.binds e_T (ps := ps_Rule_term) fun _ _ _ _ _ _ us hl => match us, hl with | [_], _ => rfl
  obtain ⟨f_E, fd_E, F_E, M_E, e_E⟩ := mE
  have b_E := F_E.binds e_E (ps := ps_Rule_eq) fun _ _ _ _ _ _ us hl => match us, hl with | [_, _], _ => rfl
  obtain ⟨f_ini, fd_ini, a_ini, t_ini, F_ini⟩ := I0
  obtain ⟨f_inp, fd_inp, a_inp, t_inp, F_inp⟩ := I1
  obtain ⟨f_inw, fd_inw, a_inw, t_inw, F_inw⟩ := I3
  have n_isinstance := PySem.W.mg_none_of X G z_isinstance
  have n_int := PySem.W.mg_none_of X G z_int
  have n_bool := PySem.W.mg_none_of X G z_bool
  have n_str := PySem.W.mg_none_of X G z_str
  have n_len := PySem.W.mg_none_of X G z_len
  have n_all := PySem.W.mg_none_of X G z_all
  have n_tuple := PySem.W.mg_none_of X G z_tuple
  have n_list := PySem.W.mg_none_of X G z_list
  have n_min := PySem.W.mg_none_of X G z_min
  have n_max := PySem.W.mg_none_of X G z_max
  have n_sum := PySem.W.mg_none_of X G z_sum
  have n_range := PySem.W.mg_none_of X G z_range
  have n_dict := PySem.W.mg_none_of X G z_dict
  have n_set := PySem.W.mg_none_of X G z_set
  have n_enumerate := PySem.W.mg_none_of X G z_enumerate
  have n_repr := PySem.W.mg_none_of X G z_repr
  have n_LONG := PySem.W.mg_of X G dN
  have e := hfa.symm.trans F_law.mgf
  cases e
  have lam : Str := "copied" ++ ".<locals>." ++ "<lambda>"
  refine ⟨fd_law, [(c, Pt)], [(Pt, (("copied" : Str) ++ ".<locals>." ++ "<lambda>"))], sp_law ⟨P, w, K, mg, h, [(Pt, (("copied" : Str) ++ ".<locals>." ++ "<lambda>"))]⟩, ?_⟩
  refine ⟨fun p hp => ?_, fun p hp => ?_, fun p hp => ?_, ?_, ?_, ?_⟩
  · rw [List.mem_singleton.1 hp]; exact tab
  · rw [List.mem_singleton.1 hp]; exact off
  · rw [List.mem_singleton.1 hp]; exact PySem.W.codeHd_of_K X chd
  · intro s u
    obtain ⟨oc, od, dV, kV, doc, pm, an, cdv, ct, osl, hfd, lk, hcd⟩ := F_law.fn.ex
    have e0 : dV = .none := by have := e_law; rw [hfd] at this; exact this
    subst e0
    subst hfd
    exact .of_eq rfl
  · intro H a ns hl _ hH hS
    refine ⟨a, ns, rfl, hS, by omega, fun p hp => ?_, fun _ => rfl⟩
    rw [List.mem_singleton.1 hp]
    exact TabS.nil (hH (c, Pt) (by simp))
  · intro base GB XB TB
    obtain ⟨m, hm⟩ : ∃ m : Md, m = ⟨P, w, K, mg, base, [(Pt, (("copied" : Str) ++ ".<locals>." ++ "<lambda>"))]⟩ := ⟨_, rfl⟩
    rw [← hm]
    have hK : m.K = K := by rw [hm]
    have hg : m.mg = mg := by rw [hm]
    have hb : m.base = base := by rw [hm]
    have hTT : m.T = [(Pt, (("copied" : Str) ++ ".<locals>." ++ "<lambda>"))] := by rw [hm]
    clear hm
    subst hK hg hb
    have R : RuleC m C := ⟨⟨R0.pg, R0.hd, R0.po, R0.sa⟩, R0.no, PySem.W.mg_of X G R0.gR, R0.ha, R0.hn, R0.ht, R0.hm, R0.own, R0.oth⟩
    have E2 : RuleE m C := ⟨R0.nfS, R0.nfO, R0.ne⟩
    have Er : ErrC m "InvalidTerm" CT "value" := ⟨⟨E0.cls, E0.sa, E0.exC, E0.tyC, E0.kC⟩, ⟨E0.ga, E0.gg, E0.exC, E0.hdC⟩, E0.no, PySem.W.mg_of X G E0.gC, E0.self, f_ini, fd_ini, ps_InvalidTerm_init, a_ini, t_ini, init_binds F_ini, init_ok F_ini ⟨E0.cls, E0.sa, E0.exC, E0.tyC, E0.kC⟩ E0.no⟩
    have Ep : ErrC m "InvalidPath" CP "value" := ⟨⟨E1.cls, E1.sa, E1.exC, E1.tyC, E1.kC⟩, ⟨E1.ga, E1.gg, E1.exC, E1.hdC⟩, E1.no, PySem.W.mg_of X G E1.gC, E1.self, f_inp, fd_inp, ps_InvalidPath_init, a_inp, t_inp, init_bindsPath F_inp, init_okPath F_inp ⟨E1.cls, E1.sa, E1.exC, E1.tyC, E1.kC⟩ E1.no⟩
    have Ew : ErrC m "InvalidWhole" CW "value" := ⟨⟨E3.cls, E3.sa, E3.exC, E3.tyC, E3.kC⟩, ⟨E3.ga, E3.gg, E3.exC, E3.hdC⟩, E3.no, PySem.W.mg_of X G E3.gC, E3.self, f_inw, fd_inw, ps_InvalidWhole_init, a_inw, t_inw, init_bindsWhole F_inw, init_okWhole F_inw ⟨E3.cls, E3.sa, E3.exC, E3.tyC, E3.kC⟩ E3.no⟩
    have c1 := c_is_whole F_is_whole b_is_whole n_isinstance n_int n_bool
    have c2 := c_is_name F_is_name b_is_name n_isinstance n_str n_len n_all n_LONG
    have c3 := (c_is_term F_is_term b_is_term F_x_is_term_list b_x_is_term_list n_isinstance n_tuple n_list n_len n_all c2 c1 40).1
    have c4 := c_is_part F_is_part b_is_part
    have c5 := c_with_terms F_with_terms b_with_terms n_min n_len
    have c6 := c_rebuilt F_rebuilt b_rebuilt 1 (by omega) c4 c5 40
    have cA : ∀ M, M ≤ 40 → Cal m (M + 3) "copied" (sp_copied m M) := fun M _ => c_copied D_c b_c ⟨c, Pt, code_c, TB (c, Pt) (by simp), by rw [hTT]; simp, fun p hp _ => by rw [hTT] at hp; rw [List.mem_singleton.1 hp]⟩ M (c_rebuilt F_rebuilt b_rebuilt 1 (by omega) c4 c5 M)
    have c7 := cA 40 (Nat.le_refl _)
    have mT := m_term R F_T b_T M_T 40 c7
    have mE := m_eq R F_E b_E M_E n_isinstance
    have mI := f_rinit R F_I 40 c3 c7 Er
    have MK : MakX m (L2.CX m.P m.w) 44 "Rule" C (sp_rinit m C CT 40) [] := ⟨f_I, fd_I, ps_Rule_init, [], mI, ⟨R0.mks, M_I.at_, M_I.fn, R0.kc⟩, PySem.W.mg_of X G R0.gR, b_I, .nil⟩
    have l1 := c_mixed F_mixed b_mixed
    have l2 := c_draw F_draw b_draw n_range l1
    have l3 := c_purse F_purse b_purse n_sum n_max
    have l4 := c_purses F_purses b_purses n_range n_max n_min n_len l3
    have l5 := c_one_of F_one_of b_one_of n_len l2
    have l6 := c_shuffled F_shuffled b_shuffled n_len l2
    have l7 := c_word F_word b_word n_range l2
    have l8 := c_names F_names b_names l7 l6
    have l9 := c_small_wait F_small_wait b_small_wait l2
    have l10 := c_wait F_wait b_wait l2 l5
    have l11 := c_part F_part b_part l2 l5 l10 l9
    have l12 := c_term F_term b_term n_range n_min n_max l2 l5 l11 8
    have p1 := c_is_count F_is_count b_is_count c1
    have p2 := c_is_path F_is_path b_is_path n_isinstance n_tuple n_all p1
    have p3 := c_need_whole F_need_whole b_need_whole c1 Ew
    have p4 := c_with_termsA F_with_terms b_with_terms n_min n_len
    have p5 := c_replaced F_replaced b_replaced p4 40 c7 cA
    have p6 := c_thinned F_thinned b_thinned n_enumerate c4 p4 40
    have p7 := c_parts_at F_parts_at b_parts_at n_enumerate c4 40
    have p8 := c_need_rule R F_need_rule b_need_rule n_isinstance
    have p9 := c_parts F_parts b_parts 40 (by omega) p8 p7 mT
    have q1 := c_part_at F_x_part_at b_x_part_at n_dict 40 (by omega) p2 p9
    have q2 := c_waited F_waited b_waited 40 (by omega) p8 q1 p3 p5 mT MK Ep
    have q3 := c_ipl F_x_is_path_list b_x_is_path_list n_isinstance n_list n_dict n_all n_len n_set 40 (by omega) p2 p9
    have q4 := c_left_out F_left_out b_left_out 40 (by omega) p8 q3 p6 mT MK Ep
    have a1 := c_walk F_walk b_walk n_range n_len 16
    have a2 := c_anew F_anew b_anew n_list 16
    have a3 := c_less F_less b_less n_range n_len n_min 16 (by omega)
    have a4 := c_caught F_caught b_caught 40 q2 q4 Ep Ew hne
    have a5 := c_strict F_strict b_strict n_isinstance n_tuple n_bool
    have a6 := c_odd_paths F_odd_paths b_odd_paths n_tuple a5
    have a7 := c_odd_lots F_odd_lots b_odd_lots n_tuple n_list
    have aa := c_right F_right b_right R E2 l2 l8 l5 l12 MK mT mE n_repr n_len n_list a6 a7 a4 q4 a3 l6 a1 l10 p9 a2 q2
    refine (f_law F_law.fn R E2 l4 aa MK mT q4 q2 p9).imp fun vs H Q E z => ?_
    obtain ⟨a, ns, e, hs, hn, hT, k⟩ := z
    exact ⟨a, ns, e, hs, hn, by rw [hTT]; exact hT, k⟩
end
end Vf
open PySem PySem.W PyProof.Rows
set_option maxRecDepth 100000 in
set_option maxHeartbeats 0 in
theorem PySem.Challenge.cw_leafwaits_k05_whole_parts_and_paths_holds : PySem.Challenge.rw_leafwaits_k05_whole_parts_and_paths.Holds := by
  w_on; o_law; k_head; (case hw => w_witness2)
  k_fill
  refine Vf.walkG (l := PySem.Challenge.rw_leafwaits_k05_whole_parts_and_paths) (n := 63) (k := 94) (x := "_law_script") (CX := fun _ => C8.CX0) rfl (by decide) rfl ⟨rfl, by decide, by decide⟩ (fun w h Y => PySem.W.km_in_of Y) ?F (fun _ _ _ _ _ z => z)
  case F =>
    intro w mg fa h Y KX G hmg
    refine' Vf.all_mk KX G hmg ?tab ?off ?chd ?dN ?dC ?dL ?R0 ?E0 ?E1 ?E3 ?I0 ?I1 ?I3 ?hne ?mI ?mT ?mE ?d_is_whole ?d_is_count ?d_is_name ?d_is_path ?d_need_whole ?d_is_term ?d_x_is_term_list ?d_is_part ?d_with_terms ?d_rebuilt ?d_parts_at ?d_replaced ?d_thinned ?d_need_rule ?d_parts ?d_waited ?d_x_part_at ?d_left_out ?d_x_is_path_list ?d_purse ?d_mixed ?d_draw ?d_purses ?d_one_of ?d_shuffled ?d_word ?d_names ?d_wait ?d_small_wait ?d_part ?d_term ?d_walk ?d_anew ?d_less ?d_caught ?d_strict ?d_odd_paths ?d_odd_lots ?d_right ?z_isinstance ?z_int ?z_bool ?z_str ?z_len ?z_all ?z_tuple ?z_list ?z_min ?z_max ?z_sum ?z_range ?z_dict ?z_set ?z_enumerate ?z_repr
    (case dC => (refine' Vf.mk_cop ?a ?l ?c ?k; (case a => k_is); (case l => k_is); (case c => k_is); (case k => k_is)))
    (case tab => exact PySem.W.km_tabs_of Y _ List.mem_cons_self)
    (case off => kernel_rfl)
    (case chd => kernel_rfl)
    (case dN => k_is)
    (case dL => (refine' Vf.mk_def ?a ?l ?c ?k; (case a => k_is); (case l => k_is); (case c => k_is); (case k => k_is)))
    (case R0 =>
      refine' ⟨?gR, ?pg, ?hd, ?po, ?sa, ?no, ?ha, ?hn, ?ht, ?hm, ?own, ?oth, ?nfS, ?nfO, ?ne, ?mks, ?kc⟩
      (case gR => k_is); (case pg => k_is); (case hd => k_is); (case po => k_is); (case sa => k_is); (case no => k_is); (case ha => k_is); (case hn => k_is); (case ht => k_is); (case hm => k_is)
      (case own => first | k_is | kernel_rfl)
      (case oth => intro T hT; simp only [List.mem_cons, List.not_mem_nil, or_false] at hT; rcases hT with rfl | rfl | rfl | rfl | rfl | rfl | rfl <;> first | k_is | kernel_rfl)
      (case nfS => k_is)
      (case nfO => intro T hT; simp only [List.mem_cons, List.not_mem_nil, or_false] at hT; rcases hT with rfl | rfl | rfl | rfl | rfl | rfl | rfl <;> k_is)
      (case ne => k_is); (case mks => k_is); (case kc => k_is))
    (case E0 =>
      refine' ⟨?gC, ?cls, ?sa, ?exC, ?tyC, ?kC, ?ga, ?gg, ?hdC, ?no, ?self⟩
      (case gC => k_is)
      (case cls => (refine' Vf.mk_cls ?l ?r; (case l => k_is); (case r => rfl)))
      (case sa => k_is); (case exC => k_is); (case tyC => k_is); (case kC => k_is); (case ga => k_is); (case gg => k_is); (case hdC => k_is); (case no => k_is)
      (case self => first | k_is | kernel_rfl))
    (case E1 =>
      refine' ⟨?gC, ?cls, ?sa, ?exC, ?tyC, ?kC, ?ga, ?gg, ?hdC, ?no, ?self⟩
      (case gC => k_is)
      (case cls => (refine' Vf.mk_cls ?l ?r; (case l => k_is); (case r => rfl)))
      (case sa => k_is); (case exC => k_is); (case tyC => k_is); (case kC => k_is); (case ga => k_is); (case gg => k_is); (case hdC => k_is); (case no => k_is)
      (case self => first | k_is | kernel_rfl))
    (case E3 =>
      refine' ⟨?gC, ?cls, ?sa, ?exC, ?tyC, ?kC, ?ga, ?gg, ?hdC, ?no, ?self⟩
      (case gC => k_is)
      (case cls => (refine' Vf.mk_cls ?l ?r; (case l => k_is); (case r => rfl)))
      (case sa => k_is); (case exC => k_is); (case tyC => k_is); (case kC => k_is); (case ga => k_is); (case gg => k_is); (case hdC => k_is); (case no => k_is)
      (case self => first | k_is | kernel_rfl))
    (case I0 => (refine' Vf.mk_iniTerm ?a ?t ?l ?c ?lT ?k; (case a => k_is); (case t => k_is); (case l => k_is); (case c => k_is); (case lT => k_is); (case k => k_is)))
    (case I1 => (refine' Vf.mk_iniPath ?a ?t ?l ?c ?lT ?k; (case a => k_is); (case t => k_is); (case l => k_is); (case c => k_is); (case lT => k_is); (case k => k_is)))
    (case I3 => (refine' Vf.mk_iniWhole ?a ?t ?l ?c ?lT ?k; (case a => k_is); (case t => k_is); (case l => k_is); (case c => k_is); (case lT => k_is); (case k => k_is)))
    (case hne => first | k_is | kernel_rfl)
    (case mI => (refine' Vf.mk_met ?a ?i ?l ?c ?k; (case a => k_is); (case i => k_is); (case l => k_is); (case c => k_is); (case k => k_is)))
    (case mT => (refine' Vf.mk_met ?a ?i ?l ?c ?k; (case a => k_is); (case i => k_is); (case l => k_is); (case c => k_is); (case k => k_is)))
    (case mE => (refine' Vf.mk_met ?a ?i ?l ?c ?k; (case a => k_is); (case i => k_is); (case l => k_is); (case c => k_is); (case k => k_is)))
    (case d_is_whole => (refine' Vf.mk_def ?a ?l ?c ?k; (case a => k_is); (case l => k_is); (case c => k_is); (case k => k_is)))
    (case d_is_count => (refine' Vf.mk_def ?a ?l ?c ?k; (case a => k_is); (case l => k_is); (case c => k_is); (case k => k_is)))
    (case d_is_name => (refine' Vf.mk_def ?a ?l ?c ?k; (case a => k_is); (case l => k_is); (case c => k_is); (case k => k_is)))
    (case d_is_path => (refine' Vf.mk_def ?a ?l ?c ?k; (case a => k_is); (case l => k_is); (case c => k_is); (case k => k_is)))
    (case d_need_whole => (refine' Vf.mk_def ?a ?l ?c ?k; (case a => k_is); (case l => k_is); (case c => k_is); (case k => k_is)))
    (case d_is_term => (refine' Vf.mk_def ?a ?l ?c ?k; (case a => k_is); (case l => k_is); (case c => k_is); (case k => k_is)))
    (case d_x_is_term_list => (refine' Vf.mk_def ?a ?l ?c ?k; (case a => k_is); (case l => k_is); (case c => k_is); (case k => k_is)))
    (case d_is_part => (refine' Vf.mk_def ?a ?l ?c ?k; (case a => k_is); (case l => k_is); (case c => k_is); (case k => k_is)))
    (case d_with_terms => (refine' Vf.mk_def ?a ?l ?c ?k; (case a => k_is); (case l => k_is); (case c => k_is); (case k => k_is)))
    (case d_rebuilt => (refine' Vf.mk_def ?a ?l ?c ?k; (case a => k_is); (case l => k_is); (case c => k_is); (case k => k_is)))
    (case d_parts_at => (refine' Vf.mk_def ?a ?l ?c ?k; (case a => k_is); (case l => k_is); (case c => k_is); (case k => k_is)))
    (case d_replaced => (refine' Vf.mk_def ?a ?l ?c ?k; (case a => k_is); (case l => k_is); (case c => k_is); (case k => k_is)))
    (case d_thinned => (refine' Vf.mk_def ?a ?l ?c ?k; (case a => k_is); (case l => k_is); (case c => k_is); (case k => k_is)))
    (case d_need_rule => (refine' Vf.mk_def ?a ?l ?c ?k; (case a => k_is); (case l => k_is); (case c => k_is); (case k => k_is)))
    (case d_parts => (refine' Vf.mk_def ?a ?l ?c ?k; (case a => k_is); (case l => k_is); (case c => k_is); (case k => k_is)))
    (case d_waited => (refine' Vf.mk_def ?a ?l ?c ?k; (case a => k_is); (case l => k_is); (case c => k_is); (case k => k_is)))
    (case d_x_part_at => (refine' Vf.mk_def ?a ?l ?c ?k; (case a => k_is); (case l => k_is); (case c => k_is); (case k => k_is)))
    (case d_left_out => (refine' Vf.mk_def ?a ?l ?c ?k; (case a => k_is); (case l => k_is); (case c => k_is); (case k => k_is)))
    (case d_x_is_path_list => (refine' Vf.mk_def ?a ?l ?c ?k; (case a => k_is); (case l => k_is); (case c => k_is); (case k => k_is)))
    (case d_purse => (refine' Vf.mk_def ?a ?l ?c ?k; (case a => k_is); (case l => k_is); (case c => k_is); (case k => k_is)))
    (case d_mixed => (refine' Vf.mk_def ?a ?l ?c ?k; (case a => k_is); (case l => k_is); (case c => k_is); (case k => k_is)))
    (case d_draw => (refine' Vf.mk_def ?a ?l ?c ?k; (case a => k_is); (case l => k_is); (case c => k_is); (case k => k_is)))
    (case d_purses => (refine' Vf.mk_def ?a ?l ?c ?k; (case a => k_is); (case l => k_is); (case c => k_is); (case k => k_is)))
    (case d_one_of => (refine' Vf.mk_def ?a ?l ?c ?k; (case a => k_is); (case l => k_is); (case c => k_is); (case k => k_is)))
    (case d_shuffled => (refine' Vf.mk_def ?a ?l ?c ?k; (case a => k_is); (case l => k_is); (case c => k_is); (case k => k_is)))
    (case d_word => (refine' Vf.mk_def ?a ?l ?c ?k; (case a => k_is); (case l => k_is); (case c => k_is); (case k => k_is)))
    (case d_names => (refine' Vf.mk_def ?a ?l ?c ?k; (case a => k_is); (case l => k_is); (case c => k_is); (case k => k_is)))
    (case d_wait => (refine' Vf.mk_def ?a ?l ?c ?k; (case a => k_is); (case l => k_is); (case c => k_is); (case k => k_is)))
    (case d_small_wait => (refine' Vf.mk_def ?a ?l ?c ?k; (case a => k_is); (case l => k_is); (case c => k_is); (case k => k_is)))
    (case d_part => (refine' Vf.mk_def ?a ?l ?c ?k; (case a => k_is); (case l => k_is); (case c => k_is); (case k => k_is)))
    (case d_term => (refine' Vf.mk_def ?a ?l ?c ?k; (case a => k_is); (case l => k_is); (case c => k_is); (case k => k_is)))
    (case d_walk => (refine' Vf.mk_def ?a ?l ?c ?k; (case a => k_is); (case l => k_is); (case c => k_is); (case k => k_is)))
    (case d_anew => (refine' Vf.mk_def ?a ?l ?c ?k; (case a => k_is); (case l => k_is); (case c => k_is); (case k => k_is)))
    (case d_less => (refine' Vf.mk_def ?a ?l ?c ?k; (case a => k_is); (case l => k_is); (case c => k_is); (case k => k_is)))
    (case d_caught => (refine' Vf.mk_def ?a ?l ?c ?k; (case a => k_is); (case l => k_is); (case c => k_is); (case k => k_is)))
    (case d_strict => (refine' Vf.mk_def ?a ?l ?c ?k; (case a => k_is); (case l => k_is); (case c => k_is); (case k => k_is)))
    (case d_odd_paths => (refine' Vf.mk_def ?a ?l ?c ?k; (case a => k_is); (case l => k_is); (case c => k_is); (case k => k_is)))
    (case d_odd_lots => (refine' Vf.mk_def ?a ?l ?c ?k; (case a => k_is); (case l => k_is); (case c => k_is); (case k => k_is)))
    (case d_right => (refine' Vf.mk_def ?a ?l ?c ?k; (case a => k_is); (case l => k_is); (case c => k_is); (case k => k_is)))
    (case z_isinstance => k_is)
    (case z_int => k_is)
    (case z_bool => k_is)
    (case z_str => k_is)
    (case z_len => k_is)
    (case z_all => k_is)
    (case z_tuple => k_is)
    (case z_list => k_is)
    (case z_min => k_is)
    (case z_max => k_is)
    (case z_sum => k_is)
    (case z_range => k_is)
    (case z_dict => k_is)
    (case z_set => k_is)
    (case z_enumerate => k_is)
    (case z_repr => k_is)
