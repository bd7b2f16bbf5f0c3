import PyProof.Rows.All
import Wide.All
import OpenK.AllK
import Wide.FinOn
import HandS.ForMost
import HandS.ForExc
import HandS.EndTab
import HandS.Property
import HandS.ClsMeth
import HandS.Star
import HandS.IsInst
import HandS.ExcIs
import HandS.SlotsOwn
import HandS.Wide
import HandS.TupAny
import HandS.Flow
import HandS.Steps
import HandS.WideBits
import HandS.TupMul
import HandS.SetFor
import HandS.ExcField
import HandS.ExcInit
import KE.KExcSuper
import KE.KSuper
import HandS.Lambda
import HandS.Style
import KE.GoesEnum
import KE.GoesMore
import HandS.Zip
import HandS.Deep
import HandS.FStr
import PyProof.Conv_bool
import PyProof.Rows.Range3
import PySem.Challenge.RW_oilwalk_k07_ways_that_part
set_option Elab.async false
set_option linter.all false
set_option maxRecDepth 100000
set_option maxHeartbeats 4000000
/-! Rules of our own: operators, truth, == of own instances; promises bundled with their addresses. -/
namespace Oil
open PySem PySem.Spec PyProof.Rows L2
section
variable {X : Cx} {CX : CXT} {C g : Addr} {n : Nat} {sp : Sp} {E : XK}
theorem inst_of {pins : List (Addr × Obj)} {σ : L2.St} {H : Hp} {s : Shared} {a dx : Addr} {fs : List (Str × V)} (I : Inv X pins σ H s) (h : H a = some (.ins C dx fs)) :
    ∃ ox od, PySem.W.InstAt s.heap a ox C od := by
  obtain ⟨mA, O, _⟩ := ins_get I.hok h
  obtain ⟨od, J, _⟩ := O.look
  exact ⟨_, _, J⟩
/-- both operands are instances of the class at C -/
def rBinC (C : Addr) (sp : Sp) (E : XK) : R2 := fun x y H Q => ∃ (a dx : Addr) (fs : List (Str × V)) (b dy : Addr) (gs : List (Str × V)),
  x = .ref a ∧ y = .ref b ∧ H a = some (.ins C dx fs) ∧ H b = some (.ins C dy gs) ∧ sp [x, y] H Q E
theorem op_binC {op : Operator} (hc : PySem.W.selfFirst X.K C = true) (hs : PySem.W.findIn X.K (.ref C) (PySem.dunder op.info.2) = some (some (.ref g)))
    (hf : PySem.W.isFn X.K (.ref g) = true) (F : FnR X.prog X.w X.K X.mg X.base CX n g sp) (hr : Room n X.A) (hx : Passes CX X E) : OpR X (binaryOp op) (rBinC C sp E) := by
  intro pins s σ H x y v u Q I rx ry h
  obtain ⟨a, dx, fs, b, dy, gs, rfl, rfl, ha, hb, q⟩ := h
  cases (show v = Value.ref a from rx)
  cases (show u = Value.ref b from ry)
  obtain ⟨ox, od, J⟩ := inst_of I ha
  obtain ⟨oy, oe, J'⟩ := inst_of I hb
  obtain ⟨m, hF⟩ := I.fr
  refine PySem.W.binop_K hF I.ok.mod.kin J J'.type hc hs hf ?_
  refine wpAny_mono (wpAny_call (run_fnR (us := [.ref a, .ref b]) (vs := [.ref a, .ref b]) F hr hx I (.cons rfl (.cons rfl .nil)) q)) (fun w s' z => ?_) fun _ _ x => x
  obtain ⟨z', H', I', rz, qz⟩ := z
  exact SlX.cmpback rz ⟨z', H', I', rz, qz⟩
/-- the right operand is None, a bool, an int or a text -/
inductive Flat : V → String → Prop where
  | non : Flat .non "NoneType"
  | bl (b : Bool) : Flat (.bl b) "bool"
  | int (i : Int) : Flat (.int i) "int"
  | str (x : Str) : Flat (.str x) "str"
theorem Flat.type {y : V} {T : String} (f : Flat y T) {u : Value} (r : RelV y u) : typeOf u = pure (.type T) := by
  cases f with
  | non => cases (show u = Value.none from r); rfl
  | bl b => cases (show u = Value.bool b from r); rfl
  | int i => obtain ⟨t, e⟩ := (show ∃ t, u = Value.int i t from r); cases e; rfl
  | str x => obtain ⟨t, e⟩ := (show ∃ t, u = Value.str x t from r); cases e; rfl
/-- what the types of such operands say of the operator, against the class at C -/
def FlatOk (K : PySem.W.Frag) (C : Addr) (nm : String) (T : String) : Prop :=
  (PySem.W.findIn K (.type T) (PySem.dunder nm)).isSome = true ∧ (PySem.W.findIn K (.type T) (dunderR nm)).isSome = true ∧ PySem.W.subIn K (.type T) (.ref C) = some false
def rBinF (C : Addr) (Ts : List String) (sp : Sp) (E : XK) : R2 := fun x y H Q => ∃ (a dx : Addr) (fs : List (Str × V)) (T : String), x = .ref a ∧ H a = some (.ins C dx fs) ∧ Flat y T ∧ T ∈ Ts ∧ sp [x, y] H Q E
theorem op_binF {op : Operator} {Ts : List String} (hc : PySem.W.selfFirst X.K C = true) (hs : PySem.W.findIn X.K (.ref C) (PySem.dunder op.info.2) = some (some (.ref g)))
    (hR : PySem.W.findIn X.K (.ref C) (dunderR op.info.2) = some none) (hT : ∀ T ∈ Ts, FlatOk X.K C op.info.2 T)
    (hf : PySem.W.isFn X.K (.ref g) = true) (F : FnR X.prog X.w X.K X.mg X.base CX n g sp) (hr : Room n X.A) (hx : Passes CX X E) : OpR X (binaryOp op) (rBinF C Ts sp E) := by
  intro pins s σ H x y v u Q I rx ry h
  obtain ⟨a, dx, fs, T, rfl, ha, fl, hm, q⟩ := h
  cases (show v = Value.ref a from rx)
  obtain ⟨ox, od, J⟩ := inst_of I ha
  obtain ⟨m, hF⟩ := I.fr
  obtain ⟨h1, h2, h3⟩ := hT T hm
  obtain ⟨fo, h1⟩ := Option.isSome_iff_exists.mp h1
  obtain ⟨ro, h2⟩ := Option.isSome_iff_exists.mp h2
  refine PySem.W.ksp_binT hF I.ok.mod.kin J (fl.type ry) hc hs hf hR (.inl rfl) h1 h2 h3 ?_
  refine wpAny_mono (wpAny_call (run_fnR (us := [.ref a, u]) (vs := [.ref a, y]) F hr hx I (.cons rfl (.cons ry .nil)) q)) (fun w s' z => ?_) fun _ _ x => x
  obtain ⟨z', H', I', rz, qz⟩ := z
  exact SlX.cmpback rz ⟨z', H', I', rz, qz⟩
/-- == by the class's own def; the right side an instance of it, or flat -/
def rEqO (K : PySem.W.Frag) (C : Addr) (sp : Sp) (E : XK) : R2 := fun x y H Q => ∃ (a dx : Addr) (fs : List (Str × V)), x = .ref a ∧ H a = some (.ins C dx fs) ∧
  ((∃ (b dy : Addr) (gs : List (Str × V)), y = .ref b ∧ H b = some (.ins C dy gs)) ∨ (∃ T, Flat y T ∧ PySem.W.notFirst K C (.type T) = true) ∨ (∃ t, TyX K H y t ∧ PySem.W.notFirst K C t = true)) ∧ sp [x, y] H Q E
theorem op_eqO (hs : PySem.W.findIn X.K (.ref C) "__eq__" = some (some (.ref g)))
    (hf : PySem.W.isFn X.K (.ref g) = true) (F : FnR X.prog X.w X.K X.mg X.base CX n g sp) (hr : Room n X.A) (hx : Passes CX X E) : OpR X (compareOp .Eq) (rEqO X.K C sp E) := by
  intro pins s σ H x y v u Q I rx ry h
  obtain ⟨a, dx, fs, rfl, ha, hy, q⟩ := h
  cases (show v = Value.ref a from rx)
  obtain ⟨ox, od, J⟩ := inst_of I ha
  obtain ⟨m, hF⟩ := I.fr
  have fin : ∀ w s', (∃ v H', Inv X pins σ H' s' ∧ RelV v w ∧ Q v H') → PySem.W.CmpBack (EP X pins σ Q) w s' := fun w s' z => by
    obtain ⟨z', H', I', rz, qz⟩ := z
    exact SlX.cmpback rz ⟨z', H', I', rz, qz⟩
  have call : wpAny (model X.prog X.w) X.A (call (.ref g) [.ref a, u]) (EP X pins σ Q) X.xe s :=
    wpAny_call (run_fnR (us := [.ref a, u]) (vs := [.ref a, y]) F hr hx I (.cons rfl (.cons ry .nil)) q)
  show wpAny _ _ (richCompare .Eq (.ref a) u) _ _ _
  rcases hy with ⟨b, dy, gs, rfl, hb⟩ | ⟨T, fl, hn⟩ | ⟨t, ty, hn⟩
  · cases (show u = Value.ref b from ry)
    obtain ⟨oy, oe, J'⟩ := inst_of I hb
    refine PySem.W.cmp_K (op := .Eq) (tb := .ref C) hr.units0 hF I.ok.mod.kin J J'.type ?_ hs hf (wpAny_mono call (fun w s' z => fin w s' z) fun _ _ x => x)
    unfold PySem.W.notFirst
    rw [beq_self_eq_true, Bool.true_or]
  · refine PySem.W.cmp_K (op := .Eq) (tb := .type T) hr.units0 hF I.ok.mod.kin J (PySem.W.Looks.of_pure (fl.type ry)) hn hs hf (wpAny_mono call (fun w s' z => fin w s' z) fun _ _ x => x)
  · obtain ⟨P, kx, hp, _⟩ := kit_of I ry ty
    exact PySem.W.cmp_K (op := .Eq) (tb := t) hr.units0 hF I.ok.mod.kin J (kx.ty _ _ I.kIn hp) hn hs hf (wpAny_mono call (fun w s' z => fin w s' z) fun _ _ x => x)
/-- truth by the class's own __bool__ -/
def rTruO (C : Addr) (sp : Sp) (E : XK) : V → Hp → (Bool → Hp → Prop) → Prop := fun x H Q => ∃ (a dx : Addr) (fs : List (Str × V)), x = .ref a ∧ H a = some (.ins C dx fs) ∧
  sp [x] H (fun v H' => ∃ b, v = .bl b ∧ Q b H') E
theorem tru_own (hs : PySem.W.findIn X.K (.ref C) "__bool__" = some (some (.ref g)))
    (hf : PySem.W.isFn X.K (.ref g) = true) (F : FnR X.prog X.w X.K X.mg X.base CX n g sp) (hr : Room n X.A) (hx : Passes CX X E) : TruR X (rTruO C sp E) := by
  intro pins s σ H x v Q I rx h
  obtain ⟨a, dx, fs, rfl, ha, q⟩ := h
  cases (show v = Value.ref a from rx)
  obtain ⟨ox, od, J⟩ := inst_of I ha
  obtain ⟨m, hF⟩ := I.fr
  refine PySem.W.truthy_K hF I.ok.mod.kin J hs hf ?_
  refine wpAny_mono (wpAny_call (run_fnR (us := [.ref a]) (vs := [.ref a]) F hr hx I (.cons rfl .nil) q)) (fun w s' z => ?_) fun _ _ x => x
  obtain ⟨z', H', I', rz, b, e, qz⟩ := z
  subst e
  cases (show w = Value.bool b from rz)
  exact ⟨H', I', qz⟩
end
/-! ### promises bundled with their addresses -/
theorem fnR_of {P : Program} {w : World} {K : PySem.W.Frag} {mg : Str → Option Value} {base : Heap} {CX : CXT} {k : Nat} {f : Addr} {sp : Sp} {fd : FuncData} {ps : List Str} (F : FnOk P w K mg base CX k f fd ps sp) (hb : L2.Binds K fd ps []) : FnR P w K mg base CX k f sp :=
  (FnOk.raw F hb .nil).imp fun vs H Q E h => by
    rw [List.append_nil]
    exact h
section
variable (P : Program) (w : World) (K : PySem.W.Frag) (mg : Str → Option Value) (base : Heap) (k : Nat)
/-- a def of the module -/
structure Cal (x : Str) (sp : Sp) : Prop where
  ex : ∃ f, mg x = some (.ref f) ∧ PySem.W.keepIn K (.ref f) = true ∧ FnR P w K mg base (L2.CX P w) k f sp
/-- a class of the module, made by its __init__ -/
structure Mak (x : Str) (C : Addr) (sp : Sp) : Prop where
  gl : mg x = some (.ref C)
  ex : ∃ f, Mk K C f ∧ FnR P w K mg base (L2.CX P w) k f sp
structure Met (C : Addr) (m : Str) (sp : Sp) : Prop where
  cl : Cls K C
  ex : ∃ f, Meth K C m f ∧ FnR P w K mg base (L2.CX P w) k f sp
structure Prp (C : Addr) (f : Str) (sp : Sp) : Prop where
  cl : Cls K C
  ex : ∃ p g, PropOf K C f p g ∧ FnR P w K mg base (L2.CX P w) k g sp
structure Cmt (C : Addr) (m : Str) (sp : Sp) : Prop where
  ex : ∃ mc p g, ClX.CRead K C mc ∧ ClX.CMet K C mc m p g ∧ FnR P w K mg base (L2.CX P w) k g sp
structure Clo (C : Addr) (sp : Sp) : Prop where
  ex : ∃ g, StX.CallO K C g ∧ FnR P w K mg base (L2.CX P w) k g sp
structure BinC (C : Addr) (op : Operator) (sp : Sp) : Prop where
  sf : PySem.W.selfFirst K C = true
  ex : ∃ g, PySem.W.findIn K (.ref C) (PySem.dunder op.info.2) = some (some (.ref g)) ∧ PySem.W.isFn K (.ref g) = true ∧ FnR P w K mg base (L2.CX P w) k g sp
structure BinF (C : Addr) (op : Operator) (Ts : List String) (sp : Sp) : Prop where
  c : BinC P w K mg base k C op sp
  rf : PySem.W.findIn K (.ref C) (dunderR op.info.2) = some none
  ts : ∀ T ∈ Ts, FlatOk K C op.info.2 T
structure EqO (C : Addr) (sp : Sp) : Prop where
  ex : ∃ g, PySem.W.findIn K (.ref C) "__eq__" = some (some (.ref g)) ∧ PySem.W.isFn K (.ref g) = true ∧ FnR P w K mg base (L2.CX P w) k g sp
structure TruO (C : Addr) (sp : Sp) : Prop where
  ex : ∃ g, PySem.W.findIn K (.ref C) "__bool__" = some (some (.ref g)) ∧ PySem.W.isFn K (.ref g) = true ∧ FnR P w K mg base (L2.CX P w) k g sp
end
section
variable {X : Cx} {C : Addr} {k j : Nat} {sp : Sp} {E : XK} {x m : Str} {p pos apos : Pos} {e o : Expr} {es : List Expr} {t : TA} {ta : TE}
theorem op_bc {op : Operator} (c : BinC X.prog X.w X.K X.mg X.base k C op sp) (hr : Room j X.A) (hk : k ≤ j) (hx : Passes (L2.CX X.prog X.w) X E) : OpR X (binaryOp op) (rBinC C sp E) := by
  obtain ⟨g, hs, hf, F⟩ := c.ex
  exact op_binC c.sf hs hf F (hr.mono hk) hx
theorem op_bf {op : Operator} {Ts : List String} (c : BinF X.prog X.w X.K X.mg X.base k C op Ts sp) (hr : Room j X.A) (hk : k ≤ j) (hx : Passes (L2.CX X.prog X.w) X E) : OpR X (binaryOp op) (rBinF C Ts sp E) := by
  obtain ⟨g, hs, hf, F⟩ := c.c.ex
  exact op_binF c.c.sf hs c.rf c.ts hf F (hr.mono hk) hx
theorem op_eqo (c : EqO X.prog X.w X.K X.mg X.base k C sp) (hr : Room j X.A) (hk : k ≤ j) (hx : Passes (L2.CX X.prog X.w) X E) : OpR X (compareOp .Eq) (rEqO X.K C sp E) := by
  obtain ⟨g, hs, hf, F⟩ := c.ex
  exact op_eqO hs hf F (hr.mono hk) hx
theorem tru_o (c : TruO X.prog X.w X.K X.mg X.base k C sp) (hr : Room j X.A) (hk : k ≤ j) (hx : Passes (L2.CX X.prog X.w) X E) : TruR X (rTruO C sp E) := by
  obtain ⟨g, hs, hf, F⟩ := c.ex
  exact tru_own hs hf F (hr.mono hk) hx
/-- f(e, ..) -/
def tCal (sp : Sp) (E : XK) (t : TA) : TE := fun σ H Q => t σ H fun vs H1 => sp vs H1 Q E
theorem pe_cal (c : Cal X.prog X.w X.K X.mg X.base k x sp) (hr : Room j X.A) (hk : k ≤ j) (hx : Passes (L2.CX X.prog X.w) X E) (ha : PA X (e :: es) t) (hg : Gl X x := by rfl)
    (hdb : (x == ("__debug__" : Str)) = false := by decide) (he : starEach (e :: es) X.env = (false, eval e X.env) :: starEach es X.env := by rfl) (hpl : (backTo pos (starEach es X.env)).any (·.1) = false := by rfl) :
    PE X (.Call (.Name x p) (e :: es) [] pos) (tCal sp E t) := by
  obtain ⟨f, hm, hkp, F⟩ := c.ex
  refine ⟨fun pins s σ H Q I h => ?_⟩
  refine wpAny_Call_Name_kw (ld_glob I hg hm ?_ hdb)
  refine PySem.W.callWith_K (h₀ := X.base) I.ok.mod.kin hkp (thn (ha.run pos pins s σ H _ I h) fun us s1 ⟨vs, H1, I1, r, q⟩ => ⟨I1.kIn, ?_⟩) he hpl
  exact wpAny_call (run_fnR F (hr.mono hk) hx I1 r q)
theorem pe_cal0 (c : Cal X.prog X.w X.K X.mg X.base k x sp) (hr : Room j X.A) (hk : k ≤ j) (hx : Passes (L2.CX X.prog X.w) X E) (hg : Gl X x := by rfl)
    (hdb : (x == ("__debug__" : Str)) = false := by decide) : PE X (.Call (.Name x p) [] [] pos) (tCal sp E tNil) := by
  obtain ⟨f, hm, hkp, F⟩ := c.ex
  refine ⟨fun pins s σ H Q I h => ?_⟩
  refine wpAny_Call_Name_kw (ld_glob I hg hm ?_ hdb)
  exact PySem.W.callWith_K0 I.kIn hkp (wpAny_call (run_fnR (us := []) (vs := []) F (hr.mono hk) hx I .nil h))
/-- C(e, ..) -/
theorem pe_mak (c : Mak X.prog X.w X.K X.mg X.base k x C sp) (hr : Room j X.A) (hk : k + 1 ≤ j) (hx : Passes (L2.CX X.prog X.w) X E) (ha : PA X (e :: es) t) (hg : Gl X x := by rfl)
    (hdb : (x == ("__debug__" : Str)) = false := by decide) (he : starEach (e :: es) X.env = (false, eval e X.env) :: starEach es X.env := by rfl) (hpl : (backTo pos (starEach es X.env)).any (·.1) = false := by rfl) :
    PE X (.Call (.Name x p) (e :: es) [] pos) (StX.tMakeR C sp E t) := by
  obtain ⟨f, M, F⟩ := c.ex
  exact StX.pe_makeR M F (hr.mono hk) hg c.gl hx ha hdb he hpl
/-- c(e, ..), c a name of the def that holds the class -/
def tMakL (i : Nat) (C : Addr) (sp : Sp) (E : XK) (t : TA) : TE := fun σ H Q => σ[i]? = some (some (.ref C)) ∧ StX.tMakeR C sp E t σ H Q
theorem pe_makL {i : Nat} (c : Mak X.prog X.w X.K X.mg X.base k m C sp) (hr : Room j X.A) (hk : k + 1 ≤ j) (hx : Passes (L2.CX X.prog X.w) X E) (ha : PA X (e :: es) t) (hN : X.N[i]? = some x := by rfl)
    (hv : Vis X.env.scope x := by first | exact Or.inl rfl | exact Or.inr (Or.inl rfl) | exact Or.inr (Or.inr rfl))
    (hdb : (x == ("__debug__" : Str)) = false := by decide) (hcd : (x == ("__classdict__" : Str)) = false := by decide) (he : starEach (e :: es) X.env = (false, eval e X.env) :: starEach es X.env := by rfl) (hpl : (backTo pos (starEach es X.env)).any (·.1) = false := by rfl) :
    PE X (.Call (.Name x p) (e :: es) [] pos) (tMakL i C sp E t) := by
  obtain ⟨f, M, F⟩ := c.ex
  refine ⟨fun pins s σ H Q I h => ?_⟩
  obtain ⟨hs, ht⟩ := h
  refine wpAny_Call_Name_kw (thn ((pe_var (pos := p) hN hv hdb hcd).run pins s σ H (fun v H1 => v = .ref C ∧ H1 = H) I ⟨.ref C, hs, rfl, rfl⟩) fun u s1 ⟨v, H1, I1, r1, q1⟩ => ?_)
  obtain ⟨rfl, rfl⟩ := q1
  cases r1
  refine PySem.W.callWith_K (h₀ := X.base) I.ok.mod.kin M.kp (thn (ha.run pos pins s1 σ _ _ I1 ht) fun us s2 ⟨vs, H2, I2, r, q⟩ => ⟨I2.kIn, ?_⟩) he hpl
  exact StX.run_makeR M F (hr.mono hk) hx I2 r q
/-- o.m(e, ..) -/
def tMt (C : Addr) (m : Str) (sp : Sp) (E : XK) (ta : TE) (t : TA) : TE := fun σ H Q => ta σ H fun x H1 => ∃ (a dx : Addr) (fs : List (Str × V)), x = .ref a ∧ H1 a = some (.ins C dx fs) ∧ fs.lookup m = none ∧ t σ H1 fun vs H2 => sp (.ref a :: vs) H2 Q E
theorem pe_mt {pl : Sem Bool} (he : PE X o ta) (c : Met X.prog X.w X.K X.mg X.base k C m sp) (hr : Room j X.A) (hk : k ≤ j) (hx : Passes (L2.CX X.prog X.w) X E) (ha : PA X (e :: es) t)
    (hst : starEach (e :: es) X.env = (false, eval e X.env) :: starEach es X.env := by rfl) (hpl : (backTo pos (starEach es X.env)).any (·.1) = false := by rfl)
    (ht : eval (.Call (.Attribute o m apos) (e :: es) [] pos) X.env = (do
      let ov ← eval o X.env
      standAt apos.atName
      let (f, first) ← holding [ov] (getMethod ov m pl)
      callWith pos f first (backTo pos (starEach (e :: es) X.env)) (backToKw pos (keywordEach [] X.env))) := by rfl) :
    PE X (.Call (.Attribute o m apos) (e :: es) [] pos) (tMt C m sp E ta t) := by
  obtain ⟨f, hm, F⟩ := c.ex
  refine ⟨fun pins s σ H Q I h => ?_⟩
  refine PySem.W.methodCall_KW (pl := pl) (thn (he.run pins s σ H _ I h) fun u s1 ⟨x, H1, I1, rx, a, dx, fs, ex, ea, l, q⟩ => ?_) ht
  subst ex
  obtain rfl : u = Value.ref a := rx
  refine getmeth_ok I1 ea c.cl hm l ?_
  refine PySem.W.callWith_K (first := [.ref a]) (h₀ := X.base) I.ok.mod.kin hm.kp (thn (ha.run pos pins s1 σ H1 _ I1 q) fun us s2 ⟨vs, H2, I2, r, q2⟩ => ⟨I2.kIn, ?_⟩) hst hpl
  exact wpAny_call (run_fnR (us := .ref a :: us) (vs := .ref a :: vs) F (hr.mono hk) hx I2 (.cons rfl r) q2)
theorem pe_mt0 {pl : Sem Bool} (he : PE X o ta) (c : Met X.prog X.w X.K X.mg X.base k C m sp) (hr : Room j X.A) (hk : k ≤ j) (hx : Passes (L2.CX X.prog X.w) X E)
    (ht : eval (.Call (.Attribute o m apos) [] [] pos) X.env = (do
      let ov ← eval o X.env
      standAt apos.atName
      let (f, first) ← holding [ov] (getMethod ov m pl)
      callWith pos f first (backTo pos (starEach [] X.env)) (backToKw pos (keywordEach [] X.env))) := by rfl) :
    PE X (.Call (.Attribute o m apos) [] [] pos) (tMt C m sp E ta tNil) := by
  obtain ⟨f, hm, F⟩ := c.ex
  refine ⟨fun pins s σ H Q I h => ?_⟩
  refine PySem.W.methodCall_KW (pl := pl) (thn (he.run pins s σ H _ I h) fun u s1 ⟨x, H1, I1, rx, a, dx, fs, ex, ea, l, q⟩ => ?_) ht
  subst ex
  obtain rfl : u = Value.ref a := rx
  refine getmeth_ok I1 ea c.cl hm l ?_
  exact PySem.W.callWith_K0 (first := [.ref a]) I1.kIn hm.kp (wpAny_call (run_fnR (us := [.ref a]) (vs := [.ref a]) F (hr.mono hk) hx I1 (.cons rfl .nil) q))
/-- e.f, a property -/
def tPrp (C : Addr) (sp : Sp) (E : XK) (ta : TE) : TE := fun σ H Q => ta σ H fun x H1 => ∃ (a dx : Addr) (fs : List (Str × V)), x = .ref a ∧ H1 a = some (.ins C dx fs) ∧ sp [.ref a] H1 Q E
theorem pe_prp (he : PE X e ta) (c : Prp X.prog X.w X.K X.mg X.base k C m sp) (hr : Room j X.A) (hk : k + 1 ≤ j) (hx : Passes (L2.CX X.prog X.w) X.nox E)
    (hab : attributeBase e m X.env (eval e X.env) = eval e X.env := by rfl) : PE X (.Attribute e m pos) (tPrp C sp E ta) := by
  obtain ⟨pa, g, hp, F⟩ := c.ex
  refine ⟨fun pins s σ H Q I h => ?_⟩
  refine attr_of hab (thn (he.run pins s σ H _ I h) fun u s1 ⟨x, H1, I1, rx, a, dx, fs, ex, ea, q⟩ => ?_)
  subst ex
  obtain rfl : u = Value.ref a := rx
  obtain ⟨mA, O, _, _, _, _⟩ := ins_get I1.hok ea
  obtain ⟨od, J, _⟩ := O.look
  obtain ⟨rest, hrec⟩ := hp.rec_
  have I2 := I1.tok (s1.toks + 1)
  have hc : (PySem.W.clsIn X.K C).isSome = true := by
    obtain ⟨cd, hc, _⟩ := PySem.W.any_some c.cl.hd
    rw [hc]
    rfl
  have hr' : Room k X.A.in1 := (hr.mono hk).in1
  refine PySem.W.get_bind I1.kIn J (PySem.W.plainGet_of (c.cl.get m)).1 (PySem.W.findObj_data hc hp.at_ hp.get hp.tak) (PySem.W.plainGet_of (c.cl.get m)).2 (wpAny_call (PySem.W.prop_get (s := { s1 with toks := s1.toks + 1 }) I1.kIn hrec ?_))
  refine codeAny_mono (F X.A.in1 X.stack { s1 with toks := s1.toks + 1 } H1 [.ref a] [.ref a] Q E hr' I2.env0.in1 (.cons rfl .nil) q) fun r s' hq => ?_
  cases r with
  | error er => exact False.elim (hx pins σ H1 { s1 with toks := s1.toks + 1 } er s' (I2.wish _) hq)
  | ok fl =>
    cases fl with
    | ret u =>
      obtain ⟨v, H', I3, rv, q3⟩ := I2.after hq
      exact wpAny_of_eq (PySem.W.handedOut_of (handed_of rv)) ⟨v, H', I3, rv, q3⟩
    | next => exact False.elim hq
    | brk => exact False.elim hq
    | cont => exact False.elim hq
/-- o.m(..), o the class, m a classmethod -/
theorem pe_cmt (he : PE X o ta) (c : Cmt X.prog X.w X.K X.mg X.base k C m sp) (hr : Room j X.A) (hk : k ≤ j) (hx : Passes (L2.CX X.prog X.w) X E) (ha : PA X (e :: es) t) {pl : Sem Bool}
    (hst : starEach (e :: es) X.env = (false, eval e X.env) :: starEach es X.env := by rfl) (hpl : (backTo pos (starEach es X.env)).any (·.1) = false := by rfl)
    (ht : eval (.Call (.Attribute o m apos) (e :: es) [] pos) X.env = (do
      let ov ← eval o X.env
      standAt apos.atName
      let (f, first) ← holding [ov] (getMethod ov m pl)
      callWith pos f first (backTo pos (starEach (e :: es) X.env)) (backToKw pos (keywordEach [] X.env))) := by rfl) :
    PE X (.Call (.Attribute o m apos) (e :: es) [] pos) (ClX.tCMeth C sp E ta t) := by
  obtain ⟨mc, q, g, r, cm, F⟩ := c.ex
  exact ClX.pe_cmeth (pl := pl) he r cm F (hr.mono hk) hx ha hst hpl ht
theorem pe_cmt0 (he : PE X o ta) (c : Cmt X.prog X.w X.K X.mg X.base k C m sp) (hr : Room j X.A) (hk : k ≤ j) (hx : Passes (L2.CX X.prog X.w) X E) {pl : Sem Bool}
    (ht : eval (.Call (.Attribute o m apos) [] [] pos) X.env = (do
      let ov ← eval o X.env
      standAt apos.atName
      let (f, first) ← holding [ov] (getMethod ov m pl)
      callWith pos f first (backTo pos (starEach [] X.env)) (backToKw pos (keywordEach [] X.env))) := by rfl) :
    PE X (.Call (.Attribute o m apos) [] [] pos) (ClX.tCMeth C sp E ta tNil) := by
  obtain ⟨mc, q, g, r, cm, F⟩ := c.ex
  refine ⟨fun pins s σ H Q I h => ?_⟩
  refine PySem.W.methodCall_KW (pl := pl) (thn (he.run pins s σ H _ I h) fun u s1 ⟨x, H1, I1, rx, ex, q⟩ => ?_) ht
  subst ex
  obtain rfl : u = Value.ref C := rx
  refine ClX.getmethcm_ok I1 r cm fun s2 I2 => ?_
  refine PySem.W.callWith_M0 (K := X.K) (g := g) (self := .ref C) ⟨ClX.pin_at I2, I2.kIn⟩ cm.fi ?_
  exact ClX.run_cm F (hr.mono hk) hx I2 .nil q
/-- x(e, ..), x an instance that is called -/
theorem pe_clo {fe : Expr} {tf : TE} (hf : PE X fe tf) (c : Clo X.prog X.w X.K X.mg X.base k C sp) (hr : Room j X.A) (hk : k ≤ j) (hx : Passes (L2.CX X.prog X.w) X E) (ha : PA X (e :: es) t)
    (ht : eval (.Call fe (e :: es) [] pos) X.env = (do callWith pos (← eval fe X.env) [] (backTo pos (starEach (e :: es) X.env)) (backToKw pos (keywordEach [] X.env))) := by rfl)
    (he : starEach (e :: es) X.env = (false, eval e X.env) :: starEach es X.env := by rfl) (hpl : (backTo pos (starEach es X.env)).any (·.1) = false := by rfl) : PE X (.Call fe (e :: es) [] pos) (StX.tCallO X C sp E tf t) := by
  obtain ⟨g, co, F⟩ := c.ex
  exact StX.pe_callO hf co F (hr.mono hk) hx ha ht he hpl
end
end Oil
/-! Readings, one construct a lemma, from the left. -/
namespace Oil
open PySem PySem.Spec PyProof.Rows L2
/-! ### promises by the number of their arguments -/
abbrev F1 := V → Hp → VK → XK → Prop
abbrev F2 := V → V → Hp → VK → XK → Prop
abbrev F3 := V → V → V → Hp → VK → XK → Prop
abbrev F4 := V → V → V → V → Hp → VK → XK → Prop
abbrev F5 := V → V → V → V → V → Hp → VK → XK → Prop
abbrev F6 := V → V → V → V → V → V → Hp → VK → XK → Prop
def Sp0 (f : Hp → VK → XK → Prop) : Sp := fun vs H Q E => vs = [] ∧ f H Q E
def Sp1 (f : F1) : Sp := fun vs H Q E => ∃ a, vs = [a] ∧ f a H Q E
def Sp2 (f : F2) : Sp := fun vs H Q E => ∃ a b, vs = [a, b] ∧ f a b H Q E
def Sp3 (f : F3) : Sp := fun vs H Q E => ∃ a b c, vs = [a, b, c] ∧ f a b c H Q E
def Sp4 (f : F4) : Sp := fun vs H Q E => ∃ a b c d, vs = [a, b, c, d] ∧ f a b c d H Q E
def Sp5 (f : F5) : Sp := fun vs H Q E => ∃ a b c d e, vs = [a, b, c, d, e] ∧ f a b c d e H Q E
def Sp6 (f : F6) : Sp := fun vs H Q E => ∃ a b c d e g, vs = [a, b, c, d, e, g] ∧ f a b c d e g H Q E
/-! ### what some built-ins ask, by name -/
def cMax2 : List V → Hp → VK → Prop := fun xs H Q => ∃ i j, xs = [.int i, .int j] ∧ Q (.int (max i j)) H
def cMin2 : List V → Hp → VK → Prop := fun xs H Q => ∃ i j, xs = [.int i, .int j] ∧ Q (.int (min i j)) H
def cInt : List V → Hp → VK → Prop := fun xs H Q => (∃ i, xs = [.int i] ∧ Q (.int i) H) ∨ ∃ k, xs = [.bl k] ∧ Q (.int (if k then 1 else 0)) H
def cLen (K : PySem.W.Frag) : List V → Hp → VK → Prop := fun xs H Q => ∃ p ys, xs = [.ref p] ∧ (SqL K H p ys ∨ SqT K H p ys) ∧ Q (.int ys.length) H
def cTup (K : PySem.W.Frag) : List V → Hp → VK → Prop := fun xs H Q => ∃ p ys, xs = [.ref p] ∧ ((SqL K H p ys ∧ ∀ l, H l = none → Q (.ref l) (upd H l (.tup ys))) ∨ (SqT K H p ys ∧ Q (.ref p) H))
def TruQ (K : PySem.W.Frag) (x : V) (H : Hp) (Q : Bool → Hp → Prop) : Prop := ∃ k, TruV K x H k ∧ Q k H
def tTruN (K : PySem.W.Frag) (ta : TE) : TT := fun σ H Q => ta σ H fun x H' => TruQ K x H' Q
def tTruR (r : V → Hp → (Bool → Hp → Prop) → Prop) (ta : TE) : TT := fun σ H Q => ta σ H fun x H' => r x H' Q
def rOdd : R2 := fun x y H Q => ∃ n : Nat, x = .int (n : Int) ∧ y = .int 1 ∧ Q (.int ((n % 2 : Nat) : Int)) H
section
variable {X : Cx}
theorem call_mx (hc : X.calm = true) : CallR X (.builtin "max") cMax2 := fun pins s σ H xs us Q I r ⟨i, j, e, q⟩ => call_max2 hc pins s σ H xs us Q I r ⟨i, j, e, by rw [show (if j > i then j else i) = max i j by split <;> omega]; exact q⟩
theorem call_mn (hc : X.calm = true) : CallR X (.builtin "min") cMin2 := fun pins s σ H xs us Q I r ⟨i, j, e, q⟩ => call_min2 hc pins s σ H xs us Q I r ⟨i, j, e, by rw [show (if j < i then j else i) = min i j by split <;> omega]; exact q⟩
theorem call_in : CallR X (.type "int") cInt := call_int1
theorem call_ln : CallR X (.builtin "len") (cLen X.K) := call_len_seq
theorem call_tu : CallR X (.type "tuple") (cTup X.K) := call_tuple_of
theorem pt_tru {e : Expr} {ta : TE} (he : PE X e ta) (h : ∀ whole, isTrue e X.env whole = (do let v ← whole; standAt e.pos; holding [v] (truthy v))) : PT X e (tTruN X.K ta) := pt_truth he h
theorem pt_truR {r : V → Hp → (Bool → Hp → Prop) → Prop} {e : Expr} {ta : TE} (hr : TruR X r) (he : PE X e ta) (h : ∀ whole, isTrue e X.env whole = (do let v ← whole; standAt e.pos; holding [v] (truthy v))) : PT X e (tTruR r ta) :=
  ⟨fun pins s σ H Q I q => isTrue_plain (thn (he.run pins s σ H _ I q) fun v s1 ⟨x, H1, I1, r1, q1⟩ => hr pins s1 σ H1 x v Q I1 r1 q1) (h _)⟩
theorem op_od : OpR X (binaryOp .BitAnd) rOdd := op_odd
end
section
variable {K : PySem.W.Frag} {σ : L2.St} {H : Hp} {Q : VK} {QT : Bool → Hp → Prop} {QA : List V → Hp → Prop} {E : XK} {D : Ends} {i j : Nat} {v x y z : V} {ta tb tc te tf : TE} {t u : TT} {tx ty : TS} {tl tr : TA} {a C dx : Addr} {fs : List (Str × V)} {b : Bool} {f m : Str} {n k : Int}
theorem r_var (h : σ[i]? = some (some v)) (q : Q v H) : tVar i σ H Q := ⟨v, h, q⟩
theorem r_c (q : Q v H) : tC v σ H Q := q
theorem r_op {r : R2} (q : ta σ H fun x H1 => tb σ H1 fun y H2 => r x y H2 Q) : tOp r ta tb σ H Q := q
theorem r_un {r : V → Hp → VK → Prop} (q : ta σ H fun x H1 => r x H1 Q) : tUn r ta σ H Q := q
theorem r_I0 {g : Int → Int → V} (q : Q (g n k) H) : rI0 g (.int n) (.int k) H Q := ⟨n, k, rfl, rfl, q⟩
theorem r_I {c : Int → Int → Prop} {g : Int → Int → V} (hc : c n k) (q : Q (g n k) H) : rI c g (.int n) (.int k) H Q := ⟨n, k, rfl, rfl, hc, q⟩
theorem r_U {g : Int → V} (q : Q (g n) H) : rU g (.int n) H Q := ⟨n, rfl, q⟩
theorem r_eq (h : scal x y = true) (q : Q (.bl (decide (x = y))) H) : rEq x y H Q := ⟨h, q⟩
theorem r_ne (h : scal x y = true) (q : Q (.bl (!decide (x = y))) H) : rNe x y H Q := ⟨h, q⟩
theorem r_test (q : te σ H fun x H' => ∃ k, x = .bl k ∧ QT k H') : tTest te σ H QT := q
theorem r_B (q : te σ H fun x H' => ∃ k, x = .bl k ∧ QT k H') : tB te σ H QT := q
theorem r_bl (q : QT b H) : ∃ k, V.bl b = .bl k ∧ QT k H := ⟨b, rfl, q⟩
theorem r_blQ {R : Bool → Prop} (q : R b) : ∃ k, V.bl b = .bl k ∧ R k := ⟨b, rfl, q⟩
theorem r_and (q : t σ H fun c H1 => if c = true then u σ H1 QT else QT false H1) : tAnd t u σ H QT := q
theorem r_or (q : t σ H fun c H1 => if c = true then QT true H1 else u σ H1 QT) : tOr t u σ H QT := q
theorem r_not (q : t σ H fun c H1 => QT (!c) H1) : tNot t σ H QT := q
theorem r_andV (q : ta σ H fun x H1 => ∃ c, x = .bl c ∧ if c = true then tb σ H1 Q else Q (.bl false) H1) : tAndV ta tb σ H Q := q
theorem r_orV (q : ta σ H fun x H1 => ∃ c, x = .bl c ∧ if c = true then Q (.bl true) H1 else tb σ H1 Q) : tOrV ta tb σ H Q := q
theorem r_notV (q : ta σ H fun x H1 => ∃ c, x = .bl c ∧ Q (.bl (!c)) H1) : tNotV ta σ H Q := q
theorem r_if (q : t σ H fun c H1 => if c = true then ta σ H1 Q else tb σ H1 Q) : tIf t ta tb σ H Q := q
theorem r_chain {r r' : R2} (q : ta σ H fun x H1 => tb σ H1 fun y H2 => r x y H2 fun z H3 => ∃ k, z = .bl k ∧ (if k = true then tc σ H3 fun w' H4 => r' y w' H4 Q else Q (.bl false) H3)) : tChain r r' ta tb tc σ H Q := q
theorem r_T {A B : Prop} (h : b = true) (q : A) : if b = true then A else B := by rw [if_pos h]; exact q
theorem r_F {A B : Prop} (h : b = false) (q : B) : if b = true then A else B := by rw [if_neg (by rw [h]; exact Bool.false_ne_true)]; exact q
theorem r_by {A B : Prop} (h1 : b = true → A) (h2 : b = false → B) : if b = true then A else B := by
  cases b with
  | true => exact h1 rfl
  | false => exact h2 rfl
theorem r_isn {Q : VK} (q : Q (.bl (decide (x = .non))) H) : rIsN x .non H Q := ⟨rfl, q⟩
theorem r_notn {Q : VK} (q : Q (.bl (!decide (x = .non))) H) : rNotN x .non H Q := ⟨rfl, q⟩
theorem r_truI (q : QT (n != 0) H) : TruQ K (.int n) H QT := ⟨_, rfl, q⟩
theorem r_truB (q : QT b H) : TruQ K (.bl b) H QT := ⟨_, rfl, q⟩
theorem r_truN (q : QT false H) : TruQ K .non H QT := ⟨_, rfl, q⟩
theorem r_tru (q : ta σ H fun x H' => TruQ K x H' QT) : tTruN K ta σ H QT := q
theorem r_truR {r : V → Hp → (Bool → Hp → Prop) → Prop} (q : ta σ H fun x H' => r x H' QT) : tTruR r ta σ H QT := q
theorem r_nx {p : L2.St → Hp → Prop} {q1 : VK} {r s : L2.St → Hp → Prop} (q : p σ H) : Ends.nx ⟨p, q1, r, s⟩ σ H := q
theorem r_rt {p : L2.St → Hp → Prop} {q1 : VK} {r s : L2.St → Hp → Prop} (q : q1 v H) : Ends.rt ⟨p, q1, r, s⟩ v H := q
theorem r_ct {p : L2.St → Hp → Prop} {q1 : VK} {r s : L2.St → Hp → Prop} (q : s σ H) : Ends.ct ⟨p, q1, r, s⟩ σ H := q
theorem r_bk {p : L2.St → Hp → Prop} {q1 : VK} {r s : L2.St → Hp → Prop} (q : r σ H) : Ends.bk ⟨p, q1, r, s⟩ σ H := q
theorem r_next (q : D.nx σ H) : tNext D σ H := q
theorem r_seq (q : tx { D with nx := ty D } σ H) : tSeq tx ty D σ H := q
theorem r_drop (q : te σ H fun _ H1 => D.nx σ H1) : tDrop te D σ H := q
theorem r_ret (q : te σ H fun v H1 => D.rt v H1) : tRet te D σ H := q
theorem r_retN (q : D.rt .non H) : tRetN D σ H := q
theorem r_ifS (q : t σ H fun b H1 => if b = true then tx D σ H1 else ty D σ H1) : tIfS t tx ty D σ H := q
theorem r_asg {g : TG} (q : te σ H fun x H1 => g x σ H1 D.nx) : tAsg te g D σ H := q
theorem r_gname {R : L2.St → Hp → Prop} (q : R (σ.set i (some v)) H) : gName i v σ H R := q
theorem r_par (q : tl σ H fun vs H1 => ∃ v w, vs = [v, w] ∧ D.nx ((σ.set i (some v)).set j (some w)) H1) : tPar i j tl D σ H := q
theorem r_par2 {R : V → V → Prop} (q : R x y) : ∃ v w, [x, y] = [v, w] ∧ R v w := ⟨x, y, rfl, q⟩
theorem r_nil (q : QA [] H) : tNil σ H QA := q
theorem r_cons (q : ta σ H fun x H1 => tr σ H1 fun xs H2 => QA (x :: xs) H2) : tCons ta tr σ H QA := q
theorem r_cb {r : List V → Hp → VK → Prop} (q : tl σ H fun vs H1 => r vs H1 Q) : tCB r tl σ H Q := q
theorem r_tup (q : tl σ H fun xs H1 => xs.length ≤ sizeLine ∧ ∀ p, H1 p = none → Q (.ref p) (upd H1 p (.tup xs))) : tTup tl σ H Q := q
theorem r_lst (q : tl σ H fun xs H1 => xs.length ≤ sizeLine ∧ ∀ p, H1 p = none → Q (.ref p) (upd H1 p (.lst xs))) : tLst tl σ H Q := q
theorem r_cal {sp : Sp} (q : tl σ H fun vs H1 => sp vs H1 Q E) : tCal sp E tl σ H Q := q
theorem r_mak {sp : Sp} (q : tl σ H fun vs H1 => ∀ x dx, H1 x = Option.none → H1 dx = Option.none → dx ≠ x → sp (.ref x :: vs) (upd (upd H1 dx (.own x)) x (.ins C dx [])) (fun v H2 => v = .non ∧ Q (.ref x) H2) E) : StX.tMakeR C sp E tl σ H Q := q
theorem r_makL {sp : Sp} (h : σ[i]? = some (some (.ref C))) (q : StX.tMakeR C sp E tl σ H Q) : tMakL i C sp E tl σ H Q := ⟨h, q⟩
theorem r_prp {sp : Sp} (q : ta σ H fun x H1 => ∃ (a dx : Addr) (fs : List (Str × V)), x = .ref a ∧ H1 a = some (.ins C dx fs) ∧ sp [.ref a] H1 Q E) : tPrp C sp E ta σ H Q := q
theorem r_mt {sp : Sp} (q : ta σ H fun x H1 => ∃ (a dx : Addr) (fs : List (Str × V)), x = .ref a ∧ H1 a = some (.ins C dx fs) ∧ fs.lookup m = none ∧ tl σ H1 fun vs H2 => sp (.ref a :: vs) H2 Q E) : tMt C m sp E ta tl σ H Q := q
theorem r_cmt {sp : Sp} (q : ta σ H fun x H1 => x = .ref C ∧ tl σ H1 fun vs H2 => sp (.ref C :: vs) H2 Q E) : ClX.tCMeth C sp E ta tl σ H Q := q
theorem r_clo {X : Cx} {sp : Sp} (q : tf σ H fun y H1 => ∃ a, y = V.ref a ∧ tl σ H1 fun vs H2 => StX.InsC X H2 a C ∧ sp (V.ref a :: vs) H2 Q E) : StX.tCallO X C sp E tf tl σ H Q := q
theorem r_fld (q : ta σ H fun x H1 => ∃ a C dx fs v, x = .ref a ∧ H1 a = some (.ins C dx fs) ∧ Cls K C ∧ NoAttr K C f ∧ fs.lookup f = some v ∧ Q v H1) : tFld K ta f σ H Q := q
theorem r_sfld (q : tb σ H fun y H1 => ta σ H1 fun x H2 => ∃ a C dx fs, x = .ref a ∧ H2 a = some (.ins C dx fs) ∧ Cls K C ∧ NoAttr K C f ∧ fs.length < 1000 ∧ D.nx σ (upd H2 a (.ins C dx (putF f y fs)))) : sFld K ta tb f D σ H := q
theorem r_rfl {α : Type} {a : α} {R : Prop} (q : R) : a = a ∧ R := ⟨rfl, q⟩
theorem r_max2 (q : Q (.int (max n k)) H) : cMax2 [.int n, .int k] H Q := ⟨n, k, rfl, q⟩
theorem r_min2 (q : Q (.int (min n k)) H) : cMin2 [.int n, .int k] H Q := ⟨n, k, rfl, q⟩
theorem r_int1 (q : Q (.int n) H) : cInt [.int n] H Q := .inl ⟨n, rfl, q⟩
theorem r_int1b (q : Q (.int (if b then 1 else 0)) H) : cInt [.bl b] H Q := .inr ⟨b, rfl, q⟩
theorem r_lenL {xs : List V} (h : H a = some (.lst xs)) (q : Q (.int xs.length) H) : cLen K [.ref a] H Q := ⟨a, xs, rfl, .inl (SqL.of h), q⟩
theorem r_lenT {xs : List V} (h : H a = some (.tup xs)) (q : Q (.int xs.length) H) : cLen K [.ref a] H Q := ⟨a, xs, rfl, .inr (SqT.of h), q⟩
theorem r_tupL {xs : List V} (h : H a = some (.lst xs)) (q : ∀ p, H p = none → Q (.ref p) (upd H p (.tup xs))) : cTup K [.ref a] H Q := ⟨a, xs, rfl, .inl ⟨SqL.of h, q⟩⟩
theorem r_store {R : Hp → Prop} (T : Cls K C) (hx : H a = some (.ins C dx fs)) (no : NoAttr K C f) (hl : fs.length < 1000) (q : R (upd H a (.ins C dx (putF f y fs)))) :
    ∃ a' C' dx' fs', V.ref a = .ref a' ∧ H a' = some (.ins C' dx' fs') ∧ Cls K C' ∧ NoAttr K C' f ∧ fs'.length < 1000 ∧ R (upd H a' (.ins C' dx' (putF f y fs'))) := ⟨a, C, dx, fs, rfl, hx, T, no, hl, q⟩
theorem r_odd {c : Nat} (q : Q (.int ((c % 2 : Nat) : Int)) H) : rOdd (.int (c : Int)) (.int 1) H Q := ⟨c, rfl, rfl, q⟩
theorem r_sp1 {g : F1} (q : g x H Q E) : Sp1 g [x] H Q E := ⟨x, rfl, q⟩
theorem r_sp2 {g : F2} (q : g x y H Q E) : Sp2 g [x, y] H Q E := ⟨x, y, rfl, q⟩
theorem r_sp3 {g : F3} (q : g x y z H Q E) : Sp3 g [x, y, z] H Q E := ⟨x, y, z, rfl, q⟩
theorem r_sp4 {g : F4} {c : V} (q : g x y z c H Q E) : Sp4 g [x, y, z, c] H Q E := ⟨x, y, z, c, rfl, q⟩
theorem r_sp5 {g : F5} {c d : V} (q : g x y z c d H Q E) : Sp5 g [x, y, z, c, d] H Q E := ⟨x, y, z, c, d, rfl, q⟩
end
end Oil
/-! What kind of value: for isinstance. Fields of an instance. -/
namespace Oil
open PySem PySem.Spec PyProof.Rows L2
/-- a value of a known built-in kind -/
inductive Kn (K : PySem.W.Frag) (H : Hp) : V → String → Prop where
  | non : Kn K H .non "NoneType"
  | bl (b : Bool) : Kn K H (.bl b) "bool"
  | int (i : Int) : Kn K H (.int i) "int"
  | str (x : Str) : Kn K H (.str x) "str"
  | tup {a : Addr} {xs : List V} (e : H a = some (.tup xs)) : Kn K H (.ref a) "tuple"
  | lst {a : Addr} {xs : List V} (e : H a = some (.lst xs)) : Kn K H (.ref a) "list"
theorem Kn.ty {K : PySem.W.Frag} {H : Hp} {v : V} {T : String} (k : Kn K H v T) : TyX K H v (.type T) := by
  cases k with
  | non => exact .base .non
  | bl b => exact .base (.bl b)
  | int i => exact .base (.int i)
  | str x => exact .base (.str x)
  | tup e => exact .base (.tup e)
  | lst e => exact .base (.lst e)
theorem Kn.mono {K : PySem.W.Frag} {H H' : Hp} {v : V} {T : String} (e : Same H H') (k : Kn K H v T) : Kn K H' v T := by
  cases k with
  | non => exact .non
  | bl b => exact .bl b
  | int i => exact .int i
  | str x => exact .str x
  | tup h => exact .tup (e _ _ h)
  | lst h => exact .lst (e _ _ h)
section
variable {K : PySem.W.Frag} {H : Hp} {Q : VK} {v : V} {T c : String} {b : Bool}
theorem r_isi (k : Kn K H v T) (h : kitB T c = some b) (q : Q (.bl b) H) : rIsi K [v, .ty c] H Q :=
  ⟨v, .ty c, .type T, .type c, b, rfl, .ty c, k.ty, kit_ty h, q⟩
end
section
variable {K : PySem.W.Frag} {H : Hp} {Q : VK} {v : V} {T c : String}
theorem r_isiT (k : Kn K H v T) (h : kitB T c = some true) (q : Q (.bl true) H) : rIsi K [v, .ty c] H Q := r_isi k h q
theorem r_isiF (k : Kn K H v T) (h : kitB T c = some false) (q : Q (.bl false) H) : rIsi K [v, .ty c] H Q := r_isi k h q
end
/-- what isinstance asks of an own class whose instances it is given -/
structure Oc (K : PySem.W.Frag) (C : Addr) : Prop where
  cl : Cls K C
  ha : PySem.W.findIn K (.ref C) "__class__" = some (some (.builtin "object.__class__"))
  hn : PySem.W.specialIn K (.builtin "object.__class__") "__get__" = some (some (.builtin "getset_descriptor.__get__"))
  ht : PySem.W.takesIn K (.builtin "object.__class__") = some true
  hm : PySem.W.mroIn K C (.type "object") = some true
/-- values of the built-in kinds are none of the class -/
def NotC (K : PySem.W.Frag) (C : Addr) : Prop := ∀ T ∈ ["NoneType", "bool", "int", "str", "tuple", "list"], PySem.W.kitOne K (.type T) (.ref C) = some false
section
variable {K : PySem.W.Frag} {H : Hp} {Q : VK} {v : V} {T : String} {a C dx : Addr} {fs : List (Str × V)}
theorem Kn.mem (k : Kn K H v T) : T ∈ ["NoneType", "bool", "int", "str", "tuple", "list"] := by cases k <;> decide
theorem Kn.kind (k : Kn K H v T) : T = "NoneType" ∨ T = "bool" ∨ T = "int" ∨ T = "str" ∨ T = "tuple" ∨ T = "list" := by
  have h := k.mem
  simp only [List.mem_cons, List.not_mem_nil, or_false] at h
  exact h
theorem r_isiO (o : Oc K C) (h : H a = some (.ins C dx fs)) (q : Q (.bl true) H) : rIsi K [.ref a, .ref C] H Q :=
  ⟨.ref a, .ref C, .ref C, .ref C, true, rfl, .own C, .base (.ins h o.cl o.ha o.hn o.ht o.hm), by unfold PySem.W.kitOne; rw [if_pos (beq_self_eq_true _)], q⟩
theorem r_isiN (o : NotC K C) (k : Kn K H v T) (q : Q (.bl false) H) : rIsi K [v, .ref C] H Q :=
  ⟨v, .ref C, .type T, .ref C, false, rfl, .own C, k.ty, o T k.mem, q⟩
end
/-- is it a number -/
def numV : V → Bool
  | .int _ => true
  | _ => false
def numFrom (n : Int) : V → Bool
  | .int i => decide (n ≤ i)
  | _ => false
def numIn (lo hi : Int) : V → Bool
  | .int i => decide (lo ≤ i) && decide (i ≤ hi)
  | _ => false
/-! ### texts as names -/
theorem putF_self {f : Str} {v w : V} : putF f v [(f, w)] = [(f, v)] := by
  show (if f = f then [(f, v)] else _) = _
  rw [if_pos rfl]
theorem putF_ne {f g : Str} {v w : V} {r : List (Str × V)} (h : ¬ g = f) : putF f v ((g, w) :: r) = (g, w) :: putF f v r := by
  show (if g = f then _ else _) = _
  rw [if_neg h]
theorem look_self {f : Str} {v : V} {r : List (Str × V)} : ((f, v) :: r).lookup f = some v := by simp [List.lookup]
theorem look_ne {f g : Str} {v : V} {r : List (Str × V)} (h : ¬ f = g) : ((g, v) :: r).lookup f = r.lookup f := by
  have q : (f == g) = false := by simpa using h
  simp [List.lookup, q]
theorem max_if (i j : Int) : (if j > i then j else i) = max i j := by split <;> omega
theorem min_if (i j : Int) : (if j < i then j else i) = min i j := by split <;> omega
/-! ### heaps that only grow -/
theorem Same.new {H : Hp} {p : Addr} {o : HO} (h : H p = none) : Same H (upd H p o) := fun a u e => by
  rw [upd_ne (ne_of_none e h)]
  exact e
/-- a new object may be written -/
theorem Same.mut {H H' : Hp} {p : Addr} {o : HO} (e : Same H H') (h : H p = none) : Same H (upd H' p o) := fun a u ha => by
  rw [upd_ne (ne_of_none ha h)]
  exact e a u ha
end Oil
/-! Loops and comprehensions read; the dice of a draw. -/
namespace Oil
open PySem PySem.Spec PyProof.Rows L2
section
variable {K : PySem.W.Frag} {σ : L2.St} {H : Hp} {Q : VK} {D : Ends} {i j : Nat} {tl : TE} {ta : TA} {a : Addr} {xs : List V} {g : TG} {tb : TS} {n lo : Int}
/-- a loop at its start -/
def ForW (J : It) (g : TG) (tb : TS) (D : Ends) (σ : L2.St) (H1 : Hp) : Prop := ∃ W : Nat → Nat → L2.St → Hp → Prop, (∃ m, W 0 m σ H1) ∧ ∀ i m σ H, W i m σ H →
  (J.stop i H ∧ D.nx σ H) ∨ (J.go i H ∧ ∃ N : L2.St → Hp → Prop, (∀ σ' H', N σ' H' → ∃ m', m' < m ∧ W (i + 1) m' σ' H') ∧ ∀ x H', J.yld i H x H' → g x σ H' fun σ2 H2 => tb { D with nx := N, ct := N, bk := D.nx } σ2 H2)
theorem r_for {wi : TI} (q : wi σ H fun J H1 => ForW J g tb D σ H1) : tFor wi g tb D σ H := q
def qLst (K : PySem.W.Frag) (R : It → Hp → Prop) (x : V) (H1 : Hp) : Prop := ∃ a, x = .ref a ∧ (∃ xs, SqL K H1 a xs) ∧ R (Itl K a) H1
def qTup (K : PySem.W.Frag) (R : It → Hp → Prop) (x : V) (H1 : Hp) : Prop := ∃ a, x = .ref a ∧ (∃ xs, SqT K H1 a xs) ∧ R (Itt K a) H1
def qRg1 (R : It → Hp → Prop) (vs : List V) (H1 : Hp) : Prop := ∃ j : Int, vs = [.int j] ∧ -(2 ^ 62) ≤ j ∧ j < 2 ^ 62 ∧ R (Itr 0 j.toNat) H1
def qRg2 (R : It → Hp → Prop) (vs : List V) (H1 : Hp) : Prop := ∃ i j : Int, vs = [.int i, .int j] ∧ (-(2 ^ 62) ≤ i ∧ i < 2 ^ 62 ∧ -(2 ^ 62) ≤ j ∧ j < 2 ^ 62) ∧ R (Itr i (j - i).toNat) H1
theorem r_ilist {R : It → Hp → Prop} (q : tl σ H (qLst K R)) : iList K tl σ H R := q
theorem r_itup {R : It → Hp → Prop} (q : tl σ H (qTup K R)) : iTup K tl σ H R := q
theorem r_irng1 {R : It → Hp → Prop} (q : ta σ H (qRg1 R)) : iRng1 ta σ H R := q
theorem r_irng2 {R : It → Hp → Prop} (q : ta σ H (qRg2 R)) : iRng2 ta σ H R := q
theorem r_qlst {R : It → Hp → Prop} (h : SqL K H a xs) (q : R (Itl K a) H) : qLst K R (.ref a) H := ⟨a, rfl, ⟨xs, h⟩, q⟩
theorem r_qtup {R : It → Hp → Prop} (h : SqT K H a xs) (q : R (Itt K a) H) : qTup K R (.ref a) H := ⟨a, rfl, ⟨xs, h⟩, q⟩
theorem r_qrg1 {R : It → Hp → Prop} (h1 : -(2 ^ 62) ≤ n) (h2 : n < 2 ^ 62) (q : R (Itr 0 n.toNat) H) : qRg1 R [.int n] H := ⟨n, rfl, h1, h2, q⟩
theorem r_qrg2 {R : It → Hp → Prop} (h1 : -(2 ^ 62) ≤ lo ∧ lo < 2 ^ 62 ∧ -(2 ^ 62) ≤ n ∧ n < 2 ^ 62) (q : R (Itr lo (n - lo).toNat) H) : qRg2 R [.int lo, .int n] H := ⟨lo, n, rfl, h1, q⟩
theorem w_list (Pv : Nat → L2.St → Hp → Prop) (h0 : Pv 0 σ H) (hl : ∀ i σ H, i ≤ xs.length → Pv i σ H → SqL K H a xs)
    (hs : ∀ i x σ H, xs[i]? = some x → Pv i σ H → g x σ H fun σ2 H2 => tb { D with nx := Pv (i + 1), ct := Pv (i + 1), bk := D.nx } σ2 H2) (hd : ∀ σ H, Pv xs.length σ H → D.nx σ H) : ForW (Itl K a) g tb D σ H := for_list Pv h0 hl hs hd
theorem w_tup (Pv : Nat → L2.St → Hp → Prop) (h0 : Pv 0 σ H) (hl : ∀ i σ H, i ≤ xs.length → Pv i σ H → SqT K H a xs)
    (hs : ∀ i x σ H, xs[i]? = some x → Pv i σ H → g x σ H fun σ2 H2 => tb { D with nx := Pv (i + 1), ct := Pv (i + 1), bk := D.nx } σ2 H2) (hd : ∀ σ H, Pv xs.length σ H → D.nx σ H) : ForW (Itt K a) g tb D σ H := for_tup Pv h0 hl hs hd
theorem w_rng {m : Nat} (Pv : Nat → L2.St → Hp → Prop) (h0 : Pv 0 σ H)
    (hs : ∀ i σ H, i < m → Pv i σ H → g (.int (lo + i)) σ H fun σ2 H2 => tb { D with nx := Pv (i + 1), ct := Pv (i + 1), bk := D.nx } σ2 H2) (hd : ∀ σ H, Pv m σ H → D.nx σ H) : ForW (Itr lo m) g tb D σ H := for_range Pv h0 hs hd
end
/-! ### the dice: a list at d of the script, the place, the mix, the carry -/
structure Dice (K : PySem.W.Frag) (H : Hp) (d : Addr) : Prop where
  ex : ∃ (sa : Addr) (ns : List Int) (p m c : Int), H d = some (.lst [.ref sa, .int p, .int m, .int c]) ∧ 0 ≤ p ∧ 0 ≤ m ∧ m < 2147483647 ∧ ns.length ≤ 63 ∧ ∀ o, SqL K (upd H d o) sa (ns.map V.int)
/-- the same, the script's list said -/
structure DiceS (K : PySem.W.Frag) (H : Hp) (d sa : Addr) : Prop where
  ex : ∃ (ns : List Int) (p m c : Int), H d = some (.lst [.ref sa, .int p, .int m, .int c]) ∧ 0 ≤ p ∧ 0 ≤ m ∧ m < 2147483647 ∧ ns.length ≤ 63 ∧ ∀ o, SqL K (upd H d o) sa (ns.map V.int)
theorem Dice.s {K : PySem.W.Frag} {H : Hp} {d : Addr} (h : Dice K H d) : ∃ sa, DiceS K H d sa := by
  obtain ⟨sa, ns, p, m, c, z⟩ := h.ex
  exact ⟨sa, ns, p, m, c, z⟩
theorem DiceS.dice {K : PySem.W.Frag} {H : Hp} {d sa : Addr} (h : DiceS K H d sa) : Dice K H d := by
  obtain ⟨ns, p, m, c, z⟩ := h.ex
  exact ⟨sa, ns, p, m, c, z⟩
/-- all but the dice is as it was -/
structure Nx (K : PySem.W.Frag) (d : Addr) (H H' : Hp) : Prop where
  keep : ∀ a o, a ≠ d → H a = some o → H' a = some o
  dice : Dice K H' d
  same_ : ∀ sa, DiceS K H d sa → DiceS K H' d sa
theorem sq_mono {K : PySem.W.Frag} {H H' : Hp} {a : Addr} {xs : List V} (e : Same H H') (h : SqL K H a xs) : SqL K H' a xs := Same.seq e h
theorem Dice.same {K : PySem.W.Frag} {H H' : Hp} {d : Addr} (h : Dice K H d) (e : Same H H') : Dice K H' d := by
  obtain ⟨sa, ns, p, m, c, h1, h2, h3, h4, h5, h6⟩ := h.ex
  refine ⟨sa, ns, p, m, c, e _ _ h1, h2, h3, h4, h5, fun o => sq_mono (fun b u q => ?_) (h6 o)⟩
  by_cases hb : b = d
  · rw [hb, upd_same] at q ⊢
    exact q
  · rw [upd_ne hb] at q ⊢
    exact e _ _ q
theorem DiceS.same {K : PySem.W.Frag} {H H' : Hp} {d sa : Addr} (h : DiceS K H d sa) (e : Same H H') : DiceS K H' d sa := by
  obtain ⟨ns, p, m, c, h1, h2, h3, h4, h5, h6⟩ := h.ex
  refine ⟨ns, p, m, c, e _ _ h1, h2, h3, h4, h5, fun o => sq_mono (fun b u q => ?_) (h6 o)⟩
  by_cases hb : b = d
  · rw [hb, upd_same] at q ⊢
    exact q
  · rw [upd_ne hb] at q ⊢
    exact e _ _ q
theorem Nx.of {K : PySem.W.Frag} {d : Addr} {H H' : Hp} (h : Dice K H d) (e : Same H H') : Nx K d H H' := ⟨fun a o _ q => e a o q, h.same e, fun _ z => z.same e⟩
theorem Nx.refl {K : PySem.W.Frag} {d : Addr} {H : Hp} (h : Dice K H d) : Nx K d H H := .of h (Same.refl H)
theorem Nx.trans {K : PySem.W.Frag} {d : Addr} {H H1 H2 : Hp} (a : Nx K d H H1) (b : Nx K d H1 H2) : Nx K d H H2 := ⟨fun x o n q => b.keep x o n (a.keep x o n q), b.dice, fun sa z => b.same_ sa (a.same_ sa z)⟩
theorem Nx.same {K : PySem.W.Frag} {d : Addr} {H H1 H2 : Hp} (a : Nx K d H H1) (e : Same H1 H2) : Nx K d H H2 := a.trans (.of a.dice e)
/-- what is no list is not the dice -/
theorem Dice.ne {K : PySem.W.Frag} {H : Hp} {d a : Addr} {o : HO} (h : Dice K H d) (e : H a = some o) (n : ∀ xs, o ≠ .lst xs) : a ≠ d := by
  obtain ⟨sa, ns, p, m, c, h1, _⟩ := h.ex
  exact ne_of e h1 (n _)
theorem Nx.at {K : PySem.W.Frag} {H H' : Hp} {d a : Addr} {o : HO} (x : Nx K d H H') (h : Dice K H d) (e : H a = some o) (n : ∀ xs, o ≠ .lst xs) : H' a = some o := x.keep a o (h.ne e n) e
theorem Dice.fresh {K : PySem.W.Frag} {H : Hp} {d a : Addr} (h : Dice K H d) (e : H a = none) : a ≠ d := by
  obtain ⟨sa, ns, p, m, c, h1, _⟩ := h.ex
  exact (ne_of_none h1 e).symm
/-- the dice written anew -/
theorem Dice.put {K : PySem.W.Frag} {H : Hp} {d sa : Addr} {ns : List Int} {p m c p0 m0 c0 : Int} (hd : H d = some (.lst [.ref sa, .int p0, .int m0, .int c0])) (h2 : 0 ≤ p) (h3 : 0 ≤ m) (h4 : m < 2147483647) (h5 : ns.length ≤ 63) (h6 : ∀ o, SqL K (upd H d o) sa (ns.map V.int)) :
    Nx K d H (upd H d (.lst [.ref sa, .int p, .int m, .int c])) :=
  ⟨fun a o n e => by rw [upd_ne n]; exact e, ⟨sa, ns, p, m, c, upd_same, h2, h3, h4, h5, fun o => by rw [upd_upd]; exact h6 o⟩, fun sb z => by
    obtain ⟨_, _, _, _, z1, _⟩ := z.ex
    rw [hd] at z1
    have z2 : V.ref sa = V.ref sb := by
      have := Option.some.inj z1
      injection this with z3
      injection z3
    cases z2
    exact ⟨ns, p, m, c, upd_same, h2, h3, h4, h5, fun o => by rw [upd_upd]; exact h6 o⟩⟩
/-- a list of the law's own, new since H, may be written -/
theorem Nx.write {K : PySem.W.Frag} {H G : Hp} {d D : Addr} {o1 : HO} (x : Nx K d H G) (hD : Dice K H d) (nD : H D = none) : Nx K d H (upd G D o1) := by
  have key : ∀ sa, DiceS K H d sa → DiceS K (upd G D o1) d sa := fun sa z => by
    obtain ⟨ns0, p0, m0, c0, a1, _, _, _, a5, a6⟩ := z.ex
    obtain ⟨ns, p, m, c, b1, b2, b3, b4, b5, b6⟩ := (x.same_ sa z).ex
    have dD : d ≠ D := ne_of_none a1 nD
    have at_d : upd G D o1 d = some (.lst [.ref sa, .int p, .int m, .int c]) := by rw [upd_ne dD]; exact b1
    have old : ∀ u, upd H d (.own d) sa = some u → u ≠ .own d → sa ≠ D := fun u e n => by
      by_cases h : sa = d
      · rw [h, upd_same] at e
        exact absurd (Option.some.inj e).symm n
      · rw [upd_ne h] at e
        exact ne_of_none e nD
    have go : sa ≠ D → DiceS K (upd G D o1) d sa := fun nD2 => by
      refine ⟨ns, p, m, c, at_d, b2, b3, b4, b5, fun o => ?_⟩
      have e : upd (upd G D o1) d o sa = upd G d o sa := by
        by_cases h : sa = d
        · rw [h, upd_same, upd_same]
        · rw [upd_ne h, upd_ne h, upd_ne nD2]
      rcases b6 o with (w | ⟨y, w⟩) | w
      · exact .inl (.inl (e.trans w))
      · exact .inl (.inr ⟨y, e.trans w⟩)
      · exact .inr w
    rcases a6 (.own d) with (w | ⟨y, w⟩) | w
    · exact go (old _ w (fun q => by cases q))
    · exact go (old _ w (fun q => by cases q))
    · exact ⟨ns0, p, m, c, at_d, b2, b3, b4, a5, fun o => .inr w⟩
  obtain ⟨sa, hs⟩ := hD.s
  exact ⟨fun a o n e => by rw [upd_ne (ne_of_none e nD)]; exact x.keep a o n e, (key sa hs).dice, key⟩
theorem Dice.new {K : PySem.W.Frag} {H : Hp} {d sa : Addr} {ns : List Int} {p m c : Int} (hd : H d = none) (h2 : 0 ≤ p) (h3 : 0 ≤ m) (h4 : m < 2147483647) (h5 : ns.length ≤ 63) (h6 : SqL K H sa (ns.map V.int)) :
    Dice K (upd H d (.lst [.ref sa, .int p, .int m, .int c])) d :=
  ⟨sa, ns, p, m, c, upd_same, h2, h3, h4, h5, fun o => by rw [upd_upd]; exact sq_mono (Same.new hd) h6⟩
/-! ### the promises of the draws, alike in every law -/
def q_dice (K : PySem.W.Frag) : F1 := fun a H Q _ => ∃ (sa : Addr) (ns : List Int), a = .ref sa ∧ SqL K H sa (ns.map V.int) ∧ ns.length ≤ 63 ∧ ∀ d H', H d = none → Same H H' → Dice K H' d → Q (.ref d) H'
def q_next (K : PySem.W.Frag) : F2 := fun a b H Q _ => ∃ (d : Addr) (n : Int), a = .ref d ∧ b = .int n ∧ 0 < n ∧ n < 2 ^ 100 ∧ Dice K H d ∧ ∀ r H', 0 ≤ r → r < n → Nx K d H H' → Q (.int r) H'
def q_pick (K : PySem.W.Frag) : F2 := fun a b H Q _ => ∃ (d l : Addr) (xs : List V), a = .ref d ∧ b = .ref l ∧ H l = some (.lst xs) ∧ l ≠ d ∧ 0 < xs.length ∧ xs.length ≤ 1000 ∧ Dice K H d ∧ ∀ v H', v ∈ xs → Nx K d H H' → Q v H'
section
variable {K : PySem.W.Frag} {H : Hp} {Q : VK} {a : Addr} {xs : List V} {k : Int} {v : V} {j : Nat}
theorem r_ixL (h : SqL K H a xs) (e : atI xs k = some v) (q : Q v H) : rIxL K (.ref a) (.int k) H Q := ⟨a, xs, k, v, rfl, rfl, h, e, q⟩
theorem r_ixT (h : SqT K H a xs) (e : atI xs k = some v) (q : Q v H) : rIxT K (.ref a) (.int k) H Q := ⟨a, xs, k, v, rfl, rfl, h, e, q⟩
theorem r_setL {R : Hp → Prop} (h : H a = some (.lst xs)) (e : ixN xs.length k = some j) (q : R (upd H a (.lst (xs.set j v)))) : rSetL (.ref a) (.int k) v H R := ⟨a, xs, k, j, rfl, rfl, h, e, q⟩
theorem r_gsub {ta tb : TE} {t : TSet} {σ : L2.St} {R : L2.St → Hp → Prop} (q : ta σ H fun o H1 => tb σ H1 fun i H2 => t o i v H2 fun H3 => R σ H3) : gSub ta tb t v σ H R := q
theorem at_nat {xs : List V} {j : Nat} {v : V} (h : xs[j]? = some v) : atI xs (j : Int) = some v := atI_nat h
end
end Oil
/-! Caught errors: isinstance in the suite, count, what a teller of errors gives. -/
namespace Oil
open PySem PySem.Spec PyProof.Rows L2
theorem count_flat {y : V} : ∀ {xs : List V} {us : List Value}, Vals xs us → xs.all flatV = true → us.countP (eqU y) = xs.countP fun z => eqV z y
  | _, _, .nil, _ => rfl
  | z :: xs, u :: us, .cons r t, f => by
    rw [List.all_cons, Bool.and_eq_true] at f
    rw [List.countP_cons, List.countP_cons, eqU_of r f.1, count_flat t f.2]
section
variable {X : Cx}
def rCntF (K : PySem.W.Frag) : V → List V → Hp → VK → Prop := fun x xs H Q => ∃ (p : Addr) (ys : List V) (y : V), x = .ref p ∧ xs = [y] ∧ SqL K H p ys ∧ flatV y = true ∧ ys.all flatV = true ∧ Q (.int ((ys.countP fun z => eqV z y : Nat) : Int)) H
theorem mt_app : MtR X "list.append" rAppend := mt_append
theorem mt_cntF : MtR X "list.count" (rCntF X.K) := by
  intro pins s σ H x xs v us Q I rx rxs h
  obtain ⟨p, ys, y, rfl, rfl, hs, fy, fys, q⟩ := h
  cases rx
  obtain ⟨uy, rfl, ry⟩ := rxs.one
  obtain ⟨its, rv, ⟨⟨cls, dd, data, sl⟩, n, ho, hc, hdn, hd⟩, hlen⟩ := I.list hs
  simp only at hc hd
  subst hc hd
  refine call_meets PySem.F.slot_list_count ⟨_, ho, rfl⟩ PySem.F.entry_list_count (PySem.F.args_list_count_2 _ _)
    (SeqAt.list_countAt p its.toArray n dd sl uy (eqU y)) ⟨ho, fun u' hu' => mem_eqAt ry fy rv fys u' (by simpa using hu'), ?_⟩
  have ec : its.toArray.toList.countP (eqU y) = ys.countP fun z => eqV z y := count_flat rv fys
  refine ⟨.int ((ys.countP fun z => eqV z y : Nat) : Int), H, I.tok _, ⟨s.toks, ?_⟩, q⟩
  rw [ec]
end
/-! ### isinstance of the error that a suite holds -/
section
open PySem.W
variable {prog : Program} {w : World} {A : Around} {E : Value → Shared → Prop} {s : Shared} {K : Frag} {x D : Addr} {ox : Obj} {od : Option Obj}
theorem own_class (dd : hasDictIn K D = true) (ha : findIn K (.ref D) "__class__" = some (some (.builtin "object.__class__"))) (hn : specialIn K (.builtin "object.__class__") "__get__" = some (some (.builtin "getset_descriptor.__get__"))) (ht : takesIn K (.builtin "object.__class__") = some true) :
    findObj K D od "__class__" = some (.bind (.builtin "getset_descriptor.__get__") (.builtin "object.__class__")) := by
  obtain ⟨cd, hc, _⟩ := any_some dd
  cases od with
  | none => exact findObj_dataN (by rw [hc]; rfl) ha hn ht
  | some o => exact findObj_data (by rw [hc]; rfl) ha hn ht
theorem class_read (c : ExcC K D) (Q : Option Value → Shared → Prop) (X : K.In s.heap) (I : InstAt s.heap x ox D od) (q : Q (some (.ref D)) { s with toks := s.toks + 1 }) : wpAny (model prog w) A (getAttr? (.ref x) "__class__") Q E s := by
  have hf := own_class (od := od) c.hd c.ha c.hn c.ht
  obtain ⟨hp, g, d, t, os⟩ := s
  have k0 := I.type (M := model prog w)
  have k1 := looks_findIn (M := model prog w) X c.hg
  have k2 := looks_findIn (M := model prog w) X c.hk
  have k3 := looks_find (M := model prog w) X I hf
  have below : Looks (model prog w) hp (isInstance (.ref x) (.type "BaseException")) true := k0.andThen (looks_subIn X c.hs)
  have n2 : (Value.builtin "BaseException.__getattribute__" == Value.builtin "object.__getattribute__") = false := by decide +kernel
  have n1 : (onTheHeap (Value.ref D) && Value.builtin "BaseException.__getattribute__" == Value.builtin "object.__getattribute__") = false := by
    rw [n2, Bool.and_false]
  unfold getAttr? getAttrBy? getAttrBy
  refine wpAny_bind (wpAny_mkText (wpAny_bind (wpAny_attempt (wpAny_holding (wpAny_bind (k0.at (wpAny_bind (k1.at ?_))))))))
  show wpAny _ _ (if (onTheHeap (Value.ref D) && Value.builtin "BaseException.__getattribute__" == Value.builtin "object.__getattribute__") = true then _ else _) _ _ _
  rw [n1, if_neg Bool.false_ne_true]
  unfold getAttrByItsOwn hookBefore
  refine wpAny_bind ?_
  rw [if_pos (show onTheHeap (Value.ref D) = true by rfl)]
  refine k2.at (wpAny_bind (wpAny_attempt (wpAny_holding ?_)))
  unfold callGetattribute
  rw [if_neg (show ¬ (false && onTheHeap (Value.builtin "BaseException.__getattribute__")) = true by simp)]
  unfold boundAndCalled
  rw [PySem.F.excAttr_ValueError.ga.bind (.ref x)]
  refine wpAny_bind (wpAny_pure ?_)
  show wpAny _ _ (call (.builtin "BaseException.__getattribute__") [.ref x, .str "__class__" t]) _ _ _
  refine wpAny_call (codeAny_call_builtin PySem.F.excAttr_ValueError.ga.plain PySem.F.entry_bexc_ga (@check_slot (model prog w) _ _ ⟨hp, g, d, t + 1, os⟩ "BaseException.__getattribute__" "BaseException" "__getattribute__" (.ref x) [.str "__class__" t] [] _ (by decide +kernel) (by decide +kernel) below (PySem.F.args_bexc_ga (.ref x) (.str "__class__" t)) ?_))
  unfold Builtin.«object.__getattribute__»
  refine wpAny_bind (wpAny_of_eq (a := ((Value.ref x : Value), [Value.str "__class__" t])) (by first | rfl | (simp only [slotArgs]; rfl)) (wpAny_bind (wpAny_pure (wpAny_bind (k0.at (wpAny_bind (k3.at ?_)))))))
  show wpAny _ _ (holding [Value.builtin "object.__class__"] (call (.builtin "getset_descriptor.__get__") [.builtin "object.__class__", .ref x, .ref D]) >>= ret) _ _ _
  refine wpAny_bind (wpAny_holding (wpAny_call (class_get (s := ⟨hp, g, d, t + 1, os⟩) (ox := ox) (od := od) X I c.hm (wpAny_pure ?_))))
  show wpAny _ _ (handedOut (.ref D)) _ _ _
  rw [handedOut_of (v := .ref D) rfl]
  first
    | exact wpAny_pure (wpAny_pure q)
    | exact wpAny_pure q
    | exact wpAny_pure (wpAny_bind (wpAny_pure (wpAny_pure q)))
theorem kit_err (c : ExcC K D) : KitX K (.ref x) (.ref D) (fun h => InstAt h x ox D od) where
  ty := fun _ _ _ I => I.type
  it := fun _ _ X _ => by
    obtain ⟨cdD, hcD, _⟩ := any_some c.hd
    unfold clsIn at hcD
    split at hcD
    · rename_i ho
      intro A' Q' E' s' k q
      unfold isType loadHead
      exact wpAny_bind (wpAny_loadPart (k _ _ (X _ _ ho)) (wpAny_pure q))
    · cases hcD
  ne := fun h tp dd its n sl X htp => by
    obtain ⟨cdD, hcD, _⟩ := any_some c.hd
    refine Bool.eq_false_iff.mpr fun q => ?_
    obtain rfl : D = tp := Value.ref.inj (beq_iff_eq.mp q)
    unfold clsIn at hcD
    split at hcD
    · rename_i ho
      cases (X _ _ ho).symm.trans htp
    · cases hcD
  ca := fun X I k => class_read c _ X I k
end
/-- isinstance(e, c), e the error that the suite holds (its class cls, its own dict d) -/
def rIsX (K : PySem.W.Frag) (a : Addr) (cls : Value) (d : Option Addr) : List V → Hp → VK → Prop := fun xs H Q => ∃ (D : Addr) (c : V) (cv : Value) (b : Bool), xs = [.ref a, c] ∧ cls = .ref D ∧ ExcC K D ∧ ClsV c cv ∧ PySem.W.kitOne K (.ref D) cv = some b ∧
  (d = none ∨ ∃ dd fs, d = some dd ∧ H dd = some (.xd fs)) ∧ Q (.bl b) H
theorem call_isX {X : Cx} {a : Addr} {oe : Obj} {cls : Value} {d : Option Addr} {pn : List (Addr × Obj)} (hz : Zc cls d oe) (hf : ∃ vs, oe.data = .fields vs) : CallR (X.suite a ((a, oe) :: pn)) (.builtin "isinstance") (rIsX X.K a cls d) := by
  intro pins s σ H xs us Q I r h
  obtain ⟨D, c, cv, b, rfl, rfl, hC, hc, e, hd, q⟩ := h
  cases r with
  | cons rx rr =>
    cases rr with
    | cons rt rr =>
      cases rr
      cases rx
      have ec := hc.eq rt
      subst ec
      obtain ⟨hget, _⟩ := I.pin (a, oe) (List.mem_append.mpr (.inl List.mem_cons_self))
      obtain ⟨vs, hv⟩ := hf
      have J : ∃ od, PySem.W.InstAt s.heap a oe D od := by
        rcases hd with e0 | ⟨dd, fs, e0, hx⟩
        · refine ⟨none, hget, hz.1, ?_, ?_⟩
          · unfold PySem.W.notCls
            rw [hv] <;> rfl
          · rw [hz.2, e0]
            trivial
        · obtain ⟨mA, hns, _⟩ := (show ObjOk X.prog X.w H s.heap dd (.xd fs) from I.hok dd _ hx)
          obtain ⟨od, ho, _⟩ := lookIn_ns hns
          refine ⟨some od, hget, hz.1, ?_, ?_⟩
          · unfold PySem.W.notCls
            rw [hv] <;> rfl
          · rw [hz.2, e0]
            exact ho
      obtain ⟨od, J⟩ := J
      exact PySem.W.kia_one (kit_err hC) I.kIn J e (fun z => nomatch z) fun tk => ⟨.bl b, H, I.kept (t' := tk) fun _ _ z => z, rfl, q⟩
/-- the slots at a raise are as many as the names -/
theorem takes_len {X : Cx} {W : WX} (t : Takes X W) : Takes X (fun cls d σ H => σ.length = X.N.length → W cls d σ H) := fun u s' ⟨a, B, sI, pins, σ, H, cls, d, e, I, nb, up, sky, na, os, ag, w⟩ =>
  t u s' ⟨a, B, sI, pins, σ, H, cls, d, e, I, nb, up, sky, na, os, ag, w I.len⟩
/-! ### rules whose reading names the written part by a letter of its own (in a suite the context holds more than the reading may) -/
section
variable {X : Cx} {K : PySem.W.Frag}
theorem ix_listK (hK : X.K = K) : IxR X (rIxL K) := by
  subst hK
  exact ix_list
theorem ix_tupK (hK : X.K = K) : IxR X (rIxT K) := by
  subst hK
  exact ix_tup
theorem mt_indexK (hK : X.K = K) : MtR X "list.index" (rIndex K) := by
  subst hK
  exact mt_index
theorem mt_cntK (hK : X.K = K) : MtR X "list.count" (rCntF K) := by
  subst hK
  exact mt_cntF
theorem call_isK {a : Addr} {oe : Obj} {cls : Value} {d : Option Addr} {pn : List (Addr × Obj)} (hK : X.K = K) (hz : Zc cls d oe) (hf : ∃ vs, oe.data = .fields vs) : CallR (X.suite a ((a, oe) :: pn)) (.builtin "isinstance") (rIsX K a cls d) := by
  subst hK
  exact call_isX hz hf
theorem pe_bmK {T : String} {name : Str} {id : String} {r : V → List V → Hp → VK → Prop} {o e : Expr} {es : List Expr} {to : TE} {t : TA} {apos cpos : Pos} (hK : X.K = K) (pa : PlainAttrs T) (slot : Slot T name id) (hty : typeOf (.builtin id) = pure (.type "method_descriptor")) (hm : MtR X id r)
    (ho : PE X o to) (ha : PA X (e :: es) t) (hbase : attributeBase o name X.env (eval o X.env) = eval o X.env := by rfl)
    (hfew : ((backTo cpos (starEach (e :: es) X.env)).all (fun x => !x.1) && (backToKw cpos (keywordEach [] X.env)).all (fun x => x.1.isSome) && decide ((e :: es).length + ([] : List Keyword).length + (if ([] : List Keyword).isEmpty then 0 else 1) < 30)) = true := by rfl)
    (hline : (apos.endLine == cpos.line) = true := by rfl) (hs : starEach (e :: es) X.env = (false, eval e X.env) :: starEach es X.env := by rfl) (hplain : (backTo cpos (starEach es X.env)).any (·.1) = false := by rfl) :
    PE X (.Call (.Attribute o name apos) (e :: es) [] cpos) (tBM K T r to t) := by
  subst hK
  exact pe_bm pa slot hty hm ho ha hbase hfew hline hs hplain
end
/-- an error's class as a teller asks of it: which of four own classes it is -/
structure ErrK (K : PySem.W.Frag) (cW cS cU cN cB D : Addr) (b1 b2 b3 b4 : Bool) : Prop where
  ec : ExcC K D
  k1 : PySem.W.kitOne K (.ref D) (.ref cW) = some b1
  k2 : PySem.W.kitOne K (.ref D) (.ref cS) = some b2
  k3 : PySem.W.kitOne K (.ref D) (.ref cU) = some b3
  k4 : PySem.W.kitOne K (.ref D) (.ref cN) = some b4
  kv : PySem.W.kitOne K (.ref D) (.type "ValueError") = some true
  em : PySem.W.exmOne K (.ref D) (.ref cB) = some true
section
variable {K : PySem.W.Frag} {a D : Addr} {d : Option Addr} {H : Hp} {Q : VK} {cW cS cU cN cB : Addr} {b1 b2 b3 b4 : Bool}
/-- the error's own dict, if it has one, is known -/
def DictOk (d : Option Addr) (H : Hp) : Prop := d = none ∨ ∃ dd fs, d = some dd ∧ H dd = some (.xd fs)
theorem r_isx1 (e : ErrK K cW cS cU cN cB D b1 b2 b3 b4) (h : DictOk d H) (q : Q (.bl b1) H) : rIsX K a (.ref D) d [.ref a, .ref cW] H Q := ⟨D, _, _, _, rfl, rfl, e.ec, .own _, e.k1, h, q⟩
theorem r_isx2 (e : ErrK K cW cS cU cN cB D b1 b2 b3 b4) (h : DictOk d H) (q : Q (.bl b2) H) : rIsX K a (.ref D) d [.ref a, .ref cS] H Q := ⟨D, _, _, _, rfl, rfl, e.ec, .own _, e.k2, h, q⟩
theorem r_isx3 (e : ErrK K cW cS cU cN cB D b1 b2 b3 b4) (h : DictOk d H) (q : Q (.bl b3) H) : rIsX K a (.ref D) d [.ref a, .ref cU] H Q := ⟨D, _, _, _, rfl, rfl, e.ec, .own _, e.k3, h, q⟩
theorem r_isx4 (e : ErrK K cW cS cU cN cB D b1 b2 b3 b4) (h : DictOk d H) (q : Q (.bl b4) H) : rIsX K a (.ref D) d [.ref a, .ref cN] H Q := ⟨D, _, _, _, rfl, rfl, e.ec, .own _, e.k4, h, q⟩
theorem r_isxV (e : ErrK K cW cS cU cN cB D b1 b2 b3 b4) (h : DictOk d H) (q : Q (.bl true) H) : rIsX K a (.ref D) d [.ref a, .ty "ValueError"] H Q := ⟨D, _, _, _, rfl, rfl, e.ec, .ty _, e.kv, h, q⟩
theorem r_cnt {p : Addr} {ys : List V} {y : V} (h : H p = some (.lst ys)) (f1 : flatV y = true) (f2 : ys.all flatV = true) (q : Q (.int ((ys.countP fun z => eqV z y : Nat) : Int)) H) : rCntF K (.ref p) [y] H Q := ⟨p, ys, y, rfl, rfl, SqL.of h, f1, f2, q⟩
theorem r_bm {T : String} {r : V → List V → Hp → VK → Prop} {to : TE} {t : TA} {σ : L2.St} (q : to σ H fun x H1 => tyV K T x H1 ∧ t σ H1 fun xs H2 => r x xs H2 Q) : tBM K T r to t σ H Q := q
theorem r_tyL {p : Addr} {ys : List V} {R : Prop} (h : H p = some (.lst ys)) (q : R) : tyV K "list" (.ref p) H ∧ R := ⟨.inl ⟨rfl, ys, SqL.of h⟩, q⟩
theorem r_app {p : Addr} {ys : List V} {y : V} (h : H p = some (.lst ys)) (hz : ys.length < sizeLine) (q : Q .non (upd H p (.lst (ys ++ [y])))) : rAppend (.ref p) [y] H Q := ⟨p, ys, y, rfl, rfl, h, hz, q⟩
theorem r_idx {p : Addr} {ys : List V} {y z : V} {j : Nat} (h : H p = some (.lst ys)) (f1 : flatV y = true) (f2 : ys.all flatV = true) (e : ys[j]? = some z) (e2 : eqV z y = true) (e3 : ∀ (m : Nat) (z' : V), m < j → ys[m]? = some z' → eqV z' y = false) (q : Q (.int (j : Nat)) H) :
    rIndex K (.ref p) [y] H Q := ⟨p, ys, y, j, z, rfl, rfl, SqL.of h, f1, f2, e, e2, e3, q⟩
end
end Oil
/-! A law that hands lambdas to its teller: its code object known, its tables kept along the draws. -/
namespace Oil
open PySem PySem.Spec PyProof.Rows L2
/-- a def of the module whose code object is at c -/
structure FunC (K : PySem.W.Frag) (x qual : Str) (st : Stmt) (f : Addr) (fd : FuncData) (c : Addr) : Prop where
  ex : ∃ (oc : Value) (od : Option Addr) (kV doc pm : Value) (an : Option Addr) (ct : Value) (osl : Array (Option Value)),
    fd = PySem.W.fnOf x qual (defArgs st) (defBody st) (defScope st) .none kV doc pm an (.ref c) ct ∧ K.lookup f = some ⟨oc, od, .func fd, osl⟩ ∧ PySem.W.codeIn K (.ref c) qual = true
section
variable {P : Program} {w : World} {K : PySem.W.Frag} {mg : Str → Option Value} {base : Heap}
theorem FunC.okX {x qual : Str} {st : Stmt} {f c : Addr} {fd : FuncData} {N ps : List Str} {k : Nat} {sp : Sp} (F : FunC K x qual st f fd c) (S : FnScope N ps (defScope st)) (len : ∀ vs H Q E, sp vs H Q E → vs.length = ps.length)
    (hbody : ∀ (A : Around) (outer : List Env) (s : Shared) (H : Hp) (vs : List V) (Q : VK) (E : XK), Room k (A.deeper (envOfC qual (defScope st) s.heap.objs.size f (.ref c))) → sp vs H Q E →
      ∃ t, PSs (cxOf (L2.CX P w) P w K mg base N qual (defScope st) f (.ref c) A outer s H E) (defBody st) t ∧ t { nx := fun _ H' => Q .non H', rt := Q } (start N vs) H) : FnOk P w K mg base (L2.CX P w) (k + 1) f fd ps sp := by
  obtain ⟨oc, od, kV, doc, pm, an, ct, osl, rfl, lk, hcd⟩ := F.ex
  exact fn_of lk hcd S len fun A outer s H vs Q E hr hsp => hbody A outer s H vs Q E hr hsp
theorem FunC.bindsTo {x qual : Str} {st : Stmt} {f c : Addr} {fd : FuncData} {y : Str} (F : FunC K x qual st f fd c)
    (h : ∀ (kV doc pm : Value) (an : Option Addr) (cdv ct : Value) (us : List Value), us.length = [y].length → bindArgs (PySem.W.fnOf x qual (defArgs st) (defBody st) (defScope st) .none kV doc pm an cdv ct) ⟨us, []⟩ = pure ([y].zip us)) :
    L2.Binds K fd [y] [] := by
  obtain ⟨oc, od, kV, doc, pm, an, ct, osl, rfl, lk, hcd⟩ := F.ex
  exact .all (h kV doc pm an (.ref c) ct)
end
section
variable {K : PySem.W.Frag} {H H' : Hp} {d : Addr} {T : List (Addr × Str)}
theorem Dice.lst_ne {ps : Array Value} {P : Addr} (h : Dice K H d) (e : H P = some (.tbl ps)) : P ≠ d := h.ne e fun xs z => by cases z
theorem tabs_nx (t : LamX.Tabs T H) (h : Dice K H d) (x : Nx K d H H') : LamX.Tabs T H' := fun p hp => by
  obtain ⟨ps, h1, h2, h3⟩ := t p hp
  refine ⟨ps, x.at h h1 (fun xs z => by cases z), h2, fun pos cv hc => ?_⟩
  obtain ⟨c, e1, e2⟩ := h3 pos cv hc
  exact ⟨c, e1, x.at h e2 (fun xs z => by unfold LamX.CodeO at z; cases z)⟩
theorem ext_of {x o : HO} {a : Addr} (e : LamX.ExtN H H') (h : H a = some o) (n : ∀ ps, o ≠ .tbl ps) : H' a = some o := e a o h n
theorem Dice.ext (h : Dice K H d) (e : LamX.ExtN H H') : Dice K H' d := by
  obtain ⟨sa, ns, p, m, c, h1, h2, h3, h4, h5, h6⟩ := h.ex
  refine ⟨sa, ns, p, m, c, e _ _ h1 (fun _ z => by cases z), h2, h3, h4, h5, fun o => ?_⟩
  have key : ∀ (b : Addr) (u : HO), (∀ ps, u ≠ .tbl ps) → upd H d o b = some u → upd H' d o b = some u := fun b u n q => by
    by_cases hb : b = d
    · rw [hb, upd_same] at q ⊢
      exact q
    · rw [upd_ne hb] at q ⊢
      exact e _ _ q n
  rcases h6 o with (z | ⟨y, z⟩) | z
  · exact .inl (.inl (key _ _ (fun _ z => by cases z) z))
  · exact .inl (.inr ⟨y, key _ _ (fun _ z => by cases z) z⟩)
  · exact .inr z
theorem r_lam {TT : (XK → Hp → VK → Prop) → Hp → VK → Prop} {t : XK → TE} {σ : L2.St} {Q : VK} (h : LamX.Tabs T H) (q : ∀ H1, LamX.ExtN H H1 → LamX.Tabs T H1 → TT (fun E H' Q' => t E σ H' Q') H1 Q) : LamX.tLam T TT t σ H Q := ⟨h, q⟩
end
/-! ### readings with the ends laid flat -/
section
variable {σ : L2.St} {H : Hp} {p : L2.St → Hp → Prop} {q1 : VK} {r s : L2.St → Hp → Prop} {tx ty : TS} {te : TE} {tl : TA} {g : TG} {tb : TS} {K : PySem.W.Frag} {a : Addr} {xs : List V} {i j : Nat} {wi : TI} {n lo : Int} {t : TT}
theorem f_seq (q : tx ⟨ty ⟨p, q1, r, s⟩, q1, r, s⟩ σ H) : tSeq tx ty ⟨p, q1, r, s⟩ σ H := q
theorem f_next (q : p σ H) : tNext ⟨p, q1, r, s⟩ σ H := q
theorem f_drop (q : te σ H fun _ H1 => p σ H1) : tDrop te ⟨p, q1, r, s⟩ σ H := q
theorem f_ret (q : te σ H q1) : tRet te ⟨p, q1, r, s⟩ σ H := q
theorem f_retN (q : q1 .non H) : tRetN ⟨p, q1, r, s⟩ σ H := q
theorem f_asg (q : te σ H fun x H1 => g x σ H1 p) : tAsg te g ⟨p, q1, r, s⟩ σ H := q
theorem f_par (q : tl σ H fun vs H1 => ∃ v w, vs = [v, w] ∧ p ((σ.set i (some v)).set j (some w)) H1) : tPar i j tl ⟨p, q1, r, s⟩ σ H := q
theorem f_list (Pv : Nat → L2.St → Hp → Prop) (h0 : Pv 0 σ H) (hl : ∀ i σ H, i ≤ xs.length → Pv i σ H → SqL K H a xs)
    (hs : ∀ i x σ H, xs[i]? = some x → Pv i σ H → g x σ H fun σ2 H2 => tb ⟨Pv (i + 1), q1, p, Pv (i + 1)⟩ σ2 H2) (hd : ∀ σ H, Pv xs.length σ H → p σ H) : ForW (Itl K a) g tb ⟨p, q1, r, s⟩ σ H := w_list Pv h0 hl hs hd
theorem f_tup (Pv : Nat → L2.St → Hp → Prop) (h0 : Pv 0 σ H) (hl : ∀ i σ H, i ≤ xs.length → Pv i σ H → SqT K H a xs)
    (hs : ∀ i x σ H, xs[i]? = some x → Pv i σ H → g x σ H fun σ2 H2 => tb ⟨Pv (i + 1), q1, p, Pv (i + 1)⟩ σ2 H2) (hd : ∀ σ H, Pv xs.length σ H → p σ H) : ForW (Itt K a) g tb ⟨p, q1, r, s⟩ σ H := w_tup Pv h0 hl hs hd
theorem f_rng {m : Nat} (Pv : Nat → L2.St → Hp → Prop) (h0 : Pv 0 σ H)
    (hs : ∀ i σ H, i < m → Pv i σ H → g (.int (lo + i)) σ H fun σ2 H2 => tb ⟨Pv (i + 1), q1, p, Pv (i + 1)⟩ σ2 H2) (hd : ∀ σ H, Pv m σ H → p σ H) : ForW (Itr lo m) g tb ⟨p, q1, r, s⟩ σ H := w_rng Pv h0 hs hd
/-- the rest behind a statement, unseen -/
theorem f_cut (N : L2.St → Hp → Prop) (h : ∀ M : L2.St → Hp → Prop, (∀ σ2 H2, N σ2 H2 → M σ2 H2) → tx ⟨M, q1, r, s⟩ σ H) (k : ∀ σ2 H2, N σ2 H2 → p σ2 H2) : tx ⟨p, q1, r, s⟩ σ H := h p k
/-- a test known to fail: its way alone -/
theorem f_off (h : ∀ R : Bool → Hp → Prop, R false H → t σ H R) (q : ty ⟨p, q1, r, s⟩ σ H) : tIfS t tx ty ⟨p, q1, r, s⟩ σ H := h (fun b H1 => if b = true then tx ⟨p, q1, r, s⟩ σ H1 else ty ⟨p, q1, r, s⟩ σ H1) q
end
end Oil
/-! super().__init__(..) of an own exception over ValueError, as the first statement of its own __init__. -/
namespace Oil
open PySem PySem.Spec PyProof.Rows L2
section
variable {X : Cx} {pins : List (Addr × Obj)} {σ : L2.St} {H : Hp} {s : Shared} {a C u : Addr} {A : Around} {E : Value → Shared → Prop}
/-- the bound built-in called: nothing of it is told -/
theorem call_mw {us : List Value} {Q : Value → Shared → Prop} (T : OexC X.K C) (I : Inv X pins σ H s) (e : H a = some (exo a C none)) (hu : s.heap.get? u = some (PySem.W.kxs_mw "ValueError.__init__" a)) (hl : us.length ≤ sizeLine)
    (h : ∀ s', Inv X pins σ H s' → Q .none s') : wpAny (model X.prog X.w) A (call (.ref u) us) Q E s := by
  obtain ⟨nm, q, N, bs, bm, sn, sub, ab, col, dd, k0, k1, k2, k3, k5, hC, hbm⟩ := T.cls
  obtain ⟨t1, ho⟩ := exo_at I.hok e
  obtain ⟨hp, g, d, t, os⟩ := s
  have b1 : (Value.type "method-wrapper" == Value.type "method" || Value.type "method-wrapper" == Value.type "builtin_function_or_method" || Value.type "method-wrapper" == Value.type "method-wrapper") = true := by decide
  refine wpAny_call (codeAny_of_tree ?_)
  show wpAny (model X.prog X.w) A.in1 (callAny (.ref u) ⟨us, []⟩) _ _ ⟨hp, g, d, t, os⟩
  simp only [callAny]
  refine wpAny_bind (wpAny_load (o := PySem.W.kxs_mw "ValueError.__init__" a) hu ?_)
  simp only [PySem.W.kxs_mw, b1, if_true]
  refine PySem.W.KFB.if_so (by decide) ?_
  refine wpAny_bind (PySem.W.check_bound_init F.excBase_ValueError.toExcCallFacts (I.kIn _ _ hC) ho rfl ?_)
  refine wpAny_bind (wpAny_pure (wpAny_pure ⟨plainId_quiet F.excBase_ValueError.init.plain _, codeAny_builtin F.excBase_ValueError.initEntry ?_⟩))
  refine PySem.W.exc_init_tree (cls := .ref C) (t0 := t1) (dv := none) (c2 := .none) (c3 := .none) (b4 := .bool false) ho hl fun h' k hx _ => ?_
  have J := I.write (t' := t) (x := a) (e := a) (o := exo a C none) (by rw [e]; exact True.intro) (.inl rfl) k ⟨_, hx⟩ (exo_ok hx)
  have eu : upd H a (exo a C none) = H := funext fun b => by
    by_cases hb : b = a
    · rw [hb, upd_same, e]
    · rw [upd_ne hb]
  rw [eu] at J
  exact h _ J
end
/-- what super().__init__(..) asks of the def at f (its code object at cda, its cell of the class at cc), of the class at C -/
structure SupF (P : Program) (K : PySem.W.Frag) (mg : Str → Option Value) (C f cc cda : Addr) (me : Str) : Prop where
  fn : ∃ (of : Obj) (fd : FuncData) (ar : Arg), K.lookup f = some of ∧ of.data = .func fd ∧ (fd.params.posonlyargs ++ fd.params.args).head? = some ar ∧ ar.arg = me
  cd : ∃ (oc : Obj) (vs : Array Value) (file : Str) (tf : Tok), K.lookup cda = some oc ∧ oc.data = .fields vs ∧ vs[2]? = some (.str file tf) ∧ ((P.main.file : Str) == file) = true
  top : (P.main.scope.names.lookup ("super" : Str)).isSome = false
  cell : ∃ oc : Obj, K.lookup cc = some oc ∧ oc.data = .cell (some (.ref C))
  sup : mg "super" = none
  boot : bootBuiltins "super" = some (.type "super")
  oex : OexC K C
  any : PySem.W.nsIn K cStatics "thirdparty.any" = some none
  mro : PySem.W.mroIn K C (.ref C) = some true
  ini : PySem.W.ks_superIn K C C "__init__" = some (some (.builtin "ValueError.__init__"))
  ve : PySem.W.subIn K (.ref C) (.type "ValueError") = some true
section
variable {X : Cx} {pins : List (Addr × Obj)} {σ : L2.St} {H : Hp} {s : Shared} {C f cc cda x : Addr} {me : Str} {e : Expr} {es : List Expr} {ta : TA} {p0 p1 p2 p3 p4 : Pos} {body : List Stmt} {R : Hp → Prop}
theorem sup_stmt {pl : Sem Bool} (S : SupF X.prog X.K X.mg C f cc cda me) (I : Inv X pins σ H s) (hfun : X.env.func = some f) (hcode : X.env.code = .ref cda) (hcl : X.env.cells.lookup ("__class__" : Str) = some cc)
    (hks : X.env.kindOf "super" = some .globalImplicit) (hkc : X.env.kindOf "__class__" = some .free) (hka : X.env.kindOf me = some .local) (i0 : X.N[0]? = some me) (e0 : σ[0]? = some (some (.ref x)))
    (ex : H x = some (exo x C none)) (ha : PA X (e :: es) ta) (q : ta σ H fun vs H1 => vs.length ≤ 1000 ∧ H1 x = some (exo x C none) ∧ R H1)
    (hi : interactive X.env = false) (hs : swapsWith (.Call (.Attribute (.Call (.Name "super" p0) [] [] p1) "__init__" p2) (e :: es) [] p3) none p4.line X.env = pure false)
    (he : eval (.Call (.Attribute (.Call (.Name "super" p0) [] [] p1) "__init__" p2) (e :: es) [] p3) X.env = (do
      let ov ← attributeBase (.Call (.Name "super" p0) [] [] p1) "__init__" X.env (eval (.Call (.Name "super" p0) [] [] p1) X.env)
      standAt p2.atName
      let (m, first) ← holding [ov] (getMethod ov "__init__" pl)
      callWith p3 m first (backTo p3 (starEach (e :: es) X.env)) []))
    (hse : starEach (e :: es) X.env = (false, eval e X.env) :: starEach es X.env) (hpl : (backTo p3 (starEach es X.env)).any (·.1) = false) :
    _root_.PySem.wpAt (model X.prog X.w) X.A (.func body X.env) (exec (.Expr (.Call (.Attribute (.Call (.Name "super" p0) [] [] p1) "__init__" p2) (e :: es) [] p3) p4) X.env) (fun fl s' => fl = .next ∧ ∃ H1, Inv X pins σ H1 s' ∧ R H1) X.xe s := by
  obtain ⟨of, fd, ar, lf, hfd, hp, rfl⟩ := S.fn
  obtain ⟨oc, vs, file, tf, lcd, hoc, hvs, hfile⟩ := S.cd
  obtain ⟨ocl, lcc, hcell⟩ := S.cell
  obtain ⟨nm, qn, N, bs, bm, sn, sub, ab, col, dd, k0, k1, k2, k3, k5, hC, hbm⟩ := S.oex.cls
  have hcd : PySem.W.clsIn X.K C = some { name := nm, bases := bs, mro := .ref C :: bm, ns := N, qualname := qn, hasDict := true, slotNames := sn, subclasses := sub, abstract := ab, collection := col, hasDel := false } := by
    unfold PySem.W.clsIn
    rw [hC] <;> rfl
  refine ks_wpAt_Expr_any ?_ hi hs
  refine ks_wpAt_MethodCall (pl := pl) ?_ he
  refine ks_wpAt_super_base hks hkc (by decide) hfun (I.kIn _ _ lf) hfd hp hcode (I.kIn _ _ lcd) hoc hvs hfile S.top ?_
  obtain ⟨mb, hb1, hb2⟩ := I.mod.blt
  refine PySem.W.ks_loadName_global I.ok.kind hks (PySem.Calls.loadGlobal_builtin (by rw [I.ok.glob]; exact I.mod.glob.keeps I.bk) S.sup (by rw [I.ok.blt]; exact hb1.keeps I.bk) ((hb2 "super" (by decide)).trans S.boot) ⟨rfl, ?_⟩)
  refine wpAny_loadName_free I.ok.kind hkc hcl ⟨_, I.kIn _ _ lcc, hcell⟩ ?_
  obtain ⟨m, hn, hl⟩ := I.loc
  obtain ⟨u, r, lk⟩ := hl 0 _ (.ref x) i0 e0 (.inl hka)
  obtain rfl : u = Value.ref x := r
  have hm : m ar.arg = some (.ref x) := by
    rcases lk with ⟨_, z⟩ | ⟨hk, _⟩
    · exact z
    · rcases hk with hk | hk
      · rw [hka] at hk
        cases hk
      · rw [hka] at hk
        cases hk
  refine wpAny_loadName_local I.ok.kind hka hn hm ?_
  obtain ⟨t1, ho⟩ := exo_at I.hok ex
  have KX := I.kIn
  obtain ⟨hp', g, d, t, os⟩ := s
  have hC1 := KX _ _ hC
  have xC : x ≠ C := fun z => by
    subst z
    have z2 := Option.some.inj (ho.symm.trans hC1)
    have z3 := congrArg Obj.data z2
    cases z3
  refine ks_wpAny_isType_cls hC1 rfl ⟨rfl, ?_⟩
  refine ks_wpAny_call_super hC1 rfl ho rfl (fun c z => by cases z) (PySem.W.looks_mroIn KX S.mro) fun h1 e1 k1 => ?_
  have I1 : Inv X pins σ H ⟨h1, g, d, t, os⟩ := I.kept (t' := t) k1
  have hf : PySem.W.alongIn X.K "__init__" (((Value.ref C :: bm).dropWhile (· != .ref C)).drop 1) = some (some (.builtin "ValueError.__init__")) := by
    have z := S.ini
    unfold PySem.W.ks_superIn at z
    rw [hcd] at z
    exact z
  have Ix : PySem.W.InstAt h1 x { cls := .ref C, dict := none, data := .fields #[.ref t1, .none, .none, .none, .bool false, .none] } C none := ⟨k1 _ _ ho, rfl, rfl, trivial⟩
  refine PySem.W.kxs_getMethod PySem.W.kxs_ValueError e1 (PySem.W.looks_opaque I1.kIn S.any) (l₀ := .ref C :: bm) (fun A Q E s k q => wpAny_bind ((PySem.W.looks_clsIn I1.kIn hcd) A _ E s k (wpAny_pure q))) rfl I1.kIn hf
    (Ix.type.andThen (PySem.W.looks_subIn I1.kIn S.ve)) xC (by decide) ?_
  have k2 : ∀ b o, h1.get? b = some o → (h1.push (PySem.W.kxs_mw "ValueError.__init__" x)).get? b = some o := fun b o z => Heap.get?_push_of_some _ z
  have I2 : Inv X pins σ H ⟨h1.push (PySem.W.kxs_mw "ValueError.__init__" x), g, d, t + 1, os⟩ := I1.kept (t' := t + 1) k2
  have hu : (h1.push (PySem.W.kxs_mw "ValueError.__init__" x)).get? h1.objs.size = some (PySem.W.kxs_mw "ValueError.__init__" x) := Heap.get?_push_at rfl rfl
  have nu : H h1.objs.size = none := I1.hok.fresh (Nat.le_refl _)
  have I3 : Inv X ((h1.objs.size, PySem.W.kxs_mw "ValueError.__init__" x) :: pins) σ H ⟨h1.push (PySem.W.kxs_mw "ValueError.__init__" x), g, d, t + 1, os⟩ := I2.pins_of fun p hp => by
    rcases List.mem_cons.mp hp with rfl | hp
    · refine ⟨hu, nu, fun z => ?_, fun z => ?_, fun v z => by cases z⟩
      · obtain ⟨m1, ⟨oL, _, _, hL, _⟩, _⟩ := I1.loc
        have := Heap.lt_size hL
        rw [← z] at this
        exact Nat.lt_irrefl _ this
      · obtain ⟨_, oz, hz, _⟩ := I1.ok.funs.mem z
        obtain ⟨m1, ⟨oL, _, _, hL, _⟩, _⟩ := I1.loc
        have w1 : h1.objs.size < X.s_0.heap.objs.size := Heap.lt_size hz
        have w2 : X.env.locals < h1.objs.size := Heap.lt_size hL
        exact Nat.lt_irrefl _ (Nat.lt_of_lt_of_le w1 (Nat.le_trans I1.ok.above (Nat.le_of_lt w2)))
    · exact I2.pin p (List.mem_append_right _ hp)
  refine (?_ : wpAny (model X.prog X.w) X.A (callWith p3 (.ref h1.objs.size) [] (backTo p3 (starEach (e :: es) X.env)) []) _ X.xe _)
  have ev : wpAny (model X.prog X.w) X.A (spliced (backTo p3 (starEach (e :: es) X.env))) (fun us s2 => PySem.W.KxsAt "ValueError.__init__" h1.objs.size x s2.heap ∧ wpAny (model X.prog X.w) X.A (call (.ref h1.objs.size) ([] ++ us)) (fun _ s' => Flow.next = Flow.next ∧ ∃ H1, Inv X pins σ H1 s' ∧ R H1) X.xe s2) X.xe ⟨h1.push (PySem.W.kxs_mw "ValueError.__init__" x), g, d, t + 1, os⟩ :=
    thn (ha.run p3 _ _ σ H _ I3 q) fun us s2 z => by
      obtain ⟨vs, H1, I4, r1, hz, hx1, hR⟩ := z
      have pu := (I4.pin _ (List.mem_append_right _ (List.mem_cons_self ..))).1
      have hlen : us.length ≤ sizeLine := by
        rw [← Paired.length r1, sizeLine_eq]
        omega
      exact ⟨pu, call_mw S.oex (I4.pins_of fun p hp => I4.pin p (List.mem_append_right _ (List.mem_cons_of_mem _ hp))) hx1 pu hlen fun s' J => ⟨rfl, H1, J, hR⟩⟩
  rw [hse] at ev ⊢
  exact PySem.W.kxs_callWith (i := "ValueError.__init__") (x := x) (by show (false || (backTo p3 (starEach es X.env)).any (·.1)) = false; rw [hpl]; rfl) (PySem.Calls.evalArgs_plain ev)
end
/-- the scope of a def that reads its class's cell -/
structure ClScope (N P : List Str) (sc : Scope) : Prop where
  kind : sc.kind = .function
  co : sc.isCoroutine = false
  gen : sc.isGenerator = false
  nd : N.Nodup
  pre : N.take P.length = P
  par : ∀ x ∈ P, sc.names.lookup x = some .local
  nocell : ∀ y ∈ sc.names, y.2 ≠ .cell
  free : ∀ y ∈ sc.names, y.2 = .free → y.1 = ("__class__" : Str)
abbrev envS (qual : Str) (scope : Scope) (L f cda cc : Addr) : Env := PySem.W.envX qual scope L f (.ref cda) [("__class__", cc)]
/-- its body's context at the entry -/
def cxS (P : Program) (w : World) (K : PySem.W.Frag) (mg : Str → Option Value) (base : Heap) (N : List Str) (qual : Str) (scope : Scope) (f cda cc : Addr) (A : Around) (outer : List Env) (s : Shared) (H : Hp) (E : XK) : Cx :=
  { prog := P, w := w, K := K, mg := mg, base := base, A := A.deeper (envS qual scope s.heap.objs.size f cda cc), N := N, s_0 := s, H_0 := H, env := envS qual scope s.heap.objs.size f cda cc, outer := outer,
    stack := envS qual scope s.heap.objs.size f cda cc :: outer, ex := [], calm := true, fn := fun _ => false, pn := [],
    xe := fun e s1 => wpAny (model P w) (A.deeper (envS qual scope s.heap.objs.size f cda cc)) (leaving (envS qual scope s.heap.objs.size f cda cc) e) (fun _ s2 => L2.CX P w outer H s E e s2) (fun e2 s2 => L2.CX P w outer H s E e2 s2) s1 }
theorem look_self2 {y : Str} {c : Addr} : ([(y, c)] : List (Str × Addr)).lookup y = some c := by simp [List.lookup]
theorem rev_look {P : List Str} {us : List Value} {i : Nat} {y : Str} {u : Value} (nd : P.Nodup) (hp : P[i]? = some y) (hu : us[i]? = some u) : (P.zip us).reverse.lookup y = some u := by
  have mem : (y, u) ∈ P.zip us := by
    refine List.mem_of_getElem? (i := i) ?_
    rw [List.getElem?_zip_eq_some]
    exact ⟨hp, hu⟩
  have uni : ∀ v, (y, v) ∈ P.zip us → v = u := fun v hv => by
    obtain ⟨j, hj⟩ := List.mem_iff_getElem?.mp hv
    rw [List.getElem?_zip_eq_some] at hj
    obtain ⟨h1, e1⟩ := List.getElem?_eq_some_iff.mp hj.1
    obtain ⟨h2, e2⟩ := List.getElem?_eq_some_iff.mp hp
    have : j = i := (List.getElem_inj nd).mp (e1.trans e2.symm)
    subst this
    exact Option.some.inj (hj.2.symm.trans hu)
  cases h : (P.zip us).reverse.lookup y with
  | none =>
    have := List.lookup_eq_none_iff.mp h (y, u) (List.mem_reverse.mpr mem)
    simp at this
  | some v =>
    have hm : (y, v) ∈ (P.zip us).reverse := PySem.mem_of_lookup h
    rw [uni v (List.mem_reverse.mp hm)]
section
variable {P : Program} {w : World} {K : PySem.W.Frag} {mg : Str → Option Value} {base : Heap} {N ps : List Str} {qual : Str} {scope : Scope} {f cda cc C : Addr} {A : Around} {outer : List Env} {s : Shared} {H : Hp} {E : XK} {us : List Value} {vs : List V}
theorem start_S {h1 : Heap} {tk : Nat} (S : ClScope N ps scope) (lcc : ∃ oc : Obj, K.lookup cc = some oc ∧ oc.data = .cell (some (.ref C))) (hd : A.handled = none) (e0 : Env0 P w K mg base A outer s H) (hl : vs.length = ps.length) (r : Vals vs us)
    (hns : h1.Ns s.heap.objs.size fun y => (ps.zip us).reverse.lookup y) (kp : ∀ b o, s.heap.get? b = some o → h1.get? b = some o) : Inv (cxS P w K mg base N qual scope f cda cc A outer s H E) [] (L2.start N vs) H { s with heap := h1, toks := tk } := by
  obtain ⟨oc, lc, hc⟩ := lcc
  have bc := e0.mod.kin _ _ lc
  have sc := e0.bs _ _ bc
  have one : ∀ {y : Str} {c : Addr}, ([(("__class__" : Str), cc)] : List (Str × Addr)).lookup y = some c → y = "__class__" ∧ c = cc := fun {y c} z => by
    have := List.mem_singleton.mp (PySem.mem_of_lookup z)
    exact ⟨congrArg Prod.fst this, congrArg Prod.snd this⟩
  have noA : ∀ b : Addr, b ∉ (cxS P w K mg base N qual scope f cda cc A outer s H E).ex := fun b z => absurd (show b ∈ ([] : List Addr) from z) (by simp)
  have hpl : ps.length ≤ N.length := by
    have := congrArg List.length S.pre
    rw [List.length_take] at this
    omega
  refine ⟨⟨e0.mod, S.kind, rfl, rfl, Nat.le_refl _, fun y z c q1 q2 => (one q1).1.trans (one q2).1.symm, fun y hy => ?_, fun y c z _ => ?_, fun _ => hd, Around.frames_deeper e0.frames, .inr ⟨rfl, rfl⟩, fun b z => absurd z (noA b), e0.bs, e0.bsz, fun b _ _ => noA b,
      fun b z => absurd z (noA b), e0.funs, e0.frf⟩,
    rfl, e0.bare, Un.kept kp, ⟨_, hns, fun i y v q1 q2 _ => ?_⟩, fun y c q1 => ?_, e0.hok.fresh (Nat.le_refl _), fun y c q1 => ?_, fun p hp => absurd (show p ∈ ([] : List (Addr × Obj)) from hp) (by simp), e0.hok.kept kp, ?_⟩
  · have hy : scope.names.lookup y = some .cell ∨ scope.names.lookup y = some .free := hy
    rcases hy with hy | hy
    · exact absurd rfl (S.nocell _ (PySem.mem_of_lookup hy))
    · have e := S.free _ (PySem.mem_of_lookup hy) rfl
      have e : y = "__class__" := e
      exact ⟨cc, by rw [e]; exact look_self2⟩
  · have z : false = true := z
    cases z
  · have hi : i < vs.length := by
      by_cases hi : i < vs.length
      · exact hi
      · unfold L2.start at q2
        rw [List.getElem?_append_right (by simpa using hi), List.getElem?_replicate] at q2
        split at q2 <;> cases q2
    have hv : vs[i]? = some v := by
      unfold L2.start at q2
      rw [List.getElem?_append_left (by simpa using hi), List.getElem?_map] at q2
      obtain ⟨a, ha, e⟩ := Option.map_eq_some_iff.mp q2
      rw [ha, Option.some.inj e]
    obtain ⟨u, hu, rv⟩ := r.get hv
    have hp : ps[i]? = some y := by
      rw [← S.pre, List.getElem?_take_of_lt (by omega)]
      exact q1
    have ndP : ps.Nodup := by
      rw [← S.pre]
      exact S.nd.sublist (List.take_sublist _ _)
    exact ⟨u, rv, .inl ⟨S.par y (List.mem_of_getElem? hp), rev_look ndP hp hu⟩⟩
  · obtain ⟨_, rfl⟩ := one q1
    exact ⟨_, oc, kp _ _ sc.1, hc⟩
  · obtain ⟨_, rfl⟩ := one q1
    exact sc.2
  · unfold L2.start
    show _ = N.length
    rw [List.length_append, List.length_map, List.length_replicate]
    omega
/-- THE RULE for a def whose first statement is super().__init__(e, ..) -/
theorem fn_sup {k : Nat} {name : Str} {params : Arguments} {rest : List Stmt} {dV kV doc pm ct ot : Value} {an od : Option Addr} {osl : Array (Option Value)} {sp : Sp} {me : Str} {e : Expr} {es : List Expr} {p0 p1 p2 p3 p4 : Pos} {pl : Sem Bool}
    (lk : K.lookup f = some ⟨ot, od, .func (PySem.W.fnX name qual params (.Expr (.Call (.Attribute (.Call (.Name "super" p0) [] [] p1) "__init__" p2) (e :: es) [] p3) p4 :: rest) scope [("__class__", cc)] dV kV doc pm an (.ref cda) ct), osl⟩)
    (hcd : PySem.W.codeIn K (.ref cda) qual = true) (S : ClScope N ps scope) (F : SupF P K mg C f cc cda me) (hks : scope.names.lookup ("super" : Str) = some .globalImplicit) (hkc : scope.names.lookup ("__class__" : Str) = some .free)
    (hka : scope.names.lookup me = some .local) (i0 : N[0]? = some me) (len : ∀ vs H Q E, sp vs H Q E → vs.length = ps.length)
    (hi : ∀ L : Addr, interactive (envS qual scope L f cda cc) = false) (hs : ∀ L : Addr, swapsWith (.Call (.Attribute (.Call (.Name "super" p0) [] [] p1) "__init__" p2) (e :: es) [] p3) none p4.line (envS qual scope L f cda cc) = pure false)
    (he : ∀ L : Addr, eval (.Call (.Attribute (.Call (.Name "super" p0) [] [] p1) "__init__" p2) (e :: es) [] p3) (envS qual scope L f cda cc) = (do
      let ov ← attributeBase (.Call (.Name "super" p0) [] [] p1) "__init__" (envS qual scope L f cda cc) (eval (.Call (.Name "super" p0) [] [] p1) (envS qual scope L f cda cc))
      standAt p2.atName
      let (m, first) ← holding [ov] (getMethod ov "__init__" pl)
      callWith p3 m first (backTo p3 (starEach (e :: es) (envS qual scope L f cda cc))) []))
    (hse : ∀ L : Addr, starEach (e :: es) (envS qual scope L f cda cc) = (false, eval e (envS qual scope L f cda cc)) :: starEach es (envS qual scope L f cda cc)) (hpl : ∀ L : Addr, (backTo p3 (starEach es (envS qual scope L f cda cc))).any (·.1) = false)
    (hbody : ∀ (A : Around) (outer : List Env) (s : Shared) (H : Hp) (vs : List V) (Q : VK) (E : XK), Room k (A.deeper (envS qual scope s.heap.objs.size f cda cc)) → sp vs H Q E →
      ∃ (x : Addr) (ta : TA) (t : TS), vs[0]? = some (.ref x) ∧ H x = some (exo x C none) ∧ PA (cxS P w K mg base N qual scope f cda cc A outer s H E) (e :: es) ta ∧ PSs (cxS P w K mg base N qual scope f cda cc A outer s H E) rest t ∧
        ta (L2.start N vs) H fun us H1 => us.length ≤ 1000 ∧ H1 x = some (exo x C none) ∧ t { nx := fun _ H' => Q .non H', rt := Q } (L2.start N vs) H1) :
    FnOk P w K mg base (L2.CX P w) (k + 1) f (PySem.W.fnX name qual params (.Expr (.Call (.Attribute (.Call (.Name "super" p0) [] [] p1) "__init__" p2) (e :: es) [] p3) p4 :: rest) scope [("__class__", cc)] dV kV doc pm an (.ref cda) ct) ps sp := by
  refine ⟨len, fun A outer s H args us vs Q E hr e0 hb r hsp => ?_⟩
  have hl := len _ _ _ _ hsp
  have KX : K.In s.heap := e0.mod.kin.keeps fun b o z => (e0.bs b o z).1
  have lim := e0.mod.nolimit.keeps fun b o z => (e0.bs b o z).1
  obtain ⟨x, ta, t, h0, hx, ha, ht, q⟩ := hbody A outer s H vs Q E (hr.deeper _) hsp
  refine ks_codeAny_call_defAt hr.depth (KX _ _ lk) rfl lim (PySem.W.codeRec_of KX hcd) rfl hb S.nocell (fun y hy => S.par _ (List.of_mem_zip hy).1) (fun h1 hns kp => ?_) S.co S.gen S.kind
  have I : Inv (cxS P w K mg base N qual scope f cda cc A outer s H E) [] (L2.start N vs) H { s with heap := h1, toks := s.toks + (ps.zip us).length } := start_S S F.cell hr.hd e0 hl r hns kp
  have s0 : (L2.start N vs)[0]? = some (some (.ref x)) := by
    unfold L2.start
    obtain ⟨lt, _⟩ := List.getElem?_eq_some_iff.mp h0
    rw [List.getElem?_append_left (by simpa using lt), List.getElem?_map, h0]
    rfl
  refine ks_wpAt_execs_cons (ks_wpAt_mono (sup_stmt (X := cxS P w K mg base N qual scope f cda cc A outer s H E) (body := _) (pl := pl) F I rfl rfl look_self2 hks hkc hka i0 s0 hx ha q (hi _) (hs _) (he _) (hse _) (hpl _)) (fun fl s2 z => ?_) fun _ _ z => z)
  obtain ⟨rfl, H1, I1, q1⟩ := z
  have back : ∀ {σ2 : L2.St} {H2 : Hp} {v : V} {u : Value} {s3 : Shared}, Inv (cxS P w K mg base N qual scope f cda cc A outer s H E) [] σ2 H2 s3 → RelV v u → Q v H2 → CE outer P w H s Q u s3 := fun {_ H2 v _ _} J rv qv => ⟨v, H2, J.os, J.bare, J.base, J.hok, rv, qv⟩
  refine wpAt_of_wpAny (wpAny_mono (ht.run [] s2 _ H1 _ I1 q1) (fun fl s3 z => ?_) fun _ _ z => z)
  cases fl with
  | next =>
    obtain ⟨_, _, J, qv⟩ := z
    exact back (v := V.non) (u := Value.none) J rfl qv
  | ret u =>
    obtain ⟨_, _, _, J, rv, qv⟩ := z
    exact back J rv qv
  | brk =>
    obtain ⟨_, _, _, qv⟩ := z
    exact (show False from qv).elim
  | cont =>
    obtain ⟨_, _, _, qv⟩ := z
    exact (show False from qv).elim
end
/-- an own error of the module, made by an __init__ that keeps sp -/
structure Exo (P : Program) (w : World) (K : PySem.W.Frag) (mg : Str → Option Value) (base : Heap) (k : Nat) (x : Str) (C : Addr) (sp : Sp) : Prop where
  gl : mg x = some (.ref C)
  ex : ∃ fI fd ps, OexC K C ∧ PySem.W.findIn K (.ref C) "__init__" = some (some (.ref fI)) ∧ PySem.W.typeIn K (.ref fI) = some (.type "function") ∧ FnOk P w K mg base (L2.CX P w) k fI fd ps sp ∧ L2.Binds K fd ps []
section
variable {X : Cx} {x : Str} {C : Addr} {k j : Nat} {sp : Sp} {e : Expr} {es : List Expr} {ta : TA} {p pos : Pos}
theorem pmk_exo (c : Exo X.prog X.w X.K X.mg X.base k x C sp) (hr : Room j X.A) (hk : k + 1 ≤ j) (ha : PA X (e :: es) ta) (hx : Passes (L2.CX X.prog X.w) X (fun _ _ _ => False)) (hg : Gl X x := by rfl)
    (hdb : (x == ("__debug__" : Str)) = false := by decide) (he : starEach (e :: es) X.env = (false, eval e X.env) :: starEach es X.env := by rfl) (hpl : (backTo pos (starEach es X.env)).any (·.1) = false := by rfl) :
    PMk X (.Call (.Name x p) (e :: es) [] pos) (tMkO C sp [] ta) := by
  obtain ⟨fI, fd, ps, T, iC, tI, F, hb⟩ := c.ex
  exact pmk_oex T iC tI F (hr.mono hk) hb .nil hx hg c.gl ha hdb he hpl
end
end Oil
/-! Lambdas as values: made, with or without a default, kept in lists, called by the teller. -/
namespace Oil
open PySem PySem.Spec PyProof.Rows L2 LamX
open PySem.W (kla_fn kla_obj tabObj CodeHd)
/-- a lambda's function object, its defaults at dv -/
abbrev fnL (q : Str) (pa : Arguments) (bd : Expr) (sc : Scope) (cl : List (Str × Addr)) (dv pm cd ct : Value) : FuncData := { kla_fn "<lambda>" q pa bd sc cl pm cd ct with defaults := dv }
abbrev obL (q : Str) (pa : Arguments) (bd : Expr) (sc : Scope) (cl : List (Str × Addr)) (dv pm : Value) (c1 : Addr) (ct : Value) : Obj := { cls := .type "function", data := .func (fnL q pa bd sc cl dv pm (.ref c1) ct) }
section
variable {M : Model} {A : Around} {E : Value → Shared → Prop} {s : Shared} {q : Str} {pa : Arguments} {bd : Expr} {sc : Scope} {env : Env} {c P : Addr} {ps : Array Value} {pos : Pos} {ln : Nat} {mg : Str → Option Value} {cl : List (Str × Addr)} {dv : Value} {Q : Value → Shared → Prop}
theorem tail_new (e1 : closureFor sc env = pure cl) (e2 : env.globals = mainGlobals) (g1 : s.heap.Ns mainGlobals mg) (e3 : env.code = .ref c) (C : CodeHd s.heap c P) (eP : s.heap.get? P = some (tabObj ps)) (tr : TriplesOk ps.toList)
    (miss : codeAmong pos ps.toList = none) (nP : mainGlobals ≠ P) (bl : s.heap.BuiltinsAt mg P)
    (k : ∀ c1 ct h1 tk, Heap.ExtBut P s.heap h1 → s.heap.objs.size ≤ c1 → c1 < h1.objs.size → h1.CodeRec (.ref c1) q → h1.get? P = some (tabObj (ps ++ #[rawInt pos.line, rawInt pos.col, .ref c1])) →
      Q (.ref h1.objs.size) { s with heap := h1.push (obL q pa bd sc cl dv ((mg "__name__").getD .none) c1 ct), toks := tk }) :
    wpAny M A (makeTail "<lambda>" q pa (.expr bd) sc env dv .none none pos ln) Q E s := by
  obtain ⟨bm, ob, b1, b2, _, b4, b5, b6, b7, b8⟩ := bl
  unfold makeTail
  rw [e1, e2]
  refine wpAny_bind (wpAny_pure ?_)
  cases cl with
  | nil =>
    simp only [List.isEmpty_nil, if_true]
    refine wpAny_bind (wpAny_pure (wpAny_bind (wpAny_functionCodeX e3 (C.code eP tr) (C.tab eP) miss fun c1 h1 tk x1 x2 x3 _ x5 x6 _ => ?_)))
    have g2 := g1.extBut x1 nP
    refine wpAny_bind (wpAny_builtinsFor g2 b1 b2 (x1 _ _ b4 b5) b6 b7 b8 (wpAny_bind (wpAny_nsGet g2 ?_)))
    exact wpAny_bind (wpAny_pure (wpAny_newObj_type (k c1 .none h1 tk x1 x2 x3 x5 x6.2) (by size_fits)))
  | cons y r =>
    simp only [List.isEmpty_cons, Bool.false_eq_true, if_false]
    refine wpAny_bind (wpAny_newTextTuple ?_)
    have C1 : ∀ oT : Obj, CodeHd (s.heap.push oT) c P := fun oT => C.keeps fun b o z => Heap.get?_push_of_some _ z
    refine wpAny_bind (wpAny_functionCodeX e3 ((C1 _).code (Heap.get?_push_of_some _ eP) tr) ((C1 _).tab (Heap.get?_push_of_some _ eP)) miss fun c1 h1 tk x1 x2 x3 _ x5 x6 _ => ?_)
    have g2 := (g1.push _).extBut x1 nP
    have x0 : Heap.ExtBut P s.heap h1 := fun b o n z => x1 b o n (Heap.get?_push_of_some _ z)
    have x7 : s.heap.objs.size ≤ c1 := Nat.le_trans (by rw [Heap.size_push]; omega) x2
    refine wpAny_bind (wpAny_builtinsFor g2 b1 b2 (x0 _ _ b4 b5) b6 b7 b8 (wpAny_bind (wpAny_nsGet g2 ?_)))
    exact wpAny_bind (wpAny_pure (wpAny_newObj_type (k c1 _ h1 tk x0 x7 x3 x5 x6.2) (by size_fits)))
theorem tail_hit {cv : Value} (e1 : closureFor sc env = pure cl) (e2 : env.globals = mainGlobals) (g1 : s.heap.Ns mainGlobals mg) (e3 : env.code = .ref c) (C : CodeHd s.heap c P) (eP : s.heap.get? P = some (tabObj ps)) (tr : TriplesOk ps.toList)
    (hit : codeAmong pos ps.toList = some cv) (bl : s.heap.BuiltinsAt mg P)
    (k : ∀ (ct : Value) (h1 : Heap) (tk : Tok), (∀ b o, s.heap.get? b = some o → h1.get? b = some o) → s.heap.objs.size ≤ h1.objs.size →
      Q (.ref h1.objs.size) { s with heap := h1.push { cls := .type "function", data := .func (fnL q pa bd sc cl dv ((mg "__name__").getD .none) cv ct) }, toks := tk }) :
    wpAny M A (makeTail "<lambda>" q pa (.expr bd) sc env dv .none none pos ln) Q E s := by
  obtain ⟨bm, ob, b1, b2, _, b4, b5, b6, b7, b8⟩ := bl
  unfold makeTail
  rw [e1, e2]
  refine wpAny_bind (wpAny_pure ?_)
  cases cl with
  | nil =>
    simp only [List.isEmpty_nil, if_true]
    refine wpAny_bind (wpAny_pure (wpAny_bind (wpAny_functionCode_hit e3 (C.code eP tr) hit ?_)))
    refine wpAny_bind (wpAny_builtinsFor g1 b1 b2 b5 b6 b7 b8 (wpAny_bind (wpAny_nsGet g1 ?_)))
    exact wpAny_bind (wpAny_pure (wpAny_newObj_type (k .none s.heap s.toks (fun _ _ z => z) (Nat.le_refl _)) (by size_fits)))
  | cons y r =>
    simp only [List.isEmpty_cons, Bool.false_eq_true, if_false]
    refine wpAny_bind (wpAny_newTextTuple ?_)
    have C1 : ∀ oT : Obj, CodeHd (s.heap.push oT) c P := fun oT => C.keeps fun b o z => Heap.get?_push_of_some _ z
    refine wpAny_bind (wpAny_functionCode_hit e3 ((C1 _).code (Heap.get?_push_of_some _ eP) tr) hit ?_)
    refine wpAny_bind (wpAny_builtinsFor (g1.push _) b1 b2 (Heap.get?_push_of_some _ b5) b6 b7 b8 (wpAny_bind (wpAny_nsGet (g1.push _) ?_)))
    have z1 : ∀ oT : Obj, s.heap.objs.size ≤ (s.heap.push oT).objs.size := fun oT => by rw [Heap.size_push]; omega
    exact wpAny_bind (wpAny_pure (wpAny_newObj_type (k _ _ s.toks (fun b o z => Heap.get?_push_of_some _ z) (z1 _)) (by size_fits)))
end
/-- what stands goes on standing -/
def ExA (H H' : Hp) : Prop := ∀ a, H a ≠ none → H' a ≠ none
theorem ExA.upd {H : Hp} {p : Addr} {o : HO} : ExA H (upd H p o) := fun a n => by
  by_cases h : a = p
  · rw [h, upd_same]
    exact fun z => by cases z
  · rw [upd_ne h]
    exact n
theorem ExA.trans {H H1 H2 : Hp} (a : ExA H H1) (b : ExA H1 H2) : ExA H H2 := fun x n => b x (a x n)
/-- at f: the function of a lambda -/
def LamO (f : Addr) (q : Str) (pa : Arguments) (bd : Expr) (sc : Scope) (cl : List (Str × Addr)) (c1 : Addr) (dv : Value) : HO := .ext fun h => ∃ pm ct, h.get? f = some (obL q pa bd sc cl dv pm c1 ct)
theorem lamO_ok {Pg : Program} {w : World} {H : Hp} {h : Heap} {f c1 : Addr} {q : Str} {pa : Arguments} {bd : Expr} {sc : Scope} {cl : List (Str × Addr)} {dv pm ct : Value} (e : h.get? f = some (obL q pa bd sc cl dv pm c1 ct)) :
    ObjOk Pg w H h f (LamO f q pa bd sc cl c1 dv) :=
  ⟨⟨pm, ct, e⟩, ⟨_, e⟩, fun h1 h2 z k => by
    obtain ⟨pm, ct, e⟩ := z
    exact ⟨pm, ct, k _ e⟩⟩
section
variable {X : Cx} {pins : List (Addr × Obj)} {σ : L2.St} {H : Hp} {s : Shared} {E : Value → Shared → Prop} {Q : Value → Shared → Prop} {c P : Addr} {pa : Arguments} {bd : Expr} {sc : Scope} {pos : Pos} {T : List (Addr × Str)}
theorem lam_made {dv : Value} (I : Inv X pins σ H s) (TB : TabB X.base X.mg c P) (e3 : X.env.code = .ref c) (hm : (P, X.env.qual ++ "<lambda>") ∈ T) (hu : ∀ p ∈ T, p.1 = P → p.2 = X.env.qual ++ "<lambda>") (hT : Tabs T H)
    (hf : ∀ y ∈ sc.names, y.2 = .free → ∃ c, X.env.cells.lookup y.1 = some c)
    (k : ∀ (f c1 : Addr) (H1 : Hp) (s1 : Shared), Inv X pins σ H1 s1 → ExtN H H1 → ExA H H1 → Tabs T H1 → H f = none → H1 f = some (LamO f (X.env.qual ++ "<lambda>") pa bd sc (cloFrom X.env.cells sc.names []) c1 dv) → H1 c1 = some (CodeO c1 (X.env.qual ++ "<lambda>")) → Q (.ref f) s1) :
    wpAny (model X.prog X.w) X.A (makeTail "<lambda>" (X.env.qual ++ "<lambda>") pa (.expr bd) sc X.env dv .none none pos pos.line) Q E s := by
  obtain ⟨ps, eP, tr, am⟩ := hT _ hm
  have bP : s.heap.BuiltinsAt X.mg P := TB.bm.keeps I.bk
  have gP : s.heap.get? P = some { cls := .none, data := .fields ps } := I.hok P _ eP
  have lam_ne : ∀ {f c1 : Addr} (ps : Array Value), LamO f (X.env.qual ++ "<lambda>") pa bd sc (cloFrom X.env.cells sc.names []) c1 dv ≠ .tbl ps := fun ps z => by
    unfold LamO at z
    cases z
  cases hc : codeAmong pos ps.toList with
  | none =>
    refine tail_new (mg := X.mg) (c := c) (P := P) (ps := ps) (closure_ok hf) I.ok.glob (I.mod.glob.keeps I.bk) e3 (TB.code.keeps I.bk) gP tr hc TB.gP bP fun c1 ct h1 tk x1 x2 x3 x5 x6 => ?_
    obtain ⟨c2, oc, vs, t, y1, y2, y3, y4⟩ := x5
    cases y1
    have nC : H c1 = none := I.hok.fresh x2
    have hsz : s.heap.objs.size ≤ h1.objs.size := Nat.le_trans x2 (Nat.le_of_lt x3)
    have I1 := inv_table (t' := tk) (more := #[rawInt pos.line, rawInt pos.col, .ref c1]) (h' := h1) I eP (fun b o hb z => x1 b o hb z) x6 x2 ⟨oc, vs, t, y2, y3, y4⟩
    have nf : (upd (upd H P (.tbl (ps ++ #[rawInt pos.line, rawInt pos.col, .ref c1]))) c1 (CodeO c1 (X.env.qual ++ "<lambda>"))) h1.objs.size = none := I1.hok.fresh (Nat.le_refl _)
    have nP : ∀ b o, s.heap.get? b = some o → H b = none → b ≠ P := fun b o _ n z => by
      rw [z, eP] at n
      cases n
    have I2 := I1.laid (t' := tk) (a := h1.objs.size) (o := LamO h1.objs.size (X.env.qual ++ "<lambda>") pa bd sc (cloFrom X.env.cells sc.names []) c1 dv) (h' := h1.push (obL (X.env.qual ++ "<lambda>") pa bd sc (cloFrom X.env.cells sc.names []) dv ((X.mg "__name__").getD .none) c1 ct))
      (fun b o z => Heap.get?_push_of_some _ z) (Nat.le_refl _) (lamO_ok (Heap.get?_push_size _ rfl))
    have e1 : ExtN H (upd (upd H P (.tbl (ps ++ #[rawInt pos.line, rawInt pos.col, .ref c1]))) c1 (CodeO c1 (X.env.qual ++ "<lambda>"))) := fun b o z n => by
      rw [upd_ne (ne_of_none z nC), upd_ne (fun y => n ps (Option.some.inj (z.symm.trans (by rw [y]; exact eP))))]
      exact z
    have s2 : Same (upd (upd H P (.tbl (ps ++ #[rawInt pos.line, rawInt pos.col, .ref c1]))) c1 (CodeO c1 (X.env.qual ++ "<lambda>"))) (upd (upd (upd H P (.tbl (ps ++ #[rawInt pos.line, rawInt pos.col, .ref c1]))) c1 (CodeO c1 (X.env.qual ++ "<lambda>"))) h1.objs.size (LamO h1.objs.size (X.env.qual ++ "<lambda>") pa bd sc (cloFrom X.env.cells sc.names []) c1 dv)) := Same.new nf
    have eL : (ps ++ #[rawInt pos.line, rawInt pos.col, .ref c1]).toList = ps.toList ++ [rawInt pos.line, rawInt pos.col, .ref c1] := by simp
    have T1 : Tabs T (upd (upd H P (.tbl (ps ++ #[rawInt pos.line, rawInt pos.col, .ref c1]))) c1 (CodeO c1 (X.env.qual ++ "<lambda>"))) := fun p hp => by
      by_cases hb : p.1 = P
      · rw [hu p hp hb, hb]
        refine ⟨_, (by rw [upd_ne (ne_of_none eP nC), upd_same]), (by rw [eL]; exact PySem.TriplesOk_snoc _ _ _ _ tr), fun p' cv z => ?_⟩
        rw [eL] at z
        rcases among_app _ tr z with z | z
        · obtain ⟨c0, z1, z2⟩ := am p' cv z
          exact ⟨c0, z1, e1 _ _ z2 codeO_ne⟩
        · exact ⟨c1, z, upd_same⟩
      · obtain ⟨ps1, z1, z2, z3⟩ := hT p hp
        refine ⟨ps1, (by rw [upd_ne (ne_of_none z1 nC), upd_ne hb]; exact z1), z2, fun p' cv z => ?_⟩
        obtain ⟨c0, w1, w2⟩ := z3 p' cv z
        exact ⟨c0, w1, e1 _ _ w2 codeO_ne⟩
    exact k h1.objs.size c1 _ _ I2 (e1.trans (.of s2)) (ExA.upd.trans (ExA.upd.trans ExA.upd)) (T1.ext s2) (I.hok.fresh hsz) upd_same (s2 _ _ upd_same)
  | some cv =>
    obtain ⟨c1, e, co⟩ := am pos cv hc
    subst e
    refine tail_hit (mg := X.mg) (c := c) (P := P) (ps := ps) (closure_ok hf) I.ok.glob (I.mod.glob.keeps I.bk) e3 (TB.code.keeps I.bk) gP tr hc bP fun ct h1 tk x1 hsz => ?_
    have I1 : Inv X pins σ H { s with heap := h1, toks := tk } := I.kept x1
    have nf : H h1.objs.size = none := I1.hok.fresh (Nat.le_refl _)
    have I2 := I1.laid (t' := tk) (a := h1.objs.size) (o := LamO h1.objs.size (X.env.qual ++ "<lambda>") pa bd sc (cloFrom X.env.cells sc.names []) c1 dv) (h' := h1.push (obL (X.env.qual ++ "<lambda>") pa bd sc (cloFrom X.env.cells sc.names []) dv ((X.mg "__name__").getD .none) c1 ct))
      (fun b o z => Heap.get?_push_of_some _ z) (Nat.le_refl _) (lamO_ok (Heap.get?_push_size _ rfl))
    have s2 : Same H (upd H h1.objs.size (LamO h1.objs.size (X.env.qual ++ "<lambda>") pa bd sc (cloFrom X.env.cells sc.names []) c1 dv)) := Same.new nf
    exact k h1.objs.size c1 _ _ I2 (.of s2) ExA.upd (hT.ext s2) nf upd_same (s2 _ _ co)
/-- a lambda made -/
def tMkL (T : List (Addr × Str)) (q : Str) (pa : Arguments) (bd : Expr) (sc : Scope) (cl : List (Str × Addr)) : TE := fun _ H Q => Tabs T H ∧ ∀ (f c1 : Addr) (H1 : Hp), ExtN H H1 → ExA H H1 → Tabs T H1 → H f = none → H1 f = some (LamO f q pa bd sc cl c1 .none) → H1 c1 = some (CodeO c1 q) → Q (.ref f) H1
/-- a lambda with one written int as its default -/
def tMkD (T : List (Addr × Str)) (q : Str) (pa : Arguments) (bd : Expr) (sc : Scope) (cl : List (Str × Addr)) (n : Int) : TE := fun _ H Q => Tabs T H ∧ ∀ (f c1 t : Addr) (H1 : Hp), ExtN H H1 → ExA H H1 → Tabs T H1 → H t = none → H f = none → H1 f = some (LamO f q pa bd sc cl c1 (.ref t)) → H1 c1 = some (CodeO c1 q) → H1 t = some (.tup [.int n]) → Q (.ref f) H1
theorem pe_lam0 (TB : TabB X.base X.mg c P) (e3 : X.env.code = .ref c) (hm : (P, X.env.qual ++ "<lambda>") ∈ T) (hu : ∀ p ∈ T, p.1 = P → p.2 = X.env.qual ++ "<lambda>") (L : X.Ok → ∀ y ∈ sc.names, y.2 = .free → ∃ c, X.env.cells.lookup y.1 = some c) (hd : defaultsOf pa X.env = ([], [])) : PE X (.Lambda pa bd sc pos) (tMkL T (X.env.qual ++ "<lambda>") pa bd sc (cloFrom X.env.cells sc.names [])) := by
  refine ⟨fun pins s σ H Q I h => ?_⟩
  obtain ⟨hT, h⟩ := h
  refine PySem.W.kla_eval hd ?_
  rw [makeFunction_eq]
  simp only [pure_bind, if_true, List.isEmpty_nil, List.filterMap_nil, List.zip_nil_right]
  exact lam_made I TB e3 hm hu hT (L I.ok) fun f c1 H1 s1 I1 x xa T1 n e e2 => ⟨.ref f, H1, I1, rfl, h f c1 H1 x xa T1 n e e2⟩
theorem pe_lamD {n : Int} {j : Nat} {p : Pos} (TB : TabB X.base X.mg c P) (e3 : X.env.code = .ref c) (hm : (P, X.env.qual ++ "<lambda>") ∈ T) (hu : ∀ p ∈ T, p.1 = P → p.2 = X.env.qual ++ "<lambda>")
    (L : X.Ok → ∀ y ∈ sc.names, y.2 = .free → ∃ c, X.env.cells.lookup y.1 = some c) (hd : defaultsOf pa X.env = ([eval (.Constant (.int n) j p) X.env], [])) :
    PE X (.Lambda pa bd sc pos) (tMkD T (X.env.qual ++ "<lambda>") pa bd sc (cloFrom X.env.cells sc.names []) n) := by
  refine ⟨fun pins s σ H Q I h => ?_⟩
  obtain ⟨hT, h⟩ := h
  rw [arm_eval_Lambda, hd]
  show wpAny _ _ (do let dv ← evalAll [eval (.Constant (.int n) j p) X.env]; let kd ← holding dv (evalAllOpt []); makeFunction "<lambda>" (X.env.qual ++ "<lambda>") pa (.expr bd) sc X.env dv kd [] pos pos.line) _ _ _
  refine wpAny_bind (wpAny_bind (wpAny_Constant_int (wpAny_bind (wpAny_holding (wpAny_pure (wpAny_pure (wpAny_bind (wpAny_holding (wpAny_pure ?_)))))))))
  rw [makeFunction_eq]
  simp only [pure_bind, if_true, List.isEmpty_nil, List.isEmpty_cons, Bool.false_eq_true, if_false, List.filterMap_nil, List.zip_nil_right]
  refine wpAny_bind (wpAny_newTextTuple ?_)
  have nf : H s.heap.objs.size = none := I.hok.fresh (Nat.le_refl _)
  have tp : IsTup (s.heap.push { cls := .type "tuple", data := .seq [Value.int n s.toks].toArray }) s.heap.objs.size [Value.int n s.toks].toArray := IsTup.new _ _
  have I1 : Inv X pins σ (upd H s.heap.objs.size (.tup [.int n])) { s with heap := s.heap.push { cls := .type "tuple", data := .seq [Value.int n s.toks].toArray }, toks := s.toks + 1 } :=
    I.laid (t' := s.toks + 1) (a := s.heap.objs.size) (fun _ _ z => Heap.get?_push_of_some _ z) (Nat.le_refl _) ⟨by show 1 ≤ sizeLine; decide, [Value.int n s.toks], .cons ⟨_, rfl⟩ .nil, tp⟩
  have s1 : Same H (upd H s.heap.objs.size (.tup [.int n])) := Same.new nf
  refine lam_made I1 TB e3 hm hu (hT.ext s1) (L I.ok) fun f c1 H1 s2 I2 x xa T1 m e e2 => ⟨.ref f, H1, I2, rfl, h f c1 _ H1 ((ExtN.of s1).trans x) (ExA.upd.trans xa) T1 nf (s1.free m) e e2 (x _ _ upd_same (fun ps z => by cases z))⟩
end
/-- a lambda's scope: captured names, globals, and parameters whose names the maker does not bear -/
structure LamV (scm sc : Scope) (N : List Str) : Prop where
  kind : sc.kind = .function
  co : sc.isCoroutine = false
  gen : sc.isGenerator = false
  nocell : ∀ y ∈ sc.names, y.2 ≠ .cell
  own : ∀ y ∈ sc.names, y.2 = .local → y.1 ∉ N
  free : ∀ y ∈ sc.names, y.2 = .free → scm.names.lookup y.1 = some .cell ∨ scm.names.lookup y.1 = some .free
def lamVB (scm sc : Scope) (N : List Str) : Bool :=
  decide (sc.kind = .function) && !sc.isCoroutine && !sc.isGenerator && sc.names.all fun y => !decide (y.2 = .cell) && (!decide (y.2 = .local) || !N.contains y.1) && (!decide (y.2 = .free) || decide (scm.names.lookup y.1 = some .cell) || decide (scm.names.lookup y.1 = some .free))
theorem lamV_by {scm sc : Scope} {N : List Str} (h : lamVB scm sc N = true) : LamV scm sc N := by
  unfold lamVB at h
  simp only [Bool.and_eq_true, Bool.or_eq_true, Bool.not_eq_true', decide_eq_true_eq, decide_eq_false_iff_not, List.all_eq_true] at h
  obtain ⟨⟨⟨a1, a2⟩, a3⟩, a4⟩ := h
  refine ⟨a1, a2, a3, fun y hy => (a4 y hy).1.1, fun y hy e hn => ?_, fun y hy e => ?_⟩
  · rcases (a4 y hy).1.2 with z | z
    · exact z e
    · rw [List.contains_iff_mem.mpr hn] at z
      cases z
  · rcases (a4 y hy).2 with (z | z) | z
    · exact absurd e z
    · exact .inl z
    · exact .inr z
section
variable {X : Cx} {pins : List (Addr × Obj)} {σ : L2.St} {H HZ : Hp} {s s1 : Shared}
theorem LamV.has {sc : Scope} (L : LamV X.env.scope sc X.N) (ok : X.Ok) : ∀ y ∈ sc.names, y.2 = .free → ∃ c, X.env.cells.lookup y.1 = some c := fun y hy e => by
  rcases L.free y hy e with z | z
  · exact ok.has _ (.inl z)
  · exact ok.has _ (.inr z)
theorem lam_in {A : Around} {outer : List Env} {E : XK} {sc : Scope} {f c1 : Addr} {h1 : Heap} {tk : Nat} {m0 : Str → Option Value} (I : Inv X pins σ H s) (L : LamV X.env.scope sc X.N) (e0 : Env0 X.prog X.w X.K X.mg X.base A outer s1 HZ) (hd : A.handled = none)
    (un : Un (frs X.stack) [] H HZ s.heap s1.heap) (hn : h1.Ns s1.heap.objs.size m0) (kp : ∀ b o, s1.heap.get? b = some o → h1.get? b = some o) :
    Inv (lamCx X A outer s1 HZ E sc f c1) [] σ HZ { s1 with heap := h1, toks := tk } := by
  have fr := L.has I.ok
  have cm : ∀ {y c}, (cloFrom X.env.cells sc.names []).lookup y = some c → X.env.cells.lookup y = some c := fun {y c} e => by
    rcases cloFrom_mem (PySem.mem_of_lookup e) with z | ⟨z1, z2⟩
    · cases z
    · obtain ⟨c2, z3⟩ := fr _ z1 rfl
      have z3 : X.env.cells.lookup y = some c2 := z3
      have z4 : c = c2 := by rw [z2, z3] <;> rfl
      rw [z4]
      exact z3
  have lk : ∀ {y}, sc.names.lookup y = some .free → ∃ c, (cloFrom X.env.cells sc.names []).lookup y = some c := fun {y} e => mem_lookup (cloFrom_has (cells := X.env.cells) (acc := []) (PySem.mem_of_lookup e))
  have ck : ∀ {c : Addr} {v : Option Value}, H c = none → s.heap.IsCell c v → h1.IsCell c v := fun {c v} n ⟨o, z1, z2⟩ => by
    obtain ⟨sl, z⟩ := un.any z1 n (by simp)
    exact ⟨_, kp _ _ z, z2⟩
  have na : ∀ b : Addr, b ∉ (lamCx X A outer s1 HZ E sc f c1).ex := fun b z => absurd (show b ∈ ([] : List Addr) from z) (by simp)
  refine ⟨⟨e0.mod, L.kind, rfl, rfl, Nat.le_refl _, fun y z c q1 q2 => I.ok.inj y z c (cm q1) (cm q2), fun y hy => ?_, fun y c z _ => ?_, fun _ => hd, Around.frames_deeper e0.frames, .inr ⟨rfl, rfl⟩, fun b z => absurd z (na b), e0.bs, e0.bsz, fun b _ _ => na b,
      fun b z => absurd z (na b), e0.funs, e0.frf⟩,
    rfl, e0.bare, Un.kept kp, ⟨_, hn, fun i y v q1 q2 q3 => ?_⟩, fun y c e => ?_, e0.hok.fresh (Nat.le_refl _), fun y c e => ?_, fun p hp => absurd (show p ∈ ([] : List (Addr × Obj)) ++ [] from hp) (by simp), e0.hok.kept kp, I.len⟩
  · have hy : sc.names.lookup y = some .cell ∨ sc.names.lookup y = some .free := hy
    rcases hy with z | z
    · exact absurd rfl (L.nocell _ (PySem.mem_of_lookup z))
    · exact lk z
  · have z : false = true := z
    cases z
  · have q3 : Vis sc y := q3
    have hN : y ∈ X.N := List.mem_of_getElem? q1
    rcases q3 with z | z | z
    · exact absurd hN (L.own _ (PySem.mem_of_lookup z) rfl)
    · exact absurd rfl (L.nocell _ (PySem.mem_of_lookup z))
    · obtain ⟨m, _, hl⟩ := I.loc
      have vis : Vis X.env.scope y := (L.free _ (PySem.mem_of_lookup z) rfl).elim (fun z => .inr (.inl z)) (fun z => .inr (.inr z))
      obtain ⟨u, r, w1⟩ := hl i y v q1 q2 vis
      obtain ⟨c2, w2⟩ := lk z
      refine ⟨u, r, .inr ⟨.inr z, c2, w2, ?_⟩⟩
      have w3 := cm w2
      rcases w1 with ⟨kl, _⟩ | ⟨_, c3, w4, w5⟩
      · have kl : X.env.scope.names.lookup y = some .local := kl
        rcases L.free _ (PySem.mem_of_lookup z) rfl with k2 | k2 <;> rw [show X.env.scope.names.lookup y = _ from k2] at kl <;> cases kl
      · rw [w3] at w4
        cases w4
        exact ck (I.freeC y _ w3) w5
  · obtain ⟨v, z⟩ := I.cell y c (cm e)
    exact ⟨v, ck (I.freeC y c (cm e)) z⟩
  · obtain ⟨v, o, z1, z2⟩ := I.cell y c (cm e)
    exact un.free c o z1 (I.freeC y c (cm e)) (by simp)
end
/-- what a lambda of the maker X does when it is called without arguments -/
structure LamK (X : Cx) (k : Nat) (pa : Arguments) (bd : Expr) (sc : Scope) (d : Option Int) (t : XK → TE) : Prop where
  L : LamV X.env.scope sc X.N
  bind0 : d = none → ∀ (pm cd ct : Value), bindArgs (fnL (X.env.qual ++ "<lambda>") pa bd sc (cloFrom X.env.cells sc.names []) .none pm cd ct) ⟨[], []⟩ = pure []
  bind1 : d ≠ none → ∃ y, sc.names.lookup y = some .local ∧ ∀ (T : Addr) (pm cd ct v : Value), ∃ kk, bindArgs (fnL (X.env.qual ++ "<lambda>") pa bd sc (cloFrom X.env.cells sc.names []) (.ref T) pm cd ct) ⟨[], []⟩ = seqItems? (.ref T) >>= kk ∧ kk (some #[v]) = pure [(y, v)]
  body : ∀ (A : Around) (outer : List Env) (s : Shared) (H : Hp) (E : XK) (f c1 : Addr), Room k (A.deeper (lamEnv X sc s.heap.objs.size f c1)) → PE (lamCx X A outer s H E sc f c1) bd (t E)
/-- at f: that lambda -/
def LamAt (X : Cx) (H : Hp) (f : Addr) (pa : Arguments) (bd : Expr) (sc : Scope) (d : Option Int) : Prop := ∃ c1 dv, H f = some (LamO f (X.env.qual ++ "<lambda>") pa bd sc (cloFrom X.env.cells sc.names []) c1 dv) ∧ H c1 = some (CodeO c1 (X.env.qual ++ "<lambda>")) ∧
  ((d = none ∧ dv = .none) ∨ ∃ n t, d = some n ∧ dv = .ref t ∧ H t = some (.tup [.int n]))
theorem LamAt.keeps {X : Cx} {H H1 : Hp} {f : Addr} {pa : Arguments} {bd : Expr} {sc : Scope} {d : Option Int} (e : ExtN H H1) (x : LamAt X H f pa bd sc d) : LamAt X H1 f pa bd sc d := by
  obtain ⟨c1, dv, z1, z2, z3⟩ := x
  refine ⟨c1, dv, e _ _ z1 (fun ps z => by unfold LamO at z; cases z), e _ _ z2 codeO_ne, ?_⟩
  rcases z3 with z | ⟨n, t, w1, w2, w3⟩
  · exact .inl z
  · exact .inr ⟨n, t, w1, w2, e _ _ w3 (fun ps z => by cases z)⟩
section
variable {X : Cx} {pins : List (Addr × Obj)} {σ : L2.St} {H : Hp} {s : Shared}
theorem pe_actV {CXg : CXT} {Eg : XK} {Ng : List Str} {qg : Str} {sg : Scope} {g f : Addr} {cdg : Value} {pa : Arguments} {bd : Expr} {sc : Scope} {d : Option Int} {k i : Nat} {a : Str} {pn : List (Addr × Obj)} {xe : Value → Shared → Prop} {W : WX} {E : XK} {t : XK → TE} {p1 p2 : Pos}
    (I : Inv X pins σ H s) (LK : LamK X k pa bd sc d t) (tk : Takes ((cxOf CXg X.prog X.w X.K X.mg X.base Ng qg sg g cdg X.A X.stack s H Eg).tr pn xe) W) (hW : ∀ cls d σ1 H1, E cls d H1 → W cls d σ1 H1)
    (hr : Room (k + 1) (X.A.deeper (envOfC qg sg s.heap.objs.size g cdg))) (hN : Ng[i]? = some a) (hv : Vis sg a) (hd : (a == ("__debug__" : Str)) = false := by decide) (hcd : (a == ("__classdict__" : Str)) = false := by decide) :
    PE ((cxOf CXg X.prog X.w X.K X.mg X.base Ng qg sg g cdg X.A X.stack s H Eg).tr pn xe) (.Call (.Name a p1) [] [] p2) (fun σZ HZ Q => σZ[i]? = some (some (.ref f)) ∧ LamAt X HZ f pa bd sc d ∧ t E σ HZ Q) := by
  refine ⟨fun pz sz σz HZ Q IZ h => ?_⟩
  obtain ⟨z0, ⟨c1, dv, eF, eC, eD⟩, z1⟩ := h
  refine wpAny_Call_Name_kw (thn ((pe_var (pos := p1) (i := i) hN hv hd hcd).run pz sz σz HZ (fun v H1 => v = .ref f ∧ H1 = HZ) IZ ⟨.ref f, z0, rfl, rfl⟩) fun u s1 z => ?_)
  obtain ⟨v, H1, I1, r1, ev, eH⟩ := z
  subst ev
  rw [eH] at I1
  obtain rfl : u = Value.ref f := r1
  have kF := I1.hok f _ eF
  have kC := I1.hok c1 _ eC
  obtain ⟨⟨pm, ct, gF⟩, _⟩ := (show (∃ pm ct, s1.heap.get? f = some (obL (X.env.qual ++ "<lambda>") pa bd sc (cloFrom X.env.cells sc.names []) dv pm c1 ct)) ∧ _ from kF)
  obtain ⟨⟨oc, vs, tq, w1, w2, w3⟩, _⟩ := (show (∃ (oc : Obj) (vs : Array Value) (t : Tok), s1.heap.get? c1 = some oc ∧ oc.data = .fields vs ∧ vs[1]? = some (.str (X.env.qual ++ "<lambda>") t)) ∧ _ from kC)
  refine PySem.W.callWith_F0 ⟨_, _, _, _, gF⟩ ?_
  have un : Un (frs X.stack) [] H HZ s.heap s1.heap := I1.base
  have run : codeAny (model X.prog X.w) (X.A.deeper (envOfC qg sg s.heap.objs.size g cdg)) (.call (.ref f) ⟨[], []⟩) (CR (L2.CX X.prog X.w) (envOfC qg sg s.heap.objs.size g cdg :: X.stack) X.prog X.w HZ s1 Q E) s1 := by
    refine PySem.W.kla_callFunE hr.depth gF rfl LK.L.co LK.L.gen rfl ⟨c1, oc, vs, tq, rfl, w1, w2, w3⟩ ?_
    have go : ∀ binds : List (Str × Value), (∀ y ∈ binds, sc.names.lookup y.1 = some .local) → wpAny (model X.prog X.w) (X.A.deeper (envOfC qg sg s.heap.objs.size g cdg)).in1 (newFunctionEnv sc mainGlobals (cloFrom X.env.cells sc.names []) binds (X.env.qual ++ "<lambda>" ++ ".<locals>.") (some f) (.ref c1) none builtinsNs)
        (fun env s₂ => s₂.heap.NoLimit ∧ codeAny (model X.prog X.w) (X.A.deeper (envOfC qg sg s.heap.objs.size g cdg)) (.expr bd env) (CR (L2.CX X.prog X.w) (envOfC qg sg s.heap.objs.size g cdg :: X.stack) X.prog X.w HZ s1 Q E) s₂)
        (fun e s2 => CR (L2.CX X.prog X.w) (envOfC qg sg s.heap.objs.size g cdg :: X.stack) X.prog X.w HZ s1 Q E (.error e) s2) s1 := fun binds hl => by
      refine wpAny_newFunctionEnv LK.L.nocell hl (fun h2 hn hs => ⟨I1.nolimit.fresh _ hs, ?_⟩) LK.L.kind
      show codeAny _ _ (.expr bd (lamEnv X sc s1.heap.objs.size f c1)) _ _
      have kp : ∀ b o, s1.heap.get? b = some o → h2.get? b = some o := fun b o e => hs.extBut b o (Nat.ne_of_lt (Heap.lt_size e)) (Heap.get?_push_of_some _ e)
      have J : Inv (lamCx X (X.A.deeper (envOfC qg sg s.heap.objs.size g cdg)) (envOfC qg sg s.heap.objs.size g cdg :: X.stack) s1 HZ E sc f c1) [] σ HZ { s1 with heap := h2, toks := s1.toks + binds.length } := lam_in I LK.L I1.env0 hr.hd un hn kp
      refine PySem.W.kla_codeExpr (wpAny_mono ((LK.body _ _ s1 HZ E f c1 (hr.deeper _)).run [] _ _ HZ Q J z1) (fun v s2 y => ?_) fun _ _ y => y)
      obtain ⟨w, H2, J2, rv, qv⟩ := y
      exact ⟨w, H2, J2.os, J2.bare, J2.base, J2.hok, rv, qv⟩
    rcases eD with ⟨rfl, rfl⟩ | ⟨n, tt, rfl, rfl, eT⟩
    · rw [LK.bind0 rfl]
      exact wpAny_pure (go [] (fun _ z => by cases z))
    · obtain ⟨y, ly, hb⟩ := LK.bind1 (fun z => by cases z)
      obtain ⟨_, its, rv, ot, gT, _, m, dT⟩ := (show [V.int n].length ≤ sizeLine ∧ ∃ its : List Value, Vals [V.int n] its ∧ IsTup s1.heap tt its.toArray from I1.hok tt _ eT)
      cases rv with
      | @cons _ u0 _ ur ra rb =>
        cases rb
        obtain ⟨kk, b1, b2⟩ := hb tt pm (.ref c1) ct u0
        rw [b1]
        refine wpAny_bind (wpAny_seqItems gT dT ?_)
        rw [b2]
        refine wpAny_pure (go [(y, u0)] fun z hz => ?_)
        rw [List.mem_singleton.mp hz]
        exact ly
  have hx : Passes (L2.CX X.prog X.w) ((cxOf CXg X.prog X.w X.K X.mg X.base Ng qg sg g cdg X.A X.stack s H Eg).tr pn xe) E := passes_call tk hW
  refine wpAny_call (codeAny_mono run fun r s2 y => ?_)
  cases r with
  | error e => exact hx pz σz HZ s1 e s2 I1 y
  | ok fl =>
    cases fl with
    | ret u => exact I1.after y
    | next => exact False.elim y
    | brk => exact False.elim y
    | cont => exact False.elim y
end
/-- the def at g that calls what it is given, whatever is known of it meanwhile (Φ); TT: what it makes of the call's reading -/
def GivesV (X : Cx) (Ng : List Str) (x : Str) (sg : Scope) (g : Addr) (cdg : Value) (bg : List Stmt) (a : Str) (TT : (XK → Hp → VK → Prop) → Hp → VK → Prop) : Prop :=
  ∀ (f : Addr) (Φ : Hp → Prop) (s : Shared) (H : Hp) (Q : VK) (tl : XK → Hp → VK → Prop),
    (∀ (W : WX) (pn : List (Addr × Obj)) (xe : Value → Shared → Prop) (E : XK) (p1 p2 : Pos), Takes ((cxOf C8.CX0 X.prog X.w X.K X.mg X.base Ng x sg g cdg X.A X.stack s H C8.E0).tr pn xe) W → (∀ cls d σ1 H1, E cls d H1 → W cls d σ1 H1) →
      PE ((cxOf C8.CX0 X.prog X.w X.K X.mg X.base Ng x sg g cdg X.A X.stack s H C8.E0).tr pn xe) (.Call (.Name a p1) [] [] p2) (fun σZ HZ Q => σZ[0]? = some (some (.ref f)) ∧ Φ HZ ∧ tl E HZ Q)) →
    Φ H → TT tl H Q → ∃ t, PSs (cxOf C8.CX0 X.prog X.w X.K X.mg X.base Ng x sg g cdg X.A X.stack s H C8.E0).nox bg t ∧ t { nx := fun _ H1 => Q .non H1, rt := Q } (L2.start Ng [.ref f]) H
/-- told(e), e a lambda of the maker -/
def tToldV (X : Cx) (k : Nat) (TT : (XK → Hp → VK → Prop) → Hp → VK → Prop) (ta : TA) : TE := fun σ H Q => ta σ H fun vs H1 => ∃ (f : Addr) (pa : Arguments) (bd : Expr) (sc : Scope) (d : Option Int) (t : XK → TE), vs = [.ref f] ∧ LamK X k pa bd sc d t ∧ LamAt X H1 f pa bd sc d ∧ TT (fun E H2 Q2 => t E σ H2 Q2) H1 Q
section
variable {X : Cx} {k : Nat}
theorem pe_toldV {TT : (XK → Hp → VK → Prop) → Hp → VK → Prop} {x a : Str} {g : Addr} {pg : Arguments} {bg : List Stmt} {sg : Scope} {dV kV doc pm cdv ct oc : Value} {an od : Option Addr} {osl : Array (Option Value)} {Ng : List Str} {e : Expr} {ta : TA} {p pos : Pos}
    (hg : Gl X x) (hm : X.mg x = some (.ref g)) (hk : PySem.W.keepIn X.K (.ref g) = true) (lk : X.K.lookup g = some ⟨oc, od, .func (PySem.W.fnOf x x pg bg sg dV kV doc pm an cdv ct), osl⟩) (hcg : PySem.W.codeIn X.K cdv x = true)
    (hb : L2.Binds X.K (PySem.W.fnOf x x pg bg sg dV kV doc pm an cdv ct) [a] []) (Sg : FnScope Ng [a] sg) (i0 : Ng[0]? = some a) (hva : Vis sg a) (hG : GivesV X Ng x sg g cdv bg a TT) (hr : Room (k + 2) X.A) (ha : PA X [e] ta)
    (hdb : (x == ("__debug__" : Str)) = false := by decide) (hd : (a == ("__debug__" : Str)) = false := by decide) (hcd : (a == ("__classdict__" : Str)) = false := by decide)
    (hse : starEach [e] X.env = (false, eval e X.env) :: starEach [] X.env := by rfl) (hpl : (backTo pos (starEach [] X.env)).any (·.1) = false := by rfl) :
    PE X (.Call (.Name x p) [e] [] pos) (tToldV X k TT ta) := by
  refine ⟨fun pins s σ H Q I h => ?_⟩
  refine wpAny_Call_Name_kw (ld_glob I hg hm ?_ hdb)
  refine PySem.W.callWith_K (h₀ := X.base) I.ok.mod.kin hk (thn (ha.run pos pins _ σ H _ I h) fun us s1 z => ?_) hse hpl
  obtain ⟨vs, H1, I1, r1, f, pa, bd, sc, d, t, ev, LK, at_, q⟩ := z
  subst ev
  refine ⟨I1.kIn, ?_⟩
  cases r1 with
  | @cons _ u0 _ ur ra rb =>
    cases rb
    obtain rfl : u0 = Value.ref f := ra
    show wpAny _ _ (call (.ref g) [.ref f]) _ _ _
    have run : codeAny (model X.prog X.w) X.A (.call (.ref g) ⟨[.ref f], []⟩) (CR C8.CX0 X.stack X.prog X.w H1 s1 Q C8.E0) s1 := by
      refine run_ofS (N := Ng) (ps := [a]) (us := [.ref f]) (vs := [.ref f]) lk hcg Sg hr I1.env0 (hb s1 [.ref f] I1.kIn rfl) (.cons rfl .nil) rfl fun hr2 => ?_
      obtain ⟨t2, ht, hq⟩ := hG f (fun HZ => LamAt X HZ f pa bd sc d) s1 H1 Q (fun E H2 Q2 => t E σ H2 Q2) (fun W pn xe E p1 p2 tk hW => pe_actV (i := 0) I1 LK tk hW hr2 i0 hva hd hcd) at_ q
      exact ⟨t2, ht.nox, hq⟩
    refine wpAny_call (codeAny_mono run fun r s2 y => ?_)
    cases r with
    | error e => exact (show False from y).elim
    | ok fl =>
      cases fl with
      | ret u => exact I1.after y
      | next => exact False.elim y
      | brk => exact False.elim y
      | cont => exact False.elim y
end
end Oil
/-! A list comprehension (one for, no if) whose element knows the maker. -/
namespace Oil
open PySem PySem.Spec PyProof.Rows L2 LamX
/-- the block's context and its environment at the state z -/
abbrev bEnv (X : Cx) (sc : Scope) (z : Shared) : Env := compEnvC sc (cellsFrom (z.heap.objs.size + 1) sc.names (cloFrom X.env.cells sc.names [])) z.heap.objs.size X.env
section
variable {X : Cx}
/-- the maker's invariant, had again from the block's -/
theorem maker {pins : List (Addr × Obj)} {σ τ : L2.St} {H G : Hp} {z y : Shared} {sc : Scope} {cenv : Env} {fp : List Addr} {bp : List (Addr × Obj)} (I : Inv X pins σ H z) (hfp : ∀ b ∈ fp, FpOk X pins H b) (J : Inv (X.blk z H sc cenv fp) bp τ G y) : Inv X pins σ G y :=
  I.call' (ch := fp) J.os J.base J.hok J.bare fun b hb => by
    obtain ⟨_, q1, _, q2, q3, q4⟩ := hfp b hb
    exact ⟨q2, q1, q3, q4⟩
theorem pe_lcK {elt tg iter : Expr} {sc : Scope} {own : List (Str × Nat)} {pos : Pos} {wi : TI} {g : TG} {te : L2.St → TE} (hc : X.calm = true) (hN : X.N.Nodup) (hi : PI X tg iter wi) (ok : BlkOk X.N X.env.scope sc own)
    (hg : ∀ (s : Shared) (H : Hp) (C : Addr) (cl : List (Str × Addr)) (fp : List Addr), PG (X.blk s H sc (compEnvC sc cl C X.env) fp) tg g)
    (he : ∀ (pins : List (Addr × Obj)) (σ : L2.St) (z : Shared) (H : Hp) (fp : List Addr), Inv X pins σ H z → (∀ b ∈ fp, FpOk X pins H b) → PE (X.blk z H sc (bEnv X sc z) fp) elt (te σ))
    (hs : ∀ x, foldedSetIterable iter X.env x = pure x := by intro _; rfl) :
    PE X (.ListComp elt [⟨tg, iter, [], 0⟩] sc pos) (fun σ H Q => tLc wi g (fun _ H Q => Q true H) (te σ) (own.map (·.2)) σ H Q) := by
  refine ⟨fun pins s σ H Q I h => ?_⟩
  rw [eval_ListComp]
  have fr : ∀ y ∈ sc.names, y.2 = .free → ∃ c, X.env.cells.lookup y.1 = some c := fun y hy e => (ok.free y hy e).elim (fun q => I.ok.has _ (.inl q)) (fun q => I.ok.has _ (.inr q))
  refine wpAny_comprehension_free (use := none) rfl hs (closure_ok fr) ok.kind (fun y hy e => (ok.uniq y hy).trans (by rw [e])) ?_
  refine thn (hi.run pins s σ H _ I h) fun xv s1 z1 => thn z1 fun itv s2 z2 => ?_
  obtain ⟨it, fp, tn, J, H2, rfl, I2, T, st2, f2, q⟩ := z2
  refine wpAny_newObj_type (newEnv_comp ?_) (by show 0 ≤ sizeLine; decide)
  have nD : H2 s2.heap.objs.size = none := I2.hok.fresh (Nat.le_refl _)
  obtain ⟨W, ⟨m0, w0⟩, turn⟩ := q s2.heap.objs.size nD
  have I3 : Inv X pins σ (upd H2 s2.heap.objs.size (.lst [])) { s2 with heap := s2.heap.push { cls := .type "list", data := .seq ([] : List Value).toArray } } := I2.lnew (t' := s2.toks) (its := []) (ys := []) .nil (Nat.zero_le _)
  have up : ∀ b o, s2.heap.get? b = some o → (s2.heap.push { cls := .type "list", data := .seq ([] : List Value).toArray }).get? b = some o := fun b o e => Heap.get?_push_of_some _ e
  have f3 : ∀ b ∈ fp, FpOk X pins (upd H2 s2.heap.objs.size (.lst [])) b ∧ b < (s2.heap.push { cls := .type "list", data := .seq ([] : List Value).toArray }).objs.size := fun b hb => by
    obtain ⟨o, e, _⟩ := T.obj _ _ st2 b hb
    have lt := Heap.lt_size e
    exact ⟨⟨by rw [upd_ne (Nat.ne_of_lt lt)]; exact (f2 b hb).1, (f2 b hb).2⟩, Heap.lt_size (up _ _ e)⟩
  have st3 : tn 0 (s2.heap.push { cls := .type "list", data := .seq ([] : List Value).toArray }) := T.keep _ _ _ st2 fun b _ o e => up b o e
  generalize upd H2 s2.heap.objs.size (.lst []) = G3 at I3 f3 w0
  generalize s2.heap.objs.size = D at nD turn ⊢
  generalize hz : ({ s2 with heap := s2.heap.push { cls := .type "list", data := .seq ([] : List Value).toArray } } : Shared) = z at I3 ⊢
  have hzh : s2.heap.push { cls := .type "list", data := .seq ([] : List Value).toArray } = z.heap := by rw [← hz]
  rw [hzh] at f3 st3
  have g3 : ∀ b ∈ fp, FpOk X pins G3 b := fun b hb => (f3 b hb).1
  have B0 := block_start I3 ok hN f3
  have pg := hg z G3 z.heap.objs.size (cellsFrom (z.heap.objs.size + 1) sc.names (cloFrom X.env.cells sc.names [])) fp
  have pe := he pins σ z G3 fp I3 g3
  show codeAny _ _ (.compStart (.ListComp elt [⟨tg, iter, [], 0⟩] sc pos) 0 (.ref it) (.ref D) (bEnv X sc z)) (compPost (model X.prog X.w) X.A X.xe none _ (.ref D) z.heap.objs.size) _
  generalize hy : ({ z with heap := pushCells (z.heap.push { cls := .type "dict", data := .dict #[] }) sc.names } : Shared) = y0 at B0 ⊢
  have st4 : tn 0 y0.heap := T.keep _ _ _ st3 fun b _ o e => by
    rw [← hy]
    exact pushCells_keeps _ _ _ _ (Heap.get?_push_of_some _ e)
  have okfp : ∀ {τ : L2.St} {G : Hp} {y : Shared}, Inv (X.blk z G3 sc (bEnv X sc z) fp) [] τ G y → (∀ b ∈ fp, G b = none) → ∀ b ∈ fp, FpOk (X.blk z G3 sc (bEnv X sc z) fp) [] G b := fun {τ G y} J n b hb =>
    ⟨n b hb, (J.ok.exf b hb).1, J.ok.exfs b hb, Or.inl hb, (J.ok.exf b hb).2, fun p hp => absurd (show p ∈ ([] : List (Addr × Obj)) ++ [] from hp) (by simp)⟩
  have loop : codeAny (model X.prog X.w) X.A (.compLoop (.ListComp elt [⟨tg, iter, [], 0⟩] sc pos) 0 (.ref it) (.ref D) (bEnv X sc z)) (compPost (model X.prog X.w) X.A X.xe none (EP X pins σ Q) (.ref D) z.heap.objs.size) y0 := by
    refine compLoop_any (fun n y => ∃ i G, Inv (X.blk z G3 sc (bEnv X sc z) fp) [] (wipe σ (own.map (·.2))) G y ∧ tn i y.heap ∧ (∀ b ∈ fp, G b = none) ∧ W i n G) ?_ m0 ⟨0, G3, B0, st4, fun b hb => (g3 b hb).1, w0⟩
    rintro n y5 ⟨i, G5, J5, t5, n5, w5⟩
    rcases turn i n G5 w5 with ⟨stop, qq⟩ | ⟨go, Nx, hNx, step⟩
    · refine thnF (T.done (X.blk z G3 sc (bEnv X sc z) fp) rfl rfl rfl hc i [] y5 _ G5 (fun _ _ => False) J5 (okfp J5 n5) t5 stop) fun r y6 w6 => ?_
      obtain ⟨rfl, J6⟩ := w6
      have I7 := maker I3 g3 J6
      obtain ⟨m, hm, _⟩ := J6.loc
      obtain ⟨a0, a1, _, a3, a4, a5⟩ := I3.fpOk (Nat.le_refl _) (show G5 z.heap.objs.size = none from J6.free)
      exact ⟨m, hm, fun h2 sb => ⟨.ref D, G5, I7.turned (t' := y6.toks) (fun b o hb e => (sb.2 b hb).trans e) a0 a1 a3 a4 a5, rfl, qq⟩⟩
    · refine thnF (T.item (X.blk z G3 sc (bEnv X sc z) fp) rfl rfl rfl hc i [] y5 _ G5 (fun _ _ => False) J5 (okfp J5 n5) t5 go) fun r y6 w6 => ?_
      obtain ⟨u, rfl, w6⟩ := w6
      refine thnF w6 fun _ y7 w7 => ?_
      obtain ⟨x, G7, J7, r7, yl, t7, n7⟩ := w7
      have P7 := J7.pinned (okfp J7 n7) (T.obj _ _ t7)
      refine thnF (pg.run _ y7 _ G7 x u _ P7 r7 (step x G7 yl)) fun _ y8 w8 => ?_
      obtain ⟨τ8, G8, J8, hw, q8⟩ := w8
      rw [List.forIn_nil]
      refine wpAny_pure ?_
      rw [if_pos rfl]
      have q9 : te σ τ8 G8 fun v G9 => ∃ acc, G9 D = some (.lst acc) ∧ acc.length < sizeLine ∧ Nx (upd G9 D (.lst (acc ++ [v]))) := by
        have q9 := q8
        dsimp only at q9
        rw [if_pos rfl] at q9
        exact q9
      refine thnF (pe.run _ y8 τ8 G8 _ J8 q9) fun v y9 w9 => ?_
      obtain ⟨yv, G9, J9, r9, acc, a1, a2, nx⟩ := w9
      refine app_ok (X := X.blk z G3 sc (bEnv X sc z) fp) J9 a1 a2 r9 fun y10 J10 => ?_
      obtain ⟨m1, lt, w1⟩ := hNx _ nx
      have kept : ∀ b ∈ fp, ∀ o, y7.heap.get? b = some o → y10.heap.get? b = some o ∧ (upd G9 D (.lst (acc ++ [yv]))) b = none := fun b hb o e => by
        have := J10.pin (b, o) (List.mem_append_right _ (List.mem_append_right _ (mem_pinsAt hb e)))
        exact ⟨this.1, this.2.1⟩
      refine ⟨m1, lt, i + 1, _, (J10.unpinned (pins := [])).weak (by rw [← hw, wipe_length]) (fun j v e => ?_), T.keep _ _ _ t7 (fun b hb o e => (kept b hb o e).1), fun b hb => ?_, w1⟩
      · rw [← hw] at e
        exact (wipe_some e).1
      · obtain ⟨o, e, _⟩ := T.obj _ _ t7 b hb
        exact (kept b hb o e).2
  exact codeAny_compStart_list loop (T.self X.A 0 _ _ _ st4 loop)
/-- told(e) in a block of the maker X, e a lambda of X; σ: the maker's slots -/
def tToldB (X : Cx) (k : Nat) (TT : (XK → Hp → VK → Prop) → Hp → VK → Prop) (ta : TA) (σ : L2.St) : TE := fun τ H Q => ta τ H fun vs H1 => ∃ (f : Addr) (pa : Arguments) (bd : Expr) (sc : Scope) (d : Option Int) (t : XK → TE), vs = [.ref f] ∧ LamK X k pa bd sc d t ∧ LamAt X H1 f pa bd sc d ∧ TT (fun E H2 Q2 => t E σ H2 Q2) H1 Q
theorem pe_toldB {k : Nat} {TT : (XK → Hp → VK → Prop) → Hp → VK → Prop} {x a : Str} {g : Addr} {pg : Arguments} {bg : List Stmt} {sg : Scope} {dV kV doc pm cdv ct oc : Value} {an od : Option Addr} {osl : Array (Option Value)} {Ng : List Str} {e : Expr} {ta : TA} {p pos : Pos}
    {pins : List (Addr × Obj)} {σ : L2.St} {z : Shared} {H : Hp} {fp : List Addr} {scb : Scope} (I : Inv X pins σ H z) (hfp : ∀ b ∈ fp, FpOk X pins H b)
    (hm : X.mg x = some (.ref g)) (hk : PySem.W.keepIn X.K (.ref g) = true) (lk : X.K.lookup g = some ⟨oc, od, .func (PySem.W.fnOf x x pg bg sg dV kV doc pm an cdv ct), osl⟩) (hcg : PySem.W.codeIn X.K cdv x = true)
    (hb : L2.Binds X.K (PySem.W.fnOf x x pg bg sg dV kV doc pm an cdv ct) [a] []) (Sg : FnScope Ng [a] sg) (i0 : Ng[0]? = some a) (hva : Vis sg a) (hG : GivesV X Ng x sg g cdv bg a TT) (hr : Room (k + 2) X.A) (hg : Gl (X.blk z H scb (bEnv X scb z) fp) x)
    (ha : PA (X.blk z H scb (bEnv X scb z) fp) [e] ta)
    (hdb : (x == ("__debug__" : Str)) = false := by decide) (hd : (a == ("__debug__" : Str)) = false := by decide) (hcd : (a == ("__classdict__" : Str)) = false := by decide)
    (hse : starEach [e] (bEnv X scb z) = (false, eval e (bEnv X scb z)) :: starEach [] (bEnv X scb z) := by rfl) (hpl : (backTo pos (starEach [] (bEnv X scb z))).any (·.1) = false := by rfl) :
    PE (X.blk z H scb (bEnv X scb z) fp) (.Call (.Name x p) [e] [] pos) (tToldB X k TT ta σ) := by
  refine ⟨fun pb s τ G Q J h => ?_⟩
  refine wpAny_Call_Name_kw (ld_glob J hg hm ?_ hdb)
  refine PySem.W.callWith_K (h₀ := X.base) J.ok.mod.kin hk (thn (ha.run pos pb _ τ G _ J h) fun us s1 w => ?_) hse hpl
  obtain ⟨vs, H1, J1, r1, f, pa, bd, sc, d, t, ev, LK, at_, q⟩ := w
  subst ev
  refine ⟨J1.kIn, ?_⟩
  cases r1 with
  | @cons _ u0 _ ur ra rb =>
    cases rb
    obtain rfl : u0 = Value.ref f := ra
    have I1 : Inv X pins σ H1 s1 := maker I hfp J1
    show wpAny _ _ (call (.ref g) [.ref f]) _ _ _
    have run : codeAny (model X.prog X.w) X.A (.call (.ref g) ⟨[.ref f], []⟩) (CR C8.CX0 X.stack X.prog X.w H1 s1 Q C8.E0) s1 := by
      refine run_ofS (N := Ng) (ps := [a]) (us := [.ref f]) (vs := [.ref f]) lk hcg Sg hr I1.env0 (hb s1 [.ref f] I1.kIn rfl) (.cons rfl .nil) rfl fun hr2 => ?_
      obtain ⟨t2, ht, hq⟩ := hG f (fun HZ => LamAt X HZ f pa bd sc d) s1 H1 Q (fun E H2 Q2 => t E σ H2 Q2) (fun W pn xe E p1 p2 tk hW => pe_actV (i := 0) I1 LK tk hW hr2 i0 hva hd hcd) at_ q
      exact ⟨t2, ht.nox, hq⟩
    refine wpAny_call (codeAny_mono run fun r s2 y => ?_)
    cases r with
    | error e => exact (show False from y).elim
    | ok fl =>
      cases fl with
      | ret u => exact J1.after y
      | next => exact False.elim y
      | brk => exact False.elim y
      | cont => exact False.elim y
end
/-! ### a place of a list or of a tuple; rules for blocks (the written part by a letter of its own) -/
def rIxS (K : PySem.W.Frag) : R2 := fun x i H Q => rIxL K x i H Q ∨ rIxT K x i H Q
section
variable {X : Cx} {K : PySem.W.Frag}
theorem ix_any (hK : X.K = K) : IxR X (rIxS K) := by
  subst hK
  intro value slice pins s σ H x i v u Q I rx ri h hp
  rcases h with h | h
  · exact ix_list value slice pins s σ H x i v u Q I rx ri h hp
  · exact ix_tup value slice pins s σ H x i v u Q I rx ri h hp
theorem call_lnK (hK : X.K = K) : CallR X (.builtin "len") (cLen K) := by
  subst hK
  exact call_ln
theorem call_tuK (hK : X.K = K) : CallR X (.type "tuple") (cTup K) := by
  subst hK
  exact call_tu
theorem pg_tupK {es : List Expr} {k : Nat} {t : TGs} {n : Nat} {pos : Pos} (hK : X.K = K) (hc : X.calm = true) (h : PGs X es t) (hn : (assignEach es X.env).length = n := by rfl) (hst : (assignEach es X.env).findIdx? (·.1) = none := by rfl) : PG X (.Tuple es k pos) (gTup K n t) := by
  subst hK
  exact pg_tup hc h hn hst
theorem r_ixSL {a : Addr} {xs : List V} {k : Int} {v : V} {H : Hp} {Q : VK} (h : SqL K H a xs) (e : atI xs k = some v) (q : Q v H) : rIxS K (.ref a) (.int k) H Q := .inl (r_ixL h e q)
theorem r_ixST {a : Addr} {xs : List V} {k : Int} {v : V} {H : Hp} {Q : VK} (h : SqT K H a xs) (e : atI xs k = some v) (q : Q v H) : rIxS K (.ref a) (.int k) H Q := .inr (r_ixT h e q)
end
/-! ### comprehensions read -/
/-- a comprehension at its start -/
def LcW (J : It) (g : TG) (tt : TT) (te : TE) (vs : List Nat) (Q : VK) (σ : L2.St) (H1 : Hp) : Prop := ∀ D, H1 D = none → ∃ W : Nat → Nat → Hp → Prop, (∃ m, W 0 m (upd H1 D (.lst []))) ∧ ∀ i m H, W i m H →
  (J.stop i H ∧ Q (.ref D) H) ∨ (J.go i H ∧ ∃ Nx : Hp → Prop, (∀ H2, Nx H2 → ∃ m2, m2 < m ∧ W (i + 1) m2 H2) ∧ ∀ x H2, J.yld i H x H2 → g x (wipe σ vs) H2 fun σ2 H3 => wipe σ2 vs = wipe σ vs ∧ tt σ2 H3 fun b H4 =>
    if b = true then te σ2 H4 fun y H5 => ∃ acc, H5 D = some (.lst acc) ∧ acc.length < sizeLine ∧ Nx (upd H5 D (.lst (acc ++ [y]))) else Nx H4)
section
variable {K : PySem.W.Frag} {wi : TI} {g : TG} {tt : TT} {te : TE} {vs : List Nat} {σ : L2.St} {H : Hp} {Q : VK} {lo : Int} {n : Nat} {a : Addr} {xs : List V}
theorem r_lc (q : wi σ H fun J H1 => LcW J g tt te vs Q σ H1) : tLc wi g tt te vs σ H Q := q
theorem c_rng (Pv : Addr → Nat → Hp → Prop) (h0 : ∀ D, H D = none → Pv D 0 (upd H D (.lst [])))
    (hs : ∀ D i H1, H D = none → i < n → Pv D i H1 → g (.int (lo + i)) (wipe σ vs) H1 fun σ2 H2 => wipe σ2 vs = wipe σ vs ∧ tt σ2 H2 fun b H3 => if b = true then te σ2 H3 fun y H4 => ∃ acc, H4 D = some (.lst acc) ∧ acc.length < sizeLine ∧ Pv D (i + 1) (upd H4 D (.lst (acc ++ [y]))) else Pv D (i + 1) H3)
    (hd : ∀ D H1, H D = none → Pv D n H1 → Q (.ref D) H1) : LcW (Itr lo n) g tt te vs Q σ H := fun D nD => lc_range (Pv D) (h0 D nD) (fun i H1 hi p => hs D i H1 nD hi p) (fun H1 p => hd D H1 nD p)
theorem c_list (Pv : Addr → Nat → Hp → Prop) (h0 : ∀ D, H D = none → Pv D 0 (upd H D (.lst []))) (hl : ∀ D i H1, H D = none → i ≤ xs.length → Pv D i H1 → SqL K H1 a xs)
    (hs : ∀ D i x H1, H D = none → xs[i]? = some x → Pv D i H1 → g x (wipe σ vs) H1 fun σ2 H2 => wipe σ2 vs = wipe σ vs ∧ tt σ2 H2 fun b H3 => if b = true then te σ2 H3 fun y H4 => ∃ acc, H4 D = some (.lst acc) ∧ acc.length < sizeLine ∧ Pv D (i + 1) (upd H4 D (.lst (acc ++ [y]))) else Pv D (i + 1) H3)
    (hd : ∀ D H1, H D = none → Pv D xs.length H1 → Q (.ref D) H1) : LcW (Itl K a) g tt te vs Q σ H := fun D nD => lc_list (Pv D) (h0 D nD) (fun i H1 hi p => hl D i H1 nD hi p) (fun i x H1 hi p => hs D i x H1 nD hi p) (fun H1 p => hd D H1 nD p)
theorem c_tup (Pv : Addr → Nat → Hp → Prop) (h0 : ∀ D, H D = none → Pv D 0 (upd H D (.lst []))) (hl : ∀ D i H1, H D = none → i ≤ xs.length → Pv D i H1 → SqT K H1 a xs)
    (hs : ∀ D i x H1, H D = none → xs[i]? = some x → Pv D i H1 → g x (wipe σ vs) H1 fun σ2 H2 => wipe σ2 vs = wipe σ vs ∧ tt σ2 H2 fun b H3 => if b = true then te σ2 H3 fun y H4 => ∃ acc, H4 D = some (.lst acc) ∧ acc.length < sizeLine ∧ Pv D (i + 1) (upd H4 D (.lst (acc ++ [y]))) else Pv D (i + 1) H3)
    (hd : ∀ D H1, H D = none → Pv D xs.length H1 → Q (.ref D) H1) : LcW (Itt K a) g tt te vs Q σ H := fun D nD => lc_tup (Pv D) (h0 D nD) (fun i H1 hi p => hl D i H1 nD hi p) (fun i x H1 hi p => hs D i x H1 nD hi p) (fun H1 p => hd D H1 nD p)
end
/-! ### the law's comparison of data -/
/-- two values that denote the same data, of depth n at most -/
def Alike (H : Hp) : Nat → V → V → Prop
  | 0, v, u => v = u ∧ flatV v = true
  | n + 1, v, u => (v = u ∧ flatV v = true) ∨ ∃ (a b : Addr) (xs ys : List V), v = .ref a ∧ u = .ref b ∧ ((H a = some (.tup xs) ∧ H b = some (.tup ys)) ∨ (H a = some (.lst xs) ∧ H b = some (.lst ys))) ∧ xs.length = ys.length ∧ xs.length ≤ 1000 ∧ ∀ (i : Nat) (x y : V), xs[i]? = some x → ys[i]? = some y → Alike H n x y
theorem Alike.mono {H H' : Hp} (e : Same H H') : ∀ {n : Nat} {v u : V}, Alike H n v u → Alike H' n v u
  | 0, _, _, h => h
  | n + 1, _, _, .inl h => .inl h
  | n + 1, _, _, .inr ⟨a, b, xs, ys, h1, h2, h3, h4, h5, h6⟩ => .inr ⟨a, b, xs, ys, h1, h2, h3.elim (fun z => .inl ⟨e _ _ z.1, e _ _ z.2⟩) (fun z => .inr ⟨e _ _ z.1, e _ _ z.2⟩), h4, h5, fun i x y q1 q2 => Alike.mono e (h6 i x y q1 q2)⟩
theorem sh_nil : SeqAt.shaped (.list []) = true := by decide +kernel
theorem eqv_nil : PyData.eqv (.list []) (.list []) = true := by decide +kernel
theorem r_eqNil {K : PySem.W.Frag} {H : Hp} {p q : Addr} {Q : VK} (h1 : H p = some (.lst [])) (h2 : H q = some (.lst [])) (k : Q (.bl true) H) : rEqD K (.ref p) (.ref q) H Q := ⟨_, _, .lst (SqL.of h1) .nil, .lst (SqL.of h2) .nil, sh_nil, sh_nil, by rw [eqv_nil]; exact k⟩
def q_like (_ : PySem.W.Frag) (n : Nat) : F2 := fun v u H Q _ => Alike H n v u ∧ ∀ H', Same H H' → Q (.bl true) H'
theorem r_yes {σ : L2.St} {H : Hp} {QT : Bool → Hp → Prop} (q : QT true H) : tYes σ H QT := q
/-! ### draws read; rows of a way -/
section
variable {K : PySem.W.Frag} {H : Hp} {Q : VK} {E : XK} {n : Int} {d l : Addr} {xs : List V}
theorem r_nxt (h0 : 0 < n) (h1 : n < 2 ^ 100) (hD : Dice K H d) (q : ∀ r H1, 0 ≤ r → r < n → Nx K d H H1 → Q (.int r) H1) : q_next K (.ref d) (.int n) H Q E := ⟨d, n, rfl, rfl, h0, h1, hD, q⟩
theorem r_pick (hl : H l = some (.lst xs)) (ne : l ≠ d) (x0 : 0 < xs.length) (x1 : xs.length ≤ 1000) (hD : Dice K H d) (q : ∀ v H1, v ∈ xs → Nx K d H H1 → Q v H1) : q_pick K (.ref d) (.ref l) H Q E := ⟨d, l, xs, rfl, rfl, hl, ne, x0, x1, hD, q⟩
end
/-- rows: pairs of ints, each a tuple of its own -/
def RowsAt (H : Hp) (as : List Addr) (rs : List (Int × Int)) : Prop := as.length = rs.length ∧ ∀ (i : Nat) (a : Addr) (r : Int × Int), as[i]? = some a → rs[i]? = some r → H a = some (.tup [.int r.1, .int r.2])
theorem RowsAt.keep {H H1 : Hp} {as : List Addr} {rs : List (Int × Int)} (x : RowsAt H as rs) (k : ∀ a ∈ as, ∀ ys, H a = some (.tup ys) → H1 a = some (.tup ys)) : RowsAt H1 as rs := ⟨x.1, fun i a r ha hr => k a (List.mem_of_getElem? ha) _ (x.2 i a r ha hr)⟩
theorem RowsAt.snoc {H : Hp} {as : List Addr} {rs : List (Int × Int)} {p : Addr} {o s : Int} (x : RowsAt H as rs) (hp : H p = some (.tup [.int o, .int s])) : RowsAt H (as ++ [p]) (rs ++ [(o, s)]) := by
  refine ⟨by rw [List.length_append, List.length_append, x.1]; rfl, fun i a r ha hr => ?_⟩
  by_cases hi : i < as.length
  · rw [List.getElem?_append_left hi] at ha
    rw [List.getElem?_append_left (by rw [← x.1]; exact hi)] at hr
    exact x.2 i a r ha hr
  · rw [List.getElem?_append_right (by omega)] at ha
    rw [List.getElem?_append_right (by rw [← x.1]; omega), ← x.1] at hr
    have h0 : i - as.length = 0 := by
      cases hk : i - as.length with
      | zero => rfl
      | succ m =>
        rw [hk] at ha
        simp at ha
    rw [h0] at ha hr
    cases ha
    cases hr
    exact hp
theorem sum_le {b : Int} : ∀ {l : List Int}, (∀ x ∈ l, x ≤ b) → l.sum ≤ b * l.length
  | [], _ => by simp
  | x :: l, h => by
    have h1 := h x (List.mem_cons_self ..)
    have h2 := sum_le (l := l) fun y hy => h y (List.mem_cons_of_mem _ hy)
    rw [List.sum_cons, List.length_cons]
    have h3 : b * ((l.length + 1 : Nat) : Int) = b * (l.length : Int) + b := by
      rw [Int.natCast_add, Int.mul_add]
      simp
    omega
def q_rows (K : PySem.W.Frag) : F1 := fun a H Q _ => ∃ d : Addr, a = .ref d ∧ Dice K H d ∧ ∀ (p r : Addr) (as : List Addr) (rs : List (Int × Int)) (cap : Int) (H' : Hp), 2 ≤ cap → cap ≤ 10 → 1 ≤ rs.length → rs.length ≤ 5 → (∀ x ∈ rs, 0 ≤ x.1 ∧ x.1 ≤ 100 ∧ 1 ≤ x.2 ∧ x.2 ≤ 5) → Nx K d H H' → RowsAt H' as rs → H' r = some (.tup (as.map V.ref)) → H' p = some (.tup [.int cap, .ref r]) → Q (.ref p) H'
end Oil
/-! Stretches: three numbers, put together and repeated. Plain Lean. -/
namespace Oil
structure Str3 where
  need : Option Int
  gain : Int
  top : Int
  deriving DecidableEq
namespace Str3
def barred : Str3 := ⟨none, 0, 0⟩
/-- what every stretch of the program keeps -/
def Ok (s : Str3) : Prop := match s.need with
  | none => s.gain = 0 ∧ s.top = 0
  | some n => 0 ≤ n ∧ 0 ≤ n + s.gain ∧ 0 ≤ s.top
theorem ok_barred : barred.Ok := ⟨rfl, rfl⟩
/-- one after the other -/
def add (a b : Str3) : Str3 := match a.need, b.need with
  | some n, some m => if a.top < m then barred else ⟨some (max n (m - a.gain)), a.gain + b.gain, min (a.top + b.gain) b.top⟩
  | _, _ => barred
theorem add_none {a b : Str3} (h : a.need = none ∨ b.need = none) : a.add b = barred := by
  unfold add
  rcases h with h | h
  · rw [h]
  · rw [h]
    cases a.need <;> rfl
theorem add_some {n g t m g' t' : Int} : (Str3.mk (some n) g t).add ⟨some m, g', t'⟩ = if t < m then barred else ⟨some (max n (m - g)), g + g', min (t + g') t'⟩ := rfl
theorem ok_add {a b : Str3} (ha : a.Ok) (hb : b.Ok) : (a.add b).Ok := by
  obtain ⟨na, ga, ta⟩ := a
  obtain ⟨nb, gb, tb⟩ := b
  cases na with
  | none => rw [add_none (.inl rfl)]; exact ok_barred
  | some n =>
    cases nb with
    | none => rw [add_none (.inr rfl)]; exact ok_barred
    | some m =>
      rw [add_some]
      obtain ⟨h1, h2, h3⟩ := (show 0 ≤ n ∧ 0 ≤ n + ga ∧ 0 ≤ ta from ha)
      obtain ⟨k1, k2, k3⟩ := (show 0 ≤ m ∧ 0 ≤ m + gb ∧ 0 ≤ tb from hb)
      split
      · exact ok_barred
      · show 0 ≤ max n (m - ga) ∧ 0 ≤ max n (m - ga) + (ga + gb) ∧ 0 ≤ min (ta + gb) tb
        omega
theorem barred_add (a : Str3) : barred.add a = barred := add_none (.inl rfl)
theorem add_barred (a : Str3) : a.add barred = barred := add_none (.inr rfl)
theorem add_assoc (a b c : Str3) : (a.add b).add c = a.add (b.add c) := by
  obtain ⟨na, ga, ta⟩ := a
  obtain ⟨nb, gb, tb⟩ := b
  obtain ⟨nc, gc, tc⟩ := c
  cases na with
  | none => rw [add_none (a := ⟨none, ga, ta⟩) (.inl rfl), barred_add, add_none (.inl rfl)]
  | some n =>
    cases nb with
    | none => rw [add_none (b := ⟨none, gb, tb⟩) (.inr rfl), barred_add, add_none (a := ⟨none, gb, tb⟩) (.inl rfl), add_barred]
    | some m =>
      cases nc with
      | none => rw [add_none (b := ⟨none, gc, tc⟩) (.inr rfl), add_none (b := ⟨none, gc, tc⟩) (.inr rfl), add_barred]
      | some k =>
        rw [add_some, add_some]
        by_cases h1 : ta < m
        · rw [if_pos h1, barred_add]
          by_cases h2 : tb < k
          · rw [if_pos h2, add_barred]
          · rw [if_neg h2, add_some, if_pos (by omega)]
        · rw [if_neg h1, add_some]
          by_cases h2 : tb < k
          · rw [if_pos h2, add_barred, if_pos (by omega)]
          · rw [if_neg h2, add_some]
            by_cases h3 : ta + gb < k
            · rw [if_pos (by omega), if_pos (by omega)]
            · rw [if_neg (by omega), if_neg (by omega)]
              have e1 : max (max n (m - ga)) (k - (ga + gb)) = max n (max m (k - gb) - ga) := by omega
              have e2 : min (min (ta + gb) tb + gc) tc = min (ta + (gb + gc)) (min (tb + gc) tc) := by omega
              rw [e1, e2, Int.add_assoc]
/-- n + 1 times -/
def rep (s : Str3) : Nat → Str3
  | 0 => s
  | n + 1 => (rep s n).add s
/-- so many times, from 1 on -/
def mul (s : Str3) (n : Int) : Str3 := rep s (n.toNat - 1)
theorem mul_one (s : Str3) : s.mul 1 = s := rfl
theorem rep_add (s : Str3) (m : Nat) : ∀ n : Nat, (rep s m).add (rep s n) = rep s (m + n + 1)
  | 0 => rfl
  | n + 1 => by
    show (rep s m).add ((rep s n).add s) = (rep s (m + n + 1)).add s
    rw [← add_assoc, rep_add s m n]
theorem mul_add {s : Str3} {m n : Int} (hm : 1 ≤ m) (hn : 1 ≤ n) : (s.mul m).add (s.mul n) = s.mul (m + n) := by
  unfold mul
  rw [rep_add]
  congr 1
  omega
theorem mul_succ {s : Str3} {n : Int} (hn : 1 ≤ n) : s.mul (n + 1) = (s.mul n).add s := by rw [← mul_add hn (by omega), mul_one]
theorem rep_rep (s : Str3) (m : Nat) : ∀ n : Nat, rep (rep s m) n = rep s ((m + 1) * (n + 1) - 1)
  | 0 => by
    show rep s m = _
    congr 1
    omega
  | n + 1 => by
    show (rep (rep s m) n).add (rep s m) = _
    rw [rep_rep s m n, rep_add]
    congr 1
    have h : (m + 1) * (n + 1 + 1) = (m + 1) * (n + 1) + (m + 1) := by rw [Nat.mul_succ]
    have h2 : 1 ≤ (m + 1) * (n + 1) := Nat.mul_pos (by omega) (by omega)
    omega
theorem mul_mul {s : Str3} {m n : Int} (hm : 1 ≤ m) (hn : 1 ≤ n) : (s.mul m).mul n = s.mul (m * n) := by
  unfold mul
  rw [rep_rep]
  congr 1
  obtain ⟨a, rfl⟩ := Int.eq_ofNat_of_zero_le (show 0 ≤ m by omega)
  obtain ⟨b, rfl⟩ := Int.eq_ofNat_of_zero_le (show 0 ≤ n by omega)
  have e : ((a : Int) * (b : Int)).toNat = a * b := by rw [← Int.natCast_mul]; rfl
  rw [e]
  show (a - 1 + 1) * (b - 1 + 1) - 1 = a * b - 1
  rw [Nat.sub_add_cancel (by omega), Nat.sub_add_cancel (by omega)]
theorem ok_rep {s : Str3} (h : s.Ok) : ∀ n, (rep s n).Ok
  | 0 => h
  | n + 1 => ok_add (ok_rep h n) h
theorem ok_mul {s : Str3} (h : s.Ok) (n : Int) : (s.mul n).Ok := ok_rep h _
/-- half, twice, and one more if odd -/
theorem mul_half {s : Str3} {n : Int} (h : 2 ≤ n) : s.mul n = if n % 2 = 1 then ((s.mul (n / 2)).add (s.mul (n / 2))).add s else (s.mul (n / 2)).add (s.mul (n / 2)) := by
  split
  · rw [mul_add (by omega) (by omega), ← mul_succ (by omega)]
    congr 1
    omega
  · rw [mul_add (by omega) (by omega)]
    congr 1
    omega
/-- a barred one stays so -/
theorem rep_barred : ∀ n, rep barred n = barred
  | 0 => rfl
  | n + 1 => by
    show (rep barred n).add barred = barred
    rw [rep_barred n, barred_add]
theorem mul_barred (n : Int) : barred.mul n = barred := rep_barred _
/-- what is left of the numbers -/
theorem rep_shape {n g t : Int} : ∀ k : Nat, rep ⟨some n, g, t⟩ k = barred ∨ ∃ n' t', rep ⟨some n, g, t⟩ k = ⟨some n', g * (k + 1), t'⟩
  | 0 => .inr ⟨n, t, by show (⟨some n, g, t⟩ : Str3) = _; congr 1; omega⟩
  | k + 1 => by
    rcases rep_shape (n := n) (g := g) (t := t) k with e | ⟨n', t', e⟩
    · refine .inl ?_
      show (rep _ k).add _ = _
      rw [e, barred_add]
    · show (rep _ k).add _ = _ ∨ ∃ n'' t'', (rep _ k).add _ = _
      rw [e, add_some]
      by_cases h : t' < n
      · rw [if_pos h]
        exact .inl rfl
      · rw [if_neg h]
        refine .inr ⟨max n' (n - g * (↑k + 1)), min (t' + g) t, ?_⟩
        have q : ((k + 1 : Nat) : Int) + 1 = (k : Int) + 1 + 1 := by omega
        rw [q, Int.mul_add g ((k : Int) + 1) 1, Int.mul_one]
/-- with a gain from 0 on and a top from the need on it never becomes barred -/
theorem rep_free {n g t : Int} (hg : 0 ≤ g) (ht : n ≤ t) : ∀ k : Nat, ∃ g', 0 ≤ g' ∧ rep ⟨some n, g, t⟩ k = ⟨some n, g', t⟩
  | 0 => ⟨g, hg, rfl⟩
  | k + 1 => by
    obtain ⟨g', h', e⟩ := rep_free hg ht k
    refine ⟨g' + g, by omega, ?_⟩
    show (rep _ k).add _ = _
    rw [e, add_some, if_neg (by omega)]
    have e1 : max n (n - g') = n := by omega
    have e2 : min (t + g) t = t := by omega
    rw [e1, e2]
end Str3
end Oil
/-! Plain data, and what must hold so that a piece of a program ends well: by data alone, no heap. -/
namespace Oil
open PySem PySem.Spec PyProof.Rows L2
/-- what a value denotes -/
inductive D where
  | non | bl (b : Bool) | int (i : Int) | str (s : Str) | tup (xs : List D) | lst (xs : List D)
  | ins (c : Nat) (ns : List Str) (xs : List D) | dice | cls (c : Nat) | ty (n : String)
  /-- a cell of the store, at its address -/
  | loc (a : Addr)
/-- an error: its class, its fields -/
structure Er where
  c : Nat
  ns : List Str
  fs : List D
/-- what a cell of the store holds -/
inductive Ob where
  | lst (xs : List D) | ins (c : Nat) (ns : List Str) (fs : List D) | lam (k : Nat) | dct (kv : List (D × D))
abbrev Sto := List (Addr × Ob)
/-- a slot: not known, a value, a list of the frame's own, an instance that is being made -/
inductive Sl where
  | un | val (d : D) | own (xs : List D) | obj (c : Nat) (ns : List Str) (fs : List D)
  /-- the error that a suite holds -/
  | err (er : Er)
  /-- the store, in a slot that no name has -/
  | sto (cs : Sto)
  /-- a list of lambdas of the frame's own, each by its number -/
  | lams (ks : List Nat)
abbrev Ev := List Sl
structure KN where
  nx : Ev → Prop
  rt : D → Ev → Prop
  bk : Ev → Prop
  ct : Ev → Prop
  er : Er → Ev → Prop
abbrev QD := D → Prop
abbrev QR := Er → Prop
abbrev WE := Ev → QD → QR → Prop
abbrev WT := Ev → (Bool → Prop) → QR → Prop
abbrev WA := Ev → (List D → Prop) → QR → Prop
abbrev WS := Ev → KN → Prop
abbrev WG := Ev → D → Ev → Prop
abbrev PSpec := List D → QD → QR → Prop
def LIM : Nat := 1000000
/-! ### data -/
mutual
def D.pd : D → Option PyData
  | .non => some .none
  | .bl b => some (.bool b)
  | .int i => some (.int i)
  | .str s => some (.str s)
  | .tup xs => (D.pds xs).map .tuple
  | .lst xs => (D.pds xs).map .list
  | _ => none
def D.pds : List D → Option (List PyData)
  | [] => some []
  | x :: xs => match D.pd x, D.pds xs with
    | some a, some b => some (a :: b)
    | _, _ => none
end
def D.kind : D → Option String
  | .non => some "NoneType"
  | .bl _ => some "bool"
  | .int _ => some "int"
  | .str _ => some "str"
  | .tup _ => some "tuple"
  | .lst _ => some "list"
  | _ => none
/-- the place of a list -/
def ixD (n : Nat) (i : Int) : Option Nat := ixN n i
def cutD (xs : List D) (lo hi : Option Int) : List D := (xs.drop (HT.sIx xs.length 0 lo)).take (HT.sIx xs.length xs.length hi - HT.sIx xs.length 0 lo)
def D.items : D → Option (List D)
  | .tup xs => some xs
  | .lst xs => some xs
  | _ => none
def D.flat : D → Bool
  | .non => true
  | .bl _ => true
  | .int _ => true
  | .str _ => true
  | _ => false
/-! ### operators by data -/
abbrev O2 := D → D → QD → Prop
def oAdd : O2
  | .int i, .int j, Q => Q (.int (i + j))
  | .lst a, .lst b, Q => a.length + b.length ≤ LIM ∧ Q (.lst (a ++ b))
  | .tup a, .tup b, Q => a.length + b.length ≤ LIM ∧ Q (.tup (a ++ b))
  | _, _, _ => False
/-- lists alone: the new list -/
def oCatL : O2
  | .lst a, .lst b, Q => a.length + b.length ≤ LIM ∧ Q (.lst (a ++ b))
  | _, _, _ => False
def oSub : O2
  | .int i, .int j, Q => Q (.int (i - j))
  | _, _, _ => False
def Big (i : Int) : Prop := i.natAbs < 2 ^ 300
def oMul : O2
  | .int i, .int j, Q => (Big i ∧ Big j) ∧ Q (.int (i * j))
  | .lst a, .int k, Q => (0 ≤ k ∧ k ≤ 1000 ∧ a.length ≤ 1000) ∧ Q (.lst (List.replicate k.toNat a).flatten)
  | .tup a, .int k, Q => (2 ≤ k ∧ k ≤ 1000 ∧ a.length ≤ 1000 ∧ a ≠ []) ∧ Q (.tup (List.replicate k.toNat a).flatten)
  | _, _, _ => False
def oMod : O2
  | .int i, .int j, Q => j ≠ 0 ∧ Q (.int (i.fmod j))
  | _, _, _ => False
def oDiv : O2
  | .int i, .int j, Q => (0 < j ∧ Big j) ∧ Q (.int (i / j))
  | _, _, _ => False
def oPow : O2
  | .int i, .int j, Q => (0 ≤ j ∧ j ≤ 100 ∧ i.natAbs ≤ 1000) ∧ Q (.int (i ^ j.toNat))
  | _, _, _ => False
def oOdd : O2
  | .int i, .int j, Q => (0 ≤ i ∧ j = 1) ∧ Q (.int (i % 2))
  | _, _, _ => False
def oLt : O2
  | .int i, .int j, Q => Q (.bl (decide (i < j)))
  | _, _, _ => False
def oLe : O2
  | .int i, .int j, Q => Q (.bl (decide (i ≤ j)))
  | _, _, _ => False
def oGt : O2
  | .int i, .int j, Q => Q (.bl (decide (j < i)))
  | _, _, _ => False
def oGe : O2
  | .int i, .int j, Q => Q (.bl (decide (j ≤ i)))
  | _, _, _ => False
def D.isNon : D → Bool
  | .non => true
  | _ => false
def oIs : O2 := fun x y Q => y = .non ∧ Q (.bl x.isNon)
def oIsNot : O2 := fun x y Q => y = .non ∧ Q (.bl !x.isNon)
def oEq : O2 := fun x y Q => ∃ a b, x.pd = some a ∧ y.pd = some b ∧ SeqAt.shaped a = true ∧ SeqAt.shaped b = true ∧ Q (.bl (PyData.eqv a b))
def oNe : O2 := fun x y Q => ∃ a b, x.pd = some a ∧ y.pd = some b ∧ SeqAt.shaped a = true ∧ SeqAt.shaped b = true ∧ Q (.bl !PyData.eqv a b)
def oIx : O2
  | .lst xs, .int i, Q => ∃ j x, ixD xs.length i = some j ∧ xs[j]? = some x ∧ Q x
  | .tup xs, .int i, Q => ∃ j x, ixD xs.length i = some j ∧ xs[j]? = some x ∧ Q x
  | _, _, _ => False
/-- a flat value in flat values, as == tells -/
def D.sc : D → D → Bool
  | .non, .non => true
  | .bl a, .bl b => a == b
  | .bl a, .int j => (if a then 1 else 0) == j
  | .int i, .bl b => i == (if b then 1 else 0)
  | .int i, .int j => i == j
  | .str x, .str y => x == y
  | _, _ => false
def oIn : O2 := fun x y Q => ∃ ys, y.items = some ys ∧ x.flat = true ∧ ys.all D.flat = true ∧ Q (.bl (ys.any fun z => D.sc z x))
def oNotIn : O2 := fun x y Q => ∃ ys, y.items = some ys ∧ x.flat = true ∧ ys.all D.flat = true ∧ Q (.bl !(ys.any fun z => D.sc z x))
/-! ### expressions -/
def wName (i : Nat) : WE := fun env Q _ => match env[i]? with
  | some (.val d) => Q d
  | _ => False
/-- a name whose list may be the frame's own -/
def wOwn (i : Nat) : WE := fun env Q _ => match env[i]? with
  | some (.val d) => Q d
  | some (.own xs) => Q (.lst xs)
  | _ => False
def wC (d : D) : WE := fun _ Q _ => Q d
def wOp (g : O2) (a b : WE) : WE := fun env Q E => a env (fun x => b env (fun y => g x y Q) E) E
def wNeg (a : WE) : WE := fun env Q E => a env (fun x => match x with
  | .int i => Q (.int (-i))
  | _ => False) E
def wChain (g h : O2) (a b c : WE) : WE := fun env Q E => a env (fun x => b env (fun y => g x y (fun z => match z with
  | .bl true => c env (fun u => h y u Q) E
  | .bl false => Q (.bl false)
  | _ => False)) E) E
def wAnd (a b : WE) : WE := fun env Q E => a env (fun x => match x with
  | .bl true => b env Q E
  | .bl false => Q (.bl false)
  | _ => False) E
def wOr (a b : WE) : WE := fun env Q E => a env (fun x => match x with
  | .bl true => Q (.bl true)
  | .bl false => b env Q E
  | _ => False) E
def wNot (a : WE) : WE := fun env Q E => a env (fun x => match x with
  | .bl b => Q (.bl !b)
  | _ => False) E
def wIf (t : WT) (a b : WE) : WE := fun env Q E => t env (fun c => if c = true then a env Q E else b env Q E) E
def wNil : WA := fun _ Q _ => Q []
def wCons (a : WE) (r : WA) : WA := fun env Q E => a env (fun x => r env (fun xs => Q (x :: xs)) E) E
def wStar (a : WE) (r : WA) : WA := fun env Q E => a env (fun x => match x.items with
  | some ys => r env (fun xs => Q (ys ++ xs)) E
  | none => False) E
def wTup (t : WA) : WE := fun env Q E => t env (fun xs => xs.length ≤ LIM ∧ Q (.tup xs)) E
def wLst (t : WA) : WE := fun env Q E => t env (fun xs => xs.length ≤ LIM ∧ Q (.lst xs)) E
/-- a part of a slice -/
abbrev WO := Ev → (Option Int → Prop) → QR → Prop
def wNoPart : WO := fun _ Q _ => Q none
def wPart (a : WE) : WO := fun env Q E => a env (fun x => match x with
  | .int i => Q (some i)
  | _ => False) E
def wSlice (a : WE) (lo hi : WO) : WE := fun env Q E => a env (fun x => lo env (fun l => hi env (fun h => match x with
  | .lst xs => Q (.lst (cutD xs l h))
  | .tup xs => Q (.tup (cutD xs l h))
  | _ => False) E) E) E
/-- xs[::-1] -/
def wBack (a : WE) : WE := fun env Q E => a env (fun x => match x with
  | .lst xs => Q (.lst xs.reverse)
  | .tup xs => Q (.tup xs.reverse)
  | _ => False) E
def wFld (c : Nat) (f : Str) (a : WE) : WE := fun env Q E => a env (fun x => match x with
  | .ins c' ns xs => c' = c ∧ ∃ d, (ns.zip xs).lookup f = some d ∧ Q d
  | _ => False) E
def wCall (s : PSpec) (t : WA) : WE := fun env Q E => t env (fun ds => s ds Q E) E
/-- a method: the instance of the class c first -/
def wMeth (c : Nat) (m : Str) (s : PSpec) (a : WE) (t : WA) : WE := fun env Q E => a env (fun x => match x with
  | .ins c' ns xs => c' = c ∧ m ∉ ns ∧ t env (fun ds => s (.ins c' ns xs :: ds) Q E) E
  | _ => False) E
/-- the instance itself called -/
def wClo (c : Nat) (s : PSpec) (a : WE) (t : WA) : WE := fun env Q E => a env (fun x => match x with
  | .ins c' ns xs => c' = c ∧ t env (fun ds => s (.ins c' ns xs :: ds) Q E) E
  | _ => False) E
def wProp (c : Nat) (s : PSpec) (a : WE) : WE := fun env Q E => a env (fun x => match x with
  | .ins c' ns xs => c' = c ∧ s [.ins c' ns xs] Q (fun _ => False)
  | _ => False) E
/-- ~o, o of the class c -/
def wInv (c : Nat) (s : PSpec) (a : WE) : WE := fun env Q E => a env (fun x => match x with
  | .ins c' ns xs => c' = c ∧ s [.ins c' ns xs] Q E
  | _ => False) E
/-- o[i], o of the class c -/
def wGet (c : Nat) (s : PSpec) (a b : WE) : WE := fun env Q E => a env (fun x => b env (fun y => match x with
  | .ins c' ns xs => c' = c ∧ s [.ins c' ns xs, y] Q E
  | _ => False) E) E
/-- len(o), o of the class c -/
def wLenO (c : Nat) (s : PSpec) (a : WE) : WE := fun env Q E => a env (fun x => match x with
  | .ins c' ns xs => c' = c ∧ s [.ins c' ns xs] (fun d => match d with
    | .int n => (0 ≤ n ∧ n < 2 ^ 62) ∧ Q (.int n)
    | _ => False) E
  | _ => False) E
def wCMeth (c : Nat) (s : PSpec) (a : WE) (t : WA) : WE := fun env Q E => a env (fun x => match x with
  | .cls c' => c' = c ∧ t env (fun ds => s (x :: ds) Q E) E
  | _ => False) E
/-- the class in a slot, called -/
def wMakL (i c : Nat) (s : PSpec) (t : WA) : WE := fun env Q E => match env[i]? with
  | some (.val (.cls c')) => c' = c ∧ t env (fun ds => s ds Q E) E
  | _ => False
/-- an own operator -/
def wOpC (c : Nat) (s : PSpec) (a b : WE) : WE := fun env Q E => a env (fun x => b env (fun y => match x, y with
  | .ins c1 _ _, .ins c2 _ _ => (c1 = c ∧ c2 = c) ∧ s [x, y] Q E
  | _, _ => False) E) E
def wOpF (c : Nat) (s : PSpec) (a b : WE) : WE := fun env Q E => a env (fun x => b env (fun y => match x with
  | .ins c1 _ _ => c1 = c ∧ y.flat = true ∧ s [x, y] Q E
  | _ => False) E) E
def wEqO (c : Nat) (s : PSpec) (a b : WE) : WE := fun env Q E => a env (fun x => b env (fun y => match x with
  | .ins c1 _ _ => c1 = c ∧ (match y with
    | .ins c2 _ _ => c2 = c
    | y => y.kind.isSome = true) ∧ s [x, y] Q E
  | _ => False) E) E
/-! ### what is walked -/
abbrev WI := Ev → (List D → Prop) → QR → Prop
def wIter (a : WE) : WI := fun env Q E => a env (fun x => match x.items with
  | some xs => Q xs
  | none => False) E
def intD (lo : Int) (n : Nat) : List D := (List.range n).map fun (k : Nat) => D.int (lo + (k : Int))
def wRange1 (a : WE) : WI := fun env Q E => a env (fun x => match x with
  | .int n => (-(2 ^ 62) ≤ n ∧ n < 2 ^ 62) ∧ Q (intD 0 n.toNat)
  | _ => False) E
def wRange2 (a b : WE) : WI := fun env Q E => a env (fun x => b env (fun y => match x, y with
  | .int m, .int n => (-(2 ^ 62) ≤ m ∧ m < 2 ^ 62 ∧ -(2 ^ 62) ≤ n ∧ n < 2 ^ 62) ∧ Q (intD m (n - m).toNat)
  | _, _ => False) E) E
def wEnum (a : WE) : WI := fun env Q E => a env (fun x => match x.items with
  | some xs => Q (xs.zipIdx.map fun p => .tup [.int (p.2 : Nat), p.1])
  | none => False) E
def wEnumT (a : WE) : WI := fun env Q E => a env (fun x => match x with
  | .tup xs => Q (xs.zipIdx.map fun p => .tup [.int (p.2 : Nat), p.1])
  | _ => False) E
def wZip (a b : WE) : WI := fun env Q E => a env (fun x => b env (fun y => match x, y with
  | .lst xs, .lst ys => Q ((xs.zip ys).map fun p => .tup [p.1, p.2])
  | .tup xs, .tup ys => Q ((xs.zip ys).map fun p => .tup [p.1, p.2])
  | _, _ => False) E) E
/-! ### targets -/
def setMany : Ev → List Nat → List D → Ev
  | env, i :: is, d :: ds => setMany (env.set i (.val d)) is ds
  | env, _, _ => env
inductive Tgt where
  | nm (i : Nat)
  | tp (is : List Nat)
def Tgt.put : Tgt → Ev → D → (Ev → Prop) → Prop
  | .nm i, env, d, K => K (env.set i (.val d))
  | .tp is, env, .tup ds, K => ds.length = is.length ∧ K (setMany env is ds)
  | _, _, _, _ => False
def wipeE (env : Ev) : List Nat → Ev
  | [] => env
  | i :: is => (wipeE env is).set i .un
/-! ### comprehensions -/
def wLcGo (g : Tgt) (t : WT) (e : WE) (env : Ev) : List D → List D → (List D → Prop) → Prop
  | [], acc, Q => Q acc
  | x :: xs, acc, Q => g.put env x fun env1 => t env1 (fun b => if b = true then e env1 (fun d => wLcGo g t e env xs (acc ++ [d]) Q) (fun _ => False) else wLcGo g t e env xs acc Q) (fun _ => False)
def wYes : WT := fun _ Q _ => Q true
def wLc (w : WI) (g : Tgt) (t : WT) (e : WE) (vs : List Nat) : WE := fun env Q E => w env (fun xs => xs.length ≤ LIM ∧ wLcGo g t e (wipeE env vs) xs [] fun ds => Q (.lst ds)) E
/-! ### tests -/
def D.tru : D → Option Bool
  | .non => some false
  | .bl b => some b
  | .int i => some (i != 0)
  | .tup xs => some !xs.isEmpty
  | .lst xs => some !xs.isEmpty
  | _ => none
def wtVal (a : WE) : WT := fun env Q E => a env (fun x => match x with
  | .bl b => Q b
  | _ => False) E
def wtTru (a : WE) : WT := fun env Q E => a env (fun x => match x.tru with
  | some b => Q b
  | none => False) E
def wtNot (t : WT) : WT := fun env Q E => t env (fun b => Q !b) E
def wtAnd (t u : WT) : WT := fun env Q E => t env (fun b => if b = true then u env Q E else Q false) E
def wtOr (t u : WT) : WT := fun env Q E => t env (fun b => if b = true then Q true else u env Q E) E
/-- truth by an own def -/
def wtTruO (c : Nat) (s : PSpec) (a : WE) : WT := fun env Q E => a env (fun x => match x with
  | .ins c' _ _ => c' = c ∧ s [x] (fun d => match d with
    | .bl b => Q b
    | _ => False) E
  | _ => False) E
/-! ### built-ins by data -/
abbrev CB := List D → QD → Prop
def wCB (r : CB) (t : WA) : WE := fun env Q E => t env (fun ds => r ds Q) E
def bLen : CB
  | [.lst xs], Q => Q (.int xs.length)
  | [.tup xs], Q => Q (.int xs.length)
  | _, _ => False
def bInt : CB
  | [.int i], Q => Q (.int i)
  | [.bl b], Q => Q (.int (if b then 1 else 0))
  | _, _ => False
def bTuple : CB
  | [.lst xs], Q => Q (.tup xs)
  | [.tup xs], Q => Q (.tup xs)
  | _, _ => False
def bList : CB
  | [.lst xs], Q => Q (.lst xs)
  | [.tup xs], Q => Q (.lst xs)
  | _, _ => False
def bMax2 : CB
  | [.int i, .int j], Q => Q (.int (max i j))
  | _, _ => False
def bMin2 : CB
  | [.int i, .int j], Q => Q (.int (min i j))
  | _, _ => False
def intsOf : List D → Option (List Int)
  | [] => some []
  | .int i :: r => (intsOf r).map (i :: ·)
  | _ => none
def bSum : CB
  | [.lst xs], Q => ∃ ns, intsOf xs = some ns ∧ Q (.int ns.sum)
  | _, _ => False
def bMax : CB
  | [.lst xs], Q => ∃ ns, intsOf xs = some ns ∧ 0 < ns.length ∧ ∀ m, m ∈ ns → (∀ y, y ∈ ns → y ≤ m) → Q (.int m)
  | _, _ => False
def bMin : CB
  | [.lst xs], Q => ∃ ns, intsOf xs = some ns ∧ 0 < ns.length ∧ ∀ m, m ∈ ns → (∀ y, y ∈ ns → m ≤ y) → Q (.int m)
  | _, _ => False
def bBool : CB
  | [x], Q => match x.tru with
    | some b => Q (.bl b)
    | none => False
  | _, _ => False
def bDivmod : CB
  | [.int i, .int j], Q => (0 < j ∧ j < 2 ^ 30) ∧ Q (.tup [.int (i / j), .int (i % j)])
  | _, _ => False
/-- isinstance(x, T), T a built-in type; (x, C), C an own class -/
def bIsi : CB
  | [x, y], Q => match y with
    | .ty c => ∃ T b, x.kind = some T ∧ kitB T c = some b ∧ Q (.bl b)
    | .cls c => (match x with
      | .ins c' _ _ => c' = c ∧ Q (.bl true)
      | x => x.kind.isSome = true ∧ Q (.bl false))
    | _ => False
  | _, _ => False
/-- .. where the own classes that are asked for are known -/
def bIsiC (cs : List Nat) : CB := fun ds Q => (∀ c, D.cls c ∈ ds → c ∈ cs) ∧ bIsi ds Q
def bSorted : CB
  | [.lst xs], Q => ∃ ns, intsOf xs = some ns ∧ ns.length < 64 ∧ ∀ ns' : List Int, ns'.Perm ns → ns'.Pairwise (· ≤ ·) → Q (.lst (ns'.map .int))
  | _, _ => False
/-! ### lambdas -/
/-- told(lambda: w): what a teller makes of an error -/
def wTold (tell : Er → QD → Prop) (w : WE) : WE := fun env Q _ => w env Q (fun er => tell er Q)
def toldGo (f : Nat → QD → Prop) : List Nat → List D → (List D → Prop) → Prop
  | [], acc, Q => Q acc
  | k :: ks, acc, Q => f k fun d => toldGo f ks (acc ++ [d]) Q
/-- [told(y) for y in x], x a list of lambdas -/
def wToldL (i : Nat) (tell : Er → QD → Prop) (ws : List WE) : WE := fun env Q _ => match env[i]? with
  | some (.lams ks) => ks.length ≤ 1000 ∧ toldGo (fun k Q => ∃ w, ws[k]? = some w ∧ w env Q (fun er => tell er Q)) ks [] fun ds => Q (.lst ds)
  | _ => False
/-! ### a caught error -/
/-- isinstance(e, C), e the error in slot i -/
def wErrIs (cs : List Nat) (i c : Nat) : WE := fun env Q _ => match env[i]? with
  | some (.err er) => er.c ∈ cs ∧ Q (.bl (er.c == c))
  | _ => False
def wErrVE (cs : List Nat) (i : Nat) : WE := fun env Q _ => match env[i]? with
  | some (.err er) => er.c ∈ cs ∧ Q (.bl true)
  | _ => False
/-- e.f -/
def wErrFld (i c : Nat) (f : Str) : WE := fun env Q _ => match env[i]? with
  | some (.err er) => er.c = c ∧ ∃ d, (er.ns.zip er.fs).lookup f = some d ∧ Q d
  | _ => False
/-- ints compared -/
def oQI : O2
  | .int i, .int j, Q => Q (.bl (decide (i = j)))
  | _, _, _ => False
def oNI : O2
  | .int i, .int j, Q => Q (.bl !decide (i = j))
  | _, _, _ => False
/-- raised(lambda: w) -/
def wToldR (tell : Er → QD → Prop) (w : WE) : WE := fun env Q _ => w env (fun _ => Q .non) (fun er => tell er Q)
/-- xs.index(y), xs.count(y), all flat -/
def bIdx (xs : List D) (y : D) (Q : QD) : Prop := y.flat = true ∧ xs.all D.flat = true ∧ ∃ j x, xs[j]? = some x ∧ D.sc x y = true ∧ (∀ (m : Nat) (x' : D), m < j → xs[m]? = some x' → D.sc x' y = false) ∧ Q (.int (j : Nat))
def bCnt (xs : List D) (y : D) (Q : QD) : Prop := y.flat = true ∧ xs.all D.flat = true ∧ Q (.int ((xs.countP fun x => D.sc x y : Nat) : Int))
def wLM (r : List D → D → QD → Prop) (a b : WE) : WE := fun env Q E => a env (fun x => match x with
  | .lst xs => b env (fun y => r xs y Q) E
  | _ => False) E
/-- what a handler makes of an error, m slots, the error's name in slot i -/
def tellOf (m i : Nat) (b : WS) : Er → QD → Prop := fun er Q => b ((List.replicate m Sl.un).set i (.err er)) ⟨fun _ => False, fun d _ => Q d, fun _ => False, fun _ => False, fun _ _ => False⟩
/-! ### statements -/
def wSkip : WS := fun env K => K.nx env
def wSeq (a b : WS) : WS := fun env K => a env ⟨fun env' => b env' K, K.rt, K.bk, K.ct, K.er⟩
def wSet (i : Nat) (e : WE) : WS := fun env K => e env (fun d => K.nx (env.set i (.val d))) (fun x => K.er x env)
/-- a new list, kept as the frame's own -/
def wSetO (i : Nat) (e : WE) : WS := fun env K => e env (fun d => match d with
  | .lst xs => K.nx (env.set i (.own xs))
  | _ => False) (fun x => K.er x env)
def wUnp (g : Tgt) (e : WE) : WS := fun env K => e env (fun d => g.put env d K.nx) (fun x => K.er x env)
/-- a, b = x, y: no tuple is made -/
def wPar (is : List Nat) (t : WA) : WS := fun env K => t env (fun ds => ds.length = is.length ∧ K.nx (setMany env is ds)) (fun x => K.er x env)
/-- a, b, .. = x, y, ..: values, and new lists to be kept -/
abbrev WP := Ev → Ev → (Ev → Prop) → QR → Prop
def wpNil : WP := fun _ envL K _ => K envL
def wpVal (i : Nat) (e : WE) (r : WP) : WP := fun env envL K E => e env (fun d => r env (envL.set i (.val d)) K E) E
def wpOwn (i : Nat) (e : WE) (r : WP) : WP := fun env envL K E => e env (fun d => match d with
  | .lst xs => r env (envL.set i (.own xs)) K E
  | _ => False) E
def wParN (r : WP) : WS := fun env K => r env env K.nx (fun x => K.er x env)
def wExpr (e : WE) : WS := fun env K => e env (fun _ => K.nx env) (fun x => K.er x env)
def wRet (e : WE) : WS := fun env K => e env (fun d => K.rt d env) (fun x => K.er x env)
def wRetN : WS := fun env K => K.rt .non env
def wIfS (t : WT) (a b : WS) : WS := fun env K => t env (fun c => if c = true then a env K else b env K) (fun x => K.er x env)
def wApp (i : Nat) (e : WE) : WS := fun env K => match env[i]? with
  | some (.own xs) => e env (fun d => xs.length < LIM ∧ K.nx (env.set i (.own (xs ++ [d])))) (fun x => K.er x env)
  | _ => False
/-- x[j] = e -/
def wPutI (i : Nat) (j e : WE) : WS := fun env K => match env[i]? with
  | some (.own xs) => e env (fun d => j env (fun k => match k with
    | .int z => ∃ n, ixD xs.length z = some n ∧ K.nx (env.set i (.own (xs.set n d)))
    | _ => False) (fun x => K.er x env)) (fun x => K.er x env)
  | _ => False
def wFrz (i : Nat) (s : WS) : WS := fun env K => match env[i]? with
  | some (.own xs) => s (env.set i (.val (.lst xs))) K
  | _ => s env K
def wForGo (g : Tgt) (b : WS) (K : KN) : List D → Ev → Prop
  | [], env => K.nx env
  | x :: xs, env => g.put env x fun env1 => b env1 ⟨fun e => wForGo g b K xs e, K.rt, K.nx, fun e => wForGo g b K xs e, K.er⟩
def wFor (w : WI) (g : Tgt) (b : WS) : WS := fun env K => w env (fun xs => wForGo g b K xs env) (fun x => K.er x env)
def wWhile (t : WT) (b : WS) : WS := fun env K => ∃ I : Nat → Ev → Prop, (∃ m, I m env) ∧ ∀ m env, I m env → t env (fun c => if c = true then b env ⟨fun e => ∃ m', m' < m ∧ I m' e, K.rt, K.nx, fun e => ∃ m', m' < m ∧ I m' e, K.er⟩ else K.nx env) (fun x => K.er x env)
def wRaise (c : Nat) : WS := fun env K => K.er ⟨c, [], []⟩ env
/-- a field of an error: a short text or an int -/
def D.short : D → Prop
  | .str s => s.length ≤ 1000
  | .int i => Big i
  | _ => False
def wRaiseX (c : Nat) (ns : List Str) (t : WA) : WS := fun env K => t env (fun ds => ds.length = ns.length ∧ (∀ d ∈ ds, D.short d) ∧ K.er ⟨c, ns.reverse, ds.reverse⟩ env) (fun x => K.er x env)
def wNever : WS := fun _ _ => False
/-- self.f = e, self being made -/
def wSelf (i : Nat) (f : Str) (e : WE) : WS := fun env K => match env[i]? with
  | some (.obj c ns fs) => f ∉ ns ∧ ns.length = fs.length ∧ ns.length < 900 ∧ e env (fun d => K.nx (env.set i (.obj c (ns ++ [f]) (fs ++ [d])))) (fun x => K.er x env)
  | _ => False
def wSelfC (c i : Nat) (f : Str) (e : WE) : WS := fun env K => (∃ ns fs, env[i]? = some (.obj c ns fs)) ∧ wSelf i f e env K
/-- an __init__'s promise out of its body -/
def specI (c n m : Nat) (b : WS) : PSpec := fun ds Q E => ds.length = n ∧ b (.obj c [] [] :: (ds.map .val ++ List.replicate (m - n - 1) .un)) ⟨fun env => match env with
  | .obj c' ns fs :: _ => c' = c ∧ Q (.ins c ns fs)
  | _ => False, fun _ _ => False, fun _ => False, fun _ => False, fun x _ => E x⟩
/-- the same of an __init__ whose last parameter takes what is left -/
def specIS (c n m : Nat) (b : WS) : PSpec := fun ds Q E => n ≤ ds.length ∧ ds.length ≤ 1000 ∧ b (.obj c [] [] :: ((ds.take n).map .val ++ .val (.tup (ds.drop n)) :: List.replicate (m - n - 2) .un)) ⟨fun env => match env with
  | .obj c' ns fs :: _ => c' = c ∧ Q (.ins c ns fs)
  | _ => False, fun _ _ => False, fun _ => False, fun _ => False, fun x _ => E x⟩
/-- x = [lambda: .., ..]; x = x + [lambda: .., ..]; x.append(lambda: ..) -/
def wLams (i : Nat) (ks : List Nat) : WS := fun env K => ks.length ≤ 1000 ∧ K.nx (env.set i (.lams ks))
def wLamsA (i : Nat) (ks : List Nat) : WS := fun env K => match env[i]? with
  | some (.lams ks0) => ks0.length + ks.length ≤ 1000 ∧ K.nx (env.set i (.lams (ks0 ++ ks)))
  | _ => False
/-- a def's promise out of its body -/
def specOf (n m : Nat) (b : WS) : PSpec := fun ds Q E => ds.length = n ∧ b (ds.map .val ++ List.replicate (m - n) .un) ⟨fun _ => Q .non, fun d _ => Q d, fun _ => False, fun _ => False, fun x _ => E x⟩
end Oil
/-! How a heap goes on: the dice may be drawn, the cells of S may be written, tables of code objects may grow; all else is kept. -/
namespace Oil
open PySem PySem.Spec PyProof.Rows L2 LamX
/-- where the classes stand; the tables of code objects -/
structure ZG where
  cl : Nat → Addr
  tb : List (Addr × Str)
instance : CoeFun ZG fun _ => Nat → Addr := ⟨ZG.cl⟩
/-- .. and what a frame knows besides: its lambdas; the error that a suite holds -/
structure LamD where
  q : Str
  pa : Arguments
  bd : Expr
  sc : Scope
  cl : List (Str × Addr)
  d : Option Int
structure ZM where
  g : ZG
  lam : Nat → Option LamD
  er : Option (Addr × Value × Option Addr)
instance : CoeFun ZM fun _ => Nat → Addr := ⟨fun Z => Z.g.cl⟩
/-- a frame without lambdas -/
abbrev ZG.m (Z : ZG) : ZM := ⟨Z, fun _ => none, none⟩
/-- nothing -/
abbrev S0 : Addr → Prop := fun _ => False
/-- no table of code objects -/
def NT (o : HO) : Prop := ∀ ps, o ≠ .tbl ps
/-- an object that a frame may write -/
def NX (o : HO) : Prop := (∀ ps, o ≠ .tbl ps) ∧ ∀ p, o ≠ .ext p
/-- an object that may be written stands at a -/
def Has (H : Hp) (a : Addr) : Prop := ∃ o, H a = some o ∧ NX o
structure Nz (T : List (Addr × Str)) (K : PySem.W.Frag) (d : Addr) (S : Addr → Prop) (H H' : Hp) : Prop where
  keep : ∀ a o, a ≠ d → ¬ S a → NT o → H a = some o → H' a = some o
  ex : ∀ a, H a ≠ none → H' a ≠ none
  hx : ∀ a, Has H a → Has H' a
  dice : Dice K H' d
  same_ : ∀ sa, DiceS K H d sa → DiceS K H' d sa
  tabs : Tabs T H → Tabs T H'
abbrev N0 (T : List (Addr × Str)) (K : PySem.W.Frag) (d : Addr) (H H' : Hp) : Prop := Nz T K d S0 H H'
section
variable {T : List (Addr × Str)} {K : PySem.W.Frag} {d : Addr} {S : Addr → Prop} {H H' H1 H2 G : Hp} {a : Addr} {o : HO} {vs : List V}
theorem nt_lst : NT (.lst vs) := fun _ z => by cases z
theorem nt_tup : NT (.tup vs) := fun _ z => by cases z
theorem nt_ins {c dx : Addr} {fs : List (Str × V)} : NT (.ins c dx fs) := fun _ z => by cases z
theorem nt_xd {fs : List (Str × V)} : NT (.xd fs) := fun _ z => by cases z
theorem nx_lst : NX (.lst vs) := ⟨fun _ z => (by cases z), fun _ z => (by cases z)⟩
theorem nx_ins {c dx : Addr} {fs : List (Str × V)} : NX (.ins c dx fs) := ⟨fun _ z => (by cases z), fun _ z => (by cases z)⟩
theorem Nz.of (h : Dice K H d) (e : Same H H') : Nz T K d S H H' := ⟨fun a o _ _ _ q => e a o q, fun a n z => (by
  cases q : H a with
  | none => exact n q
  | some o => rw [e a o q] at z; cases z), (fun a ⟨o, q, n⟩ => ⟨o, e a o q, n⟩), h.same e, fun _ z => z.same e, fun t => t.ext e⟩
theorem Nz.refl (h : Dice K H d) : Nz T K d S H H := .of h (Same.refl H)
theorem Nz.trans (a : Nz T K d S H H1) (b : Nz T K d S H1 H2) : Nz T K d S H H2 :=
  ⟨fun x o n m t q => b.keep x o n m t (a.keep x o n m t q), fun x n => b.ex x (a.ex x n), fun x n => b.hx x (a.hx x n), b.dice, fun sa z => b.same_ sa (a.same_ sa z), fun t => b.tabs (a.tabs t)⟩
theorem Nz.same (a : Nz T K d S H H1) (e : Same H1 H2) : Nz T K d S H H2 := a.trans (.of a.dice e)
theorem Nz.wk {S' : Addr → Prop} (a : Nz T K d S H H1) (h : ∀ x, S x → S' x) : Nz T K d S' H H1 := ⟨fun x o n m t q => a.keep x o n (fun z => m (h x z)) t q, a.ex, a.hx, a.dice, a.same_, a.tabs⟩
theorem Nz.w0 (a : N0 T K d H H1) : Nz T K d S H H1 := a.wk fun _ z => z.elim
theorem Dice.lst (h : Dice K H d) : ∃ xs, H d = some (.lst xs) := by
  obtain ⟨sa, ns, p, m, c, h1, _⟩ := h.ex
  exact ⟨_, h1⟩
theorem Dice.nn (h : Dice K H d) : H d ≠ none := by
  obtain ⟨xs, h1⟩ := h.lst
  rw [h1]
  exact fun z => by cases z
theorem Dice.has (h : Dice K H d) : Has H d := by
  obtain ⟨xs, h1⟩ := h.lst
  exact ⟨_, h1, nx_lst⟩
theorem Has.nn (h : Has H a) : H a ≠ none := by
  obtain ⟨o, e, _⟩ := h
  rw [e]
  exact fun z => by cases z
theorem Nz.ofNx (h : Dice K H d) (x : Nx K d H H') : Nz T K d S H H' := by
  have go : ∀ a o, (∀ xs, o ≠ .lst xs) → H a = some o → H' a = some o := fun a o n e => x.at h e n
  refine ⟨fun a o n _ _ q => x.keep a o n q, fun a n z => ?_, fun a ⟨o, q, n⟩ => ?_, x.dice, x.same_, fun t p hp => ?_⟩
  · by_cases e : a = d
    · rw [e] at z
      exact x.dice.nn z
    · cases q : H a with
      | none => exact n q
      | some o => rw [x.keep a o e q] at z; cases z
  · by_cases e : a = d
    · rw [e]
      exact x.dice.has
    · exact ⟨o, x.keep a o e q, n⟩
  · obtain ⟨ps, h1, h2, h3⟩ := t p hp
    refine ⟨ps, go _ _ (fun _ z => by cases z) h1, h2, fun pos cv hc => ?_⟩
    obtain ⟨c, e1, e2⟩ := h3 pos cv hc
    refine ⟨c, e1, go _ _ (fun _ z => ?_) e2⟩
    unfold CodeO at z
    cases z
/-- a lambda is made -/
theorem Nz.extN (h : Dice K H d) (e : ExtN H H') (t : Tabs T H → Tabs T H') (tx : ∀ a, H a ≠ none → H' a ≠ none) : Nz T K d S H H' := by
  have key : ∀ sa, DiceS K H d sa → DiceS K H' d sa := fun sa z => by
    obtain ⟨ns, p, m, c, a1, a2, a3, a4, a5, a6⟩ := z.ex
    refine ⟨ns, p, m, c, e _ _ a1 nt_lst, a2, a3, a4, a5, fun o => ?_⟩
    have up : ∀ o' u, upd H d o' sa = some u → NT u → upd H' d o' sa = some u := fun o' u q n => by
      by_cases hb : sa = d
      · rw [hb, upd_same] at q ⊢
        exact q
      · rw [upd_ne hb] at q ⊢
        exact e _ _ q n
    rcases a6 o with (w | ⟨y, w⟩) | w
    · exact .inl (.inl (up _ _ w (fun _ z => by cases z)))
    · exact .inl (.inr ⟨y, up _ _ w (fun _ z => by cases z)⟩)
    · exact .inr w
  refine ⟨fun a o _ _ n q => e a o q n, tx, fun a ⟨o, q, n⟩ => ⟨o, e a o q n.1, n⟩, ?_, key, t⟩
  obtain ⟨sa, hs⟩ := h.s
  exact (key sa hs).dice
/-- the cell at a is not the script's list, as far as that is told by the heap -/
def Ap (K : PySem.W.Frag) (H : Hp) (d a : Addr) : Prop := ∀ sa, DiceS K H d sa → a ≠ sa ∨ ∃ ns : List Int, ns.length ≤ 63 ∧ ∀ G, SqL K G sa (ns.map V.int)
theorem dice_sa {sa sb : Addr} (x : DiceS K H d sa) (y : DiceS K H d sb) : sa = sb := by
  obtain ⟨_, _, _, _, h1, _⟩ := x.ex
  obtain ⟨_, _, _, _, h2, _⟩ := y.ex
  rw [h1] at h2
  have := Option.some.inj h2
  injection this with z3
  injection z3 with z4
  injection z4
theorem Ap.mv (h : Dice K H d) (x : Nz T K d S H H') (p : Ap K H d a) : Ap K H' d a := fun sa z => by
  obtain ⟨sb, hb⟩ := h.s
  rw [dice_sa z (x.same_ sb hb)]
  exact p sb hb
theorem Ap.back (h : Dice K H d) (x : Nz T K d S H H') (p : Ap K H' d a) : Ap K H d a := fun sa z => p sa (x.same_ sa z)
theorem Ap.new (e : H a = none) : Ap K H d a := fun sa z => by
  by_cases h : a = sa
  · subst h
    refine .inr ?_
    obtain ⟨ns, p, m, c, h1, h2, h3, h4, h5, h6⟩ := z.ex
    refine ⟨ns, h5, fun G => ?_⟩
    have ad : a ≠ d := fun w => by rw [w, h1] at e; cases e
    rcases h6 (.own d) with (w | ⟨y, w⟩) | w
    · rw [upd_ne ad, e] at w
      cases w
    · rw [upd_ne ad, e] at w
      cases w
    · exact .inr w
  · exact .inl h
/-- a cell is written -/
theorem Nz.write {D : Addr} {o1 : HO} (x : Nz T K d S H G) (hD : Dice K H d) (ap : Ap K H d D) (nd : D ≠ d) (ho : ∃ o, G D = some o ∧ NX o) (n1 : NX o1) (hS : H D = none ∨ S D) : Nz T K d S H (upd G D o1) := by
  have key : ∀ sa, DiceS K H d sa → DiceS K (upd G D o1) d sa := fun sa z => by
    obtain ⟨ns, p, m, c, b1, b2, b3, b4, b5, b6⟩ := (x.same_ sa z).ex
    have at_d : upd G D o1 d = some (.lst [.ref sa, .int p, .int m, .int c]) := by rw [upd_ne (Ne.symm nd)]; exact b1
    rcases ap sa z with w | ⟨ns2, l2, w⟩
    · refine ⟨ns, p, m, c, at_d, b2, b3, b4, b5, fun o => ?_⟩
      have e : upd (upd G D o1) d o sa = upd G d o sa := by
        by_cases h : sa = d
        · rw [h, upd_same, upd_same]
        · rw [upd_ne h, upd_ne h, upd_ne (Ne.symm w)]
      rcases b6 o with (w | ⟨y, w⟩) | w
      · exact .inl (.inl (e.trans w))
      · exact .inl (.inr ⟨y, e.trans w⟩)
      · exact .inr w
    · exact ⟨ns2, p, m, c, at_d, b2, b3, b4, l2, fun o => w _⟩
  obtain ⟨o0, ho1, ho2, ho3⟩ := ho
  obtain ⟨sa, hs⟩ := hD.s
  refine ⟨fun a o n m t e => ?_, fun a n => ?_, fun a n => ?_, (key sa hs).dice, key, fun t p hp => ?_⟩
  · have : a ≠ D := fun z => by
      rw [z] at e m
      rcases hS with hS | hS
      · rw [hS] at e; cases e
      · exact m hS
    rw [upd_ne this]
    exact x.keep a o n m t e
  · by_cases h : a = D
    · rw [h, upd_same]
      exact fun z => by cases z
    · rw [upd_ne h]
      exact x.ex a n
  · by_cases h : a = D
    · rw [h]
      exact ⟨_, upd_same, n1⟩
    · obtain ⟨o, q, n⟩ := x.hx a n
      exact ⟨o, by rw [upd_ne h]; exact q, n⟩
  · obtain ⟨ps, h1, h2, h3⟩ := x.tabs t p hp
    have n1 : p.1 ≠ D := fun z => by
      rw [z, ho1] at h1
      exact ho2 _ (Option.some.inj h1)
    refine ⟨ps, by rw [upd_ne n1]; exact h1, h2, fun pos cv hc => ?_⟩
    obtain ⟨c, e1, e2⟩ := h3 pos cv hc
    refine ⟨c, e1, ?_⟩
    rw [upd_ne fun z => ?_]
    · exact e2
    · rw [z, ho1] at e2
      have e3 := Option.some.inj e2
      unfold CodeO at e3
      exact ho3 _ e3
end
end Oil
/-! Data stand behind values; frames. -/
namespace Oil
open PySem PySem.Spec PyProof.Rows L2
mutual
/-- the value v denotes d; no cell of it is in M -/
inductive Rep (Z : ZG) (d0 : Addr) (M : Addr → Prop) (H : Hp) : V → D → Prop where
  | non : Rep Z d0 M H .non .non
  | bl (b : Bool) : Rep Z d0 M H (.bl b) (.bl b)
  | int (i : Int) : Rep Z d0 M H (.int i) (.int i)
  | str (s : Str) : Rep Z d0 M H (.str s) (.str s)
  | tup {a : Addr} {vs : List V} {ds : List D} : H a = some (.tup vs) → ¬ M a → Reps Z d0 M H vs ds → Rep Z d0 M H (.ref a) (.tup ds)
  | lst {a : Addr} {vs : List V} {ds : List D} : H a = some (.lst vs) → ¬ M a → Reps Z d0 M H vs ds → Rep Z d0 M H (.ref a) (.lst ds)
  | ins {a dx : Addr} {c : Nat} {ns : List Str} {vs : List V} {ds : List D} : H a = some (.ins (Z c) dx (ns.zip vs)) → ¬ M a → ns.length = vs.length → Reps Z d0 M H vs ds → Rep Z d0 M H (.ref a) (.ins c ns ds)
  | dice : Rep Z d0 M H (.ref d0) .dice
  | cls (c : Nat) : Rep Z d0 M H (.ref (Z c)) (.cls c)
  | ty (n : String) : Rep Z d0 M H (.ty n) (.ty n)
  | loc (a : Addr) : Rep Z d0 M H (.ref a) (.loc a)
inductive Reps (Z : ZG) (d0 : Addr) (M : Addr → Prop) (H : Hp) : List V → List D → Prop where
  | nil : Reps Z d0 M H [] []
  | cons {v : V} {d : D} {vs : List V} {ds : List D} : Rep Z d0 M H v d → Reps Z d0 M H vs ds → Reps Z d0 M H (v :: vs) (d :: ds)
end
/-- what stands apart from M stays, and stays apart -/
def Lat (M : Addr → Prop) (H : Hp) (M' : Addr → Prop) (H' : Hp) : Prop := ∀ a o, NT o → ¬ M a → H a = some o → H' a = some o ∧ ¬ M' a
section
variable {Z : ZG} {d0 : Addr} {M M' : Addr → Prop} {H H' : Hp} {v : V} {d : D} {vs us : List V} {ds es : List D} {n : Nat}
mutual
theorem Rep.lat (L : Lat M H M' H') : ∀ {v : V} {d : D}, Rep Z d0 M H v d → Rep Z d0 M' H' v d
  | _, _, .non => .non
  | _, _, .bl b => .bl b
  | _, _, .int i => .int i
  | _, _, .str s => .str s
  | _, _, .tup h n r => .tup (L _ _ nt_tup n h).1 (L _ _ nt_tup n h).2 (Reps.lat L r)
  | _, _, .lst h n r => .lst (L _ _ nt_lst n h).1 (L _ _ nt_lst n h).2 (Reps.lat L r)
  | _, _, .ins h n e r => .ins (L _ _ nt_ins n h).1 (L _ _ nt_ins n h).2 e (Reps.lat L r)
  | _, _, .dice => .dice
  | _, _, .cls c => .cls c
  | _, _, .ty c => .ty c
  | _, _, .loc a => .loc a
theorem Reps.lat (L : Lat M H M' H') : ∀ {vs : List V} {ds : List D}, Reps Z d0 M H vs ds → Reps Z d0 M' H' vs ds
  | _, _, .nil => .nil
  | _, _, .cons r t => .cons (Rep.lat L r) (Reps.lat L t)
end
theorem Lat.refl : Lat M H M H := fun _ _ _ n h => ⟨h, n⟩
theorem Lat.trans {M2 : Addr → Prop} {H2 : Hp} (a : Lat M H M' H') (b : Lat M' H' M2 H2) : Lat M H M2 H2 := fun x o t n h => b x o t (a x o t n h).2 (a x o t n h).1
theorem Lat.sub (h : ∀ a, M' a → M a) : Lat M H M' H := fun _ _ _ n e => ⟨e, fun z => n (h _ z)⟩
theorem Reps.length : ∀ {vs : List V} {ds : List D}, Reps Z d0 M H vs ds → vs.length = ds.length
  | _, _, .nil => rfl
  | _, _, .cons _ t => congrArg (· + 1) (Reps.length t)
theorem Reps.app : ∀ {vs us : List V} {ds es : List D}, Reps Z d0 M H vs ds → Reps Z d0 M H us es → Reps Z d0 M H (vs ++ us) (ds ++ es)
  | _, _, _, _, .nil, s => s
  | _, _, _, _, .cons r t, s => .cons r (Reps.app t s)
theorem Reps.take : ∀ {vs : List V} {ds : List D} (n : Nat), Reps Z d0 M H vs ds → Reps Z d0 M H (vs.take n) (ds.take n)
  | _, _, 0, _ => by simpa using Reps.nil
  | _, _, _ + 1, .nil => .nil
  | _, _, n + 1, .cons r t => .cons r (Reps.take n t)
theorem Reps.drop : ∀ {vs : List V} {ds : List D} (n : Nat), Reps Z d0 M H vs ds → Reps Z d0 M H (vs.drop n) (ds.drop n)
  | _, _, 0, r => r
  | _, _, _ + 1, .nil => .nil
  | _, _, n + 1, .cons _ t => Reps.drop n t
theorem Reps.rev : ∀ {vs : List V} {ds : List D}, Reps Z d0 M H vs ds → Reps Z d0 M H vs.reverse ds.reverse
  | _, _, .nil => .nil
  | _, _, .cons r t => by
    rw [List.reverse_cons, List.reverse_cons]
    exact (Reps.rev t).app (.cons r .nil)
theorem Reps.get : ∀ {vs : List V} {ds : List D} {i : Nat} {d : D}, Reps Z d0 M H vs ds → ds[i]? = some d → ∃ v, vs[i]? = some v ∧ Rep Z d0 M H v d
  | _, _, _, _, .nil, e => by simp at e
  | _, _, 0, _, .cons r _, e => by
    cases (Option.some.inj (by simpa using e))
    exact ⟨_, rfl, r⟩
  | _, _, i + 1, _, .cons _ t, e => by
    obtain ⟨v, h1, h2⟩ := Reps.get (i := i) t (by simpa using e)
    exact ⟨v, by simpa using h1, h2⟩
theorem Reps.set (r : Rep Z d0 M H v d) : ∀ {vs : List V} {ds : List D} (i : Nat), Reps Z d0 M H vs ds → Reps Z d0 M H (vs.set i v) (ds.set i d)
  | _, _, _, .nil => .nil
  | _, _, 0, .cons _ t => .cons r t
  | _, _, i + 1, .cons q t => .cons q (Reps.set r i t)
theorem Reps.rep {n : Nat} (r : Reps Z d0 M H vs ds) : ∀ k : Nat, Reps Z d0 M H (List.replicate k vs).flatten (List.replicate k ds).flatten
  | 0 => by simpa using Reps.nil
  | k + 1 => by
    rw [List.replicate_succ, List.replicate_succ, List.flatten_cons, List.flatten_cons]
    exact r.app (Reps.rep (n := n) r k)
theorem Reps.cut (r : Reps Z d0 M H vs ds) (lo hi : Option Int) : Reps Z d0 M H (cutV vs lo hi) (cutD ds lo hi) := by
  unfold cutV cutD
  rw [r.length]
  exact (r.drop _).take _
theorem Rep.ix {i : Int} (h : Rep Z d0 M H v (.int i)) : v = .int i := by cases h; rfl
/-- a list or a tuple -/
theorem Rep.seq (r : Rep Z d0 M H v d) (e : d.items = some ds) : ∃ a vs, v = .ref a ∧ ¬ M a ∧ (H a = some (.lst vs) ∧ d = .lst ds ∨ H a = some (.tup vs) ∧ d = .tup ds) ∧ Reps Z d0 M H vs ds := by
  cases r with
  | tup h n r =>
    cases e
    exact ⟨_, _, rfl, n, .inr ⟨h, rfl⟩, r⟩
  | lst h n r =>
    cases e
    exact ⟨_, _, rfl, n, .inl ⟨h, rfl⟩, r⟩
  | _ => cases e
mutual
theorem Rep.dp {K : PySem.W.Frag} : ∀ {v : V} {d : D} {p : PyData}, Rep Z d0 M H v d → d.pd = some p → Dp K H v p
  | _, _, _, .non, e => by cases e; exact .non
  | _, _, _, .bl b, e => by cases e; exact .bl b
  | _, _, _, .int b, e => by cases e; exact .int b
  | _, _, _, .str b, e => by cases e; exact .str b
  | _, _, _, .tup h n r, e => by
    obtain ⟨q, h1, rfl⟩ := Option.map_eq_some_iff.mp (show Option.map PyData.tuple (D.pds _) = _ from e)
    exact .tup (SqT.of h) (Reps.dp r h1)
  | _, _, _, .lst h n r, e => by
    obtain ⟨q, h1, rfl⟩ := Option.map_eq_some_iff.mp (show Option.map PyData.list (D.pds _) = _ from e)
    exact .lst (SqL.of h) (Reps.dp r h1)
  | _, _, _, .ins _ _ _ _, e => by cases e
  | _, _, _, .dice, e => by cases e
  | _, _, _, .cls _, e => by cases e
  | _, _, _, .ty _, e => by cases e
  | _, _, _, .loc _, e => by cases e
theorem Reps.dp {K : PySem.W.Frag} : ∀ {vs : List V} {ds : List D} {ps : List PyData}, Reps Z d0 M H vs ds → D.pds ds = some ps → DpAll K H vs ps
  | _, _, _, .nil, e => by cases e; exact .nil
  | _, _, _, .cons (d := d) (ds := ds) r t, e => by
    cases h1 : d.pd with
    | none => simp [D.pds, h1] at e
    | some a =>
      cases h2 : D.pds ds with
      | none => simp [D.pds, h1, h2] at e
      | some b =>
        simp [D.pds, h1, h2] at e
        subst e
        exact .cons (Rep.dp r h1) (Reps.dp t h2)
end
theorem Rep.kn {K : PySem.W.Frag} {T : String} (r : Rep Z d0 M H v d) (e : d.kind = some T) : Kn K H v T := by
  cases r <;> first
    | (cases e; first | exact .non | exact .bl _ | exact .int _ | exact .str _ | exact .tup (by assumption) | exact .lst (by assumption))
    | cases e
theorem Reps.ints : ∀ {vs : List V} {ds : List D} {ns : List Int}, Reps Z d0 M H vs ds → intsOf ds = some ns → vs = ns.map V.int
  | _, _, _, .nil, e => by cases e; rfl
  | _, _, _, .cons (.int i) t, e => by
    obtain ⟨q, h1, rfl⟩ := Option.map_eq_some_iff.mp (show Option.map (i :: ·) (intsOf _) = _ from e)
    rw [Reps.ints t h1]
    rfl
  | _, _, _, .cons .non _, e => by cases e
  | _, _, _, .cons (.bl _) _, e => by cases e
  | _, _, _, .cons (.str _) _, e => by cases e
  | _, _, _, .cons (.tup _ _ _) _, e => by cases e
  | _, _, _, .cons (.lst _ _ _) _, e => by cases e
  | _, _, _, .cons (.ins _ _ _ _) _, e => by cases e
  | _, _, _, .cons .dice _, e => by cases e
  | _, _, _, .cons (.cls _) _, e => by cases e
  | _, _, _, .cons (.ty _) _, e => by cases e
  | _, _, _, .cons (.loc _) _, e => by cases e
theorem Rep.flat (r : Rep Z d0 M H v d) (e : d.flat = true) : flatV v = true := by
  cases r <;> first | rfl | cases e
theorem Reps.flat : ∀ {vs : List V} {ds : List D}, Reps Z d0 M H vs ds → ds.all D.flat = true → vs.all flatV = true
  | _, _, .nil, _ => rfl
  | _, _, .cons r t, e => by
    rw [List.all_cons, Bool.and_eq_true] at e
    rw [List.all_cons, r.flat e.1, Reps.flat t e.2]
    rfl
theorem Reps.ofInts : ∀ ns : List Int, Reps Z d0 M H (ns.map V.int) (ns.map D.int)
  | [] => .nil
  | n :: ns => .cons (.int n) (Reps.ofInts ns)
theorem Rep.fresh_tup {p : Addr} (hp : H p = none) (hM : ¬ M p) (r : Reps Z d0 M H vs ds) : Rep Z d0 M (upd H p (.tup vs)) (.ref p) (.tup ds) :=
  .tup upd_same hM (r.lat fun a o _ n h => ⟨by rw [upd_ne (ne_of_none h hp)]; exact h, n⟩)
theorem Rep.fresh_lst {p : Addr} (hp : H p = none) (hM : ¬ M p) (r : Reps Z d0 M H vs ds) : Rep Z d0 M (upd H p (.lst vs)) (.ref p) (.lst ds) :=
  .lst upd_same hM (r.lat fun a o _ n h => ⟨by rw [upd_ne (ne_of_none h hp)]; exact h, n⟩)
end
/-! ### frames -/
/-- an error stands for er -/
def RepE (Z : ZG) (d0 : Addr) (M : Addr → Prop) (H : Hp) (er : Er) (cls : Value) (dd : Option Addr) : Prop :=
  cls = .ref (Z er.c) ∧ ((er.ns = [] ∧ er.fs = [] ∧ dd = none) ∨ ∃ x vs, dd = some x ∧ H x = some (.xd (er.ns.zip vs)) ∧ ¬ M x ∧ er.ns.length = vs.length ∧ Reps Z d0 M H vs er.fs)
theorem RepE.lat {Z : ZG} {d0 : Addr} {M M' : Addr → Prop} {H H' : Hp} {er : Er} {cls : Value} {dd : Option Addr} (L : Lat M H M' H') (r : RepE Z d0 M H er cls dd) : RepE Z d0 M' H' er cls dd :=
  ⟨r.1, r.2.imp id fun ⟨x, vs, e1, e2, e3, e4, e5⟩ => ⟨x, vs, e1, (L _ _ nt_xd e3 e2).1, (L _ _ nt_xd e3 e2).2, e4, e5.lat L⟩⟩
structure Fr where
  Z : ZM
  K : PySem.W.Frag
  d0 : Addr
  /-- what is the caller's -/
  M0 : Addr → Prop
  /-- what is apart besides -/
  av : Addr → Prop
  /-- the cells of the store that stood at the start -/
  S : Addr → Prop
  H0 : Hp
  /-- what stands still -/
  gH : Hp
  /-- the instance that is being made -/
  me : Addr
abbrev Ow := Nat → Option Addr
def MM (fr : Fr) (ow : Ow) : Addr → Prop := fun a => a = fr.d0 ∨ fr.M0 a ∨ fr.av a ∨ ∃ i, ow i = some a
/-- without the frame's own -/
def M1 (fr : Fr) : Addr → Prop := fun a => a = fr.d0 ∨ fr.M0 a
/-- from here on the store's cells are counted -/
def CBASE : Nat := 1000000
/-- at f: the lambda that D tells -/
def LamAtD (M : Addr → Prop) (H : Hp) (f : Addr) (D : LamD) : Prop := ¬ M f ∧ ∃ c1 dv, H f = some (LamO f D.q D.pa D.bd D.sc D.cl c1 dv) ∧ H c1 = some (LamX.CodeO c1 D.q) ∧ ¬ M c1 ∧
  ((D.d = none ∧ dv = .none) ∨ ∃ n t, D.d = some n ∧ dv = .ref t ∧ H t = some (.tup [.int n]) ∧ ¬ M t)
theorem nt_lamO {f : Addr} {q : Str} {pa : Arguments} {bd : Expr} {sc : Scope} {cl : List (Str × Addr)} {c1 : Addr} {dv : Value} : NT (LamO f q pa bd sc cl c1 dv) := fun _ z => by
  unfold LamO at z
  cases z
theorem LamAtD.lat {M M' : Addr → Prop} {H H' : Hp} {f : Addr} {D : LamD} (L : Lat M H M' H') (r : LamAtD M H f D) : LamAtD M' H' f D := by
  obtain ⟨h0, c1, dv, h1, h2, h3, h4⟩ := r
  refine ⟨(L _ _ nt_lamO h0 h1).2, c1, dv, (L _ _ nt_lamO h0 h1).1, (L _ _ LamX.codeO_ne h3 h2).1, (L _ _ LamX.codeO_ne h3 h2).2, h4.imp id fun ⟨n, t, e1, e2, e3, e4⟩ => ⟨n, t, e1, e2, (L _ _ nt_tup e4 e3).1, (L _ _ nt_tup e4 e3).2⟩⟩
/-- at fs: the lambdas of these numbers -/
inductive LamsOk (Z : ZM) (M : Addr → Prop) (H : Hp) : List Addr → List Nat → Prop where
  | nil : LamsOk Z M H [] []
  | cons {f : Addr} {k : Nat} {D : LamD} {fs : List Addr} {ks : List Nat} : Z.lam k = some D → LamAtD M H f D → LamsOk Z M H fs ks → LamsOk Z M H (f :: fs) (k :: ks)
theorem LamsOk.lat {Z : ZM} {M M' : Addr → Prop} {H H' : Hp} (L : Lat M H M' H') : ∀ {fs : List Addr} {ks : List Nat}, LamsOk Z M H fs ks → LamsOk Z M' H' fs ks
  | _, _, .nil => .nil
  | _, _, .cons h r t => .cons h (r.lat L) (t.lat L)
theorem LamsOk.app {Z : ZM} {M : Addr → Prop} {H : Hp} : ∀ {fs gs : List Addr} {ks ms : List Nat}, LamsOk Z M H fs ks → LamsOk Z M H gs ms → LamsOk Z M H (fs ++ gs) (ks ++ ms)
  | _, _, _, _, .nil, s => s
  | _, _, _, _, .cons h r t, s => .cons h r (t.app s)
theorem LamsOk.length {Z : ZM} {M : Addr → Prop} {H : Hp} : ∀ {fs : List Addr} {ks : List Nat}, LamsOk Z M H fs ks → fs.length = ks.length
  | _, _, .nil => rfl
  | _, _, .cons _ _ t => congrArg (· + 1) t.length
theorem LamsOk.get {Z : ZM} {M : Addr → Prop} {H : Hp} : ∀ {fs : List Addr} {ks : List Nat} {i k : Nat}, LamsOk Z M H fs ks → ks[i]? = some k → ∃ f D, fs[i]? = some f ∧ Z.lam k = some D ∧ LamAtD M H f D
  | _, _, _, _, .nil, e => by simp at e
  | _, _, 0, _, .cons h r _, e => by
    cases (Option.some.inj (by simpa using e))
    exact ⟨_, _, rfl, h, r⟩
  | _, _, i + 1, _, .cons _ _ t, e => by
    obtain ⟨f, D, h1, h2⟩ := LamsOk.get (i := i) t (by simpa using e)
    exact ⟨f, D, by simpa using h1, h2⟩
/-- a cell of the store, counted j -/
def StOk (fr : Fr) (ow : Ow) (H : Hp) (j : Nat) (a : Addr) : Ob → Prop
  | .lst xs => ow j = some a ∧ ∃ vs, H a = some (.lst vs) ∧ Reps fr.Z.g fr.d0 (MM fr ow) H vs xs
  | .ins c ns fs => ow j = some a ∧ ∃ dx vs, H a = some (.ins (fr.Z c) dx (ns.zip vs)) ∧ ns.length = vs.length ∧ Reps fr.Z.g fr.d0 (MM fr ow) H vs fs
  | .lam k => ∃ D, fr.Z.lam k = some D ∧ LamAtD (MM fr ow) H a D
  | .dct _ => False
def SlOk (fr : Fr) (ow : Ow) (H : Hp) (σ : L2.St) (i : Nat) : Sl → Prop
  | .un => True
  | .val d => ∃ v, σ[i]? = some (some v) ∧ Rep fr.Z.g fr.d0 (MM fr ow) H v d
  | .own xs => ∃ a vs, σ[i]? = some (some (.ref a)) ∧ ow i = some a ∧ H a = some (.lst vs) ∧ Reps fr.Z.g fr.d0 (MM fr ow) H vs xs
  | .obj c ns fs => ∃ dx vs, σ[i]? = some (some (.ref fr.me)) ∧ ow i = some fr.me ∧ H fr.me = some (.ins (fr.Z c) dx (ns.zip vs)) ∧ ns.length = vs.length ∧ Reps fr.Z.g fr.d0 (MM fr ow) H vs fs
  | .err er => ∃ a cls dd, fr.Z.er = some (a, cls, dd) ∧ σ[i]? = some (some (.ref a)) ∧ RepE fr.Z.g fr.d0 (MM fr ow) H er cls dd
  | .sto cs => ∀ (k : Nat) (a : Addr) (ob : Ob), cs[k]? = some (a, ob) → StOk fr ow H (CBASE + k) a ob
  | .lams ks => ∃ a fs, σ[i]? = some (some (.ref a)) ∧ ow i = some a ∧ H a = some (.lst (fs.map V.ref)) ∧ LamsOk fr.Z (MM fr ow) H fs ks
structure Good (fr : Fr) (ow : Ow) (H : Hp) (σ : L2.St) (env : Ev) : Prop where
  nx : Nz fr.Z.g.tb fr.K fr.d0 fr.S fr.H0 H
  d00 : Dice fr.K fr.H0 fr.d0
  t0 : LamX.Tabs fr.Z.g.tb fr.H0
  mex : ∀ a, MM fr ow a → Has H a
  m0x : ∀ a, fr.M0 a → fr.H0 a ≠ none
  ss : ∀ a, fr.S a → a ≠ fr.d0 ∧ ¬ fr.M0 a ∧ Ap fr.K fr.H0 fr.d0 a
  owf : ∀ i a, ow i = some a → fr.H0 a = none ∨ fr.S a
  inj : ∀ i j a, ow i = some a → ow j = some a → i = j
  avo : ∀ i a, ow i = some a → ¬ fr.av a
  gh : ∀ a o, fr.gH a = some o → NT o ∧ H a = some o ∧ ¬ MM fr ow a
  len : σ.length = env.length
  lb : σ.length ≤ CBASE
  sl : ∀ i s, env[i]? = some s → SlOk fr ow H σ i s
section
variable {fr : Fr} {ow ow' : Ow} {H H' : Hp} {σ : L2.St} {env : Ev} {v : V} {d : D} {i j : Nat} {a : Addr} {o : HO} {vs : List V} {ds : List D} {s : Sl} {ob : Ob}
theorem Good.dice (G : Good fr ow H σ env) : Dice fr.K H fr.d0 := G.nx.dice
theorem MM.d0 : MM fr ow fr.d0 := .inl rfl
/-- only the dice may differ; new things may stand -/
theorem Nz.lat {T : List (Addr × Str)} {K : PySem.W.Frag} {d0 : Addr} {M : Addr → Prop} (x : N0 T K d0 H H') (h : M d0) : Lat M H M H' := fun a o t n e => ⟨x.keep a o (fun z => n (z ▸ h)) id t e, n⟩
theorem Good.lat (G : Good fr ow H σ env) (x : N0 fr.Z.g.tb fr.K fr.d0 H H') : Lat (MM fr ow) H (MM fr ow) H' := Nz.lat x MM.d0
theorem Good.ow_d0 (G : Good fr ow H σ env) (h : ow i = some a) : a ≠ fr.d0 := fun z => by
  rcases G.owf i a h with q | q
  · rw [z] at q
    exact G.d00.nn q
  · exact (G.ss a q).1 z
theorem Good.ow_m0 (G : Good fr ow H σ env) (h : ow i = some a) : ¬ fr.M0 a := fun z => by
  rcases G.owf i a h with q | q
  · exact G.m0x a z q
  · exact (G.ss a q).2.1 z
theorem Good.ow_ap (G : Good fr ow H σ env) (h : ow i = some a) : Ap fr.K fr.H0 fr.d0 a := by
  rcases G.owf i a h with q | q
  · exact .new q
  · exact (G.ss a q).2.2
theorem Good.own (G : Good fr ow H σ env) (i : Nat) (a : Addr) (h : ow i = some a) : ∃ o, H a = some o ∧ NX o := G.mex a (.inr (.inr (.inr ⟨i, h⟩)))
/-- what a slot holds stays where all that is apart, and the slot's own, stays -/
theorem SlOk.mv (L : Lat (MM fr ow) H (MM fr ow') H') (ho : ∀ a o, ow i = some a → H a = some o → H' a = some o ∧ ow' i = some a) (hc : ∀ (k : Nat) (a : Addr) (o : HO), ow (CBASE + k) = some a → H a = some o → H' a = some o ∧ ow' (CBASE + k) = some a)
    (hs : ∀ cs, s ≠ .sto cs ∨ True) (h : SlOk fr ow H σ i s) : SlOk fr ow' H' σ i s := by
  cases s with
  | un => trivial
  | val d =>
    obtain ⟨v, h1, h2⟩ := h
    exact ⟨v, h1, h2.lat L⟩
  | own xs =>
    obtain ⟨a, vs, h1, h2, h3, h4⟩ := h
    exact ⟨a, vs, h1, (ho a _ h2 h3).2, (ho a _ h2 h3).1, h4.lat L⟩
  | obj c ns fs =>
    obtain ⟨dx, vs, h1, h2, h3, hl, h4⟩ := h
    exact ⟨dx, vs, h1, (ho _ _ h2 h3).2, (ho _ _ h2 h3).1, hl, h4.lat L⟩
  | err er =>
    obtain ⟨a, cls, dd, h1, h2, h3⟩ := h
    exact ⟨a, cls, dd, h1, h2, h3.lat L⟩
  | lams ks =>
    obtain ⟨a, fs, h1, h2, h3, h4⟩ := h
    exact ⟨a, fs, h1, (ho a _ h2 h3).2, (ho a _ h2 h3).1, h4.lat L⟩
  | sto cs =>
    intro k a ob e
    have z := h k a ob e
    cases ob with
    | lst xs =>
      obtain ⟨h1, vs, h2, h3⟩ := z
      exact ⟨(hc k a _ h1 h2).2, vs, (hc k a _ h1 h2).1, h3.lat L⟩
    | ins c ns fs =>
      obtain ⟨h1, dx, vs, h2, h3, h4⟩ := z
      exact ⟨(hc k a _ h1 h2).2, dx, vs, (hc k a _ h1 h2).1, h3, h4.lat L⟩
    | lam k =>
      obtain ⟨D, h1, h2⟩ := z
      exact ⟨D, h1, h2.lat L⟩
    | dct kv => exact z.elim
/-- the same, in a frame with more apart -/
theorem SlOk.mvF {fr' : Fr} (hz : fr'.Z = fr.Z) (hd : fr'.d0 = fr.d0) (hm : fr'.me = fr.me) (L : Lat (MM fr ow) H (MM fr' ow') H') (ho : ∀ a o, ow i = some a → H a = some o → H' a = some o ∧ ow' i = some a) (hc : ∀ (k : Nat) (a : Addr) (o : HO), ow (CBASE + k) = some a → H a = some o → H' a = some o ∧ ow' (CBASE + k) = some a)
    (h : SlOk fr ow H σ i s) : SlOk fr' ow' H' σ i s := by
  obtain ⟨Z, K, d0, M0, av, S, H0, gH, me⟩ := fr
  obtain ⟨Z', K', d0', M0', av', S', H0', gH', me'⟩ := fr'
  dsimp only at hz hd hm
  subst hz hd hm
  cases s with
  | un => exact True.intro
  | val d =>
    obtain ⟨v, h1, h2⟩ := h
    exact ⟨v, h1, h2.lat L⟩
  | own xs =>
    obtain ⟨a, vs, h1, h2, h3, h4⟩ := h
    exact ⟨a, vs, h1, (ho a _ h2 h3).2, (ho a _ h2 h3).1, h4.lat L⟩
  | obj c ns fs =>
    obtain ⟨dx, vs, h1, h2, h3, hl, h4⟩ := h
    exact ⟨dx, vs, h1, (ho _ _ h2 h3).2, (ho _ _ h2 h3).1, hl, h4.lat L⟩
  | err er =>
    obtain ⟨a, cls, dd, h1, h2, h3⟩ := h
    exact ⟨a, cls, dd, h1, h2, h3.lat L⟩
  | lams ks =>
    obtain ⟨a, fs, h1, h2, h3, h4⟩ := h
    exact ⟨a, fs, h1, (ho a _ h2 h3).2, (ho a _ h2 h3).1, h4.lat L⟩
  | sto cs =>
    intro k a ob e
    have z := h k a ob e
    cases ob with
    | lst xs =>
      obtain ⟨h1, vs, h2, h3⟩ := z
      exact ⟨(hc k a _ h1 h2).2, vs, (hc k a _ h1 h2).1, h3.lat L⟩
    | ins c ns fs =>
      obtain ⟨h1, dx, vs, h2, h3, h4⟩ := z
      exact ⟨(hc k a _ h1 h2).2, dx, vs, (hc k a _ h1 h2).1, h3, h4.lat L⟩
    | lam k =>
      obtain ⟨D, h1, h2⟩ := z
      exact ⟨D, h1, h2.lat L⟩
    | dct kv => exact z.elim
/-- another slot written -/
theorem SlOk.put {w : Option V} (hj : j ≠ i) (h : SlOk fr ow H σ j s) : SlOk fr ow H (σ.set i w) j s := by
  cases s with
  | un => exact True.intro
  | val d =>
    obtain ⟨u, h1, h2⟩ := h
    exact ⟨u, by rw [List.getElem?_set, if_neg (Ne.symm hj)]; exact h1, h2⟩
  | own xs =>
    obtain ⟨a, vs, h1, h2, h3, h4⟩ := h
    exact ⟨a, vs, by rw [List.getElem?_set, if_neg (Ne.symm hj)]; exact h1, h2, h3, h4⟩
  | obj c ns fs =>
    obtain ⟨dx, vs, h1, h2, h3, hl, h4⟩ := h
    exact ⟨dx, vs, by rw [List.getElem?_set, if_neg (Ne.symm hj)]; exact h1, h2, h3, hl, h4⟩
  | err er =>
    obtain ⟨a, cls, dd, h1, h2, h3⟩ := h
    exact ⟨a, cls, dd, h1, by rw [List.getElem?_set, if_neg (Ne.symm hj)]; exact h2, h3⟩
  | sto cs =>
    intro k a ob e
    exact h k a ob e
  | lams ks =>
    obtain ⟨a, fs, h1, h2, h3, h4⟩ := h
    exact ⟨a, fs, by rw [List.getElem?_set, if_neg (Ne.symm hj)]; exact h1, h2, h3, h4⟩
theorem N0.at_own (G : Good fr ow H σ env) (x : N0 fr.Z.g.tb fr.K fr.d0 H H') (h : ow i = some a) (e : H a = some o) : H' a = some o := by
  obtain ⟨o1, e1, n1⟩ := G.own i a h
  rw [e] at e1
  cases e1
  exact x.keep a o (G.ow_d0 h) id n1.1 e
theorem Good.mv (G : Good fr ow H σ env) (x : N0 fr.Z.g.tb fr.K fr.d0 H H') : Good fr ow H' σ env where
  nx := G.nx.trans (Nz.w0 x)
  d00 := G.d00
  t0 := G.t0
  mex a h := x.hx a (G.mex a h)
  m0x := G.m0x
  ss := G.ss
  owf := G.owf
  inj := G.inj
  avo := G.avo
  gh a o h := ⟨(G.gh a o h).1, x.keep a o (fun z => (G.gh a o h).2.2 (.inl z)) id (G.gh a o h).1 (G.gh a o h).2.1, (G.gh a o h).2.2⟩
  len := G.len
  lb := G.lb
  sl i s e := (G.sl i s e).mv (G.lat x) (fun a o h e => ⟨N0.at_own G x h e, h⟩) (fun k a o h e => ⟨N0.at_own G x h e, h⟩) (fun _ => .inr trivial)
theorem Good.ib (G : Good fr ow H σ env) (e : env[i]? = some s) : i < CBASE := by
  have h1 := G.lb
  rw [G.len] at h1
  exact Nat.lt_of_lt_of_le (List.getElem?_eq_some_iff.mp e).1 h1
theorem Good.fresh (G : Good fr ow H σ env) {p : Addr} (hp : H p = none) : ¬ MM fr ow p := fun z => (G.mex p z).nn hp
theorem Good.same (G : Good fr ow H σ env) (e : Same H H') : N0 fr.Z.g.tb fr.K fr.d0 H H' := .of G.dice e
/-- a slot is given a value -/
theorem Good.set (G : Good fr ow H σ env) (i : Nat) (r : Rep fr.Z.g fr.d0 (MM fr ow) H v d) : Good fr ow H (σ.set i (some v)) (env.set i (.val d)) := by
  refine ⟨G.nx, G.d00, G.t0, G.mex, G.m0x, G.ss, G.owf, G.inj, G.avo, G.gh, by simp [G.len], (by simpa using G.lb), fun j s e => ?_⟩
  by_cases hj : j = i
  · subst hj
    rw [List.getElem?_set, if_pos rfl] at e
    split at e
    · rename_i lt
      cases e
      exact ⟨v, by rw [List.getElem?_set, if_pos rfl, if_pos (by rw [G.len]; exact lt)], r⟩
    · cases e
  · rw [List.getElem?_set, if_neg (Ne.symm hj)] at e
    exact (G.sl j s e).put hj
/-- a slot forgotten -/
theorem Good.un (G : Good fr ow H σ env) (i : Nat) (w : Option V) : Good fr ow H (σ.set i w) (env.set i .un) := by
  refine ⟨G.nx, G.d00, G.t0, G.mex, G.m0x, G.ss, G.owf, G.inj, G.avo, G.gh, by simp [G.len], (by simpa using G.lb), fun j s e => ?_⟩
  by_cases hj : j = i
  · subst hj
    rw [List.getElem?_set, if_pos rfl] at e
    split at e
    · cases e
      trivial
    · cases e
  · rw [List.getElem?_set, if_neg (Ne.symm hj)] at e
    exact (G.sl j s e).put hj
/-- a new list, kept, told by any slot -/
theorem Good.setN {Hs : Hp} {s1 : Sl} (Gs : Good fr ow Hs σ env) (n : N0 fr.Z.g.tb fr.K fr.d0 Hs H) (i : Nat) (hi : i < CBASE) (ha : Hs a = none) (h : H a = some (.lst vs))
    (hs1 : ∀ σ', σ'[i]? = some (some (.ref a)) → Lat (fun b => MM fr ow b ∨ b = a) H (MM fr (fun j => if j = i then some a else ow j)) H → SlOk fr (fun j => if j = i then some a else ow j) H σ' i s1) :
    Good fr (fun j => if j = i then some a else ow j) H (σ.set i (some (.ref a))) (env.set i s1) := by
  have G := Gs.mv n
  have na : ¬ MM fr ow a := Gs.fresh ha
  have h0a : fr.H0 a = none := by
    cases z : fr.H0 a with
    | none => rfl
    | some o => exact absurd ha (Gs.nx.ex a (by rw [z]; exact fun y => by cases y))
  have sub : ∀ b, MM fr (fun j => if j = i then some a else ow j) b → MM fr ow b ∨ b = a := fun b h => by
    rcases h with h | h | h | ⟨j, h⟩
    · exact .inl (.inl h)
    · exact .inl (.inr (.inl h))
    · exact .inl (.inr (.inr (.inl h)))
    · dsimp only at h
      split at h
      · exact .inr (Option.some.inj h).symm
      · exact .inl (.inr (.inr (.inr ⟨j, h⟩)))
  have L : Lat (MM fr ow) Hs (MM fr (fun j => if j = i then some a else ow j)) H := fun b o t nb e => by
    refine ⟨n.keep b o (fun z => nb (z ▸ MM.d0)) id t e, fun z => ?_⟩
    rcases sub b z with z | z
    · exact nb z
    · rw [z, ha] at e
      cases e
  have hg : fr.gH a = none := by
    cases z : fr.gH a with
    | none => rfl
    | some o =>
      have := (Gs.gh a o z).2.1
      rw [ha] at this
      cases this
  refine ⟨G.nx, G.d00, G.t0, fun b hb => ?_, G.m0x, G.ss, fun j b hb => ?_, fun j k b h1 h2 => ?_, fun j b hb hv => ?_, fun b o e => ⟨(G.gh b o e).1, (G.gh b o e).2.1, fun z => ?_⟩, by simp [G.len], (by simpa using G.lb), fun j s e => ?_⟩
  · rcases sub b hb with z | z
    · exact G.mex b z
    · rw [z]
      exact ⟨_, h, nx_lst⟩
  · split at hb
    · cases hb
      exact .inl h0a
    · exact G.owf j b hb
  · split at h1
    · rename_i e1
      cases h1
      split at h2
      · rename_i e2
        rw [e1, e2]
      · exact absurd (.inr (.inr (.inr ⟨k, h2⟩))) na
    · split at h2
      · cases h2
        exact absurd (.inr (.inr (.inr ⟨j, h1⟩))) na
      · exact G.inj j k b h1 h2
  · split at hb
    · cases hb
      exact na (.inr (.inr (.inl hv)))
    · exact G.avo j b hb hv
  · rcases sub b z with z | z
    · exact (G.gh b o e).2.2 z
    · rw [z, hg] at e
      cases e
  · by_cases hj : j = i
    · subst hj
      rw [List.getElem?_set, if_pos rfl] at e
      split at e
      · rename_i lt
        cases e
        exact hs1 _ (by rw [List.getElem?_set, if_pos rfl, if_pos (by rw [G.len]; exact lt)]) (.sub sub)
      · cases e
    · rw [List.getElem?_set, if_neg (Ne.symm hj)] at e
      exact ((Gs.sl j s e).mv L (fun b o h1 h2 => ⟨N0.at_own Gs n h1 h2, by rw [if_neg hj]; exact h1⟩) (fun k b o h1 h2 => ⟨N0.at_own Gs n h1 h2, by rw [if_neg (by omega)]; exact h1⟩) (fun _ => .inr trivial)).put hj
/-- a new list, kept -/
theorem Good.setO {Hs : Hp} {xs : List D} (Gs : Good fr ow Hs σ env) (n : N0 fr.Z.g.tb fr.K fr.d0 Hs H) (i : Nat) (hi : i < CBASE) (ha : Hs a = none) (h : H a = some (.lst vs)) (r : Reps fr.Z.g fr.d0 (fun b => MM fr ow b ∨ b = a) H vs xs) :
    Good fr (fun j => if j = i then some a else ow j) H (σ.set i (some (.ref a))) (env.set i (.own xs)) :=
  Gs.setN n i hi ha h fun σ' hs L => ⟨a, vs, hs, by simp, h, r.lat L⟩
/-- one of the frame's own is written -/
theorem Good.wr {o1 : HO} {env' : Ev} (G : Good fr ow H σ env) (i : Nat) (h2 : ow i = some a) (n : NX o1) (L : Lat (MM fr ow) H (MM fr ow) (upd H a o1)) (hl : env'.length = env.length) (hs : ∀ j s, env'[j]? = some s → SlOk fr ow (upd H a o1) σ j s) : Good fr ow (upd H a o1) σ env' := by
  obtain ⟨o0, e0, n0⟩ := G.own i a h2
  refine ⟨G.nx.write G.d00 (G.ow_ap h2) (G.ow_d0 h2) ⟨o0, e0, n0⟩ n (G.owf i a h2), G.d00, G.t0, fun b hb => ?_, G.m0x, G.ss, G.owf, G.inj, G.avo, fun b o q => ⟨(G.gh b o q).1, (L b o (G.gh b o q).1 (G.gh b o q).2.2 (G.gh b o q).2.1).1, (G.gh b o q).2.2⟩, by rw [G.len, hl], G.lb, hs⟩
  by_cases hb2 : b = a
  · rw [hb2]
    exact ⟨_, upd_same, n⟩
  · obtain ⟨o, q, n⟩ := G.mex b hb
    exact ⟨o, by rw [upd_ne hb2]; exact q, n⟩
theorem wr_lat (h2 : ow i = some a) : Lat (MM fr ow) H (MM fr ow) (upd H a o) := fun b o' t nb q => ⟨by rw [upd_ne (fun z => nb (by rw [z]; exact .inr (.inr (.inr ⟨i, h2⟩))))]; exact q, nb⟩
/-- the other slots, where one of the frame's own is written -/
theorem SlOk.wr {env : Ev} (G : Good fr ow H σ env) (h2 : ow i = some a) (hj : j ≠ i) (hi : i < CBASE) (h : SlOk fr ow H σ j s) : SlOk fr ow (upd H a o) σ j s :=
  h.mv (wr_lat h2) (fun b o' q1 q2 => ⟨by rw [upd_ne fun z => hj (G.inj j i a (by rw [← z]; exact q1) h2)]; exact q2, q1⟩) (fun k b o' q1 q2 => ⟨by rw [upd_ne fun z => absurd (G.inj (CBASE + k) i a (by rw [← z]; exact q1) h2) (by omega)]; exact q2, q1⟩) (fun _ => .inr trivial)
/-- the frame's own list written, told by any slot -/
theorem Good.wrN {us : List V} {s1 : Sl} (G : Good fr ow H σ env) (i : Nat) (hi : i < CBASE) (h1 : σ[i]? = some (some (.ref a))) (h2 : ow i = some a) (hs1 : Lat (MM fr ow) H (MM fr ow) (upd H a (.lst us)) → SlOk fr ow (upd H a (.lst us)) σ i s1) : Good fr ow (upd H a (.lst us)) σ (env.set i s1) := by
  refine G.wr i h2 nx_lst (wr_lat h2) (by simp) fun j s q => ?_
  by_cases hj : j = i
  · subst hj
    rw [List.getElem?_set, if_pos rfl] at q
    split at q
    · cases q
      exact hs1 (wr_lat h2)
    · cases q
  · rw [List.getElem?_set, if_neg (Ne.symm hj)] at q
    exact (G.sl j s q).wr G h2 hj hi
/-- the frame's own list written -/
theorem Good.wrO {ys : List D} {us : List V} (G : Good fr ow H σ env) (i : Nat) (hi : i < CBASE) (h1 : σ[i]? = some (some (.ref a))) (h2 : ow i = some a) (hu : Reps fr.Z.g fr.d0 (MM fr ow) H us ys) : Good fr ow (upd H a (.lst us)) σ (env.set i (.own ys)) := by
  refine G.wr i h2 nx_lst (wr_lat h2) (by simp) fun j s q => ?_
  by_cases hj : j = i
  · subst hj
    rw [List.getElem?_set, if_pos rfl] at q
    split at q
    · cases q
      exact ⟨a, us, h1, h2, upd_same, hu.lat (wr_lat h2)⟩
    · cases q
  · rw [List.getElem?_set, if_neg (Ne.symm hj)] at q
    exact (G.sl j s q).wr G h2 hj hi
/-- a field of the instance that is being made -/
theorem Good.wrF {c : Nat} {ns : List Str} {dx : Addr} {ys : List D} {us : List V} (hc : ns.length = us.length) (G : Good fr ow H σ env) (i : Nat) (hi : i < CBASE) (hm : a = fr.me) (h1 : σ[i]? = some (some (.ref a))) (h2 : ow i = some a) (hu : Reps fr.Z.g fr.d0 (MM fr ow) H us ys) : Good fr ow (upd H a (.ins (fr.Z c) dx (ns.zip us))) σ (env.set i (.obj c ns ys)) := by
  refine G.wr i h2 nx_ins (wr_lat h2) (by simp) fun j s q => ?_
  by_cases hj : j = i
  · subst hj
    rw [List.getElem?_set, if_pos rfl] at q
    split at q
    · cases q
      subst hm
      exact ⟨dx, us, h1, h2, upd_same, hc, hu.lat (wr_lat h2)⟩
    · cases q
  · rw [List.getElem?_set, if_neg (Ne.symm hj)] at q
    exact (G.sl j s q).wr G h2 hj hi
/-- the frame's own list let go -/
theorem Good.frz {xs : List D} (G : Good fr ow H σ env) (i : Nat) (hi : i < CBASE) (e : env[i]? = some (.own xs)) : Good fr (fun j => if j = i then none else ow j) H σ (env.set i (.val (.lst xs))) := by
  obtain ⟨a, vs, h1, h2, h3, h4⟩ := G.sl i _ e
  have sub : ∀ b, MM fr (fun j => if j = i then none else ow j) b → MM fr ow b ∧ b ≠ a := fun b h => by
    rcases h with h | h | h | ⟨j, h⟩
    · exact ⟨.inl h, fun z => G.ow_d0 h2 (z.symm.trans h)⟩
    · exact ⟨.inr (.inl h), fun z => G.ow_m0 h2 (z ▸ h)⟩
    · exact ⟨.inr (.inr (.inl h)), fun z => G.avo i a h2 (z ▸ h)⟩
    · dsimp only at h
      split at h
      · cases h
      · rename_i hj
        exact ⟨.inr (.inr (.inr ⟨j, h⟩)), fun z => hj (G.inj j i b h (z ▸ h2))⟩
  have L : Lat (MM fr ow) H (MM fr (fun j => if j = i then none else ow j)) H := .sub fun b z => (sub b z).1
  refine ⟨G.nx, G.d00, G.t0, fun b hb => G.mex b (sub b hb).1, G.m0x, G.ss, fun j b hb => ?_, fun j k b q1 q2 => ?_, fun j b hb => ?_, fun b o q => ⟨(G.gh b o q).1, (G.gh b o q).2.1, fun z => (G.gh b o q).2.2 (sub b z).1⟩, by simp [G.len], (by simpa using G.lb), fun j s q => ?_⟩
  · split at hb
    · cases hb
    · exact G.owf j b hb
  · split at q1
    · cases q1
    · split at q2
      · cases q2
      · exact G.inj j k b q1 q2
  · split at hb
    · cases hb
    · exact G.avo j b hb
  · by_cases hj : j = i
    · subst hj
      rw [List.getElem?_set, if_pos rfl] at q
      split at q
      · cases q
        exact ⟨_, h1, .lst h3 (fun z => (sub a z).2 rfl) (h4.lat L)⟩
      · cases q
    · rw [List.getElem?_set, if_neg (Ne.symm hj)] at q
      exact (G.sl j s q).mv L (fun b o h1 h2 => ⟨h2, by rw [if_neg hj]; exact h1⟩) (fun k b o h1 h2 => ⟨h2, by rw [if_neg (by omega)]; exact h1⟩) (fun _ => .inr trivial)
end
end Oil
/-! Judgements by data. -/
namespace Oil
open PySem PySem.Spec PyProof.Rows L2
/-- a value, or a list of the frame's own -/
def RepB (fr : Fr) (ow : Ow) (H : Hp) (v : V) (d : D) : Prop :=
  Rep fr.Z.g fr.d0 (MM fr ow) H v d ∨ ∃ i xs a vs, d = .lst xs ∧ v = .ref a ∧ ow i = some a ∧ H a = some (.lst vs) ∧ a ≠ fr.d0 ∧ Reps fr.Z.g fr.d0 (MM fr ow) H vs xs
structure At (Z : ZM) (K : PySem.W.Frag) (E : XK) (fr : Fr) (ow : Ow) (H : Hp) (σ : L2.St) (env : Ev) (Ep : QR) : Prop where
  z : fr.Z = Z
  k : fr.K = K
  g : Good fr ow H σ env
  er : ∀ er cls dd H', N0 fr.Z.g.tb fr.K fr.d0 H H' → RepE fr.Z.g fr.d0 (MM fr ow) H' er cls dd → Ep er → E cls dd H'
section
variable {Z : ZM} {X : Cx} {E : XK} {fr : Fr} {ow : Ow} {H H' : Hp} {σ : L2.St} {env : Ev} {Ep : QR} {v : V} {d : D} {ds : List D}
theorem At.mv (A : At Z X.K E fr ow H σ env Ep) (x : N0 fr.Z.g.tb fr.K fr.d0 H H') : At Z X.K E fr ow H' σ env Ep := ⟨A.z, A.k, A.g.mv x, fun er cls dd H' n r q => A.er er cls dd H' (x.trans n) r q⟩
theorem RepB.of (r : Rep fr.Z.g fr.d0 (MM fr ow) H v d) : RepB fr ow H v d := .inl r
theorem RepB.mv (r : RepB fr ow H v d) (x : N0 fr.Z.g.tb fr.K fr.d0 H H') : RepB fr ow H' v d := by
  rcases r with r | ⟨i, xs, a, vs, h1, h2, h3, h4, h5, h6⟩
  · exact .inl (r.lat (Nz.lat x MM.d0))
  · exact .inr ⟨i, xs, a, vs, h1, h2, h3, x.keep a _ h5 id nt_lst h4, h5, h6.lat (Nz.lat x MM.d0)⟩
theorem RepB.seq (r : RepB fr ow H v d) (e : d.items = some ds) : ∃ a vs, v = .ref a ∧ a ≠ fr.d0 ∧ (H a = some (.lst vs) ∧ d = .lst ds ∨ H a = some (.tup vs) ∧ d = .tup ds) ∧ Reps fr.Z.g fr.d0 (MM fr ow) H vs ds := by
  rcases r with r | ⟨i, xs, a, vs, h1, h2, h3, h4, h5, h6⟩
  · obtain ⟨a, vs, h1, h2, h3, h4⟩ := r.seq e
    exact ⟨a, vs, h1, fun z => h2 (z ▸ MM.d0), h3, h4⟩
  · subst h1
    cases e
    exact ⟨a, vs, h2, h5, .inl ⟨h4, rfl⟩, h6⟩
/-- what is no list of the frame's own -/
theorem RepB.rep (r : RepB fr ow H v d) (h : ∀ xs, d ≠ .lst xs) : Rep fr.Z.g fr.d0 (MM fr ow) H v d := by
  rcases r with r | ⟨i, xs, a, vs, h1, _⟩
  · exact r
  · exact absurd h1 (h xs)
theorem RepB.int {i : Int} (r : RepB fr ow H v (.int i)) : v = .int i := (r.rep fun _ z => by cases z).ix
theorem RepB.dp {K : PySem.W.Frag} {p : PyData} (r : RepB fr ow H v d) (e : d.pd = some p) : Dp K H v p := by
  rcases r with r | ⟨i, xs, a, vs, h1, h2, h3, h4, h5, h6⟩
  · exact r.dp e
  · subst h1 h2
    obtain ⟨q, h1, rfl⟩ := Option.map_eq_some_iff.mp (show Option.map PyData.list (D.pds _) = _ from e)
    exact .lst (SqL.of h4) (Reps.dp h6 h1)
theorem RepB.kn {K : PySem.W.Frag} {T : String} (r : RepB fr ow H v d) (e : d.kind = some T) : Kn K H v T := by
  rcases r with r | ⟨i, xs, a, vs, h1, h2, h3, h4, h5, h6⟩
  · exact r.kn e
  · subst h1 h2
    cases e
    exact .lst h4
theorem RepB.flat (r : RepB fr ow H v d) (e : d.flat = true) : flatV v = true := by
  rcases r with r | ⟨i, xs, a, vs, h1, _⟩
  · exact r.flat e
  · subst h1
    cases e
end
/-- readings by data: a value; a value or an own list; a test; arguments -/
def RdE (Z : ZM) (K : PySem.W.Frag) (E : XK) (w : WE) : TE := fun σ H Q => ∃ fr ow env Qp Ep, At Z K E fr ow H σ env Ep ∧ w env Qp Ep ∧ ∀ d v H', N0 fr.Z.g.tb fr.K fr.d0 H H' → Rep fr.Z.g fr.d0 (MM fr ow) H' v d → Qp d → Q v H'
def RdB (Z : ZM) (K : PySem.W.Frag) (E : XK) (w : WE) : TE := fun σ H Q => ∃ fr ow env Qp Ep, At Z K E fr ow H σ env Ep ∧ w env Qp Ep ∧ ∀ d v H', N0 fr.Z.g.tb fr.K fr.d0 H H' → RepB fr ow H' v d → Qp d → Q v H'
/-- a new list -/
def New (fr : Fr) (ow : Ow) (H H' : Hp) (v : V) (xs : List D) : Prop := ∃ a vs, v = .ref a ∧ H a = none ∧ H' a = some (.lst vs) ∧ Reps fr.Z.g fr.d0 (fun b => MM fr ow b ∨ b = a) H' vs xs
def RdF (Z : ZM) (K : PySem.W.Frag) (E : XK) (w : WE) : TE := fun σ H Q => ∃ fr ow env Qp Ep, At Z K E fr ow H σ env Ep ∧ w env Qp Ep ∧ ∀ xs v H', N0 fr.Z.g.tb fr.K fr.d0 H H' → New fr ow H H' v xs → Qp (.lst xs) → Q v H'
def RdT (Z : ZM) (K : PySem.W.Frag) (E : XK) (w : WT) : TT := fun σ H Q => ∃ fr ow env Qp Ep, At Z K E fr ow H σ env Ep ∧ w env Qp Ep ∧ ∀ b H', N0 fr.Z.g.tb fr.K fr.d0 H H' → Qp b → Q b H'
def RdA (Z : ZM) (K : PySem.W.Frag) (E : XK) (w : WA) : TA := fun σ H Q => ∃ fr ow env Qp Ep, At Z K E fr ow H σ env Ep ∧ w env Qp Ep ∧ ∀ ds vs H', N0 fr.Z.g.tb fr.K fr.d0 H H' → Reps fr.Z.g fr.d0 (MM fr ow) H' vs ds → Qp ds → Q vs H'
/-- arguments that may be own lists -/
inductive RepsB (fr : Fr) (ow : Ow) (H : Hp) : List V → List D → Prop where
  | nil : RepsB fr ow H [] []
  | cons {v : V} {d : D} {vs : List V} {ds : List D} : RepB fr ow H v d → RepsB fr ow H vs ds → RepsB fr ow H (v :: vs) (d :: ds)
def RdAB (Z : ZM) (K : PySem.W.Frag) (E : XK) (w : WA) : TA := fun σ H Q => ∃ fr ow env Qp Ep, At Z K E fr ow H σ env Ep ∧ w env Qp Ep ∧ ∀ ds vs H', N0 fr.Z.g.tb fr.K fr.d0 H H' → RepsB fr ow H' vs ds → Qp ds → Q vs H'
abbrev QE (Z : ZM) (X : Cx) (E : XK) (e : Expr) (w : WE) : Prop := PE X e (RdE Z X.K E w)
abbrev QB (Z : ZM) (X : Cx) (E : XK) (e : Expr) (w : WE) : Prop := PE X e (RdB Z X.K E w)
abbrev QF (Z : ZM) (X : Cx) (E : XK) (e : Expr) (w : WE) : Prop := PE X e (RdF Z X.K E w)
abbrev QT (Z : ZM) (X : Cx) (E : XK) (e : Expr) (w : WT) : Prop := PT X e (RdT Z X.K E w)
abbrev QW (Z : ZM) (X : Cx) (E : XK) (e : Expr) (w : WT) : Prop := PW X e (RdT Z X.K E w)
abbrev QA (Z : ZM) (X : Cx) (E : XK) (es : List Expr) (w : WA) : Prop := PA X es (RdA Z X.K E w)
abbrev QAB (Z : ZM) (X : Cx) (E : XK) (es : List Expr) (w : WA) : Prop := PA X es (RdAB Z X.K E w)
theorem _root_.L2.PE.wk {X : Cx} {e : Expr} {t t' : TE} (h : PE X e t) (k : ∀ σ H Q, t' σ H Q → t σ H Q) : PE X e t' := ⟨fun pins s σ H Q I q => h.run pins s σ H Q I (k σ H Q q)⟩
theorem _root_.L2.PT.wk {X : Cx} {e : Expr} {t t' : TT} (h : PT X e t) (k : ∀ σ H Q, t' σ H Q → t σ H Q) : PT X e t' := ⟨fun pins s σ H Q I q => h.run pins s σ H Q I (k σ H Q q)⟩
theorem _root_.L2.PW.wk {X : Cx} {e : Expr} {t t' : TT} (h : PW X e t) (k : ∀ σ H Q, t' σ H Q → t σ H Q) : PW X e t' := ⟨fun wh pins s σ H Q I q => h.run wh pins s σ H Q I (k σ H Q q)⟩
theorem _root_.L2.PA.wk {X : Cx} {es : List Expr} {t t' : TA} (h : PA X es t) (k : ∀ σ H Q, t' σ H Q → t σ H Q) : PA X es t' := ⟨fun p pins s σ H Q I q => h.run p pins s σ H Q I (k σ H Q q)⟩
section
variable {Z : ZM} {X : Cx} {E : XK} {e e1 e2 e3 : Expr} {es : List Expr} {w w1 w2 w3 : WE} {t : WA} {u u2 : WT} {pos p : Pos} {i : Nat} {x : Str}
theorem qb_of (h : QE Z X E e w) : QB Z X E e w := PE.wk h fun σ H Q ⟨fr, ow, env, Qp, Ep, A, hw, post⟩ => ⟨fr, ow, env, Qp, Ep, A, hw, fun d v H' n r q => post d v H' n (.inl r) q⟩
theorem New.rep {fr : Fr} {ow : Ow} {H H' : Hp} {v : V} {xs : List D} {σ : L2.St} {env : Ev} (G : Good fr ow H σ env) (n : New fr ow H H' v xs) : Rep fr.Z.g fr.d0 (MM fr ow) H' v (.lst xs) := by
  obtain ⟨a, vs, rfl, h1, h2, h3⟩ := n
  exact .lst h2 (G.fresh h1) (h3.lat (.sub fun b z => .inl z))
theorem qe_new (h : QF Z X E e w) : QE Z X E e w := PE.wk h fun σ H Q ⟨fr, ow, env, Qp, Ep, A, hw, post⟩ => ⟨fr, ow, env, Qp, Ep, A, hw, fun xs v H' n r q => post _ v H' n (r.rep A.g) q⟩
/-- from a rule that asks plain things of its parts -/
theorem rdE_of {fr : Fr} {ow : Ow} {env : Ev} {Qp : QD} {Ep : QR} {σ : L2.St} {H : Hp} {Q : VK} (A : At Z X.K E fr ow H σ env Ep) (hw : w env Qp Ep) (post : ∀ d v H', N0 fr.Z.g.tb fr.K fr.d0 H H' → Rep fr.Z.g fr.d0 (MM fr ow) H' v d → Qp d → Q v H') : RdE Z X.K E w σ H Q := ⟨fr, ow, env, Qp, Ep, A, hw, post⟩
/-! ### names and constants -/
theorem qe_name (i : Nat) (hN : X.N[i]? = some x := by rfl) (hv : Vis X.env.scope x := by first | exact Or.inl rfl | exact Or.inr (Or.inl rfl) | exact Or.inr (Or.inr rfl)) (hd : (x == ("__debug__" : Str)) = false := by decide) (hcd : (x == ("__classdict__" : Str)) = false := by decide) : QE Z X E (.Name x pos) (wName i) :=
  (pe_var hN hv hd hcd).wk fun σ H Q ⟨fr, ow, env, Qp, Ep, A, hw, post⟩ => by
    unfold wName at hw
    split at hw
    · rename_i d e
      obtain ⟨v, h1, h2⟩ := A.g.sl i _ e
      exact ⟨v, h1, post d v H (.refl A.g.dice) h2 hw⟩
    · exact hw.elim
theorem qb_own (i : Nat) (hN : X.N[i]? = some x := by rfl) (hv : Vis X.env.scope x := by first | exact Or.inl rfl | exact Or.inr (Or.inl rfl) | exact Or.inr (Or.inr rfl)) (hd : (x == ("__debug__" : Str)) = false := by decide) (hcd : (x == ("__classdict__" : Str)) = false := by decide) : QB Z X E (.Name x pos) (wOwn i) :=
  (pe_var hN hv hd hcd).wk fun σ H Q ⟨fr, ow, env, Qp, Ep, A, hw, post⟩ => by
    unfold wOwn at hw
    split at hw
    · rename_i d e
      obtain ⟨v, h1, h2⟩ := A.g.sl i _ e
      exact ⟨v, h1, post d v H (.refl A.g.dice) (.inl h2) hw⟩
    · rename_i xs e
      obtain ⟨a, vs, h1, h2, h3, h4⟩ := A.g.sl i _ e
      refine ⟨_, h1, post _ _ H (.refl A.g.dice) (.inr ⟨i, xs, a, vs, rfl, rfl, h2, h3, A.g.ow_d0 h2, h4⟩) hw⟩
    · exact hw.elim
theorem qe_c {v : V} {d : D} (h : PE X e (tC v)) (r : ∀ (d0 : Addr) (M : Addr → Prop) (H : Hp), Rep Z.g d0 M H v d) : QE Z X E e (wC d) :=
  h.wk fun σ H Q ⟨fr, ow, env, Qp, Ep, A, hw, post⟩ => post d v H (.refl A.g.dice) (by rw [A.z]; exact r _ _ _) hw
/-! ### operators -/
/-- the rule r of an operator answers by data as g does -/
def OpS (r : R2) (g : O2) : Prop := ∀ (fr : Fr) (ow : Ow) (H : Hp) (x y : V) (dx dy : D) (Qp : QD) (Q : VK), (∀ p, H p = none → ¬ MM fr ow p) → RepB fr ow H x dx → RepB fr ow H y dy → g dx dy Qp →
  (∀ d v H', Same H H' → Rep fr.Z.g fr.d0 (MM fr ow) H' v d → Qp d → Q v H') → r x y H Q
theorem op_cat2 {f : Value → Value → Sem Value} {r r' : R2} (h : OpR X f r) (h' : OpR X f r') : OpR X f (fun x y H Q => r x y H Q ∨ r' x y H Q) := fun pins s σ H x y v u Q I rx ry q => q.elim (h pins s σ H x y v u Q I rx ry) (h' pins s σ H x y v u Q I rx ry)
theorem rd_two {r : R2} {g : O2} (s : OpS r g) : ∀ σ H Q, RdE Z X.K E (wOp g w1 w2) σ H Q → tOp r (RdB Z X.K E w1) (RdB Z X.K E w2) σ H Q := fun σ H Q ⟨fr, ow, env, Qp, Ep, A, hw, post⟩ =>
  ⟨fr, ow, env, _, Ep, A, hw, fun dx x H1 n1 r1 q1 => ⟨fr, ow, env, _, Ep, A.mv n1, q1, fun dy y H2 n2 r2 q2 =>
    s fr ow H2 x y dx dy Qp Q (fun p hp => (A.g.mv (n1.trans n2)).fresh hp) (r1.mv n2) r2 q2 fun d v H' e r q => post d v H' (n1.trans (n2.trans (.of n2.dice e))) r q⟩⟩
theorem qe_op {op : Operator} {r : R2} {g : O2} (ho : OpR X (binaryOp op) r) (s : OpS r g) (ha : QB Z X E e1 w1) (hb : QB Z X E e2 w2) : QE Z X E (.BinOp e1 op e2 pos) (wOp g w1 w2) := (pe_op ho ha hb).wk (rd_two s)
theorem qe_cmp {op : CmpOp} {r : R2} {g : O2} (ho : OpR X (compareOp op) r) (s : OpS r g) (ha : QB Z X E e1 w1) (hb : QB Z X E e2 w2) (hm : behindInMarks op e2 = false) : QE Z X E (.Compare e1 [op] [e2] pos) (wOp g w1 w2) := (pe_cmpR ho ha hb hm).wk (rd_two s)
theorem qe_ix {r : R2} {g : O2} (ho : IxR X r) (s : OpS r g) (ha : QB Z X E e1 w1) (hb : QB Z X E e2 w2) (hs : PlainIx e2) : QE Z X E (.Subscript e1 e2 pos) (wOp g w1 w2) := (pe_ix ho ha hb hs).wk (rd_two s)
theorem ops_int {C : Int → Int → Prop} {f : Int → Int → V} {g : O2} (hg : ∀ x y Q, g x y Q → ∃ i j d, x = .int i ∧ y = .int j ∧ C i j ∧ Q d ∧ ∀ (Z : ZG) (d0 : Addr) (M : Addr → Prop) (H : Hp), Rep Z d0 M H (f i j) d) : OpS (rI C f) g := fun fr ow H x y dx dy Qp Q _ rx ry h k => by
  obtain ⟨i, j, d, rfl, rfl, c, q, r⟩ := hg _ _ _ h
  exact ⟨i, j, rx.int, ry.int, c, k d _ H (.refl H) (r _ _ _ _) q⟩
theorem ops_int0 {f : Int → Int → V} {g : O2} (hg : ∀ x y Q, g x y Q → ∃ i j d, x = .int i ∧ y = .int j ∧ Q d ∧ ∀ (Z : ZG) (d0 : Addr) (M : Addr → Prop) (H : Hp), Rep Z d0 M H (f i j) d) : OpS (rI0 f) g := fun fr ow H x y dx dy Qp Q _ rx ry h k => by
  obtain ⟨i, j, d, rfl, rfl, q, r⟩ := hg _ _ _ h
  exact ⟨i, j, rx.int, ry.int, k d _ H (.refl H) (r _ _ _ _) q⟩
theorem ops_sub : OpS (rI0 fun i j => .int (i - j)) oSub := ops_int0 fun x y Q h => by
  cases x <;> cases y <;> first | exact ⟨_, _, _, rfl, rfl, h, fun _ _ _ _ => .int _⟩ | exact (show False from h).elim
theorem ops_lt : OpS (rI0 fun i j => .bl (decide (i < j))) oLt := ops_int0 fun x y Q h => by
  cases x <;> cases y <;> first | exact ⟨_, _, _, rfl, rfl, h, fun _ _ _ _ => .bl _⟩ | exact (show False from h).elim
theorem ops_le : OpS (rI0 fun i j => .bl (decide (i ≤ j))) oLe := ops_int0 fun x y Q h => by
  cases x <;> cases y <;> first | exact ⟨_, _, _, rfl, rfl, h, fun _ _ _ _ => .bl _⟩ | exact (show False from h).elim
theorem ops_gt : OpS (rI0 fun i j => .bl (decide (j < i))) oGt := ops_int0 fun x y Q h => by
  cases x <;> cases y <;> first | exact ⟨_, _, _, rfl, rfl, h, fun _ _ _ _ => .bl _⟩ | exact (show False from h).elim
theorem ops_ge : OpS (rI0 fun i j => .bl (decide (j ≤ i))) oGe := ops_int0 fun x y Q h => by
  cases x <;> cases y <;> first | exact ⟨_, _, _, rfl, rfl, h, fun _ _ _ _ => .bl _⟩ | exact (show False from h).elim
theorem ops_mod : OpS (rI (fun _ j => j ≠ 0) fun i j => .int (i.fmod j)) oMod := ops_int fun x y Q h => by
  cases x <;> cases y <;> first | exact ⟨_, _, _, rfl, rfl, h.1, h.2, fun _ _ _ _ => .int _⟩ | exact (show False from h).elim
theorem ops_div : OpS (rI CDivW fun i j => .int (i / j)) oDiv := ops_int fun x y Q h => by
  cases x <;> cases y <;> first | exact ⟨_, _, _, rfl, rfl, wide_div (b := 300) h.1.1 h.1.2 (by decide) (by decide), h.2, fun _ _ _ _ => .int _⟩ | exact (show False from h).elim
theorem ops_pow : OpS (rI CPow fun i j => .int (i ^ j.toNat)) oPow := ops_int fun x y Q h => by
  cases x <;> cases y <;> first | exact ⟨_, _, _, rfl, rfl, ⟨h.1.1, by have := h.1.2.1; omega, by have := h.1.2.2; omega⟩, h.2, fun _ _ _ _ => .int _⟩ | exact (show False from h).elim
theorem ops_odd : OpS rOdd oOdd := fun fr ow H x y dx dy Qp Q _ rx ry h k => by
  cases dx <;> cases dy <;> try exact (show False from h).elim
  rename_i i j
  obtain ⟨⟨h1, rfl⟩, h2⟩ := h
  obtain ⟨n, rfl⟩ := Int.eq_ofNat_of_zero_le h1
  exact ⟨n, rx.int, ry.int, k _ _ H (.refl H) (.int _) (by simpa using h2)⟩
def rAddU (K : PySem.W.Frag) : R2 := fun x y H Q => rI0 (fun i j => .int (i + j)) x y H Q ∨ (rCat x y H Q ∨ rCatA K x y H Q)
theorem op_addU : OpR X (binaryOp .Add) (rAddU X.K) := op_cat2 op_add (op_cat2 op_cat op_catA)
theorem lim_line {n : Nat} (h : n ≤ LIM) : n ≤ sizeLine := by
  rw [sizeLine_eq]
  unfold LIM at h
  omega
theorem ops_add {K : PySem.W.Frag} : OpS (rAddU K) oAdd := fun fr ow H x y dx dy Qp Q fre rx ry h k => by
  cases dx <;> cases dy <;> try exact (show False from h).elim
  · exact .inl ⟨_, _, rx.int, ry.int, k _ _ H (.refl H) (.int _) h⟩
  · rename_i a b
    obtain ⟨p, vs, rfl, n1, e1, r1⟩ := rx.seq rfl
    obtain ⟨q, us, rfl, n2, e2, r2⟩ := ry.seq rfl
    have e1 : H p = some (.tup vs) := by rcases e1 with ⟨_, z⟩ | ⟨z, _⟩; cases z; exact z
    have e2 : H q = some (.tup us) := by rcases e2 with ⟨_, z⟩ | ⟨z, _⟩; cases z; exact z
    refine .inr (.inr ⟨p, q, vs, us, rfl, rfl, SqT.of e1, SqT.of e2, by rw [r1.length, r2.length]; exact lim_line h.1, fun z => ?_, fun z1 z => ?_, fun _ _ l hl => ?_⟩)
    · subst z
      cases r1
      exact k _ _ H (.refl H) (ry.rep fun _ z => by cases z) (by simpa using h.2)
    · subst z
      cases r2
      exact k _ _ H (.refl H) (rx.rep fun _ z => by cases z) (by simpa using h.2)
    · exact k _ _ _ (Same.new hl) (.fresh_tup hl (fre l hl) (r1.app r2)) h.2
  · rename_i a b
    obtain ⟨p, vs, rfl, n1, e1, r1⟩ := rx.seq rfl
    obtain ⟨q, us, rfl, n2, e2, r2⟩ := ry.seq rfl
    have e1 : H p = some (.lst vs) := by rcases e1 with ⟨z, _⟩ | ⟨_, z⟩; exact z; cases z
    have e2 : H q = some (.lst us) := by rcases e2 with ⟨z, _⟩ | ⟨_, z⟩; exact z; cases z
    exact .inr (.inl ⟨p, q, vs, us, rfl, rfl, e1, e2, by rw [r1.length, r2.length]; exact lim_line h.1, fun l hl => k _ _ _ (Same.new hl) (.fresh_lst hl (fre l hl) (r1.app r2)) h.2⟩)
def rMulU (K : PySem.W.Frag) : R2 := fun x y H Q => rI CMulW (fun i j => .int (i * j)) x y H Q ∨ (rRep x y H Q ∨ rRepT K x y H Q)
theorem op_mulU : OpR X (binaryOp .Mult) (rMulU X.K) := op_cat2 op_mulW (op_cat2 op_rep op_repT)
theorem ops_mul {K : PySem.W.Frag} : OpS (rMulU K) oMul := fun fr ow H x y dx dy Qp Q fre rx ry h k => by
  cases dx <;> cases dy <;> try exact (show False from h).elim
  · exact .inl ⟨_, _, rx.int, ry.int, wide_mul (a := 300) (b := 300) h.1.1 h.1.2 (by decide) (by decide) (by decide), k _ _ H (.refl H) (.int _) h.2⟩
  · rename_i a b
    obtain ⟨p, vs, rfl, n1, e1, r1⟩ := rx.seq rfl
    obtain rfl := ry.int
    have e1 : H p = some (.tup vs) := by rcases e1 with ⟨_, z⟩ | ⟨z, _⟩; cases z; exact z
    obtain ⟨⟨h1, h2, h3, h4⟩, h5⟩ := h
    refine .inr (.inr ⟨p, b, vs, rfl, rfl, SqT.of e1, fun z => h4 ?_, h1, h2, by rw [r1.length]; exact h3, fun l hl => k _ _ _ (Same.new hl) (.fresh_tup hl (fre l hl) (r1.rep (n := 0) _)) h5⟩)
    subst z
    cases r1
    rfl
  · rename_i a b
    obtain ⟨p, vs, rfl, n1, e1, r1⟩ := rx.seq rfl
    obtain rfl := ry.int
    have e1 : H p = some (.lst vs) := by rcases e1 with ⟨z, _⟩ | ⟨_, z⟩; exact z; cases z
    obtain ⟨⟨h1, h2, h3⟩, h4⟩ := h
    refine .inr (.inl ⟨p, b, vs, rfl, rfl, e1, by omega, by omega, ?_, fun l hl => k _ _ _ (Same.new hl) (.fresh_lst hl (fre l hl) (r1.rep (n := 0) _)) h4⟩)
    rw [r1.length]
    refine lim_line (Nat.le_trans (Nat.mul_le_mul h3 (show b.toNat ≤ 1000 by omega)) (by unfold LIM; decide))
theorem ops_is : OpS rIsN oIs := fun fr ow H x y dx dy Qp Q fre rx ry h k => by
  obtain ⟨rfl, h⟩ := h
  have e : y = V.non := by cases (ry.rep fun _ z => by cases z); rfl
  refine ⟨e, ?_⟩
  have e2 : decide (x = V.non) = dx.isNon := by
    rcases rx with r | ⟨i, xs, a, vs, rfl, rfl, _⟩
    · cases r <;> rfl
    · rfl
  rw [e2]
  exact k _ _ H (.refl H) (.bl _) h
theorem ops_isNot : OpS rNotN oIsNot := fun fr ow H x y dx dy Qp Q fre rx ry h k => by
  obtain ⟨rfl, h⟩ := h
  have e : y = V.non := by cases (ry.rep fun _ z => by cases z); rfl
  refine ⟨e, ?_⟩
  have e2 : decide (x = V.non) = dx.isNon := by
    rcases rx with r | ⟨i, xs, a, vs, rfl, rfl, _⟩
    · cases r <;> rfl
    · rfl
  rw [e2]
  exact k _ _ H (.refl H) (.bl _) h
theorem ops_eq {K : PySem.W.Frag} : OpS (rEqD K) oEq := fun fr ow H x y dx dy Qp Q fre rx ry h k => by
  obtain ⟨a, b, h1, h2, h3, h4, h5⟩ := h
  exact ⟨a, b, rx.dp h1, ry.dp h2, h3, h4, k _ _ H (.refl H) (.bl _) h5⟩
theorem ops_ne {K : PySem.W.Frag} : OpS (rNeD K) oNe := fun fr ow H x y dx dy Qp Q fre rx ry h k => by
  obtain ⟨a, b, h1, h2, h3, h4, h5⟩ := h
  exact ⟨a, b, rx.dp h1, ry.dp h2, h3, h4, k _ _ H (.refl H) (.bl _) h5⟩
theorem ops_ix {K : PySem.W.Frag} : OpS (rIxS K) oIx := fun fr ow H x y dx dy Qp Q fre rx ry h k => by
  cases dx <;> cases dy <;> try exact (show False from h).elim
  · obtain ⟨j, d, h1, h2, h3⟩ := h
    obtain ⟨p, vs, rfl, n1, e1, r1⟩ := rx.seq rfl
    obtain rfl := ry.int
    have e1 : H p = some (.tup vs) := by rcases e1 with ⟨_, z⟩ | ⟨z, _⟩; cases z; exact z
    obtain ⟨v, q1, q2⟩ := r1.get h2
    exact .inr ⟨p, vs, _, v, rfl, rfl, SqT.of e1, by unfold atI; rw [r1.length, show ixN _ _ = some j from h1]; exact q1, k _ _ H (.refl H) q2 h3⟩
  · obtain ⟨j, d, h1, h2, h3⟩ := h
    obtain ⟨p, vs, rfl, n1, e1, r1⟩ := rx.seq rfl
    obtain rfl := ry.int
    have e1 : H p = some (.lst vs) := by rcases e1 with ⟨z, _⟩ | ⟨_, z⟩; exact z; cases z
    obtain ⟨v, q1, q2⟩ := r1.get h2
    exact .inl ⟨p, vs, _, v, rfl, rfl, SqL.of e1, by unfold atI; rw [r1.length, show ixN _ _ = some j from h1]; exact q1, k _ _ H (.refl H) q2 h3⟩
theorem sc_eqV {fr : Fr} {ow : Ow} {H : Hp} {x y : V} {dx dy : D} {M : Addr → Prop} (rx : Rep fr.Z.g fr.d0 M H x dx) (ry : RepB fr ow H y dy) (fx : dx.flat = true) (fy : dy.flat = true) : eqV x y = D.sc dx dy := by
  have ry2 := ry.rep fun xs z => by subst z; cases fy
  cases rx <;> cases ry2 <;> first | rfl | (cases fx; done) | (cases fy; done)
theorem any_sc {fr : Fr} {ow : Ow} {H : Hp} {y : V} {dy : D} (ry : RepB fr ow H y dy) (fy : dy.flat = true) : ∀ {vs : List V} {ds : List D}, Reps fr.Z.g fr.d0 (MM fr ow) H vs ds → ds.all D.flat = true → inV y vs = ds.any fun z => D.sc z dy
  | _, _, .nil, _ => rfl
  | _, _, .cons r t, e => by
    rw [List.all_cons, Bool.and_eq_true] at e
    show (eqV _ y || inV y _) = (D.sc _ dy || _)
    rw [sc_eqV r ry e.1 fy, any_sc ry fy t e.2]
theorem ops_in {K : PySem.W.Frag} : OpS (rIn K false) oIn := fun fr ow H x y dx dy Qp Q fre rx ry h k => by
  obtain ⟨ys, h1, h2, h3, h4⟩ := h
  obtain ⟨p, vs, rfl, n1, e1, r1⟩ := ry.seq h1
  refine ⟨p, vs, rfl, ?_, rx.flat h2, r1.flat h3, ?_⟩
  · rcases e1 with ⟨z, _⟩ | ⟨z, _⟩
    · exact .inl (SqL.of z)
    · exact .inr (SqT.of z)
  · rw [if_neg Bool.false_ne_true, any_sc rx h2 r1 h3]
    exact k _ _ H (.refl H) (.bl _) h4
theorem ops_notIn {K : PySem.W.Frag} : OpS (rIn K true) oNotIn := fun fr ow H x y dx dy Qp Q fre rx ry h k => by
  obtain ⟨ys, h1, h2, h3, h4⟩ := h
  obtain ⟨p, vs, rfl, n1, e1, r1⟩ := ry.seq h1
  refine ⟨p, vs, rfl, ?_, rx.flat h2, r1.flat h3, ?_⟩
  · rcases e1 with ⟨z, _⟩ | ⟨z, _⟩
    · exact .inl (SqL.of z)
    · exact .inr (SqT.of z)
  · rw [if_pos rfl, any_sc rx h2 r1 h3]
    exact k _ _ H (.refl H) (.bl _) h4
/-- xs + ys of lists is a new list -/
theorem qf_cat (ha : QB Z X E e1 w1) (hb : QB Z X E e2 w2) : QF Z X E (.BinOp e1 .Add e2 pos) (wOp oCatL w1 w2) := (pe_op (op_addU (X := X)) ha hb).wk fun σ H Q ⟨fr, ow, env, Qp, Ep, A, hw, post⟩ =>
  ⟨fr, ow, env, _, Ep, A, hw, fun dx x H1 n1 r1 q1 => ⟨fr, ow, env, _, Ep, A.mv n1, q1, fun dy y H2 n2 r2 q2 => by
    have r1 := r1.mv n2
    cases dx <;> cases dy <;> try exact (show False from q2).elim
    obtain ⟨p, vs, rfl, n3, e1, s1⟩ := r1.seq rfl
    obtain ⟨q, us, rfl, n4, e2, s2⟩ := r2.seq rfl
    have e1 : H2 p = some (.lst vs) := by rcases e1 with ⟨z, _⟩ | ⟨_, z⟩; exact z; cases z
    have e2 : H2 q = some (.lst us) := by rcases e2 with ⟨z, _⟩ | ⟨_, z⟩; exact z; cases z
    refine .inr (.inl ⟨p, q, vs, us, rfl, rfl, e1, e2, by rw [s1.length, s2.length]; exact lim_line q2.1, fun l hl => ?_⟩)
    have n5 := n1.trans n2
    refine post _ _ _ (n5.same (Same.new hl)) ⟨l, _, rfl, ?_, upd_same, (s1.app s2).lat fun a o _ n h => ⟨by rw [upd_ne (ne_of_none h hl)]; exact h, fun z => ?_⟩⟩ q2.2
    · cases z : H l with
      | none => rfl
      | some o => exact absurd hl (n5.ex _ (by rw [z]; exact fun y => by cases y))
    · rcases z with z | z
      · exact n z
      · exact ne_of_none h hl z⟩⟩
end
end Oil
/-! Expressions, tests, arguments, calls by data. -/
namespace Oil
open PySem PySem.Spec PyProof.Rows L2
section
variable {Z : ZM} {X : Cx} {E : XK} {e e1 e2 e3 : Expr} {es : List Expr} {w w1 w2 w3 : WE} {t t2 : WA} {u u1 u2 : WT} {pos p : Pos} {i : Nat} {x : Str}
theorem qe_neg (ha : QE Z X E e w) : QE Z X E (.UnaryOp .USub e pos) (wNeg w) := (pe_un un_neg ha).wk fun σ H Q ⟨fr, ow, env, Qp, Ep, A, hw, post⟩ =>
  ⟨fr, ow, env, _, Ep, A, hw, fun d v H1 n1 r1 q1 => by
    cases d <;> try exact (show False from q1).elim
    exact ⟨_, r1.ix, post _ _ H1 n1 (.int _) q1⟩⟩
theorem qe_chain {op op' : CmpOp} {r r' : R2} {g g' : O2} (ho : OpR X (compareOp op) r) (s : OpS r g) (ho' : OpR X (compareOp op') r') (s' : OpS r' g') (ha : QB Z X E e1 w1) (hb : QB Z X E e2 w2) (hc : QB Z X E e3 w3) (hm : lastMarks [op, op'] [e2, e3] = false := by rfl) :
    QE Z X E (.Compare e1 [op, op'] [e2, e3] pos) (wChain g g' w1 w2 w3) := (pe_chain ho ho' ha hb hc hm).wk fun σ H Q ⟨fr, ow, env, Qp, Ep, A, hw, post⟩ =>
  ⟨fr, ow, env, _, Ep, A, hw, fun dx x H1 n1 r1 q1 => ⟨fr, ow, env, _, Ep, A.mv n1, q1, fun dy y H2 n2 r2 q2 => by
    refine s fr ow H2 x y dx dy _ _ (fun p hp => (A.g.mv (n1.trans n2)).fresh hp) (r1.mv n2) r2 q2 fun d v H' e' r q => ?_
    have n3 := n1.trans (n2.trans (.of n2.dice e'))
    cases r <;> try exact (show False from q).elim
    rename_i b
    cases b with
    | true => exact ⟨true, rfl, by rw [if_pos rfl]; exact ⟨fr, ow, env, _, Ep, A.mv n3, q, fun du u H4 n4 r4 q4 =>
        s' fr ow H4 y u dy du Qp Q (fun p hp => (A.g.mv (n3.trans n4)).fresh hp) ((r2.mv (.of n2.dice e')).mv n4) r4 q4 fun d v H' e r q => post d v H' (n3.trans (n4.trans (.of n4.dice e))) r q⟩⟩
    | false => exact ⟨false, rfl, (by rw [if_neg Bool.false_ne_true]; exact post _ _ _ n3 (.bl _) q)⟩⟩⟩
theorem qe_one {op} (h : QE Z X E e w) : QE Z X E (.BoolOp op [e] pos) w := pe_one h
theorem qe_and (ha : QE Z X E e w) (hb : QE Z X E (.BoolOp .And (e1 :: es) pos) w1) : QE Z X E (.BoolOp .And (e :: e1 :: es) pos) (wAnd w w1) := (pe_and ha hb).wk fun σ H Q ⟨fr, ow, env, Qp, Ep, A, hw, post⟩ =>
  ⟨fr, ow, env, _, Ep, A, hw, fun d v H1 n1 r1 q1 => by
    cases r1 <;> try exact (show False from q1).elim
    rename_i b
    cases b with
    | true => exact ⟨true, rfl, ⟨fr, ow, env, _, Ep, A.mv n1, q1, fun d v H2 n2 r2 q2 => post d v H2 (n1.trans n2) r2 q2⟩⟩
    | false => exact ⟨false, rfl, post _ _ _ n1 (.bl _) q1⟩⟩
theorem qe_or (ha : QE Z X E e w) (hb : QE Z X E (.BoolOp .Or (e1 :: es) pos) w1) : QE Z X E (.BoolOp .Or (e :: e1 :: es) pos) (wOr w w1) := (pe_or ha hb).wk fun σ H Q ⟨fr, ow, env, Qp, Ep, A, hw, post⟩ =>
  ⟨fr, ow, env, _, Ep, A, hw, fun d v H1 n1 r1 q1 => by
    cases r1 <;> try exact (show False from q1).elim
    rename_i b
    cases b with
    | false => exact ⟨false, rfl, ⟨fr, ow, env, _, Ep, A.mv n1, q1, fun d v H2 n2 r2 q2 => post d v H2 (n1.trans n2) r2 q2⟩⟩
    | true => exact ⟨true, rfl, post _ _ _ n1 (.bl _) q1⟩⟩
theorem qe_not (ha : QE Z X E e w) : QE Z X E (.UnaryOp .Not e pos) (wNot w) := (pe_not ha).wk fun σ H Q ⟨fr, ow, env, Qp, Ep, A, hw, post⟩ =>
  ⟨fr, ow, env, _, Ep, A, hw, fun d v H1 n1 r1 q1 => by
    cases r1 <;> try exact (show False from q1).elim
    exact ⟨_, rfl, post _ _ _ n1 (.bl _) q1⟩⟩
theorem qe_if (hc : QT Z X E e u) (ha : QE Z X E e1 w1) (hb : QE Z X E e2 w2) : QE Z X E (.IfExp e e1 e2 pos) (wIf u w1 w2) := (pe_ifExp hc ha hb).wk fun σ H Q ⟨fr, ow, env, Qp, Ep, A, hw, post⟩ =>
  ⟨fr, ow, env, _, Ep, A, hw, fun b H1 n1 q1 => by
    cases b with
    | true => exact ⟨fr, ow, env, _, Ep, A.mv n1, q1, fun d v H2 n2 r2 q2 => post d v H2 (n1.trans n2) r2 q2⟩
    | false => exact ⟨fr, ow, env, _, Ep, A.mv n1, q1, fun d v H2 n2 r2 q2 => post d v H2 (n1.trans n2) r2 q2⟩⟩
/-! ### tests -/
theorem qt_val (h : QE Z X E e w) (he : ∀ whole, isTrue e X.env whole = (do let v ← whole; standAt e.pos; holding [v] (truthy v)) := by intro _; rfl) : QT Z X E e (wtVal w) := (pt_val h he).wk fun σ H Q ⟨fr, ow, env, Qp, Ep, A, hw, post⟩ =>
  ⟨fr, ow, env, _, Ep, A, hw, fun d v H1 n1 r1 q1 => by
    cases r1 <;> try exact (show False from q1).elim
    exact ⟨_, rfl, post _ _ n1 q1⟩⟩
theorem tru_b {fr : Fr} {ow : Ow} {H : Hp} {v : V} {d : D} {b : Bool} {K : PySem.W.Frag} (r : RepB fr ow H v d) (e : d.tru = some b) : TruV K v H b := by
  cases hd : d.items with
  | some xs =>
    obtain ⟨a, vs, rfl, _, h1, h2⟩ := r.seq hd
    have e2 : b = !vs.isEmpty := by
      rcases h1 with ⟨_, rfl⟩ | ⟨_, rfl⟩ <;> (cases e; cases h2 <;> rfl)
    rcases h1 with ⟨h1, rfl⟩ | ⟨h1, rfl⟩
    · exact .inl ⟨vs, SqL.of h1, e2⟩
    · exact .inr (.inl ⟨vs, SqT.of h1, e2⟩)
  | none =>
    have r2 := r.rep fun xs z => by subst z; cases hd
    cases r2 <;> first | (cases e; first | exact rfl | done) | cases hd
theorem qt_tru (h : QB Z X E e w) (he : ∀ whole, isTrue e X.env whole = (do let v ← whole; standAt e.pos; holding [v] (truthy v)) := by intro _; rfl) : QT Z X E e (wtTru w) := (pt_tru h he).wk fun σ H Q ⟨fr, ow, env, Qp, Ep, A, hw, post⟩ =>
  ⟨fr, ow, env, _, Ep, A, hw, fun d v H1 n1 r1 q1 => by
    split at q1
    · rename_i b e
      exact ⟨b, tru_b r1 e, post _ _ n1 q1⟩
    · exact q1.elim⟩
theorem qt_cmp {op : CmpOp} {r : R2} {g : O2} (ho : OpR X (compareOp op) r) (s : OpS r g) (ha : QB Z X E e1 w1) (hb : QB Z X E e2 w2) (hm : behindInMarks op e2 = false := by exact nomark _) : QT Z X E (.Compare e1 [op] [e2] pos) (wtVal (wOp g w1 w2)) :=
  (pt_cmpR ho ha hb hm).wk fun σ H Q ⟨fr, ow, env, Qp, Ep, A, hw, post⟩ => rd_two s σ H _ ⟨fr, ow, env, _, Ep, A, hw, fun d v H1 n1 r1 q1 => by
    cases r1 <;> try exact (show False from q1).elim
    exact ⟨_, rfl, post _ _ n1 q1⟩⟩
theorem qt_chain {op op' : CmpOp} {r r' : R2} {g g' : O2} (ho : OpR X (compareOp op) r) (s : OpS r g) (ho' : OpR X (compareOp op') r') (s' : OpS r' g') (ha : QB Z X E e1 w1) (hb : QB Z X E e2 w2) (hc : QB Z X E e3 w3) (hm : lastMarks [op, op'] [e2, e3] = false := by rfl) : QT Z X E (.Compare e1 [op, op'] [e2, e3] pos) (wtVal (wChain g g' w1 w2 w3)) := by
  refine PT.wk (pt_chain ho ho' ha hb hc hm) fun σ H Q ⟨fr, ow, env, Qp, Ep, A, hw, post⟩ => ?_
  exact ⟨fr, ow, env, _, Ep, A, hw, fun dx x H1 n1 r1 q1 => ⟨fr, ow, env, _, Ep, A.mv n1, q1, fun dy y H2 n2 r2 q2 => by
    refine s fr ow H2 x y dx dy _ _ (fun p hp => (A.g.mv (n1.trans n2)).fresh hp) (r1.mv n2) r2 q2 fun d v H' e' r q => ?_
    have n3 := n1.trans (n2.trans (.of n2.dice e'))
    cases r <;> try exact (show False from q).elim
    rename_i b
    cases b with
    | true => exact ⟨true, rfl, by rw [if_pos rfl]; exact ⟨fr, ow, env, _, Ep, A.mv n3, q, fun du u H4 n4 r4 q4 => by
        refine s' fr ow H4 y u dy du _ _ (fun p hp => (A.g.mv (n3.trans n4)).fresh hp) ((r2.mv (.of n2.dice e')).mv n4) r4 q4 fun d v H' e r q => ?_
        cases r <;> try exact (show False from q).elim
        exact ⟨_, rfl, post _ _ (n3.trans (n4.trans (.of n4.dice e))) q⟩⟩⟩
    | false => exact ⟨false, rfl, (by rw [if_neg Bool.false_ne_true]; exact ⟨_, rfl, post _ _ n3 q⟩)⟩⟩⟩
theorem qt_not (h : QT Z X E e u) : QT Z X E (.UnaryOp .Not e pos) (wtNot u) := (pt_not h).wk fun σ H Q ⟨fr, ow, env, Qp, Ep, A, hw, post⟩ =>
  ⟨fr, ow, env, _, Ep, A, hw, fun b H1 n1 q1 => post _ _ n1 q1⟩
theorem qw_and1 (h : QT Z X E e u) : QW Z X E (.BoolOp .And [e] pos) u := pw_and1 h
theorem qw_or1 (h : QT Z X E e u) : QW Z X E (.BoolOp .Or [e] pos) u := pw_or1 h
theorem qw_and (ha : QT Z X E e u) (hb : QW Z X E (.BoolOp .And (e1 :: es) pos) u1) : QW Z X E (.BoolOp .And (e :: e1 :: es) pos) (wtAnd u u1) := (pw_and ha hb).wk fun σ H Q ⟨fr, ow, env, Qp, Ep, A, hw, post⟩ =>
  ⟨fr, ow, env, _, Ep, A, hw, fun b H1 n1 q1 => by
    cases b with
    | true => exact ⟨fr, ow, env, _, Ep, A.mv n1, q1, fun b H2 n2 q2 => post b H2 (n1.trans n2) q2⟩
    | false => exact post _ _ n1 q1⟩
theorem qw_or (ha : QT Z X E e u) (hb : QW Z X E (.BoolOp .Or (e1 :: es) pos) u1) : QW Z X E (.BoolOp .Or (e :: e1 :: es) pos) (wtOr u u1) := (pw_or ha hb).wk fun σ H Q ⟨fr, ow, env, Qp, Ep, A, hw, post⟩ =>
  ⟨fr, ow, env, _, Ep, A, hw, fun b H1 n1 q1 => by
    cases b with
    | true => exact post _ _ n1 q1
    | false => exact ⟨fr, ow, env, _, Ep, A.mv n1, q1, fun b H2 n2 q2 => post b H2 (n1.trans n2) q2⟩⟩
theorem qt_w (h : QW Z X E e u) : QT Z X E e u := h.pt
/-! ### arguments -/
theorem qa_nil : QA Z X E [] wNil := pa_nil.wk fun σ H Q ⟨fr, ow, env, Qp, Ep, A, hw, post⟩ => post [] [] H (.refl A.g.dice) .nil hw
theorem qa_cons (ha : QE Z X E e w) (hr : QA Z X E es t) (hs : starEach (e :: es) X.env = (false, eval e X.env) :: starEach es X.env := by rfl) : QA Z X E (e :: es) (wCons w t) := (pa_cons ha hr hs).wk fun σ H Q ⟨fr, ow, env, Qp, Ep, A, hw, post⟩ =>
  ⟨fr, ow, env, _, Ep, A, hw, fun d v H1 n1 r1 q1 => ⟨fr, ow, env, _, Ep, A.mv n1, q1, fun ds vs H2 n2 r2 q2 => post _ _ H2 (n1.trans n2) (.cons (r1.lat (Nz.lat n2 MM.d0)) r2) q2⟩⟩
theorem qa_star (ha : QB Z X E e w) (hr : QA Z X E es t) (hs : starEach (.Starred e p :: es) X.env = (true, eval e X.env) :: starEach es X.env := by rfl) : QA Z X E (.Starred e p :: es) (wStar w t) := (StX.pa_star ha hr hs).wk fun σ H Q ⟨fr, ow, env, Qp, Ep, A, hw, post⟩ =>
  ⟨fr, ow, env, _, Ep, A, hw, fun d v H1 n1 r1 q1 => by
    split at q1
    · rename_i ys e
      obtain ⟨a, vs, rfl, _, h1, h2⟩ := r1.seq e
      refine ⟨a, vs, rfl, ?_, ⟨fr, ow, env, _, Ep, A.mv n1, q1, fun ds us H2 n2 r2 q2 => post _ _ H2 (n1.trans n2) ((h2.lat (Nz.lat n2 MM.d0)).app r2) q2⟩⟩
      rcases h1 with ⟨z, _⟩ | ⟨z, _⟩
      · exact .inr (SqL.of z)
      · exact .inl (SqT.of z)
    · exact q1.elim⟩
theorem qab_nil : QAB Z X E [] wNil := pa_nil.wk fun σ H Q ⟨fr, ow, env, Qp, Ep, A, hw, post⟩ => post [] [] H (.refl A.g.dice) .nil hw
theorem RepsB.mv {fr : Fr} {ow : Ow} {H H' : Hp} (x : N0 fr.Z.g.tb fr.K fr.d0 H H') : ∀ {vs : List V} {ds : List D}, RepsB fr ow H vs ds → RepsB fr ow H' vs ds
  | _, _, .nil => .nil
  | _, _, .cons r t => .cons (r.mv x) (RepsB.mv x t)
theorem qab_cons (ha : QB Z X E e w) (hr : QAB Z X E es t) (hs : starEach (e :: es) X.env = (false, eval e X.env) :: starEach es X.env := by rfl) : QAB Z X E (e :: es) (wCons w t) := (pa_cons ha hr hs).wk fun σ H Q ⟨fr, ow, env, Qp, Ep, A, hw, post⟩ =>
  ⟨fr, ow, env, _, Ep, A, hw, fun d v H1 n1 r1 q1 => ⟨fr, ow, env, _, Ep, A.mv n1, q1, fun ds vs H2 n2 r2 q2 => post _ _ H2 (n1.trans n2) (.cons (r1.mv n2) r2) q2⟩⟩
theorem qe_tup {x1} (h : QA Z X E es t) : QE Z X E (.Tuple es x1 pos) (wTup t) := (pe_tup h).wk fun σ H Q ⟨fr, ow, env, Qp, Ep, A, hw, post⟩ =>
  ⟨fr, ow, env, _, Ep, A, hw, fun ds vs H1 n1 r1 q1 => ⟨by rw [r1.length]; exact lim_line q1.1, fun l hl => post _ _ _ (n1.same (Same.new hl)) (.fresh_tup hl ((A.g.mv n1).fresh hl) r1) q1.2⟩⟩
theorem New.of {fr : Fr} {ow : Ow} {H H1 : Hp} {l : Addr} {vs : List V} {ds : List D} (n1 : N0 fr.Z.g.tb fr.K fr.d0 H H1) (hl : H1 l = none) (r1 : Reps fr.Z.g fr.d0 (MM fr ow) H1 vs ds) : New fr ow H (upd H1 l (.lst vs)) (.ref l) ds := by
  refine ⟨l, vs, rfl, ?_, upd_same, r1.lat fun a o _ n h => ⟨by rw [upd_ne (ne_of_none h hl)]; exact h, fun z => ?_⟩⟩
  · cases z : H l with
    | none => rfl
    | some o => exact absurd hl (n1.ex _ (by rw [z]; exact fun y => by cases y))
  · rcases z with z | z
    · exact n z
    · exact ne_of_none h hl z
theorem qf_lst (h : QA Z X E es t) : QF Z X E (.List es pos) (wLst t) := (pe_lst h).wk fun σ H Q ⟨fr, ow, env, Qp, Ep, A, hw, post⟩ =>
  ⟨fr, ow, env, _, Ep, A, hw, fun ds vs H1 n1 r1 q1 => ⟨by rw [r1.length]; exact lim_line q1.1, fun l hl => post _ _ _ (n1.same (Same.new hl)) (.of n1 hl r1) q1.2⟩⟩
/-! ### slices -/
def RdO (Z : ZM) (K : PySem.W.Frag) (E : XK) (w : WO) : TO := fun σ H Q => ∃ fr ow env Qp Ep, At Z K E fr ow H σ env Ep ∧ w env Qp Ep ∧ ∀ o H', N0 fr.Z.g.tb fr.K fr.d0 H H' → Qp o → Q o H'
theorem _root_.L2.PO.wk {X : Cx} {e : Option Expr} {t t' : TO} (h : PO X e t) (k : ∀ σ H Q, t' σ H Q → t σ H Q) : PO X e t' := ⟨fun pins s σ H Q I q => h.run pins s σ H Q I (k σ H Q q)⟩
theorem qo_none : PO X none (RdO Z X.K E wNoPart) := po_none.wk fun σ H Q ⟨fr, ow, env, Qp, Ep, A, hw, post⟩ => post _ H (.refl A.g.dice) hw
theorem qo_some (h : QE Z X E e w) : PO X (some e) (RdO Z X.K E (wPart w)) := (po_some h).wk fun σ H Q ⟨fr, ow, env, Qp, Ep, A, hw, post⟩ =>
  ⟨fr, ow, env, _, Ep, A, hw, fun d v H1 n1 r1 q1 => by
    cases d <;> try exact (show False from q1).elim
    exact ⟨_, r1.ix, post _ H1 n1 q1⟩⟩
def rSlU (K : PySem.W.Frag) : V → Option Int → Option Int → Hp → VK → Prop := fun x lo hi H Q => rSlL K x lo hi H Q ∨ rSlA K x lo hi H Q
theorem qe_slice {lo hi : Option Expr} {tl th : WO} {p2 : Pos} (ha : QB Z X E e w) (hl : PO X lo (RdO Z X.K E tl)) (hu : PO X hi (RdO Z X.K E th)) : QE Z X E (.Subscript e (.Slice lo hi none p2) pos) (wSlice w tl th) :=
  (pe_slice (SlR.or (sl_list (X := X)) sl_tupA) ha hl hu).wk fun σ H Q ⟨fr, ow, env, Qp, Ep, A, hw, post⟩ =>
  ⟨fr, ow, env, _, Ep, A, hw, fun d v H1 n1 r1 q1 => ⟨fr, ow, env, _, Ep, A.mv n1, q1, fun l H2 n2 q2 => ⟨fr, ow, env, _, Ep, (A.mv n1).mv n2, q2, fun h H3 n3 q3 => by
    have r3 := (r1.mv n2).mv n3
    have n4 := n1.trans (n2.trans n3)
    cases d <;> try exact (show False from q3).elim
    · rename_i xs
      obtain ⟨a, vs, rfl, _, h1, h2⟩ := r3.seq rfl
      have h1 : H3 a = some (.tup vs) := by rcases h1 with ⟨_, z⟩ | ⟨z, _⟩; cases z; exact z
      refine .inr ⟨a, vs, rfl, SqT.of h1, fun z => ?_, fun z p hp => post _ _ _ (n4.same (Same.new hp)) (.fresh_tup hp ((A.g.mv n4).fresh hp) (h2.cut l h)) q3⟩
      have e : cutD xs l h = xs := by
        unfold cutD
        rw [← h2.length, z.1, z.2, List.drop_zero, Nat.sub_zero, h2.length, List.take_length]
      have q3 : Qp (.tup (cutD xs l h)) := q3
      rw [e] at q3
      exact post _ _ _ n4 (r3.rep fun _ z => by cases z) q3
    · obtain ⟨a, vs, rfl, _, h1, h2⟩ := r3.seq rfl
      have h1 : H3 a = some (.lst vs) := by rcases h1 with ⟨z, _⟩ | ⟨_, z⟩; exact z; cases z
      exact .inl ⟨a, vs, rfl, SqL.of h1, fun p hp => post _ _ _ (n4.same (Same.new hp)) (.fresh_lst hp ((A.g.mv n4).fresh hp) (h2.cut l h)) q3⟩⟩⟩⟩
/-! ### fields -/
theorem zip_look {f : Str} {d : D} {M : Addr → Prop} {Z : ZG} {d0 : Addr} {H : Hp} : ∀ {ns : List Str} {vs : List V} {ds : List D}, Reps Z d0 M H vs ds → (ns.zip ds).lookup f = some d → ∃ v, (ns.zip vs).lookup f = some v ∧ Rep Z d0 M H v d
  | [], _, _, _, e => by simp at e
  | _ :: _, _, _, .nil, e => by simp at e
  | n :: ns, _, _, .cons (v := v) (d := d2) (vs := vs) (ds := ds) r t, e => by
    rw [List.zip_cons_cons] at e
    by_cases h : f = n
    · subst h
      rw [look1] at e
      cases e
      exact ⟨v, by rw [List.zip_cons_cons, look1], r⟩
    · rw [look2 h] at e
      obtain ⟨v2, q1, q2⟩ := zip_look (ns := ns) t e
      exact ⟨v2, by rw [List.zip_cons_cons, look2 h]; exact q1, q2⟩
where
  look1 {α : Type} {f : Str} {v : α} {r : List (Str × α)} : ((f, v) :: r).lookup f = some v := by simp [List.lookup]
  look2 {α : Type} {f g : Str} {v : α} {r : List (Str × α)} (h : ¬ f = g) : ((g, v) :: r).lookup f = r.lookup f := by
    have q : (f == g) = false := by simpa using h
    simp [List.lookup, q]
theorem qe_fld {c : Nat} {f : Str} (hC : Cls X.K (Z c)) (hn : NoAttr X.K (Z c) f) (ha : QE Z X E e w) (hb : attributeBase e f X.env (eval e X.env) = eval e X.env := by rfl) : QE Z X E (.Attribute e f pos) (wFld c f w) := (pe_fld ha hb).wk fun σ H Q ⟨fr, ow, env, Qp, Ep, A, hw, post⟩ =>
  ⟨fr, ow, env, _, Ep, A, hw, fun d v H1 n1 r1 q1 => by
    cases d <;> try exact (show False from q1).elim
    obtain ⟨rfl, d, h1, h2⟩ := q1
    cases r1 with
    | ins h3 h4 h5 h6 =>
      obtain ⟨u, q1, q2⟩ := zip_look h6 h1
      rw [A.z] at h3
      exact ⟨_, _, _, _, u, rfl, h3, hC, hn, q1, post _ _ H1 n1 q2 h2⟩⟩
/-! ### calls -/
/-- a promise by data -/
def SpD (Z : ZG) (K : PySem.W.Frag) (P : PSpec) : Sp := fun vs H Q E => ∃ (d0 : Addr) (M : Addr → Prop) (ds : List D) (Qp : QD) (Ep : QR), Dice K H d0 ∧ LamX.Tabs Z.tb H ∧ (∀ a, M a → Has H a) ∧ Reps Z d0 (fun a => a = d0 ∨ M a) H vs ds ∧ P ds Qp Ep ∧
  (∀ d v H', N0 Z.tb K d0 H H' → Rep Z d0 (fun a => a = d0 ∨ M a) H' v d → Qp d → Q v H') ∧ (∀ er cls dd H', N0 Z.tb K d0 H H' → RepE Z d0 (fun a => a = d0 ∨ M a) H' er cls dd → Ep er → E cls dd H')
theorem Good.tabs {fr : Fr} {ow : Ow} {H : Hp} {σ : L2.St} {env : Ev} (G : Good fr ow H σ env) : LamX.Tabs fr.Z.g.tb H := G.nx.tabs G.t0
theorem spd_of {P : PSpec} {fr : Fr} {ow : Ow} {H H1 : Hp} {σ : L2.St} {env : Ev} {Qp : QD} {Ep : QR} {Q : VK} {vs : List V} {ds : List D} (A : At Z X.K E fr ow H σ env Ep) (n1 : N0 fr.Z.g.tb fr.K fr.d0 H H1) (r : Reps fr.Z.g fr.d0 (MM fr ow) H1 vs ds) (h : P ds Qp Ep)
    (post : ∀ d v H', N0 fr.Z.g.tb fr.K fr.d0 H H' → Rep fr.Z.g fr.d0 (MM fr ow) H' v d → Qp d → Q v H') : SpD Z.g X.K P vs H1 Q E := by
  have A1 := A.mv n1
  refine ⟨fr.d0, fun a => MM fr ow a, ds, Qp, Ep, by rw [← A.k]; exact A1.g.dice, by rw [← A.z]; exact A1.g.tabs, A1.g.mex, ?_, h, fun d v H' n r q => ?_, fun er cls dd H' n r q => ?_⟩
  · rw [← A.z]
    exact r.lat (.sub fun a z => z.elim (fun z => z ▸ MM.d0) id)
  · rw [← A.z] at r n
    rw [← A.k] at n
    exact post d v H' (n1.trans n) (r.lat (.sub fun a z => .inr z)) q
  · rw [← A.z] at r n
    rw [← A.k] at n
    exact A1.er er cls dd H' n (r.lat (.sub fun a z => .inr z)) q
variable {k j : Nat} {P : PSpec} {c : Nat} {m : Str} {apos : Pos}
theorem qe_call (g : Cal X.prog X.w X.K X.mg X.base k x (SpD Z.g X.K P)) (hr : Room j X.A) (hk : k ≤ j) (hx : Passes (L2.CX X.prog X.w) X E) (ha : QA Z X E (e :: es) t) (hg : Gl X x := by rfl)
    (hdb : (x == ("__debug__" : Str)) = false := by decide) (he : starEach (e :: es) X.env = (false, eval e X.env) :: starEach es X.env := by rfl) (hpl : (backTo pos (starEach es X.env)).any (·.1) = false := by rfl) :
    QE Z X E (.Call (.Name x p) (e :: es) [] pos) (wCall P t) := (pe_cal g hr hk hx ha hg hdb he hpl).wk fun σ H Q ⟨fr, ow, env, Qp, Ep, A, hw, post⟩ =>
  ⟨fr, ow, env, _, Ep, A, hw, fun ds vs H1 n1 r1 q1 => spd_of A n1 r1 q1 post⟩
theorem qe_call0 (g : Cal X.prog X.w X.K X.mg X.base k x (SpD Z.g X.K P)) (hr : Room j X.A) (hk : k ≤ j) (hx : Passes (L2.CX X.prog X.w) X E) (hg : Gl X x := by rfl)
    (hdb : (x == ("__debug__" : Str)) = false := by decide) : QE Z X E (.Call (.Name x p) [] [] pos) (wCall P wNil) := (pe_cal0 g hr hk hx hg hdb).wk fun σ H Q ⟨fr, ow, env, Qp, Ep, A, hw, post⟩ =>
  spd_of A (.refl A.g.dice) .nil hw post
/-- the instance of c at v -/
theorem Rep.insAt {fr : Fr} {M : Addr → Prop} {H : Hp} {v : V} {ns : List Str} {xs : List D} (r : Rep fr.Z.g fr.d0 M H v (.ins c ns xs)) (hz : fr.Z = Z) : ∃ a dx vs, v = .ref a ∧ H a = some (.ins (Z c) dx (ns.zip vs)) := by
  cases r with
  | ins h3 h4 h5 h6 => exact ⟨_, _, _, rfl, by rw [← hz]; exact h3⟩
theorem At.e0 {fr : Fr} {ow : Ow} {H : Hp} {σ : L2.St} {env : Ev} {Ep : QR} {K : PySem.W.Frag} (A : At Z K E fr ow H σ env Ep) : At Z K E0 fr ow H σ env (fun _ => False) := ⟨A.z, A.k, A.g, fun _ _ _ _ _ _ z => z.elim⟩
theorem qe_prop {f : Str} (ha : QE Z X E e w) (g : Prp X.prog X.w X.K X.mg X.base k (Z c) f (SpD Z.g X.K P)) (hr : Room j X.A) (hk : k + 1 ≤ j) (hab : attributeBase e f X.env (eval e X.env) = eval e X.env := by rfl) : QE Z X E (.Attribute e f pos) (wProp c P w) :=
  (pe_prp ha g hr hk (passL (X := X.nox)) hab).wk fun σ H Q ⟨fr, ow, env, Qp, Ep, A, hw, post⟩ =>
  ⟨fr, ow, env, _, Ep, A, hw, fun d v H1 n1 r1 q1 => by
    cases d <;> try exact (show False from q1).elim
    obtain ⟨rfl, q1⟩ := q1
    obtain ⟨a, dx, vs, rfl, ha⟩ := r1.insAt A.z
    exact ⟨a, dx, _, rfl, ha, spd_of A.e0 n1 (.cons r1 .nil) q1 post⟩⟩
/-- the fields of an instance of c: no method's name -/
def FldNo (c : Nat) (m : Str) (fs : List (Nat × List Str)) : Prop := True
theorem zip_no {m : Str} : ∀ {ns : List Str} {vs : List V}, m ∉ ns → (ns.zip vs).lookup m = none
  | [], _, _ => by simp
  | _ :: _, [], _ => by simp
  | n :: ns, v :: vs, h => by
    rw [List.zip_cons_cons]
    have h1 : ¬ m = n := fun z => h (z ▸ List.mem_cons_self ..)
    have h2 : (m == n) = false := by simpa using h1
    simp only [List.lookup, h2]
    exact zip_no fun z => h (List.mem_cons_of_mem _ z)
theorem qe_meth {pl : Sem Bool} (ha : QE Z X E e w) (g : Met X.prog X.w X.K X.mg X.base k (Z c) m (SpD Z.g X.K P)) (hr : Room j X.A) (hk : k ≤ j) (hx : Passes (L2.CX X.prog X.w) X E) (ht : QA Z X E (e1 :: es) t)
    (hst : starEach (e1 :: es) X.env = (false, eval e1 X.env) :: starEach es X.env := by rfl) (hpl : (backTo pos (starEach es X.env)).any (·.1) = false := by rfl)
    (hev : eval (.Call (.Attribute e m apos) (e1 :: es) [] pos) X.env = (do
      let ov ← eval e X.env
      standAt apos.atName
      let (f, first) ← holding [ov] (getMethod ov m pl)
      callWith pos f first (backTo pos (starEach (e1 :: es) X.env)) (backToKw pos (keywordEach [] X.env))) := by rfl) :
    QE Z X E (.Call (.Attribute e m apos) (e1 :: es) [] pos) (wMeth c m P w t) := (pe_mt ha g hr hk hx ht hst hpl hev).wk fun σ H Q ⟨fr, ow, env, Qp, Ep, A, hw, post⟩ =>
  ⟨fr, ow, env, _, Ep, A, hw, fun d v H1 n1 r1 q1 => by
    cases d <;> try exact (show False from q1).elim
    obtain ⟨rfl, hm, q1⟩ := q1
    obtain ⟨a, dx, vs, rfl, ha⟩ := r1.insAt A.z
    exact ⟨a, dx, _, rfl, ha, zip_no hm, ⟨fr, ow, env, _, Ep, A.mv n1, q1, fun ds us H2 n2 r2 q2 => spd_of A (n1.trans n2) (.cons (r1.lat (Nz.lat n2 MM.d0)) r2) q2 post⟩⟩⟩
theorem qe_meth0 {pl : Sem Bool} (ha : QE Z X E e w) (g : Met X.prog X.w X.K X.mg X.base k (Z c) m (SpD Z.g X.K P)) (hr : Room j X.A) (hk : k ≤ j) (hx : Passes (L2.CX X.prog X.w) X E)
    (hev : eval (.Call (.Attribute e m apos) [] [] pos) X.env = (do
      let ov ← eval e X.env
      standAt apos.atName
      let (f, first) ← holding [ov] (getMethod ov m pl)
      callWith pos f first (backTo pos (starEach [] X.env)) (backToKw pos (keywordEach [] X.env))) := by rfl) :
    QE Z X E (.Call (.Attribute e m apos) [] [] pos) (wMeth c m P w wNil) := (pe_mt0 ha g hr hk hx hev).wk fun σ H Q ⟨fr, ow, env, Qp, Ep, A, hw, post⟩ =>
  ⟨fr, ow, env, _, Ep, A, hw, fun d v H1 n1 r1 q1 => by
    cases d <;> try exact (show False from q1).elim
    obtain ⟨rfl, hm, q1⟩ := q1
    obtain ⟨a, dx, vs, rfl, ha⟩ := r1.insAt A.z
    exact ⟨a, dx, _, rfl, ha, zip_no hm, spd_of A n1 (.cons r1 .nil) q1 post⟩⟩
theorem qe_cmeth {pl : Sem Bool} (ha : QE Z X E e w) (g : Cmt X.prog X.w X.K X.mg X.base k (Z c) m (SpD Z.g X.K P)) (hr : Room j X.A) (hk : k ≤ j) (hx : Passes (L2.CX X.prog X.w) X E) (ht : QA Z X E (e1 :: es) t)
    (hst : starEach (e1 :: es) X.env = (false, eval e1 X.env) :: starEach es X.env := by rfl) (hpl : (backTo pos (starEach es X.env)).any (·.1) = false := by rfl)
    (hev : eval (.Call (.Attribute e m apos) (e1 :: es) [] pos) X.env = (do
      let ov ← eval e X.env
      standAt apos.atName
      let (f, first) ← holding [ov] (getMethod ov m pl)
      callWith pos f first (backTo pos (starEach (e1 :: es) X.env)) (backToKw pos (keywordEach [] X.env))) := by rfl) :
    QE Z X E (.Call (.Attribute e m apos) (e1 :: es) [] pos) (wCMeth c P w t) := (pe_cmt (pl := pl) ha g hr hk hx ht hst hpl hev).wk fun σ H Q ⟨fr, ow, env, Qp, Ep, A, hw, post⟩ =>
  ⟨fr, ow, env, _, Ep, A, hw, fun d v H1 n1 r1 q1 => by
    cases d <;> try exact (show False from q1).elim
    obtain ⟨rfl, q1⟩ := q1
    obtain rfl : v = .ref (Z _) := by rw [← A.z]; cases r1; rfl
    exact ⟨rfl, ⟨fr, ow, env, _, Ep, A.mv n1, q1, fun ds us H2 n2 r2 q2 => spd_of A (n1.trans n2) (.cons (r1.lat (Nz.lat n2 MM.d0)) r2) q2 post⟩⟩⟩
theorem qe_cmeth0 {pl : Sem Bool} (ha : QE Z X E e w) (g : Cmt X.prog X.w X.K X.mg X.base k (Z c) m (SpD Z.g X.K P)) (hr : Room j X.A) (hk : k ≤ j) (hx : Passes (L2.CX X.prog X.w) X E)
    (hev : eval (.Call (.Attribute e m apos) [] [] pos) X.env = (do
      let ov ← eval e X.env
      standAt apos.atName
      let (f, first) ← holding [ov] (getMethod ov m pl)
      callWith pos f first (backTo pos (starEach [] X.env)) (backToKw pos (keywordEach [] X.env))) := by rfl) :
    QE Z X E (.Call (.Attribute e m apos) [] [] pos) (wCMeth c P w wNil) := (pe_cmt0 (pl := pl) ha g hr hk hx hev).wk fun σ H Q ⟨fr, ow, env, Qp, Ep, A, hw, post⟩ =>
  ⟨fr, ow, env, _, Ep, A, hw, fun d v H1 n1 r1 q1 => by
    cases d <;> try exact (show False from q1).elim
    obtain ⟨rfl, q1⟩ := q1
    obtain rfl : v = .ref (Z _) := by rw [← A.z]; cases r1; rfl
    exact ⟨rfl, spd_of A n1 (.cons r1 .nil) q1 post⟩⟩
/-- x(..), x an instance -/
theorem qe_clo (ha : QE Z X E e w) (g : Clo X.prog X.w X.K X.mg X.base k (Z c) (SpD Z.g X.K P)) (hr : Room j X.A) (hk : k ≤ j) (hx : Passes (L2.CX X.prog X.w) X E) (ht : QA Z X E (e1 :: es) t)
    (hev : eval (.Call e (e1 :: es) [] pos) X.env = (do callWith pos (← eval e X.env) [] (backTo pos (starEach (e1 :: es) X.env)) (backToKw pos (keywordEach [] X.env))) := by rfl)
    (he : starEach (e1 :: es) X.env = (false, eval e1 X.env) :: starEach es X.env := by rfl) (hpl : (backTo pos (starEach es X.env)).any (·.1) = false := by rfl) : QE Z X E (.Call e (e1 :: es) [] pos) (wClo c P w t) :=
  (pe_clo ha g hr hk hx ht hev he hpl).wk fun σ H Q ⟨fr, ow, env, Qp, Ep, A, hw, post⟩ =>
  ⟨fr, ow, env, _, Ep, A, hw, fun d v H1 n1 r1 q1 => by
    cases d <;> try exact (show False from q1).elim
    obtain ⟨rfl, q1⟩ := q1
    obtain ⟨a, dx, vs, rfl, ha⟩ := r1.insAt A.z
    refine ⟨a, rfl, fr, ow, env, _, Ep, A.mv n1, q1, fun ds us H2 n2 r2 q2 => ?_⟩
    have r3 := r1.lat (Nz.lat n2 MM.d0)
    obtain ⟨a', dx', vs', e', ha'⟩ := r3.insAt A.z
    cases e'
    exact ⟨.inr ⟨_, _, ha'⟩, spd_of A (n1.trans n2) (.cons r3 r2) q2 post⟩⟩
end
end Oil
/-! Built-ins, what is walked, targets, comprehensions by data. -/
namespace Oil
open PySem PySem.Spec PyProof.Rows L2
section
variable {Z : ZM} {X : Cx} {E : XK} {e e1 e2 e3 : Expr} {es : List Expr} {w w1 w2 w3 : WE} {t t2 : WA} {u u1 u2 : WT} {pos p : Pos} {i : Nat} {x : Str}
/-! ### built-ins -/
def CbS (r : List V → Hp → VK → Prop) (g : CB) : Prop := ∀ (fr : Fr) (ow : Ow) (H : Hp) (vs : List V) (ds : List D) (Qp : QD) (Q : VK), (∀ p, H p = none → ¬ MM fr ow p) → RepsB fr ow H vs ds → g ds Qp →
  (∀ d v H', Same H H' → Rep fr.Z.g fr.d0 (MM fr ow) H' v d → Qp d → Q v H') → r vs H Q
theorem rd_cb {r : List V → Hp → VK → Prop} {g : CB} (s : CbS r g) : ∀ σ H Q, RdE Z X.K E (wCB g t) σ H Q → tCB r (RdAB Z X.K E t) σ H Q := fun σ H Q ⟨fr, ow, env, Qp, Ep, A, hw, post⟩ =>
  ⟨fr, ow, env, _, Ep, A, hw, fun ds vs H1 n1 r1 q1 => s fr ow H1 vs ds Qp Q (fun p hp => (A.g.mv n1).fresh hp) r1 q1 fun d v H' e r q => post d v H' (n1.trans (.of n1.dice e)) r q⟩
theorem qe_cb {id : String} {r : List V → Hp → VK → Prop} {g : CB} (hc : CallR X (.builtin id) r) (s : CbS r g) (hg : Gl X x) (hm : X.mg x = none) (hv : bootBuiltins x = some (.builtin id)) (ha : QAB Z X E (e :: es) t) (hn : x ≠ "__name__" := by decide) (hdb : (x == ("__debug__" : Str)) = false := by decide)
    (he : starEach (e :: es) X.env = (false, eval e X.env) :: starEach es X.env := by rfl) (hpl : (backTo pos (starEach es X.env)).any (·.1) = false := by rfl) : QE Z X E (.Call (.Name x p) (e :: es) [] pos) (wCB g t) := (pe_callB hc hg hm hv ha hn hdb he hpl).wk (rd_cb s)
theorem qe_cty {T : String} {r : List V → Hp → VK → Prop} {g : CB} (hc : CallR X (.type T) r) (s : CbS r g) (hg : Gl X x) (hm : X.mg x = none) (hv : bootBuiltins x = some (.type T)) (ha : QAB Z X E (e :: es) t) (hn : x ≠ "__name__" := by decide) (hdb : (x == ("__debug__" : Str)) = false := by decide)
    (he : starEach (e :: es) X.env = (false, eval e X.env) :: starEach es X.env := by rfl) (hpl : (backTo pos (starEach es X.env)).any (·.1) = false := by rfl) : QE Z X E (.Call (.Name x p) (e :: es) [] pos) (wCB g t) := (pe_callTy hc hg hm hv ha hn hdb he hpl).wk (rd_cb s)
theorem RepsB.one {fr : Fr} {ow : Ow} {H : Hp} {vs : List V} {d : D} (r : RepsB fr ow H vs [d]) : ∃ v, vs = [v] ∧ RepB fr ow H v d := by
  cases r with
  | cons r t => cases t; exact ⟨_, rfl, r⟩
theorem RepsB.two {fr : Fr} {ow : Ow} {H : Hp} {vs : List V} {d d2 : D} (r : RepsB fr ow H vs [d, d2]) : ∃ v u, vs = [v, u] ∧ RepB fr ow H v d ∧ RepB fr ow H u d2 := by
  cases r with
  | cons r t =>
    obtain ⟨u, rfl, r2⟩ := t.one
    exact ⟨_, u, rfl, r, r2⟩
theorem RepB.lst {fr : Fr} {ow : Ow} {H : Hp} {v : V} {xs : List D} (r : RepB fr ow H v (.lst xs)) : ∃ a vs, v = .ref a ∧ H a = some (.lst vs) ∧ Reps fr.Z.g fr.d0 (MM fr ow) H vs xs := by
  obtain ⟨a, vs, rfl, _, h1, h2⟩ := r.seq rfl
  rcases h1 with ⟨z, _⟩ | ⟨_, z⟩
  · exact ⟨a, vs, rfl, z, h2⟩
  · cases z
theorem RepB.tup {fr : Fr} {ow : Ow} {H : Hp} {v : V} {xs : List D} (r : RepB fr ow H v (.tup xs)) : ∃ a vs, v = .ref a ∧ H a = some (.tup vs) ∧ Reps fr.Z.g fr.d0 (MM fr ow) H vs xs := by
  obtain ⟨a, vs, rfl, _, h1, h2⟩ := r.seq rfl
  rcases h1 with ⟨_, z⟩ | ⟨z, _⟩
  · cases z
  · exact ⟨a, vs, rfl, z, h2⟩
theorem cbs_len {K : PySem.W.Frag} : CbS (cLen K) bLen := fun fr ow H vs ds Qp Q fre r h k => by
  match ds, h with
  | [.lst xs], h =>
    obtain ⟨v, rfl, rr⟩ := r.one
    obtain ⟨a, us, rfl, h1, h2⟩ := rr.lst
    exact ⟨a, us, rfl, .inl (SqL.of h1), by rw [h2.length]; exact k _ _ H (.refl H) (.int _) h⟩
  | [.tup xs], h =>
    obtain ⟨v, rfl, rr⟩ := r.one
    obtain ⟨a, us, rfl, h1, h2⟩ := rr.tup
    exact ⟨a, us, rfl, .inr (SqT.of h1), by rw [h2.length]; exact k _ _ H (.refl H) (.int _) h⟩
theorem cbs_int : CbS cInt bInt := fun fr ow H vs ds Qp Q fre r h k => by
  match ds, h with
  | [.int i], h =>
    obtain ⟨v, rfl, rr⟩ := r.one
    exact .inl ⟨i, by rw [rr.int], k _ _ H (.refl H) (.int _) h⟩
  | [.bl b], h =>
    obtain ⟨v, rfl, rr⟩ := r.one
    refine .inr ⟨b, ?_, k _ _ H (.refl H) (.int _) h⟩
    cases (rr.rep fun _ z => by cases z)
    rfl
theorem cbs_tuple {K : PySem.W.Frag} : CbS (cTup K) bTuple := fun fr ow H vs ds Qp Q fre r h k => by
  match ds, h with
  | [.lst xs], h =>
    obtain ⟨v, rfl, rr⟩ := r.one
    obtain ⟨a, us, rfl, h1, h2⟩ := rr.lst
    exact ⟨a, us, rfl, .inl ⟨SqL.of h1, fun l hl => k _ _ _ (Same.new hl) (.fresh_tup hl (fre l hl) h2) h⟩⟩
  | [.tup xs], h =>
    obtain ⟨v, rfl, rr⟩ := r.one
    obtain ⟨a, us, rfl, h1, h2⟩ := rr.tup
    exact ⟨a, us, rfl, .inr ⟨SqT.of h1, k _ _ H (.refl H) (rr.rep fun _ z => by cases z) h⟩⟩
def cList (K : PySem.W.Frag) : List V → Hp → VK → Prop := fun xs H Q => ∃ p ys, xs = [.ref p] ∧ (SqL K H p ys ∨ SqT K H p ys) ∧ ∀ l, H l = none → Q (.ref l) (upd H l (.lst ys))
theorem seq_ofB {K : PySem.W.Frag} {fr : Fr} {ow : Ow} {H : Hp} {v : V} {d : D} {xs : List D} (r : RepB fr ow H v d) (e : d.items = some xs) : ∃ a vs, v = .ref a ∧ (SqL K H a vs ∨ SqT K H a vs) ∧ Reps fr.Z.g fr.d0 (MM fr ow) H vs xs := by
  obtain ⟨a, vs, rfl, _, h1, h2⟩ := r.seq e
  refine ⟨a, vs, rfl, ?_, h2⟩
  rcases h1 with ⟨z, _⟩ | ⟨z, _⟩
  · exact .inl (SqL.of z)
  · exact .inr (SqT.of z)
theorem qf_list (hg : Gl X x) (hm : X.mg x = none) (hv : bootBuiltins x = some (.type "list")) (ha : QAB Z X E [e] t) (hn : x ≠ "__name__" := by decide) (hdb : (x == ("__debug__" : Str)) = false := by decide)
    (he : starEach [e] X.env = (false, eval e X.env) :: starEach [] X.env := by rfl) (hpl : (backTo pos (starEach [] X.env)).any (·.1) = false := by rfl) : QF Z X E (.Call (.Name x p) [e] [] pos) (wCB bList t) :=
  (pe_callTy (r := cList X.K) call_list_of hg hm hv ha hn hdb he hpl).wk fun σ H Q ⟨fr, ow, env, Qp, Ep, A, hw, post⟩ =>
  ⟨fr, ow, env, _, Ep, A, hw, fun ds vs H1 n1 r1 q1 => by
    match ds, q1 with
    | [.lst xs], q1 =>
      obtain ⟨v, rfl, rr⟩ := r1.one
      obtain ⟨a, us, rfl, h1, h2⟩ := seq_ofB (K := X.K) rr rfl
      exact ⟨a, us, rfl, h1, fun l hl => post _ _ _ (n1.same (Same.new hl)) (.of n1 hl h2) q1⟩
    | [.tup xs], q1 =>
      obtain ⟨v, rfl, rr⟩ := r1.one
      obtain ⟨a, us, rfl, h1, h2⟩ := seq_ofB (K := X.K) rr rfl
      exact ⟨a, us, rfl, h1, fun l hl => post _ _ _ (n1.same (Same.new hl)) (.of n1 hl h2) q1⟩⟩
theorem cbs_max2 : CbS cMax2 bMax2 := fun fr ow H vs ds Qp Q fre r h k => by
  match ds, h with
  | [.int i, .int j], h =>
    obtain ⟨v, u, rfl, rr, r2⟩ := r.two
    exact ⟨i, j, by rw [rr.int, r2.int], k _ _ H (.refl H) (.int _) h⟩
theorem cbs_min2 : CbS cMin2 bMin2 := fun fr ow H vs ds Qp Q fre r h k => by
  match ds, h with
  | [.int i, .int j], h =>
    obtain ⟨v, u, rfl, rr, r2⟩ := r.two
    exact ⟨i, j, by rw [rr.int, r2.int], k _ _ H (.refl H) (.int _) h⟩
theorem ints_sq {K : PySem.W.Frag} {fr : Fr} {ow : Ow} {H : Hp} {v : V} {xs : List D} {ns : List Int} (r : RepB fr ow H v (.lst xs)) (e : intsOf xs = some ns) : ∃ a, v = .ref a ∧ SqL K H a (ns.map V.int) := by
  obtain ⟨a, us, rfl, h1, h2⟩ := r.lst
  exact ⟨a, rfl, by rw [← h2.ints e]; exact SqL.of h1⟩
theorem cbs_sum {K : PySem.W.Frag} : CbS (rSum K) bSum := fun fr ow H vs ds Qp Q fre r h k => by
  match ds, h with
  | [.lst xs], h =>
    obtain ⟨ns, e, h⟩ := h
    obtain ⟨v, rfl, rr⟩ := r.one
    obtain ⟨a, rfl, h1⟩ := ints_sq (K := K) rr e
    exact ⟨a, ns, rfl, h1, k _ _ H (.refl H) (.int _) h⟩
theorem cbs_max {K : PySem.W.Frag} : CbS (rMax K) bMax := fun fr ow H vs ds Qp Q fre r h k => by
  match ds, h with
  | [.lst xs], h =>
    obtain ⟨ns, e, h0, h⟩ := h
    obtain ⟨v, rfl, rr⟩ := r.one
    obtain ⟨a, rfl, h1⟩ := ints_sq (K := K) rr e
    exact ⟨a, ns, rfl, h1, h0, fun m m1 m2 => k _ _ H (.refl H) (.int _) (h m m1 m2)⟩
theorem cbs_min {K : PySem.W.Frag} : CbS (rMin K) bMin := fun fr ow H vs ds Qp Q fre r h k => by
  match ds, h with
  | [.lst xs], h =>
    obtain ⟨ns, e, h0, h⟩ := h
    obtain ⟨v, rfl, rr⟩ := r.one
    obtain ⟨a, rfl, h1⟩ := ints_sq (K := K) rr e
    exact ⟨a, ns, rfl, h1, h0, fun m m1 m2 => k _ _ H (.refl H) (.int _) (h m m1 m2)⟩
theorem cbs_sorted {K : PySem.W.Frag} : CbS (rSorted K) bSorted := fun fr ow H vs ds Qp Q fre r h k => by
  match ds, h with
  | [.lst xs], h =>
    obtain ⟨ns, e, h0, h⟩ := h
    obtain ⟨v, rfl, rr⟩ := r.one
    obtain ⟨a, rfl, h1⟩ := ints_sq (K := K) rr e
    exact ⟨a, ns, rfl, h1, h0, fun ns' l m1 m2 hl => k _ _ _ (Same.new hl) (.fresh_lst hl (fre l hl) (Reps.ofInts _)) (h ns' m1 m2)⟩
def cDivmod : List V → Hp → VK → Prop := fun xs H Q => ∃ i j, xs = [.int i, .int j] ∧ CDiv i j ∧ ∀ p, H p = none → Q (.ref p) (upd H p (.tup [.int (i / j), .int (i % j)]))
theorem cbs_divmod : CbS cDivmod bDivmod := fun fr ow H vs ds Qp Q fre r h k => by
  match ds, h with
  | [.int i, .int j], h =>
    obtain ⟨v, u, rfl, rr, r2⟩ := r.two
    refine ⟨i, j, by rw [rr.int, r2.int], ⟨h.1.1, by have := h.1.2; omega⟩, fun l hl => k _ _ _ (Same.new hl) (.fresh_tup hl (fre l hl) (.cons (.int _) (.cons (.int _) .nil))) h.2⟩
/-- isinstance: the classes that it is asked with are plain, no built-in value is theirs -/
theorem cbs_isi {K : PySem.W.Frag} (cs : List Nat) : ∀ (fr : Fr) (ow : Ow) (H : Hp) (vs : List V) (ds : List D) (Qp : QD) (Q : VK), (∀ c ∈ cs, Oc K (fr.Z c) ∧ NotC K (fr.Z c)) → RepsB fr ow H vs ds → bIsi ds Qp → (∀ c, .cls c ∈ ds → c ∈ cs) →
    (∀ d v H', Same H H' → Rep fr.Z.g fr.d0 (MM fr ow) H' v d → Qp d → Q v H') → rIsi K vs H Q := fun fr ow H vs ds Qp Q hc r h hm k => by
  have two : ∃ x y, ds = [x, y] := by
    match ds, h with
    | [x, y], _ => exact ⟨x, y, rfl⟩
    | [], h => exact h.elim
    | [_], h => exact h.elim
    | _ :: _ :: _ :: _, h => exact h.elim
  obtain ⟨x, y, rfl⟩ := two
  obtain ⟨v, u, rfl, rr, r2⟩ := r.two
  cases y with
  | ty c =>
    obtain ⟨T, b, h1, h2, h3⟩ := h
    obtain rfl : u = .ty c := by cases (r2.rep fun _ z => by cases z); rfl
    exact r_isi (rr.kn h1) h2 (k _ _ H (.refl H) (.bl _) h3)
  | cls c =>
    obtain ⟨hO, hN⟩ := hc c (hm c (by simp))
    obtain rfl : u = .ref (fr.Z c) := by cases (r2.rep fun _ z => by cases z); rfl
    cases hx : x.kind with
    | some T =>
      have h9 : x.kind.isSome = true ∧ Qp (.bl false) := by cases x <;> first | exact h | (cases hx; done)
      exact r_isiN hN (rr.kn hx) (k _ _ H (.refl H) (.bl _) h9.2)
    | none =>
      cases x with
      | ins c' ns xs =>
        obtain ⟨h8, h9⟩ := (show c' = c ∧ Qp (.bl true) from h)
        subst h8
        obtain ⟨a, dx, ws, rfl, ha⟩ := (rr.rep fun _ z => by cases z).insAt rfl
        exact r_isiO hO ha (k _ _ H (.refl H) (.bl _) h9)
      | _ => first | (cases hx; done) | exact absurd h.1 (by simp [D.kind])
  | _ => exact (show False from h).elim
/-- isinstance(e1, e2) -/
theorem qe_isi {cs : List Nat} (hcs : ∀ c ∈ cs, Oc X.K (Z c) ∧ NotC X.K (Z c)) (hg : Gl X x) (hm : X.mg x = none) (hv : bootBuiltins x = some (.builtin "isinstance")) (ha : QAB Z X E (e :: es) t) (hn : x ≠ "__name__" := by decide) (hdb : (x == ("__debug__" : Str)) = false := by decide)
    (he : starEach (e :: es) X.env = (false, eval e X.env) :: starEach es X.env := by rfl) (hpl : (backTo pos (starEach es X.env)).any (·.1) = false := by rfl) : QE Z X E (.Call (.Name x p) (e :: es) [] pos) (wCB (bIsiC cs) t) :=
  (pe_callB call_isi hg hm hv ha hn hdb he hpl).wk fun σ H Q ⟨fr, ow, env, Qp, Ep, A, hw, post⟩ =>
  ⟨fr, ow, env, _, Ep, A, hw, fun ds vs H1 n1 r1 q1 => cbs_isi cs fr ow H1 vs ds Qp Q (by rw [A.z]; exact hcs) r1 q1.2 q1.1 fun d v H' e r q => post d v H' (n1.trans (.of n1.dice e)) r q⟩
/-! ### what is walked -/
/-- the iterator J walks xs, as long as what stands apart from M (with own: all but the dice) stays -/
def ItOk (Z : ZG) (d0 : Addr) (own : Bool) (M : Addr → Prop) (J : It) (H1 : Hp) (xs : List D) : Prop := ∀ (M2 : Addr → Prop) (H2 : Hp), Lat M H1 M2 H2 → (own = true → ∀ a o, NT o → a ≠ d0 → H1 a = some o → H2 a = some o) → (∀ p, H2 p = none → ¬ M2 p) →
  ∀ i, (xs.length ≤ i → J.stop i H2) ∧ ∀ x, xs[i]? = some x → J.go i H2 ∧ ∀ v H3, J.yld i H2 v H3 → Same H2 H3 ∧ Rep Z d0 M2 H3 v x
theorem ItOk.up {Z : ZG} {d0 : Addr} {M : Addr → Prop} {J : It} {H1 : Hp} {xs : List D} (h : ItOk Z d0 false M J H1 xs) : ItOk Z d0 true M J H1 xs := fun M2 H2 L _ => h M2 H2 L fun z => by cases z
def RdI (Z : ZM) (K : PySem.W.Frag) (E : XK) (own : Bool) (w : WI) : TI := fun σ H R => ∃ fr ow env Qp Ep, At Z K E fr ow H σ env Ep ∧ w env Qp Ep ∧ ∀ xs J H', N0 fr.Z.g.tb fr.K fr.d0 H H' → ItOk fr.Z.g fr.d0 own (MM fr ow) J H' xs → Qp xs → R J H'
theorem _root_.L2.PI.wk {X : Cx} {tg e : Expr} {t t' : TI} (h : PI X tg e t) (k : ∀ σ H Q, t' σ H Q → t σ H Q) : PI X tg e t' := ⟨fun pins s σ H Q I q => h.run pins s σ H Q I (k σ H Q q)⟩
abbrev QI (Z : ZM) (X : Cx) (E : XK) (own : Bool) (tg e : Expr) (w : WI) : Prop := PI X tg e (RdI Z X.K E own w)
theorem itl_ok {K : PySem.W.Frag} {Z : ZG} {d0 a : Addr} {own : Bool} {M : Addr → Prop} {H : Hp} {vs : List V} {xs : List D} (h : H a = some (.lst vs)) (hm : ¬ M a ∨ (own = true ∧ a ≠ d0)) (r : Reps Z d0 M H vs xs) : ItOk Z d0 own M (Itl K a) H xs := fun M2 H2 L ho _ i => by
  have h2 : H2 a = some (.lst vs) := hm.elim (fun n => (L a _ nt_lst n h).1) fun z => ho z.1 a _ nt_lst z.2 h
  have r2 := r.lat L
  refine ⟨fun hi => ⟨vs, SqL.of h2, by rw [r.length]; exact hi⟩, fun x hx => ?_⟩
  obtain ⟨v, q1, q2⟩ := r2.get hx
  refine ⟨⟨vs, v, SqL.of h2, q1⟩, fun v' H3 y => ?_⟩
  obtain ⟨rfl, y⟩ := y
  have := y vs (SqL.of h2)
  rw [q1] at this
  cases this
  exact ⟨.refl _, q2⟩
theorem itt_ok {K : PySem.W.Frag} {Z : ZG} {d0 a : Addr} {own : Bool} {M : Addr → Prop} {H : Hp} {vs : List V} {xs : List D} (h : H a = some (.tup vs)) (hm : ¬ M a) (r : Reps Z d0 M H vs xs) : ItOk Z d0 own M (Itt K a) H xs := fun M2 H2 L ho _ i => by
  have h2 : H2 a = some (.tup vs) := (L a _ nt_tup hm h).1
  have r2 := r.lat L
  refine ⟨fun hi => ⟨vs, SqT.of h2, by rw [r.length]; exact hi⟩, fun x hx => ?_⟩
  obtain ⟨v, q1, q2⟩ := r2.get hx
  refine ⟨⟨vs, v, SqT.of h2, q1⟩, fun v' H3 y => ?_⟩
  obtain ⟨rfl, y⟩ := y
  have := y vs (SqT.of h2)
  rw [q1] at this
  cases this
  exact ⟨.refl _, q2⟩
theorem intD_get {lo : Int} {n i : Nat} {x : D} (h : (intD lo n)[i]? = some x) : i < n ∧ x = .int (lo + (i : Int)) := by
  unfold intD at h
  rw [List.getElem?_map] at h
  obtain ⟨k, h1, rfl⟩ := Option.map_eq_some_iff.mp h
  obtain ⟨h2, h3⟩ := List.getElem?_eq_some_iff.mp h1
  rw [List.length_range] at h2
  rw [List.getElem_range] at h3
  subst h3
  exact ⟨h2, rfl⟩
theorem intD_len {lo : Int} {n : Nat} : (intD lo n).length = n := by
  unfold intD
  rw [List.length_map, List.length_range]
theorem itr_ok {Z : ZG} {d0 : Addr} {own : Bool} {M : Addr → Prop} {H : Hp} {lo : Int} {n : Nat} : ItOk Z d0 own M (Itr lo n) H (intD lo n) := fun M2 H2 L ho _ i => by
  refine ⟨fun hi => by rw [intD_len] at hi; exact hi, fun x hx => ?_⟩
  obtain ⟨h1, rfl⟩ := intD_get hx
  refine ⟨h1, fun v H3 y => ?_⟩
  obtain ⟨rfl, rfl⟩ := y
  exact ⟨.refl _, .int _⟩
theorem qi_list {tg : Expr} (h : QE Z X E e w) : QI Z X E false tg e (fun env Q E => w env (fun x => match x with
  | .lst xs => Q xs
  | _ => False) E) := (pi_list h).wk fun σ H R ⟨fr, ow, env, Qp, Ep, A, hw, post⟩ =>
  ⟨fr, ow, env, _, Ep, A, hw, fun d v H1 n1 r1 q1 => by
    cases d <;> try exact (show False from q1).elim
    cases r1 with
    | lst h1 h2 h3 => exact ⟨_, rfl, ⟨_, SqL.of h1⟩, post _ _ H1 n1 (itl_ok h1 (.inl h2) h3) q1⟩⟩
theorem qi_tup {own : Bool} {tg : Expr} (h : QE Z X E e w) : QI Z X E own tg e (fun env Q E => w env (fun x => match x with
  | .tup xs => Q xs
  | _ => False) E) := (pi_tup h).wk fun σ H R ⟨fr, ow, env, Qp, Ep, A, hw, post⟩ =>
  ⟨fr, ow, env, _, Ep, A, hw, fun d v H1 n1 r1 q1 => by
    cases d <;> try exact (show False from q1).elim
    cases r1 with
    | tup h1 h2 h3 => exact ⟨_, rfl, ⟨_, SqT.of h1⟩, post _ _ H1 n1 (itt_ok h1 h2 h3) q1⟩⟩
end
end Oil
/-! Targets, comprehensions, statements, defs by data. -/
namespace Oil
open PySem PySem.Spec PyProof.Rows L2
/-! ### targets -/
def gNs : List Nat → TGs
  | [] => gNil
  | i :: is => gCons (gName i) (gNs is)
def Tgt.raw (K : PySem.W.Frag) : Tgt → TG
  | .nm i => gName i
  | .tp is => gTup K is.length (gNs is)
def Tgt.slots : Tgt → List Nat
  | .nm i => [i]
  | .tp is => is
theorem wipe_set {σ : L2.St} {i : Nat} {x : Option V} : ∀ {vs : List Nat}, i ∈ vs → wipe (σ.set i x) vs = wipe σ vs
  | v :: vs, h => by
    unfold wipe
    by_cases e : i = v
    · subst e
      by_cases h2 : i ∈ vs
      · rw [wipe_set h2]
      · rw [wipe_comm h2, List.set_set]
    · rcases List.mem_cons.mp h with h | h
      · exact absurd h e
      · rw [wipe_set h]
where
  wipe_comm {σ : L2.St} {i : Nat} {x : Option V} : ∀ {vs : List Nat}, i ∉ vs → wipe (σ.set i x) vs = (wipe σ vs).set i x
  | [], _ => rfl
  | v :: vs, h => by
    unfold wipe
    rw [wipe_comm (fun z => h (List.mem_cons_of_mem _ z)), List.set_comm _ _ (fun z => h (by rw [z]; exact List.mem_cons_self ..))]
section
variable {fr : Fr} {ow : Ow} {H : Hp} {σ : L2.St} {env : Ev} {v : V} {d : D}
theorem Good.many {vs : List V} {ds : List D} : ∀ {is : List Nat} {σ : L2.St} {env : Ev} {R : L2.St → Hp → Prop}, Good fr ow H σ env → Reps fr.Z.g fr.d0 (MM fr ow) H vs ds → ds.length = is.length →
    (∀ σ', Good fr ow H σ' (setMany env is ds) → (∀ ws, (∀ i ∈ is, i ∈ ws) → wipe σ' ws = wipe σ ws) → R σ' H) → gNs is vs σ H R := by
  intro is
  induction is generalizing vs ds with
  | nil =>
    intro σ env R G r hl k
    cases r with
    | nil => exact ⟨rfl, k σ G fun _ _ => rfl⟩
    | cons _ _ => simp at hl
  | cons i is ih =>
    intro σ env R G r hl k
    cases r with
    | nil => simp at hl
    | cons r t =>
      refine ⟨_, _, rfl, ih (G.set i r) t (by simpa using hl) fun σ' G' e => k σ' G' fun ws hw => ?_⟩
      rw [e ws fun j hj => hw j (List.mem_cons_of_mem _ hj), wipe_set (hw i (List.mem_cons_self ..))]
theorem Tgt.ok {g : Tgt} {K' : Ev → Prop} {R : L2.St → Hp → Prop} {K : PySem.W.Frag} (G : Good fr ow H σ env) (r : Rep fr.Z.g fr.d0 (MM fr ow) H v d) (h : g.put env d K')
    (k : ∀ σ' env', Good fr ow H σ' env' → (∀ ws, (∀ i ∈ g.slots, i ∈ ws) → wipe σ' ws = wipe σ ws) → K' env' → R σ' H) : g.raw K v σ H R := by
  cases g with
  | nm i => exact k _ _ (G.set i r) (fun ws hw => wipe_set (hw i (List.mem_cons_self ..))) h
  | tp is =>
    cases d <;> try exact (show False from h).elim
    obtain ⟨h1, h2⟩ := h
    cases r with
    | tup e1 e2 e3 =>
      exact ⟨_, _, rfl, SqT.of e1, by rw [e3.length]; exact h1, Good.many G e3 h1 fun σ' G' e => k σ' _ G' e h2⟩
theorem Good.wipe (G : Good fr ow H σ env) : ∀ vs : List Nat, Good fr ow H (wipe σ vs) (wipeE env vs)
  | [] => G
  | v :: vs => (Good.wipe G vs).un v none
/-- one more cell apart -/
def Fr.plus (fr : Fr) (D : Addr) : Fr := { fr with av := fun a => fr.av a ∨ a = D }
theorem MM.plus {D a : Addr} : MM (fr.plus D) ow a ↔ MM fr ow a ∨ a = D := by
  constructor
  · rintro (h | h | (h | h) | h)
    · exact .inl (.inl h)
    · exact .inl (.inr (.inl h))
    · exact .inl (.inr (.inr (.inl h)))
    · exact .inr h
    · exact .inl (.inr (.inr (.inr h)))
  · rintro ((h | h | h | h) | h)
    · exact .inl h
    · exact .inr (.inl h)
    · exact .inr (.inr (.inl (.inl h)))
    · exact .inr (.inr (.inr h))
    · exact .inr (.inr (.inl (.inr h)))
/-- a cell that has come, apart -/
theorem Good.plusN {D : Addr} {H1 : Hp} (Gs : Good fr ow H σ env) (n : N0 fr.Z.g.tb fr.K fr.d0 H H1) (hD : H D = none) (h1 : Has H1 D) : Good (fr.plus D) ow H1 σ env := by
  have G := Gs.mv n
  have L : Lat (MM fr ow) H (MM (fr.plus D) ow) H1 := fun a o' t nb e => ⟨n.keep a o' (fun z => nb (by rw [z]; exact MM.d0)) id t e, fun z => (MM.plus.mp z).elim nb (ne_of_none e hD)⟩
  refine ⟨G.nx, G.d00, G.t0, fun a h => ?_, G.m0x, G.ss, G.owf, G.inj, fun i a h z => ?_, fun a o' h => ⟨(G.gh a o' h).1, (G.gh a o' h).2.1, fun z => ?_⟩, G.len, G.lb, fun i s e => ?_⟩
  · rcases MM.plus.mp h with h | h
    · exact G.mex a h
    · rw [h]; exact h1
  · rcases z with z | z
    · exact G.avo i a h z
    · exact (Gs.mex a (.inr (.inr (.inr ⟨i, h⟩)))).nn (by rw [z]; exact hD)
  · rcases MM.plus.mp z with z | z
    · exact (G.gh a o' h).2.2 z
    · have := (Gs.gh a o' h).2.1
      rw [z, hD] at this
      cases this
  · exact (Gs.sl i s e).mvF (fr := fr) (fr' := fr.plus D) rfl rfl rfl L (fun a o h e => ⟨N0.at_own Gs n h e, h⟩) (fun k a o h e => ⟨N0.at_own Gs n h e, h⟩)
/-- a new cell, apart -/
theorem Good.plus {D : Addr} {o : HO} (G : Good fr ow H σ env) (hD : H D = none) (ho : NX o) : Good (fr.plus D) ow (upd H D o) σ env :=
  G.plusN (.of G.dice (Same.new hD)) hD ⟨_, upd_same, ho⟩
/-- a cell that is apart may be written -/
theorem Good.wrA {D : Addr} {o o0 : HO} {H1 : Hp} (G : Good fr ow H σ env) (x : N0 fr.Z.g.tb fr.K fr.d0 H1 H) (hD : H1 D = none) (x0 : Nz fr.Z.g.tb fr.K fr.d0 fr.S fr.H0 H1) (hv : fr.av D) (e0 : H D = some o0) (n0 : NX o0) (n1 : NX o) : Good fr ow (upd H D o) σ env := by
  have L : Lat (MM fr ow) H (MM fr ow) (upd H D o) := fun a o' _ n e => ⟨by rw [upd_ne (fun z => n (by rw [z]; exact .inr (.inr (.inl hv))))]; exact e, n⟩
  have h0 : fr.H0 D = none := by
    cases z : fr.H0 D with
    | none => rfl
    | some o' => exact absurd hD (x0.ex _ (by rw [z]; exact fun y => by cases y))
  have nD : D ≠ fr.d0 := fun z => by rw [z] at h0; exact G.d00.nn h0
  refine ⟨G.nx.write G.d00 (.new h0) nD ⟨o0, e0, n0⟩ n1 (.inl h0), G.d00, G.t0, fun a h => ?_, G.m0x, G.ss, G.owf, G.inj, G.avo, fun a o' h => ⟨(G.gh a o' h).1, (L a o' (G.gh a o' h).1 (G.gh a o' h).2.2 (G.gh a o' h).2.1).1, (G.gh a o' h).2.2⟩, G.len, G.lb, fun i s e => ?_⟩
  · by_cases hb : a = D
    · rw [hb]
      exact ⟨_, upd_same, n1⟩
    · obtain ⟨o, q, n⟩ := G.mex a h
      exact ⟨o, by rw [upd_ne hb]; exact q, n⟩
  · exact (G.sl i s e).mv L (fun a o h e => ⟨by rw [upd_ne (fun z => G.avo i a h (by rw [z]; exact hv))]; exact e, h⟩) (fun k a o h e => ⟨by rw [upd_ne (fun z => G.avo _ a h (by rw [z]; exact hv))]; exact e, h⟩) (fun _ => .inr trivial)
end
section
variable {Z : ZM} {X : Cx} {E : XK} {e e1 e2 e3 : Expr} {es : List Expr} {w w1 w2 w3 : WE} {t t2 : WA} {u u1 u2 : WT} {pos p : Pos} {i : Nat} {x : Str}
theorem _root_.L2.PTs.wk {X : Cx} {ifs : List Expr} {t t' : TT} (h : PTs X ifs t) (k : ∀ σ H Q, t' σ H Q → t σ H Q) : PTs X ifs t' := ⟨fun pins s σ H Q I q => h.run pins s σ H Q I (k σ H Q q)⟩
theorem qts_nil : PTs X [] (RdT Z X.K E wYes) := pts_nil.wk fun σ H Q ⟨fr, ow, env, Qp, Ep, A, hw, post⟩ => post _ H (.refl A.g.dice) hw
theorem qts_one (h : QT Z X E e u) : PTs X [e] (RdT Z X.K E u) := pts_one h
/-- a comprehension's reading by data -/
theorem lc_rd {own : List (Str × Nat)} {wi : WI} {g : Tgt} (hs : ∀ i ∈ g.slots, i ∈ own.map (·.2)) : ∀ σ H Q, RdF Z X.K E (wLc wi g u w (own.map (·.2))) σ H Q → tLc (RdI Z X.K E true wi) (g.raw X.K) (RdT Z X.K E0 u) (RdE Z X.K E0 w) (own.map (·.2)) σ H Q := fun σ H Q ⟨fr, ow, env, Qp, Ep, A, hw, post⟩ =>
  ⟨fr, ow, env, _, Ep, A, hw, fun xs J H1 n1 io ⟨hl, q1⟩ D nD => by
    have G1 := A.g.mv n1
    have nMD : ¬ MM fr ow D := G1.fresh nD
    have Dd : D ≠ fr.d0 := fun z => nMD (z ▸ MM.d0)
    have Gp : Good (fr.plus D) ow (upd H1 D (.lst [])) σ env := G1.plus nD nx_lst
    refine ⟨fun i m G => m = xs.length - i ∧ i ≤ xs.length ∧ ∃ acc ds, G D = some (.lst acc) ∧ acc.length ≤ i ∧ Reps fr.Z.g fr.d0 (MM (fr.plus D) ow) G acc ds ∧ N0 fr.Z.g.tb fr.K fr.d0 H1 G ∧ Good (fr.plus D) ow G σ env ∧ wLcGo g u w (wipeE env (own.map (·.2))) (xs.drop i) ds fun ds => Qp (.lst ds), ⟨_, rfl, Nat.zero_le _, [], [], upd_same, Nat.le_refl _, .nil, .of G1.dice (Same.new nD), Gp, q1⟩, ?_⟩
    rintro i m G ⟨rfl, hi, acc, ds, hD, hacc, hR, nG, GG, q⟩
    have L : Lat (MM fr ow) H1 (MM (fr.plus D) ow) G := fun a o t n e => by
      have aD : a ≠ D := ne_of_none e nD
      exact ⟨nG.keep a o (fun z => n (z ▸ MM.d0)) id t e, fun z => (MM.plus.mp z).elim n aD⟩
    have ioi := io (MM (fr.plus D) ow) G L (fun _ a o t na e => nG.keep a o na id t e) (fun p hp => GG.fresh hp) i
    by_cases hi2 : i = xs.length
    · refine .inl ⟨ioi.1 (by omega), ?_⟩
      rw [hi2, List.drop_length] at q
      exact post _ _ G (n1.trans nG) ⟨D, acc, rfl, by
        cases z : H D with
        | none => rfl
        | some o => exact absurd nD (n1.ex _ (by rw [z]; exact fun y => by cases y)), hD, hR.lat (.sub fun a z => MM.plus.mpr z)⟩ q
    · have lt : i < xs.length := by omega
      have hx : xs[i]? = some xs[i] := List.getElem?_eq_getElem lt
      obtain ⟨go, yl⟩ := ioi.2 _ hx
      refine .inr ⟨go, fun G' => i + 1 ≤ xs.length ∧ ∃ acc ds, G' D = some (.lst acc) ∧ acc.length ≤ i + 1 ∧ Reps fr.Z.g fr.d0 (MM (fr.plus D) ow) G' acc ds ∧ N0 fr.Z.g.tb fr.K fr.d0 H1 G' ∧ Good (fr.plus D) ow G' σ env ∧ wLcGo g u w (wipeE env (own.map (·.2))) (xs.drop (i + 1)) ds fun ds => Qp (.lst ds), fun H2 z => ⟨xs.length - (i + 1), by omega, rfl, z⟩, fun v H2 y => ?_⟩
      obtain ⟨sm, rv⟩ := yl v H2 y
      have x2 : N0 fr.Z.g.tb fr.K fr.d0 G H2 := .of nG.dice sm
      have G2 : Good (fr.plus D) ow H2 σ env := GG.mv x2
      have G2w := G2.wipe (own.map (·.2))
      rw [List.drop_eq_getElem_cons lt] at q
      have q : g.put (wipeE env (own.map (·.2))) xs[i] _ := q
      refine Tgt.ok (K := X.K) G2w (by exact rv) q fun σ' env' G3 hw3 q3 => ⟨?_, ?_⟩
      · rw [hw3 _ hs]
        exact wipe_idem _ _
      · have A3 : At Z X.K E0 (fr.plus D) ow H2 σ' env' (fun _ => False) := ⟨A.z, A.k, G3, fun _ _ _ _ _ _ z => z.elim⟩
        refine ⟨fr.plus D, ow, env', _, _, A3, q3, fun b H3 n3 q4 => ?_⟩
        have hD3 : ∀ {H4 : Hp}, N0 fr.Z.g.tb fr.K fr.d0 H2 H4 → H4 D = some (.lst acc) := fun n4 => n4.keep D _ Dd id nt_lst (x2.keep D _ Dd id nt_lst hD)
        have G3' := G2.mv n3
        cases b with
        | false =>
          show (if false = true then _ else _)
          have q4 := (show (if false = true then _ else _) from q4)
          rw [if_neg Bool.false_ne_true] at q4 ⊢
          exact ⟨lt, acc, ds, hD3 n3, Nat.le_succ_of_le hacc, hR.lat ((GG.lat x2).trans (G2.lat n3)), nG.trans (x2.trans n3), G3', q4⟩
        | true =>
          show (if true = true then _ else _)
          have q4 := (show (if true = true then _ else _) from q4)
          rw [if_pos rfl] at q4 ⊢
          refine ⟨fr.plus D, ow, env', _, _, A3.mv n3, q4, fun d y H4 n4 r4 q5 => ?_⟩
          have n5 := n3.trans n4
          have G4 := G2.mv n5
          have n14 : N0 fr.Z.g.tb fr.K fr.d0 H1 H4 := nG.trans (x2.trans n5)
          have Dav : (fr.plus D).av D := .inr rfl
          have Lw : Lat (MM (fr.plus D) ow) H4 (MM (fr.plus D) ow) (upd H4 D (.lst (acc ++ [y]))) := fun a o _ n e => ⟨by rw [upd_ne (fun z => n (by rw [z]; exact .inr (.inr (.inl Dav))))]; exact e, n⟩
          refine ⟨acc, hD3 n5, ?_, lt, acc ++ [y], ds ++ [d], upd_same, by rw [List.length_append]; show acc.length + 1 ≤ i + 1; omega, ?_, n14.write G1.dice (.new nD) Dd ⟨_, hD3 n5, nx_lst⟩ nx_lst (.inl nD), ?_, q5⟩
          · rw [sizeLine_eq]
            unfold LIM at hl
            omega
          · exact ((hR.lat ((GG.lat x2).trans (G2.lat n5))).app (.cons r4 .nil)).lat Lw
          · exact G4.wrA (H1 := H1) n14 nD G1.nx Dav (hD3 n5) nx_lst nx_lst⟩
where
  wipe_idem (σ : L2.St) (vs : List Nat) : wipe (wipe σ vs) vs = wipe σ vs := by
    have key : ∀ us : List Nat, (∀ i ∈ us, i ∈ vs) → wipe (wipe σ us) vs = wipe σ vs := fun us => by
      induction us with
      | nil => intro _; rfl
      | cons i us ih =>
        intro h
        show wipe ((wipe σ us).set i none) vs = _
        rw [wipe_set (h i (List.mem_cons_self ..)), ih fun j hj => h j (List.mem_cons_of_mem _ hj)]
    exact key vs fun _ h => h
/-- [elt for tg in iter if ..] is a new list -/
theorem qf_lc {tg iter elt : Expr} {ifs : List Expr} {sc : Scope} {own : List (Str × Nat)} {wi : WI} (g : Tgt) (hc : X.calm = true) (hN : X.N.Nodup) (hi : QI Z X E true tg iter wi) (ok : BlkOk X.N X.env.scope sc own)
    (hg : ∀ (s : Shared) (H : Hp) (C : Addr) (cl : List (Str × Addr)) (fp : List Addr), PG (X.blk s H sc (compEnvC sc cl C X.env) fp) tg (g.raw X.K))
    (ht : ∀ (s : Shared) (H : Hp) (C : Addr) (cl : List (Str × Addr)) (fp : List Addr), PTs (X.blk s H sc (compEnvC sc cl C X.env) fp) ifs (RdT Z X.K E0 u))
    (he : ∀ (s : Shared) (H : Hp) (C : Addr) (cl : List (Str × Addr)) (fp : List Addr), PE (X.blk s H sc (compEnvC sc cl C X.env) fp) elt (RdE Z X.K E0 w))
    (hs : ∀ i ∈ g.slots, i ∈ own.map (·.2)) (hf : ∀ x, foldedSetIterable iter X.env x = pure x := by intro _; rfl) :
    QF Z X E (.ListComp elt [⟨tg, iter, ifs, 0⟩] sc pos) (wLc wi g u w (own.map (·.2))) :=
  (pe_lc (own := own) (g := g.raw X.K) (tt := RdT Z X.K E0 u) hc hN hi ok hg ht he hf).wk (lc_rd hs)
end
end Oil
/-! Statements and defs by data. -/
namespace Oil
open PySem PySem.Spec PyProof.Rows L2
structure Post (fr : Fr) (Kn : KN) (D : Ends) (E : XK) : Prop where
  nx : ∀ ow' env' σ' H', Good fr ow' H' σ' env' → Kn.nx env' → D.nx σ' H'
  rt : ∀ d v ow' env' σ' H', Good fr ow' H' σ' env' → Rep fr.Z.g fr.d0 (MM fr ow') H' v d → Kn.rt d env' → D.rt v H'
  bk : ∀ ow' env' σ' H', Good fr ow' H' σ' env' → Kn.bk env' → D.bk σ' H'
  ct : ∀ ow' env' σ' H', Good fr ow' H' σ' env' → Kn.ct env' → D.ct σ' H'
  er : ∀ er cls dd ow' env' σ' H', Good fr ow' H' σ' env' → RepE fr.Z.g fr.d0 (MM fr ow') H' er cls dd → Kn.er er env' → E cls dd H'
def RdS (Z : ZM) (K : PySem.W.Frag) (E : XK) (w : WS) : TS := fun D σ H => ∃ fr ow env Kn, At Z K E fr ow H σ env (fun x => Kn.er x env) ∧ w env Kn ∧ Post fr Kn D E
abbrev QS (Z : ZM) (X : Cx) (E : XK) (s : Stmt) (w : WS) : Prop := PS X s (RdS Z X.K E w)
abbrev QSs (Z : ZM) (X : Cx) (E : XK) (s : List Stmt) (w : WS) : Prop := PSs X s (RdS Z X.K E w)
theorem _root_.L2.PS.wk {X : Cx} {s : Stmt} {t t' : TS} (h : PS X s t) (k : ∀ D σ H, t' D σ H → t D σ H) : PS X s t' := ⟨fun pins sh σ H D I q => h.run pins sh σ H D I (k D σ H q)⟩
theorem _root_.L2.PSs.wk {X : Cx} {s : List Stmt} {t t' : TS} (h : PSs X s t) (k : ∀ D σ H, t' D σ H → t D σ H) : PSs X s t' := ⟨fun pins sh σ H D I q => h.run pins sh σ H D I (k D σ H q)⟩
section
variable {Z : ZM} {X : Cx} {E : XK} {e e1 e2 e3 : Expr} {es : List Expr} {w w1 w2 w3 : WE} {t t2 : WA} {u u1 u2 : WT} {pos p : Pos} {i : Nat} {x : Str} {s : Stmt} {ss ss2 : List Stmt} {a b : WS}
theorem At.go {K : PySem.W.Frag} {fr : Fr} {ow ow' : Ow} {H H' : Hp} {σ σ' : L2.St} {env env' : Ev} {Ep : QR} {Kn : KN} {D : Ends} (A : At Z K E fr ow H σ env Ep) (P : Post fr Kn D E) (G : Good fr ow' H' σ' env') : At Z K E fr ow' H' σ' env' (fun x => Kn.er x env') := ⟨A.z, A.k, G, fun er cls dd H' n r q => P.er er cls dd _ _ _ H' (G.mv n) r q⟩
theorem qss_nil : QSs Z X E [] wSkip := pss_nil.wk fun D σ H ⟨fr, ow, env, Kn, A, hw, P⟩ => P.nx _ _ _ _ A.g hw
theorem qss_cons (h : QS Z X E s a) (hr : QSs Z X E ss b) : QSs Z X E (s :: ss) (wSeq a b) := (pss_cons h hr).wk fun D σ H ⟨fr, ow, env, Kn, A, hw, P⟩ =>
  ⟨fr, ow, env, ⟨fun env' => b env' Kn, Kn.rt, Kn.bk, Kn.ct, Kn.er⟩, A, hw, fun ow' env' σ' H' G q => ⟨fr, ow', env', Kn, A.go P G, q, P⟩, P.rt, P.bk, P.ct, P.er⟩
theorem qss_one (h : QS Z X E s a) : QSs Z X E [s] a := pss_one h
theorem qs_pass : QS Z X E (.Pass pos) wSkip := ps_pass.wk fun D σ H ⟨fr, ow, env, Kn, A, hw, P⟩ => P.nx _ _ _ _ A.g hw
theorem qs_expr (h : QE Z X E e w) (hs : swapsWith e none pos.line X.env = pure false := by rfl) : QS Z X E (.Expr e pos) (wExpr w) := (ps_expr h hs).wk fun D σ H ⟨fr, ow, env, Kn, A, hw, P⟩ =>
  ⟨fr, ow, env, _, _, A, hw, fun d v H' n r q => P.nx _ _ _ _ (A.g.mv n) q⟩
theorem Rep.m1 {fr : Fr} {ow : Ow} {H : Hp} {v : V} {d : D} (r : Rep fr.Z.g fr.d0 (MM fr ow) H v d) : Rep fr.Z.g fr.d0 (M1 fr) H v d := r.lat (.sub fun a z => z.elim .inl fun z => .inr (.inl z))
theorem qs_ret (h : QE Z X E e w) : QS Z X E (.Return (some e) pos) (wRet w) := (ps_ret h).wk fun D σ H ⟨fr, ow, env, Kn, A, hw, P⟩ =>
  ⟨fr, ow, env, _, _, A, hw, fun d v H' n r q => P.rt d v _ _ _ H' (A.g.mv n) r q⟩
theorem qs_retN : QS Z X E (.Return none pos) wRetN := ps_retN.wk fun D σ H ⟨fr, ow, env, Kn, A, hw, P⟩ => P.rt _ _ _ _ _ _ A.g .non hw
theorem qs_if (hc : QT Z X E e u) (ha : QSs Z X E ss a) (hb : QSs Z X E ss2 b) : QS Z X E (.If e ss ss2 pos) (wIfS u a b) := (ps_if hc ha hb).wk fun D σ H ⟨fr, ow, env, Kn, A, hw, P⟩ =>
  ⟨fr, ow, env, _, _, A, hw, fun c H' n q => by
    cases c with
    | true => exact ⟨fr, ow, env, Kn, A.mv n, q, P⟩
    | false => exact ⟨fr, ow, env, Kn, A.mv n, q, P⟩⟩
theorem qs_set {pos' : Pos} (i : Nat) (hN : X.N.Nodup) (hi : X.N[i]? = some x) (hx : Loc X.env.scope x) (he : QE Z X E e w) (hs : swapsWith e (some (.Name x pos')) pos.line X.env = pure false := by rfl) (hf : X.fn x = true ∨ X.env.scope.names.lookup x = some .local := by first | exact .inl rfl | exact .inr rfl | assumption) :
    QS Z X E (.Assign [.Name x pos'] e pos) (wSet i w) := (ps_set (i := i) hN hi hx he hs hf).wk fun D σ H ⟨fr, ow, env, Kn, A, hw, P⟩ =>
  ⟨fr, ow, env, _, _, A, hw, fun d v H' n r q => P.nx _ _ _ _ ((A.g.mv n).set i r) q⟩
theorem qs_setO {pos' : Pos} (i : Nat) (hN : X.N.Nodup) (hi : X.N[i]? = some x) (hx : Loc X.env.scope x) (he : QF Z X E e w) (hs : swapsWith e (some (.Name x pos')) pos.line X.env = pure false := by rfl) (hf : X.fn x = true ∨ X.env.scope.names.lookup x = some .local := by first | exact .inl rfl | exact .inr rfl | assumption) (hb : i < CBASE := by decide) :
    QS Z X E (.Assign [.Name x pos'] e pos) (wSetO i w) := (ps_set (i := i) hN hi hx he hs hf).wk fun D σ H ⟨fr, ow, env, Kn, A, hw, P⟩ =>
  ⟨fr, ow, env, _, _, A, hw, fun xs v H' n ⟨a, vs, e1, e2, e3, e4⟩ q => by
    subst e1
    exact P.nx _ _ _ _ (A.g.setO n i hb e2 e3 e4) q⟩
theorem qs_unp {tg : Expr} (g : Tgt) (he : QE Z X E e w) (hg : PG X tg (g.raw X.K)) (hs : swapsWithSole [tg] e pos.line X.env = pure false := by rfl) (hw : swappedStores [tg] e X.env = pure none := by rfl) (hz : (assignEach [tg] X.env).map (·.2) = [assign tg X.env] := by rfl) : QS Z X E (.Assign [tg] e pos) (wUnp g w) :=
  (ps_asg he hg hs hw hz).wk fun D σ H ⟨fr, ow, env, Kn, A, hw, P⟩ =>
  ⟨fr, ow, env, _, _, A, hw, fun d v H' n r q => Tgt.ok (A.g.mv n) r q fun σ' env' G _ k => P.nx _ _ _ _ G k⟩
theorem qs_setLc {tg iter elt : Expr} {ifs : List Expr} {sc : Scope} {own : List (Str × Nat)} {wi : WI} {py spos : Pos} {y : Str} (i : Nat) (g : Tgt) (hc : X.calm = true) (hN : X.N.Nodup) (hy : X.N[i]? = some y) (hyl : X.env.scope.names.lookup y = some .local)
    (hsw : swapsWith (.ListComp elt [⟨tg, iter, ifs, 0⟩] sc pos) (some (.Name y py)) spos.line X.env = pure true) (hi : QI Z X E true tg iter wi) (ok : BlkOk X.N X.env.scope sc own)
    (hg : ∀ (s : Shared) (H : Hp) (C : Addr) (cl : List (Str × Addr)) (fp : List Addr), PG (X.blk s H sc (compEnvC sc cl C X.env) fp) tg (g.raw X.K))
    (ht : ∀ (s : Shared) (H : Hp) (C : Addr) (cl : List (Str × Addr)) (fp : List Addr), PTs (X.blk s H sc (compEnvC sc cl C X.env) fp) ifs (RdT Z X.K E0 u))
    (he : ∀ (s : Shared) (H : Hp) (C : Addr) (cl : List (Str × Addr)) (fp : List Addr), PE (X.blk s H sc (compEnvC sc cl C X.env) fp) elt (RdE Z X.K E0 w))
    (hs : ∀ i ∈ g.slots, i ∈ own.map (·.2)) (hf : ∀ x, foldedSetIterable iter X.env x = pure x := by intro _; rfl) :
    QS Z X E (.Assign [.Name y py] (.ListComp elt [⟨tg, iter, ifs, 0⟩] sc pos) spos) (wSet i (wLc wi g u w (own.map (·.2)))) :=
  (ps_setLc (i := i) (g := g.raw X.K) (tt := RdT Z X.K E0 u) hc hN hy hyl hsw hi ok hg ht he hf).wk fun D σ H ⟨fr, ow, env, Kn, A, hw, P⟩ =>
  lc_rd hs σ H _ ⟨fr, ow, env, _, _, A, hw, fun xs v H' n r q => P.nx _ _ _ _ ((A.g.mv n).set i (r.rep A.g)) q⟩
theorem qs_setLcO {tg iter elt : Expr} {ifs : List Expr} {sc : Scope} {own : List (Str × Nat)} {wi : WI} {py spos : Pos} {y : Str} (i : Nat) (g : Tgt) (hc : X.calm = true) (hN : X.N.Nodup) (hy : X.N[i]? = some y) (hyl : X.env.scope.names.lookup y = some .local)
    (hsw : swapsWith (.ListComp elt [⟨tg, iter, ifs, 0⟩] sc pos) (some (.Name y py)) spos.line X.env = pure true) (hi : QI Z X E true tg iter wi) (ok : BlkOk X.N X.env.scope sc own)
    (hg : ∀ (s : Shared) (H : Hp) (C : Addr) (cl : List (Str × Addr)) (fp : List Addr), PG (X.blk s H sc (compEnvC sc cl C X.env) fp) tg (g.raw X.K))
    (ht : ∀ (s : Shared) (H : Hp) (C : Addr) (cl : List (Str × Addr)) (fp : List Addr), PTs (X.blk s H sc (compEnvC sc cl C X.env) fp) ifs (RdT Z X.K E0 u))
    (he : ∀ (s : Shared) (H : Hp) (C : Addr) (cl : List (Str × Addr)) (fp : List Addr), PE (X.blk s H sc (compEnvC sc cl C X.env) fp) elt (RdE Z X.K E0 w))
    (hs : ∀ i ∈ g.slots, i ∈ own.map (·.2)) (hf : ∀ x, foldedSetIterable iter X.env x = pure x := by intro _; rfl) (hb : i < CBASE := by decide) :
    QS Z X E (.Assign [.Name y py] (.ListComp elt [⟨tg, iter, ifs, 0⟩] sc pos) spos) (wSetO i (wLc wi g u w (own.map (·.2)))) :=
  (ps_setLc (i := i) (g := g.raw X.K) (tt := RdT Z X.K E0 u) hc hN hy hyl hsw hi ok hg ht he hf).wk fun D σ H ⟨fr, ow, env, Kn, A, hw, P⟩ =>
  lc_rd hs σ H _ ⟨fr, ow, env, _, _, A, hw, fun xs v H' n ⟨a, vs, e1, e2, e3, e4⟩ q => by
    subst e1
    exact P.nx _ _ _ _ (A.g.setO n i hb e2 e3 e4) q⟩
/-! a, b = x, y -/
def setS : L2.St → List Nat → List V → L2.St
  | σ, i :: is, v :: vs => setS (σ.set i (some v)) is vs
  | σ, _, _ => σ
/-- the frame as the elements see it, and as it will be -/
structure Par (fr frp : Fr) (ow owL : Ow) (H : Hp) (σ σL : L2.St) (env envL : Ev) : Prop where
  a : Good frp ow H σ env
  b : Good fr owL H σL envL
  sub : ∀ x, MM fr owL x → MM frp ow x
  z : frp.Z = fr.Z
  k : frp.K = fr.K
  d : frp.d0 = fr.d0
  h : frp.H0 = fr.H0
  m : frp.M0 = fr.M0
def RdP (Z : ZM) (K : PySem.W.Frag) (E : XK) (is : List Nat) (wp : WP) : TA := fun σ H Q => ∃ fr frp ow owL σL env envL Kq Ep, Par fr frp ow owL H σ σL env envL ∧ At Z K E frp ow H σ env Ep ∧ wp env envL Kq Ep ∧
  ∀ owL' envL' vs H', vs.length = is.length → Good fr owL' H' (setS σL is vs) envL' → Kq envL' → Q vs H'
theorem par_nil : PA X [] (RdP Z X.K E [] wpNil) := pa_nil.wk fun σ H Q ⟨fr, frp, ow, owL, σL, env, envL, Kq, Ep, P, A, hw, post⟩ => post owL envL [] H rfl P.b hw
theorem par_val {is : List Nat} {r : WP} (i : Nat) (he : QE Z X E e w) (hr : PA X es (RdP Z X.K E is r)) (hs : starEach (e :: es) X.env = (false, eval e X.env) :: starEach es X.env := by rfl) : PA X (e :: es) (RdP Z X.K E (i :: is) (wpVal i w r)) :=
  (pa_cons he hr hs).wk fun σ H Q ⟨fr, frp, ow, owL, σL, env, envL, Kq, Ep, P, A, hw, post⟩ =>
  ⟨frp, ow, env, _, Ep, A, hw, fun d v H1 n1 r1 q1 => by
    have n1' : N0 fr.Z.g.tb fr.K fr.d0 H H1 := by rw [← P.z, ← P.k, ← P.d]; exact n1
    have rL : Rep fr.Z.g fr.d0 (MM fr owL) H1 v d := by rw [← P.z, ← P.d]; exact r1.lat (.sub P.sub)
    exact ⟨fr, frp, ow, owL, σL.set i (some v), env, envL.set i (.val d), Kq, Ep, ⟨P.a.mv n1, (P.b.mv n1').set i rL, P.sub, P.z, P.k, P.d, P.h, P.m⟩, A.mv n1, q1, fun owL' envL' vs H' hl G' q => post owL' envL' (v :: vs) H' (by simp [hl]) G' q⟩⟩
theorem par_own {is : List Nat} {r : WP} (i : Nat) (he : QF Z X E e w) (hr : PA X es (RdP Z X.K E is r)) (hs : starEach (e :: es) X.env = (false, eval e X.env) :: starEach es X.env := by rfl) (hb : i < CBASE := by decide) : PA X (e :: es) (RdP Z X.K E (i :: is) (wpOwn i w r)) :=
  (pa_cons he hr hs).wk fun σ H Q ⟨fr, frp, ow, owL, σL, env, envL, Kq, Ep, P, A, hw, post⟩ =>
  ⟨frp, ow, env, _, Ep, A, hw, fun xs v H1 n1 ⟨a, us, ev, ha, h1, r1⟩ q1 => by
    subst ev
    have n1' : N0 fr.Z.g.tb fr.K fr.d0 H H1 := by rw [← P.z, ← P.k, ← P.d]; exact n1
    have rL : Reps fr.Z.g fr.d0 (fun b => MM fr owL b ∨ b = a) H1 us xs := by
      rw [← P.z, ← P.d]
      exact r1.lat (.sub fun b z => z.imp (P.sub b) id)
    have hne : Has H1 a := ⟨_, h1, nx_lst⟩
    have GA := P.a.plusN n1 ha hne
    refine ⟨fr, frp.plus a, ow, _, σL.set i (some (.ref a)), env, envL.set i (.own xs), Kq, Ep, ⟨GA, P.b.setO n1' i hb ha h1 rL, fun b z => MM.plus.mpr ?_, P.z, P.k, P.d, P.h, P.m⟩, ⟨A.z, A.k, GA, fun er cls dd H' n r q => A.er er cls dd H' (n1.trans n) (r.lat (.sub fun b z => MM.plus.mpr (.inl z))) q⟩, q1, fun owL' envL' vs H' hl G' q => post owL' envL' (V.ref a :: vs) H' (by simp [hl]) G' q⟩
    rcases z with z | z | z | ⟨j, z⟩
    · exact .inl (P.sub b (.inl z))
    · exact .inl (P.sub b (.inr (.inl z)))
    · exact .inl (P.sub b (.inr (.inr (.inl z))))
    · dsimp only at z
      split at z
      · exact .inr (Option.some.inj z).symm
      · exact .inl (P.sub b (.inr (.inr (.inr ⟨j, z⟩))))⟩
theorem par_go {is : List Nat} {r : WP} {D : Ends} {σ : L2.St} {H : Hp} {Q : List V → Hp → Prop} (h : RdS Z X.K E (wParN r) D σ H) (k : ∀ vs H', vs.length = is.length → D.nx (setS σ is vs) H' → Q vs H') : RdP Z X.K E is r σ H Q := by
  obtain ⟨fr, ow, env, Kn, A, hw, P⟩ := h
  exact ⟨fr, fr, ow, ow, σ, env, env, Kn.nx, _, ⟨A.g, A.g, fun _ z => z, rfl, rfl, rfl, rfl, rfl⟩, A, hw, fun owL' envL' vs H' hl G q => k vs H' hl (P.nx _ _ _ _ G q)⟩
theorem qs_par2 {i j : Nat} {y : Str} {r : WP} {px py pt : Pos} {kt k2 pt2} (hc : X.calm = true) (hN : X.N.Nodup) (hi : X.N[i]? = some x) (hj : X.N[j]? = some y) (hij : i ≠ j)
    (hx : X.env.scope.names.lookup x = some .local) (hy : X.env.scope.names.lookup y = some .local) (ha : PA X [e1, e2] (RdP Z X.K E [i, j] r))
    (hw : swappedStores [.Tuple [.Name x px, .Name y py] kt pt] (.Tuple [e1, e2] k2 pt2) X.env = pure (some [x, y]))
    (hs : swapsWithSole [.Tuple [.Name x px, .Name y py] kt pt] (.Tuple [e1, e2] k2 pt2) pos.line X.env = pure false := by rfl) :
    QS Z X E (.Assign [.Tuple [.Name x px, .Name y py] kt pt] (.Tuple [e1, e2] k2 pt2) pos) (wParN r) := (ps_par (i := i) (j := j) hc hN hi hj hij hx hy ha hw hs).wk fun D σ H h => par_go h fun vs H' hl q => by
  match vs, hl with
  | [v, u], _ => exact ⟨v, u, rfl, q⟩
theorem qs_par3 {i j l : Nat} {y z : Str} {r : WP} {px py pz pt : Pos} {kt k2 pt2} (hc : X.calm = true) (hN : X.N.Nodup) (hi : X.N[i]? = some x) (hj : X.N[j]? = some y) (hl : X.N[l]? = some z) (hij : i ≠ j) (hil : i ≠ l) (hjl : j ≠ l)
    (hx : X.env.scope.names.lookup x = some .local) (hy : X.env.scope.names.lookup y = some .local) (hz : X.env.scope.names.lookup z = some .local) (ha : PA X [e1, e2, e3] (RdP Z X.K E [i, j, l] r))
    (hw : swappedStores [.Tuple [.Name x px, .Name y py, .Name z pz] kt pt] (.Tuple [e1, e2, e3] k2 pt2) X.env = pure (some [x, y, z]))
    (hs : swapsWithSole [.Tuple [.Name x px, .Name y py, .Name z pz] kt pt] (.Tuple [e1, e2, e3] k2 pt2) pos.line X.env = pure false := by rfl) :
    QS Z X E (.Assign [.Tuple [.Name x px, .Name y py, .Name z pz] kt pt] (.Tuple [e1, e2, e3] k2 pt2) pos) (wParN r) := (ps_par3 (i := i) (j := j) (l := l) hc hN hi hj hl hij hil hjl hx hy hz ha hw hs).wk fun D σ H h => par_go h fun vs H' hl q => by
  match vs, hl with
  | [v, u, w], _ => exact ⟨v, u, w, rfl, q⟩
theorem rd_app {v : V} {d : D} {fr : Fr} {ow : Ow} {H : Hp} {σ : L2.St} {env : Ev} {xs : List D} (G : Good fr ow H σ env) (r : Rep fr.Z.g fr.d0 (MM fr ow) H v d) (e : env[i]? = some (.own xs)) :
    ∃ a vs, σ[i]? = some (some (.ref a)) ∧ H a = some (.lst vs) ∧ vs.length = xs.length ∧ Good fr ow (upd H a (.lst (vs ++ [v]))) σ (env.set i (.own (xs ++ [d]))) := by
  obtain ⟨a, vs, q1, q2, q3, q4⟩ := G.sl i _ e
  exact ⟨a, vs, q1, q3, q4.length, G.wrO i (G.ib e) q1 q2 (q4.app (.cons r .nil))⟩
/-- x.append(e), x the frame's own -/
theorem qs_app {p1 apos cpos : Pos} (i : Nat) (hN : X.N[i]? = some x) (hv : Vis X.env.scope x) (he : QE Z X E e w) (hd : (x == ("__debug__" : Str)) = false := by decide) (hcd : (x == ("__classdict__" : Str)) = false := by decide)
    (hbase : attributeBase (.Name x p1) "append" X.env (eval (.Name x p1) X.env) = eval (.Name x p1) X.env := by rfl)
    (hfew : ((backTo cpos (starEach [e] X.env)).all (fun x => !x.1) && (backToKw cpos (keywordEach [] X.env)).all (fun x => x.1.isSome) && decide ([e].length + ([] : List Keyword).length + (if ([] : List Keyword).isEmpty then 0 else 1) < 30)) = true := by rfl)
    (hline : (apos.endLine == cpos.line) = true := by rfl) (hse : starEach [e] X.env = (false, eval e X.env) :: starEach [] X.env := by rfl) (hplain : (backTo cpos (starEach [] X.env)).any (·.1) = false := by rfl)
    (hs : swapsWith (.Call (.Attribute (.Name x p1) "append" apos) [e] [] cpos) none pos.line X.env = pure false := by rfl) :
    QS Z X E (.Expr (.Call (.Attribute (.Name x p1) "append" apos) [e] [] cpos) pos) (wApp i w) :=
  (ps_expr (pe_bm PySem.F.plainAttrs_list PySem.F.slot_list_append PySem.F.type_list_append mt_append (pe_var hN hv hd hcd) (pa_cons he pa_nil hse) hbase hfew hline hse hplain) hs).wk fun D σ H ⟨fr, ow, env, Kn, A, hw, P⟩ => by
  unfold wApp at hw
  split at hw
  · rename_i xs ho
    obtain ⟨a, vs, q1, q2, q3, q4⟩ := A.g.sl i _ ho
    refine ⟨_, q1, .inl ⟨rfl, vs, SqL.of q3⟩, fr, ow, env, _, _, A, hw, fun d v H' n r ⟨q5, q6⟩ => ?_⟩
    obtain ⟨a', vs', z1, z2, z3, z4⟩ := rd_app (A.g.mv n) r ho
    rw [q1] at z1
    cases z1
    refine ⟨a, vs', v, rfl, rfl, z2, ?_, P.nx _ _ _ _ z4 q6⟩
    rw [z3, sizeLine_eq]
    unfold LIM at q5
    omega
  · exact hw.elim
/-- x[j] = e, x the frame's own -/
theorem qs_put {p1 pos2 : Pos} (i : Nat) (hN : X.N[i]? = some x) (hv : Vis X.env.scope x) (hj : QE Z X E e1 w1) (he : QE Z X E e w) (hd : (x == ("__debug__" : Str)) = false := by decide) (hcd : (x == ("__classdict__" : Str)) = false := by decide)
    (ha : ∀ v, assign (.Subscript (.Name x p1) e1 pos2) X.env v = (do
      let ov ← holding [v] (eval (.Name x p1) X.env)
      let iv ← holding [v, ov] (eval e1 X.env)
      standAt pos2
      holding [v, ov, iv] (setItem ov iv v)
      release [v, ov, iv] []) := by intro _; rfl)
    (hs : swapsWithSole [.Subscript (.Name x p1) e1 pos2] e pos.line X.env = pure false := by rfl) (hw : swappedStores [.Subscript (.Name x p1) e1 pos2] e X.env = pure none := by rfl) (hz : (assignEach [.Subscript (.Name x p1) e1 pos2] X.env).map (·.2) = [assign (.Subscript (.Name x p1) e1 pos2) X.env] := by rfl) :
    QS Z X E (.Assign [.Subscript (.Name x p1) e1 pos2] e pos) (wPutI i w1 w) :=
  (ps_asg he (pg_sub (pe_var hN hv hd hcd) hj set_list ha) hs hw hz).wk fun D σ H ⟨fr, ow, env, Kn, A, hw, P⟩ => by
  unfold wPutI at hw
  split at hw
  · rename_i xs ho
    obtain ⟨a, vs, q1, q2, q3, q4⟩ := A.g.sl i _ ho
    refine ⟨fr, ow, env, _, _, A, hw, fun d v H' n r q => ⟨_, q1, fr, ow, env, _, _, A.mv n, q, fun d2 k H2 n2 r2 q6 => ?_⟩⟩
    cases d2 <;> try exact (show False from q6).elim
    obtain ⟨m, hm, q7⟩ := q6
    obtain ⟨a', vs', z1, z2, z3, z4⟩ := (A.g.mv (n.trans n2)).sl i _ ho
    rw [q1] at z1
    cases z1
    exact ⟨a, vs', _, m, rfl, r2.ix, z3, by rw [z4.length]; exact hm, P.nx _ _ _ _ ((A.g.mv (n.trans n2)).wrO i (A.g.ib ho) q1 z2 (Reps.set (r.lat (Nz.lat n2 MM.d0)) m z4)) q7⟩
  · exact hw.elim
theorem qs_frz (i : Nat) (h : QS Z X E s a) : QS Z X E s (wFrz i a) := h.wk fun D σ H ⟨fr, ow, env, Kn, A, hw, P⟩ => by
  unfold wFrz at hw
  split at hw
  · rename_i xs ho
    exact ⟨fr, _, _, Kn, A.go P (A.g.frz i (A.g.ib ho) ho), hw, P⟩
  · exact ⟨fr, ow, env, Kn, A, hw, P⟩
/-- what stands apart stands still -/
noncomputable def Fr.still (fr : Fr) (ow : Ow) (H : Hp) : Fr := { fr with gH := fun a => open Classical in if MM fr ow a ∨ ∃ ps, H a = some (.tbl ps) then none else H a }
theorem Fr.stillAt {fr : Fr} {ow : Ow} {H : Hp} {a : Addr} {o : HO} (n : ¬ MM fr ow a) (t : NT o) (e : H a = some o) : (fr.still ow H).gH a = some o := by
  unfold Fr.still
  dsimp only
  rw [if_neg]
  · exact e
  · rintro (z | ⟨ps, z⟩)
    · exact n z
    · rw [e] at z
      exact t ps (Option.some.inj z)
theorem Good.still {fr : Fr} {ow : Ow} {H : Hp} {σ : L2.St} {env : Ev} (G : Good fr ow H σ env) : Good (fr.still ow H) ow H σ env := ⟨G.nx, G.d00, G.t0, G.mex, G.m0x, G.ss, G.owf, G.inj, G.avo, fun a o h => by
  unfold Fr.still at h
  dsimp only at h
  split at h
  · cases h
  · rename_i n
    exact ⟨fun ps z => n (.inr ⟨ps, by rw [h, z]⟩), h, fun z => n (.inl z)⟩, G.len, G.lb, fun i s e => (G.sl i s e).mvF (fr' := fr.still ow H) rfl rfl rfl .refl (fun a o h e => ⟨e, h⟩) (fun k a o h e => ⟨e, h⟩)⟩
theorem Good.unstill {fr : Fr} {ow ow' : Ow} {H H' : Hp} {σ σ' : L2.St} {env env' : Ev} (G : Good fr ow H σ env) (G' : Good (fr.still ow H) ow' H' σ' env') : Good fr ow' H' σ' env' := ⟨G'.nx, G'.d00, G'.t0, G'.mex, G'.m0x, G'.ss, G'.owf, G'.inj, G'.avo, fun a o h => by
  obtain ⟨h0, h1, h2⟩ := G.gh a o h
  exact G'.gh a o (Fr.stillAt h2 h0 h1), G'.len, G'.lb, fun i s e => (G'.sl i s e).mvF (fr := fr.still ow H) (fr' := fr) rfl rfl rfl .refl (fun a o h e => ⟨e, h⟩) (fun k a o h e => ⟨e, h⟩)⟩
theorem Good.stillLat {fr : Fr} {ow ow' : Ow} {H H' : Hp} {σ' : L2.St} {env' : Ev} (G' : Good (fr.still ow H) ow' H' σ' env') : Lat (MM fr ow) H (MM fr ow') H' := fun a o t n e => (G'.gh a o (Fr.stillAt n t e)).2
theorem qs_for {tg iter : Expr} {wi : WI} (g : Tgt) (hp : PassesOwn (model X.prog X.w) X.A X.env X.xe) (hc : X.calm = true) (hi : QI Z X E false tg iter wi) (hg : PG X tg (g.raw X.K)) (hb : QSs Z X E ss b)
    (hs : ∀ x, foldedSetIterable iter X.env x = pure x := by intro _; rfl) : QS Z X E (.For tg iter ss [] pos) (wFor wi g b) := (ps_for hp hc hi hg hb hs).wk fun D σ H ⟨fr, ow, env, Kn, A, hw, P⟩ =>
  ⟨fr, ow, env, _, _, A, hw, fun xs J H1 n1 io q => by
    have G1 := A.g.mv n1
    refine ⟨fun i m σ' H' => m = xs.length - i ∧ i ≤ xs.length ∧ ∃ ow' env', Good (fr.still ow H1) ow' H' σ' env' ∧ wForGo g b Kn (xs.drop i) env', ⟨_, rfl, Nat.zero_le _, ow, env, G1.still, q⟩, ?_⟩
    rintro i m σ' H' ⟨rfl, hi, ow', env', G', q'⟩
    have ioi := io (MM fr ow') H' G'.stillLat (fun z => by cases z) (fun p hp => G'.fresh hp) i
    by_cases hi2 : i = xs.length
    · refine .inl ⟨ioi.1 (by omega), ?_⟩
      rw [hi2, List.drop_length] at q'
      exact P.nx _ _ _ _ (G1.unstill G') q'
    · have lt : i < xs.length := by omega
      obtain ⟨go, yl⟩ := ioi.2 _ (List.getElem?_eq_getElem lt)
      refine .inr ⟨go, fun σ'' H'' => i + 1 ≤ xs.length ∧ ∃ ow' env', Good (fr.still ow H1) ow' H'' σ'' env' ∧ wForGo g b Kn (xs.drop (i + 1)) env', fun σ'' H'' z => ⟨xs.length - (i + 1), by omega, rfl, z⟩, fun v H2 y => ?_⟩
      obtain ⟨sm, rv⟩ := yl v H2 y
      rw [List.drop_eq_getElem_cons lt] at q'
      have q' : g.put env' xs[i] _ := q'
      have G2 := G'.mv (.of G'.dice sm)
      refine Tgt.ok (K := X.K) G2 (by exact rv) q' fun σ3 env3 G3 _ q3 => ?_
      refine ⟨fr.still ow H1, ow', env3, ⟨fun e => wForGo g b Kn (xs.drop (i + 1)) e, Kn.rt, Kn.nx, fun e => wForGo g b Kn (xs.drop (i + 1)) e, Kn.er⟩, ⟨A.z, A.k, G3, fun er cls dd H' n r q => P.er _ _ _ _ _ _ _ (G1.unstill (G3.mv n)) r q⟩, q3, fun ow4 env4 σ4 H4 G4 q4 => ⟨lt, ow4, env4, G4, q4⟩, fun d v ow4 env4 σ4 H4 G4 r q4 => P.rt _ _ _ _ _ _ (G1.unstill G4) r q4, fun ow4 env4 σ4 H4 G4 q4 => P.nx _ _ _ _ (G1.unstill G4) q4, fun ow4 env4 σ4 H4 G4 q4 => ⟨lt, ow4, env4, G4, q4⟩, fun er cls dd ow4 env4 σ4 H4 G4 r q4 => P.er _ _ _ _ _ _ _ (G1.unstill G4) r q4⟩⟩
theorem qs_while (hp : PassesOwn (model X.prog X.w) X.A X.env X.xe) (hc : QT Z X E e u) (hb : QSs Z X E ss b) : QS Z X E (.While e ss [] pos) (wWhile u b) := (ps_while hp hc hb).wk fun D σ H ⟨fr, ow, env, Kn, A, ⟨I, ⟨m0, i0⟩, turn⟩, P⟩ =>
  ⟨fun m σ' H' => ∃ ow' env', Good fr ow' H' σ' env' ∧ I m env', ⟨m0, ow, env, A.g, i0⟩, fun m σ' H' ⟨ow', env', G', im⟩ => ⟨fr, ow', env', _, _, A.go P G', turn m env' im, fun c H2 n q => by
    cases c with
    | false => exact P.nx _ _ _ _ (G'.mv n) q
    | true =>
      refine ⟨fun σ3 H3 => ∃ m', m' < m ∧ ∃ ow3 env3, Good fr ow3 H3 σ3 env3 ∧ I m' env3, fun σ3 H3 z => z, ?_⟩
      exact ⟨fr, ow', env', ⟨fun e => ∃ m', m' < m ∧ I m' e, Kn.rt, Kn.nx, fun e => ∃ m', m' < m ∧ I m' e, Kn.er⟩, (A.go P G').mv n, q, fun ow4 env4 σ4 H4 G4 ⟨m', l, q4⟩ => ⟨m', l, ow4, env4, G4, q4⟩, P.rt, P.nx, fun ow4 env4 σ4 H4 G4 ⟨m', l, q4⟩ => ⟨m', l, ow4, env4, G4, q4⟩, P.er⟩⟩⟩
/-- raise C('..'), C an own class without fields -/
theorem qs_raise {c : Nat} (hc : X.calm = true) (tk : Takes X (fun cls d _ H => E cls d H)) (hm : PMk X e (fun _ H Q => Q (.ref (Z c)) none H)) : QS Z X E (.Raise (some e) none pos) (wRaise c) := (ps_raise hc tk hm).wk fun D σ H ⟨fr, ow, env, Kn, A, hw, P⟩ =>
  A.er _ _ _ _ (.refl A.g.dice) ⟨by rw [A.z], .inl ⟨rfl, rfl, rfl⟩⟩ hw
theorem qs_never : QS Z X E s wNever := ps_never.wk fun D σ H ⟨fr, ow, env, Kn, A, hw, P⟩ => hw.elim
/-- the start of a body -/
theorem start_good {K : PySem.W.Frag} {d0 : Addr} {M : Addr → Prop} {H : Hp} {vs : List V} {ds : List D} {N : List Str} (hD : Dice K H d0) (hT : LamX.Tabs Z.g.tb H) (hM : ∀ a, M a → Has H a) (r : Reps Z.g d0 (fun a => a = d0 ∨ M a) H vs ds) (hl : vs.length ≤ N.length) (hb : N.length ≤ CBASE) :
    Good ⟨Z, K, d0, M, fun _ => False, fun _ => False, H, fun _ => none, d0⟩ (fun _ => none) H (L2.start N vs) (ds.map .val ++ List.replicate (N.length - ds.length) .un) := by
  have dx : H d0 ≠ none := by
    obtain ⟨sa, ns, p, m, c, h1, _⟩ := hD.ex
    rw [h1]
    exact fun z => by cases z
  have mm : ∀ a, MM ⟨Z, K, d0, M, fun _ => False, fun _ => False, H, fun _ => none, d0⟩ (fun _ => none) a → a = d0 ∨ M a := fun a h => by
    rcases h with h | h | h | ⟨i, h⟩
    · exact .inl h
    · exact .inr h
    · exact h.elim
    · cases h
  refine ⟨.refl hD, hD, hT, fun a h => ?_, fun a h => (hM a h).nn, fun a h => h.elim, fun i a h => (by cases h), fun i j a h => (by cases h), fun i a h => (by cases h), fun a o h => (by cases h), ?_, ?_, fun i s e => ?_⟩
  · rcases mm a h with h | h
    · rw [h]; exact hD.has
    · exact hM a h
  · unfold L2.start
    simp [r.length]
  · unfold L2.start
    simp
    omega
  · by_cases hi : i < ds.length
    · rw [List.getElem?_append_left (by simpa using hi), List.getElem?_map] at e
      obtain ⟨d, h1, rfl⟩ := Option.map_eq_some_iff.mp e
      obtain ⟨v, q1, q2⟩ := r.get h1
      refine ⟨v, ?_, q2.lat (.sub mm)⟩
      unfold L2.start
      rw [List.getElem?_append_left (by rw [List.length_map, r.length]; exact hi), List.getElem?_map, q1]
      rfl
    · rw [List.getElem?_append_right (by simpa using Nat.le_of_not_lt hi), List.getElem?_replicate] at e
      split at e
      · cases e
        exact True.intro
      · cases e
/-- a def's promise by data, read into its body -/
theorem def_rd {K : PySem.W.Frag} {N : List Str} {n : Nat} {H : Hp} {vs : List V} {Q : VK} (hn : n ≤ N.length) (hb9 : N.length ≤ CBASE) (h : SpD Z.g K (specOf n N.length b) vs H Q E) :
    RdS Z K E b { nx := fun _ H' => Q .non H', rt := Q } (L2.start N vs) H := by
  obtain ⟨d0, M, ds, Qp, Ep, hD, hT, hM, r, ⟨hl, hb⟩, post, per⟩ := h
  refine ⟨⟨Z, K, d0, M, fun _ => False, fun _ => False, H, fun _ => none, d0⟩, fun _ => none, _, ⟨fun _ => Qp .non, fun d _ => Qp d, fun _ => False, fun _ => False, fun x _ => Ep x⟩, ⟨rfl, rfl, start_good hD hT hM r (by rw [r.length, hl]; exact hn) hb9, fun er cls dd H' nx re q => per er cls dd H' nx (re.lat (.sub fun a z => z.elim .inl fun z => .inr (.inl z))) q⟩, by rw [hl]; exact hb,
    fun ow' env' σ' H' G q => post .non .non H' G.nx .non q, fun d v ow' env' σ' H' G r q => post d v H' G.nx r.m1 q, fun _ _ _ _ _ z => z.elim, fun _ _ _ _ _ z => z.elim, fun er cls dd ow' env' σ' H' G re q => per er cls dd H' G.nx (re.lat (.sub fun a z => z.elim .inl fun z => .inr (.inl z))) q⟩
theorem def_len {K : PySem.W.Frag} {N : List Str} {n : Nat} {H : Hp} {vs : List V} {Q : VK} (h : SpD Z.g K (specOf n N.length b) vs H Q E) : vs.length = n := by
  obtain ⟨d0, M, ds, Qp, Ep, hD, hT, hM, r, ⟨hl, hb⟩, post, per⟩ := h
  rw [r.length, hl]
/-- a weaker promise by data -/
theorem SpD.imp {K : PySem.W.Frag} {P P' : PSpec} (h : ∀ ds Q E, P' ds Q E → P ds Q E) {vs : List V} {H : Hp} {Q : VK} {E : XK} (q : SpD Z.g K P' vs H Q E) : SpD Z.g K P vs H Q E := by
  obtain ⟨d0, M, ds, Qp, Ep, hD, hT, hM, r, hb, post, per⟩ := q
  exact ⟨d0, M, ds, Qp, Ep, hD, hT, hM, r, h _ _ _ hb, post, per⟩
end
end Oil
/-! enumerate of a tuple. -/
namespace Oil
open PySem PySem.Spec PyProof.Rows L2
theorem meets_enum1 {v : Value} {o : Obj} {HH : Heap → Prop} (B : Begins v o HH) :
    Meets (Builtin.«enumerate.__new__» ⟨[.type "enumerate", v], []⟩) (fun _ R s => HH s.heap ∧
      R (.ok (.ret (.ref (s.heap.push o).objs.size))) { s with heap := (s.heap.push o).push { cls := .type "enumerate", data := .fields #[.none, .bool false, .ref s.heap.objs.size, rawInt 0, .none, .none] } }) :=
  .of_wp fun prog w A R s h => by
    obtain ⟨hp, g, d, tk, os⟩ := s; obtain ⟨h1, h⟩ := h
    have hsub := sub_enumerate
    have q1 : ∀ {A' : Around} {E : Value → Shared → Prop} {Q : Value → Shared → Prop}, Q (.ref hp.objs.size) ⟨hp.push o, g, d, tk, os⟩ → wpAny (model prog w) A' (pyIter v) Q E ⟨hp, g, d, tk, os⟩ :=
      fun q => B.iter prog w _ _ ⟨hp, g, d, tk, os⟩ _ h1 q
    wp_walk using q1
    refine wpAny_stack_any fun st => wpAny_pure ?_
    split
    · rename_i c _ _ _ _ _
      cases (c == Value.type "enumerate")
      · wp_walk using q1
        exact ⟨_, rfl, h⟩
      · wp_walk using q1
        exact ⟨_, rfl, h⟩
    · wp_walk using q1
      exact ⟨_, rfl, h⟩
theorem call_enumT {prog : Program} {w : World} {A : Around} {E : Value → Shared → Prop} {s : Shared} {l : Addr} {items : Array Value} {Q : Value → Shared → Prop} (hL : s.heap.IsTuple l items)
    (h : ∀ h', IsEnum h' (s.heap.objs.size + 1) s.heap.objs.size 0 .none → h'.IsTupleIter s.heap.objs.size l 0 → h'.objs.size = s.heap.objs.size + 2 →
      (∀ b o, s.heap.get? b = some o → h'.get? b = some o) → Q (.ref (s.heap.objs.size + 1)) { s with heap := h' }) :
    wpAny (model prog w) A (call (.type "enumerate") [.ref l]) Q E s := by
  refine callType_new F.called_enumerate (by decide) (F.typeCall_enumerate_1 _) (F.newCall_enumerate_1 _) (fun obj => F.args_object_init_2 obj _) F.entry_enumerate_new
    (meets_enum1 (begins_tuple l items)) ⟨hL, ?_⟩
  have hz : (s.heap.push { cls := .type "tuple_iterator", data := .fields #[.ref l, .int 0 0] }).objs.size = s.heap.objs.size + 1 := Heap.size_push ..
  show _ ∧ _
  rw [hz]
  have he : IsEnum ((s.heap.push { cls := .type "tuple_iterator", data := .fields #[.ref l, .int 0 0] }).push
      { cls := .type "enumerate", data := .fields #[.none, .bool false, .ref s.heap.objs.size, rawInt 0, .none, .none] }) (s.heap.objs.size + 1) s.heap.objs.size 0 .none := by
    have := Heap.get?_push_size (s.heap.push { cls := .type "tuple_iterator", data := .fields #[.ref l, .int 0 0] })
      (o := { cls := .type "enumerate", data := .fields #[.none, .bool false, .ref s.heap.objs.size, rawInt 0, .none, .none] }) rfl
    rw [hz] at this; exact this
  refine ⟨⟨_, he, rfl⟩, h _ he ⟨_, Heap.get?_push_of_some _ (Heap.get?_push_size _ rfl), rfl, rfl⟩ (by rw [Heap.size_push, hz]) fun b o x => Heap.get?_push_of_some _ (Heap.get?_push_of_some _ x)⟩
/-- the tuple at a as it stands at each turn, each item in a new pair -/
def IteT (K : PySem.W.Frag) (a : Addr) : It :=
  ⟨fun i H => ∃ (xs : List V) (x : V), SqT K H a xs ∧ xs[i]? = some x, fun i H v H' => ∃ T x, v = .ref T ∧ H T = none ∧ H' = upd H T (.tup [.int (i : Nat), x]) ∧ ∀ xs, SqT K H a xs → xs[i]? = some x, fun i H => ∃ xs : List V, SqT K H a xs ∧ xs.length ≤ i⟩
theorem turn_enumT {P : Program} {w : World} {K : PySem.W.Frag} {elts : List Expr} {kk : Nat} {tpos : Pos} (a e it : Addr) (hae : a ≠ it) :
    Turn P w K (.Tuple elts kk tpos) (IteT K a) [e, it] e (fun i h => (∃ old, IsEnum h e it ((i : Nat) : Int) old) ∧ h.IsTupleIter it a i ∧ e ≠ it) where
  mem := by simp
  obj := fun i h st b hb => by
    obtain ⟨⟨old, he⟩, ⟨o, ho, hc, hd⟩, _⟩ := st
    have e' : b = e ∨ b = it := by simpa using hb
    rcases e' with z | z
    · rw [z]; exact ⟨_, he, fun v q => nomatch q⟩
    · rw [z]; exact ⟨o, ho, fun v q => by rw [hd] at q; cases q⟩
  keep := fun i h h' st k => let ⟨⟨old, he⟩, hi, hne⟩ := st; ⟨⟨old, k e (by simp) _ he⟩, hi.at fun o q => k it (by simp) o q, hne⟩
  item := by
    intro X hP hw hK hc i pins s σ H E I hf st hg
    subst hP hw hK
    obtain ⟨⟨old, he⟩, hit, hne⟩ := st
    obtain ⟨xs, x, hq, hx⟩ := hg
    obtain ⟨its, rv, p, hz⟩ := I.tuple hq
    have p : s.heap.IsTuple a its.toArray := p
    obtain ⟨u, hu, ru⟩ := rv.get hx
    have hel : e < s.heap.objs.size := Heap.lt_size he
    have hil : it < s.heap.objs.size := by obtain ⟨_, q, _⟩ := hit; exact Heap.lt_size q
    have hau : (its.toArray)[i]? = some u := by simpa using hu
    have hlt : i < its.toArray.size := by
      obtain ⟨h1, _⟩ := Array.getElem?_eq_some_iff.mp hau
      exact h1
    have hf5 : e ≠ a := fun z => by
      obtain ⟨ol, hol, hcl, _⟩ := p
      rw [← z] at hol
      have he' : s.heap.get? e = _ := he
      rw [hol] at he'
      have := Option.some.inj he'
      rw [this] at hcl
      have hcl : Value.type "enumerate" = Value.type "tuple" := hcl
      injection hcl with z2
      exact absurd z2 (by decide)
    have D := Draws.tuple (prog := X.prog) (w := X.w) (A := X.A.in1) (I.ok.hd hc) it a hae its.toArray
    refine wpAny_pyNext_enum_itemD D he ⟨hit, p⟩ hlt hne (by simp [hne, hf5]) fun x' h' tk hx' ho hst hT hsz hk => ?_
    obtain rfl : x' = u := by
      rw [hau] at hx'
      exact (Option.some.inj hx').symm
    obtain ⟨hit', _⟩ := hst
    refine ⟨_, rfl, wpAny_letOwnedTupleGo_enum (s := { s with heap := h', toks := tk + 1 }) ho fun h'' he' sb => ?_⟩
    have hT2 : h''.get? s.heap.objs.size = some { cls := .type "tuple", data := .seq #[.int i tk, x'] } := (sb.2 _ (Nat.ne_of_gt hel)).trans hT
    have new : ObjOk X.prog X.w (upd H s.heap.objs.size (.tup [.int (i : Nat), x])) h'' s.heap.objs.size (.tup [.int (i : Nat), x]) :=
      ⟨by show 2 ≤ sizeLine; decide, [.int i tk, x'], .cons ⟨_, rfl⟩ (.cons ru .nil), ⟨_, hT2, rfl, _, rfl⟩⟩
    have I1 : Inv X pins σ (upd H s.heap.objs.size (.tup [.int (i : Nat), x])) { s with heap := h'', toks := tk + 1 } :=
      I.turnedNew (ch := [e, it]) (fun b ob hb q => (sb.2 b (fun z => hb (by simp [z]))).trans (hk b ob (fun z => hb (by simp [z])) (fun z => hb (by simp [z])) q)) hf (Nat.le_refl _) new
    refine ⟨.ref s.heap.objs.size, _, I1, rfl, ⟨_, x, rfl, I.hok.fresh (Nat.le_refl _), rfl, fun ys hy => by rw [I.tuple_inj hy hq]; exact hx⟩, ⟨⟨x', ?_⟩, hit'.at fun o q => (sb.2 it (Ne.symm hne)).trans q, hne⟩, fun b hb => ?_⟩
    · have e1 : ((i + 1 : Nat) : Int) = (i : Int) + 1 := by omega
      rw [e1]; exact he'
    · have hb' : b < s.heap.objs.size := by
        have e' : b = e ∨ b = it := by simpa using hb
        rcases e' with z | z
        · rw [z]; exact hel
        · rw [z]; exact hil
      rw [upd_ne (Nat.ne_of_lt hb')]
      exact (hf b hb).1
  done := by
    intro X hP hw hK hc i pins s σ H E I hf st hg
    subst hP hw hK
    obtain ⟨⟨old, he⟩, hit, hne⟩ := st
    obtain ⟨xs, hq, hx⟩ := hg
    obtain ⟨its, rv, p, hz⟩ := I.tuple hq
    have p : s.heap.IsTuple a its.toArray := p
    obtain ⟨f0, f1, f2, f3, f4, f5⟩ := hf it (by simp)
    have hl := rv.length
    have hT : s.TypeIs (.ref e) "enumerate" := ⟨_, he, rfl⟩
    unfold pyNext
    refine wpAny_bind (wpAny_attempt (wpAny_callSpecial?_slot (name := Str.ofString "__next__") hT F.slot_enumerate_next
      (wpAny_call_entry F.slot_enumerate_next hT F.entry_enumerate_next ?_ (F.args_enumerate_next_1 _))))
    show wpAny _ _ (field (.ref e) 2 >>= _) _ _ _
    refine wpAny_bind (wpAny_field he rfl (x := .ref it) rfl ?_)
    refine wpAny_bind (wpAny_nextOf_tuple_end (I.ok.hd hc) hit p (by simp; omega) fun h' x he' hx' => ?_)
    obtain ⟨o, ho, hc'⟩ := hx'
    refine wpAny_bind (wpAny_isInstance (T := "StopIteration") (b := true) ⟨o, ho, hc'⟩ isSubtype_stop ?_)
    exact wpAny_pure ⟨rfl, I.turned (t' := s.toks) (fun b o hb q => he' b o hb q) f0 f1 f3 f4 f5⟩
  self := fun A i s Q E st h => let ⟨⟨_, he⟩, _⟩ := st; wpAny_pyIter_enum he h
def iEnumT (K : PySem.W.Frag) (ta : TA) : TI := fun σ H R => ta σ H fun vs H1 => ∃ a xs, vs = [.ref a] ∧ SqT K H1 a xs ∧ R (IteT K a) H1
theorem pi_enumT {X : Cx} {e : Expr} {ta : TA} {p pos tpos : Pos} {elts : List Expr} {kk : Nat} (hg : Gl X "enumerate") (hm : X.mg "enumerate" = none) (ha : PA X [e] ta) (hs : starEach [e] X.env = [(false, eval e X.env)] := by rfl) :
    PI X (.Tuple elts kk tpos) (.Call (.Name "enumerate" p) [e] [] pos) (iEnumT X.K ta) := by
  refine ⟨fun pins s σ H R I h => ?_⟩
  refine Call_ (ld_blt I hg hm boot_enumerate (PyProof.Rows.callWith_type1 (thn (ha.run pos pins s σ H _ I h) fun us s1 ⟨vs, H1, I1, r1, q1⟩ => ?_) hs rfl))
  obtain ⟨a, xs, ex, hq, q⟩ := q1
  subst ex
  cases r1 with
  | cons r rr =>
    cases rr
    cases r
    obtain ⟨its, rv, p', hz⟩ := I1.tuple hq
    have p' : s1.heap.IsTuple a its.toArray := p'
    have ha : a < s1.heap.objs.size := by obtain ⟨_, q, _⟩ := p'; exact Heap.lt_size q
    refine call_enumT p' fun h' he hit hsz hk => wpAny_pyIter_enum he ?_
    have I2 : Inv X pins σ H1 { s1 with heap := h' } := I1.kept (t' := s1.toks) hk
    refine ⟨s1.heap.objs.size + 1, [s1.heap.objs.size + 1, s1.heap.objs.size], _, _, H1, rfl, I2, turn_enumT a (s1.heap.objs.size + 1) s1.heap.objs.size (Nat.ne_of_lt ha), ⟨⟨.none, he⟩, hit, Nat.succ_ne_self _⟩, fun b hb => ?_, q⟩
    have e' : b = s1.heap.objs.size + 1 ∨ b = s1.heap.objs.size := by simpa using hb
    have hle : s1.heap.objs.size ≤ b := by
      rcases e' with z | z
      · rw [z]; exact Nat.le_add_right _ _
      · rw [z]; exact Nat.le_refl _
    exact I1.fpOk hle (I1.hok.fresh hle)
end Oil
/-! What is walked (more), own operators, making, the draws: by data. -/
namespace Oil
open PySem PySem.Spec PyProof.Rows L2
section
variable {Z : ZM} {X : Cx} {E : XK} {e e1 e2 e3 : Expr} {es : List Expr} {w w1 w2 w3 : WE} {t t2 : WA} {u u1 u2 : WT} {pos p : Pos} {i : Nat} {x : Str} {tg : Expr}
/-- a list or a tuple -/
def iSeq (K : PySem.W.Frag) (tl : TE) : TI := fun σ H R => tl σ H fun x H1 => ∃ a, x = .ref a ∧ (((∃ xs, SqL K H1 a xs) ∧ R (Itl K a) H1) ∨ ((∃ xs, SqT K H1 a xs) ∧ R (Itt K a) H1))
theorem pi_seq {l : Expr} {tl : TE} (hl : PE X l tl) : PI X tg l (iSeq X.K tl) := by
  refine ⟨fun pins s σ H R I h => ?_⟩
  refine thn (hl.run pins s σ H _ I h) fun v s1 ⟨x, H1, I1, r1, q1⟩ => ?_
  obtain ⟨a, e, q1⟩ := q1
  subst e
  cases r1
  rcases q1 with ⟨⟨xs, hq⟩, q⟩ | ⟨⟨xs, hq⟩, q⟩
  · obtain ⟨its, rv, p, hz⟩ := I1.list hq
    refine wpAny_pyIter_list p.isList ?_
    refine ⟨s1.heap.objs.size, [s1.heap.objs.size], _, _, H1, rfl, I1.kept (t' := s1.toks) fun b o e => Heap.get?_push_of_some _ e, turn_list a _, ⟨_, Heap.get?_push_size _ rfl, rfl, rfl⟩, fun b hb => ?_, q⟩
    have e : b = s1.heap.objs.size := by simpa using hb
    subst e
    exact I1.fpOk (Nat.le_refl _) (I1.hok.fresh (Nat.le_refl _))
  · obtain ⟨its, rv, p, hz⟩ := I1.tuple hq
    refine wpAny_pyIter_tuple (show s1.heap.IsTuple a its.toArray from p) ?_
    refine ⟨s1.heap.objs.size, [s1.heap.objs.size], _, _, H1, rfl, I1.kept (t' := s1.toks) fun b o e => Heap.get?_push_of_some _ e, turn_tuple a _, ⟨_, Heap.get?_push_size _ rfl, rfl, rfl⟩, fun b hb => ?_, q⟩
    have e : b = s1.heap.objs.size := by simpa using hb
    subst e
    exact I1.fpOk (Nat.le_refl _) (I1.hok.fresh (Nat.le_refl _))
theorem qi_seq {own : Bool} (h : QE Z X E e w) : QI Z X E own tg e (wIter w) := (pi_seq h).wk fun σ H R ⟨fr, ow, env, Qp, Ep, A, hw, post⟩ =>
  ⟨fr, ow, env, _, Ep, A, hw, fun d v H1 n1 r1 q1 => by
    split at q1
    · rename_i xs e
      obtain ⟨a, vs, rfl, hm, h1, h2⟩ := r1.seq e
      rcases h1 with ⟨h1, _⟩ | ⟨h1, _⟩
      · exact ⟨a, rfl, .inl ⟨⟨_, SqL.of h1⟩, post _ _ H1 n1 (itl_ok h1 (.inl hm) h2) q1⟩⟩
      · exact ⟨a, rfl, .inr ⟨⟨_, SqT.of h1⟩, post _ _ H1 n1 (itt_ok h1 hm h2) q1⟩⟩
    · exact q1.elim⟩
theorem qi_own (h : QB Z X E e w) : QI Z X E true tg e (wIter w) := (pi_seq h).wk fun σ H R ⟨fr, ow, env, Qp, Ep, A, hw, post⟩ =>
  ⟨fr, ow, env, _, Ep, A, hw, fun d v H1 n1 r1 q1 => by
    split at q1
    · rename_i xs e
      rcases r1 with r1 | ⟨i, ys, a, vs, rfl, rfl, h1, h2, h3, h4⟩
      · obtain ⟨a, vs, rfl, hm, h1, h2⟩ := r1.seq e
        rcases h1 with ⟨h1, _⟩ | ⟨h1, _⟩
        · exact ⟨a, rfl, .inl ⟨⟨_, SqL.of h1⟩, post _ _ H1 n1 (itl_ok h1 (.inl hm) h2) q1⟩⟩
        · exact ⟨a, rfl, .inr ⟨⟨_, SqT.of h1⟩, post _ _ H1 n1 (itt_ok h1 hm h2) q1⟩⟩
      · cases e
        exact ⟨a, rfl, .inl ⟨⟨_, SqL.of h2⟩, post _ _ H1 n1 (itl_ok h2 (.inr ⟨rfl, h3⟩) h4) q1⟩⟩
    · exact q1.elim⟩
theorem qi_range1 {own : Bool} (hg : Gl X "range") (hm : X.mg "range" = none) (ha : QE Z X E e w) (hs : starEach [e] X.env = [(false, eval e X.env)] := by rfl) : QI Z X E own tg (.Call (.Name "range" p) [e] [] pos) (wRange1 w) :=
  (pi_range1 hg hm (pa_cons ha pa_nil hs) hs).wk fun σ H R ⟨fr, ow, env, Qp, Ep, A, hw, post⟩ =>
  ⟨fr, ow, env, _, Ep, A, hw, fun d v H1 n1 r1 q1 => by
    cases d <;> try exact (show False from q1).elim
    exact ⟨_, by rw [r1.ix], q1.1.1, q1.1.2, post _ _ H1 n1 itr_ok q1.2⟩⟩
theorem qi_range2 {own : Bool} (hg : Gl X "range") (hm : X.mg "range" = none) (ha : QE Z X E e w) (hb : QE Z X E e1 w1) (hs : starEach [e, e1] X.env = [(false, eval e X.env), (false, eval e1 X.env)] := by rfl) (hs2 : starEach [e1] X.env = [(false, eval e1 X.env)] := by rfl) : QI Z X E own tg (.Call (.Name "range" p) [e, e1] [] pos) (wRange2 w w1) :=
  (pi_range2 hg hm (pa_cons ha (pa_cons hb pa_nil hs2) (by rw [hs, hs2])) hs hs2).wk fun σ H R ⟨fr, ow, env, Qp, Ep, A, hw, post⟩ =>
  ⟨fr, ow, env, _, Ep, A, hw, fun d v H1 n1 r1 q1 => ⟨fr, ow, env, _, Ep, A.mv n1, q1, fun d2 v2 H2 n2 r2 q2 => by
    cases d <;> cases d2 <;> try exact (show False from q2).elim
    exact ⟨_, _, by rw [r1.ix, r2.ix], q2.1, post _ _ H2 (n1.trans n2) itr_ok q2.2⟩⟩⟩
theorem qi_enum {own : Bool} {elts : List Expr} {kk : Nat} {tpos : Pos} (hg : Gl X "enumerate") (hm : X.mg "enumerate" = none) (ha : QE Z X E e w) (hs : starEach [e] X.env = [(false, eval e X.env)] := by rfl) :
    QI Z X E own (.Tuple elts kk tpos) (.Call (.Name "enumerate" p) [e] [] pos) (wEnumT w) := (pi_enumT hg hm (pa_cons ha pa_nil hs) hs).wk fun σ H R ⟨fr, ow, env, Qp, Ep, A, hw, post⟩ =>
  ⟨fr, ow, env, _, Ep, A, hw, fun d v H1 n1 r1 q1 => by
    cases d <;> try exact (show False from q1).elim
    cases r1 with
    | tup h1 h2 h3 =>
      rename_i xs a vs
      refine ⟨a, vs, rfl, SqT.of h1, post _ _ H1 n1 (fun M2 H2 L _ fre i => ?_) q1⟩
      have e2 : H2 a = some (.tup vs) := (L a _ nt_tup h2 h1).1
      have r2 := h3.lat L
      refine ⟨fun hi => ⟨vs, SqT.of e2, by rw [r2.length]; simpa using hi⟩, fun y hy => ?_⟩
      rw [List.getElem?_map, List.getElem?_zipIdx] at hy
      obtain ⟨p, hp, rfl⟩ := Option.map_eq_some_iff.mp hy
      obtain ⟨z, hz, rfl⟩ := Option.map_eq_some_iff.mp hp
      obtain ⟨v, q1, q2⟩ := r2.get hz
      refine ⟨⟨vs, v, SqT.of e2, q1⟩, fun v' H3 y => ?_⟩
      obtain ⟨T, x, rfl, hT, rfl, y⟩ := y
      have := y vs (SqT.of e2)
      rw [q1] at this
      cases this
      refine ⟨Same.new hT, ?_⟩
      have := Rep.fresh_tup (Z := fr.Z.g) (d0 := fr.d0) hT (fre T hT) (.cons (.int ((i : Nat) : Int)) (.cons q2 .nil))
      simpa using this⟩
theorem qi_zip {own : Bool} {elts : List Expr} {kk : Nat} {tpos : Pos} (hg : Gl X "zip") (hm : X.mg "zip" = none) (ha : QE Z X E e w) (hb : QE Z X E e1 w1) (hs : starEach [e, e1] X.env = (false, eval e X.env) :: starEach [e1] X.env := by rfl) (hpl : (backTo pos (starEach [e1] X.env)).any (·.1) = false := by rfl)
    (hs2 : starEach [e1] X.env = (false, eval e1 X.env) :: starEach [] X.env := by rfl) :
    QI Z X E own (.Tuple elts kk tpos) (.Call (.Name "zip" p) [e, e1] [] pos) (wZip w w1) := (RZ.pi_zipA hg hm (pa_cons ha (pa_cons hb pa_nil hs2) hs) hs hpl).wk fun σ H R ⟨fr, ow, env, Qp, Ep, A, hw, post⟩ =>
  ⟨fr, ow, env, _, Ep, A, hw, fun d v H1 n1 r1 q1 => ⟨fr, ow, env, _, Ep, A.mv n1, q1, fun d2 v2 H2 n2 r2 q2 => by
    have r1 := r1.lat (Nz.lat n2 MM.d0)
    cases d <;> cases d2 <;> try exact (show False from q2).elim
    · cases r1 with
      | tup h1 h2 h3 =>
        cases r2 with
        | tup k1 k2 k3 =>
          rename_i xs ys a vs b us
          refine ⟨_, _, _, _, rfl, .inr ⟨SqT.of h1, SqT.of k1, post _ _ H2 (n1.trans n2) (fun M2 H3 L _ fre i => ?_) q2⟩⟩
          have e1 := (L _ _ nt_tup h2 h1).1
          have e2 := (L _ _ nt_tup k2 k1).1
          have s1 := h3.lat L
          have s2 := k3.lat L
          refine ⟨fun hi => ⟨_, _, SqT.of e1, SqT.of e2, by rw [s1.length, s2.length]; simp at hi; omega⟩, fun y hy => ?_⟩
          rw [List.getElem?_map] at hy
          obtain ⟨p, hp, rfl⟩ := Option.map_eq_some_iff.mp hy
          obtain ⟨z1, z2⟩ := List.getElem?_zip_eq_some.mp hp
          obtain ⟨v, q1, q3⟩ := s1.get z1
          obtain ⟨v', q4, q5⟩ := s2.get z2
          refine ⟨⟨_, _, v, v', SqT.of e1, SqT.of e2, q1, q4⟩, fun w' H4 y => ?_⟩
          obtain ⟨T, x, x', rfl, hT, rfl, y1, y2⟩ := y
          have t1 := y1 _ (SqT.of e1)
          have t2 := y2 _ (SqT.of e2)
          rw [q1] at t1
          rw [q4] at t2
          cases t1
          cases t2
          exact ⟨Same.new hT, Rep.fresh_tup hT (fre T hT) (.cons q3 (.cons q5 .nil))⟩
    · cases r1 with
      | lst h1 h2 h3 =>
        cases r2 with
        | lst k1 k2 k3 =>
          rename_i xs ys a vs b us
          refine ⟨_, _, _, _, rfl, .inl ⟨SqL.of h1, SqL.of k1, post _ _ H2 (n1.trans n2) (fun M2 H3 L _ fre i => ?_) q2⟩⟩
          have e1 := (L _ _ nt_lst h2 h1).1
          have e2 := (L _ _ nt_lst k2 k1).1
          have s1 := h3.lat L
          have s2 := k3.lat L
          refine ⟨fun hi => ⟨_, _, SqL.of e1, SqL.of e2, by rw [s1.length, s2.length]; simp at hi; omega⟩, fun y hy => ?_⟩
          rw [List.getElem?_map] at hy
          obtain ⟨p, hp, rfl⟩ := Option.map_eq_some_iff.mp hy
          obtain ⟨z1, z2⟩ := List.getElem?_zip_eq_some.mp hp
          obtain ⟨v, q1, q3⟩ := s1.get z1
          obtain ⟨v', q4, q5⟩ := s2.get z2
          refine ⟨⟨_, _, v, v', SqL.of e1, SqL.of e2, q1, q4⟩, fun w' H4 y => ?_⟩
          obtain ⟨T, x, x', rfl, hT, rfl, y1, y2⟩ := y
          have t1 := y1 _ (SqL.of e1)
          have t2 := y2 _ (SqL.of e2)
          rw [q1] at t1
          rw [q4] at t2
          cases t1
          cases t2
          exact ⟨Same.new hT, Rep.fresh_tup hT (fre T hT) (.cons q3 (.cons q5 .nil))⟩⟩⟩
/-! ### own operators -/
variable {k j : Nat} {P : PSpec} {c : Nat}
theorem qe_opC {op : Operator} (g : BinC X.prog X.w X.K X.mg X.base k (Z c) op (SpD Z.g X.K P)) (hr : Room j X.A) (hk : k ≤ j) (hx : Passes (L2.CX X.prog X.w) X E) (ha : QE Z X E e1 w1) (hb : QE Z X E e2 w2) : QE Z X E (.BinOp e1 op e2 pos) (wOpC c P w1 w2) :=
  (pe_op (op_bc g hr hk hx) ha hb).wk fun σ H Q ⟨fr, ow, env, Qp, Ep, A, hw, post⟩ =>
  ⟨fr, ow, env, _, Ep, A, hw, fun d v H1 n1 r1 q1 => ⟨fr, ow, env, _, Ep, A.mv n1, q1, fun d2 v2 H2 n2 r2 q2 => by
    have r1 := r1.lat (Nz.lat n2 MM.d0)
    cases d <;> cases d2 <;> try exact (show False from q2).elim
    obtain ⟨⟨rfl, hc⟩, q2⟩ := q2
    subst hc
    obtain ⟨a, dx, vs, rfl, ha⟩ := r1.insAt A.z
    obtain ⟨b, dy, us, rfl, hb⟩ := r2.insAt A.z
    exact ⟨a, dx, _, b, dy, _, rfl, rfl, ha, hb, spd_of A (n1.trans n2) (.cons r1 (.cons r2 .nil)) q2 post⟩⟩⟩
theorem flat_of {M : Addr → Prop} {H : Hp} {d0 : Addr} {v : V} {d : D} (r : Rep Z.g d0 M H v d) (h : d.flat = true) : ∃ T, d.kind = some T ∧ Flat v T := by
  cases r <;> first | exact ⟨_, rfl, .non⟩ | exact ⟨_, rfl, .bl _⟩ | exact ⟨_, rfl, .int _⟩ | exact ⟨_, rfl, .str _⟩ | cases h
theorem qe_opF {op : Operator} {Ts : List String} (g : BinF X.prog X.w X.K X.mg X.base k (Z c) op Ts (SpD Z.g X.K P)) (hr : Room j X.A) (hk : k ≤ j) (hx : Passes (L2.CX X.prog X.w) X E) (ha : QE Z X E e1 w1) (hb : QE Z X E e2 w2) (hT : ∀ T ∈ ["NoneType", "bool", "int", "str"], T ∈ Ts := by decide) : QE Z X E (.BinOp e1 op e2 pos) (wOpF c P w1 w2) :=
  (pe_op (op_bf g hr hk hx) ha hb).wk fun σ H Q ⟨fr, ow, env, Qp, Ep, A, hw, post⟩ =>
  ⟨fr, ow, env, _, Ep, A, hw, fun d v H1 n1 r1 q1 => ⟨fr, ow, env, _, Ep, A.mv n1, q1, fun d2 v2 H2 n2 r2 q2 => by
    have r1 := r1.lat (Nz.lat n2 MM.d0)
    cases d <;> try exact (show False from q2).elim
    obtain ⟨rfl, hf, q2⟩ := q2
    obtain ⟨a, dx, vs, rfl, ha⟩ := r1.insAt A.z
    obtain ⟨T, h1, h2⟩ := flat_of r2 hf
    refine ⟨a, dx, _, T, rfl, ha, h2, hT T ?_, spd_of A (n1.trans n2) (.cons r1 (.cons r2 .nil)) q2 post⟩
    cases h2 <;> decide⟩⟩
/-- == by an own def: on the right an instance of the same class, or a built-in value -/
theorem qe_eqO (g : EqO X.prog X.w X.K X.mg X.base k (Z c) (SpD Z.g X.K P)) (hr : Room j X.A) (hk : k ≤ j) (hx : Passes (L2.CX X.prog X.w) X E) (hn : ∀ T ∈ ["NoneType", "bool", "int", "str", "tuple", "list"], PySem.W.notFirst X.K (Z c) (.type T) = true) (ha : QE Z X E e1 w1) (hb : QE Z X E e2 w2) (hm : behindInMarks .Eq e2 = false := by exact nomark _) : QE Z X E (.Compare e1 [.Eq] [e2] pos) (wEqO c P w1 w2) :=
  (pe_cmpR (op_eqo g hr hk hx) ha hb hm).wk fun σ H Q ⟨fr, ow, env, Qp, Ep, A, hw, post⟩ =>
  ⟨fr, ow, env, _, Ep, A, hw, fun d v H1 n1 r1 q1 => ⟨fr, ow, env, _, Ep, A.mv n1, q1, fun d2 v2 H2 n2 r2 q2 => by
    have r1 := r1.lat (Nz.lat n2 MM.d0)
    cases d <;> try exact (show False from q2).elim
    obtain ⟨rfl, hf, q2⟩ := q2
    obtain ⟨a, dx, vs, rfl, ha⟩ := r1.insAt A.z
    have sp := spd_of A (n1.trans n2) (.cons r1 (.cons r2 .nil)) q2 post
    refine ⟨a, dx, _, rfl, ha, ?_, sp⟩
    cases hk : d2.kind with
    | some T =>
      have kn := r2.kn (K := X.K) hk
      exact .inr (.inr ⟨_, kn.ty, hn T kn.mem⟩)
    | none =>
      cases d2 <;> first | (cases hk; done) | skip
      · obtain rfl := hf
        obtain ⟨b, dy, us, rfl, hb⟩ := r2.insAt A.z
        exact .inl ⟨b, dy, _, rfl, hb⟩
      all_goals exact absurd (show (none : Option String).isSome = true from hk ▸ hf) (by decide)⟩⟩
theorem qt_truO (g : TruO X.prog X.w X.K X.mg X.base k (Z c) (SpD Z.g X.K P)) (hr : Room j X.A) (hk : k ≤ j) (hx : Passes (L2.CX X.prog X.w) X E) (ha : QE Z X E e w) (h : ∀ whole, isTrue e X.env whole = (do let v ← whole; standAt e.pos; holding [v] (truthy v)) := by intro _; rfl) : QT Z X E e (wtTruO c P w) :=
  (pt_truR (tru_o g hr hk hx) ha h).wk fun σ H Q ⟨fr, ow, env, Qp, Ep, A, hw, post⟩ =>
  ⟨fr, ow, env, _, Ep, A, hw, fun d v H1 n1 r1 q1 => by
    cases d <;> try exact (show False from q1).elim
    obtain ⟨rfl, q1⟩ := q1
    obtain ⟨a, dx, vs, rfl, ha⟩ := r1.insAt A.z
    exact ⟨a, dx, _, rfl, ha, spd_of A n1 (.cons r1 .nil) q1 fun d v H' n r q => by
      cases r <;> try exact (show False from q).elim
      exact ⟨_, rfl, post _ _ n q⟩⟩⟩
/-! ### making -/
/-- what an __init__ promises by data: the new instance, made behind H1, holds what P says -/
def SpI (Z : ZG) (K : PySem.W.Frag) (c : Nat) (P : PSpec) : Sp := fun vs H Q E => ∃ (x dx : Addr) (us : List V) (d0 : Addr) (M : Addr → Prop) (ds : List D) (Qp : QD) (Ep : QR) (H1 : Hp), vs = .ref x :: us ∧ H1 x = none ∧ H1 dx = none ∧ dx ≠ x ∧ H = upd (upd H1 dx (.own x)) x (.ins (Z c) dx []) ∧
  Dice K H1 d0 ∧ LamX.Tabs Z.tb H1 ∧ (∀ a, M a → Has H1 a) ∧ Reps Z d0 (fun a => a = d0 ∨ M a) H1 us ds ∧ P ds Qp Ep ∧
  (∀ d H', N0 Z.tb K d0 H1 H' → Rep Z d0 (fun a => a = d0 ∨ M a) H' (.ref x) d → Qp d → Q .non H') ∧ (∀ er cls dd H', N0 Z.tb K d0 H1 H' → RepE Z d0 (fun a => a = d0 ∨ M a) H' er cls dd → Ep er → E cls dd H')
theorem make_rd {σ : L2.St} {H : Hp} {Q : VK} (h : RdE Z X.K E (wCall P t) σ H Q) : StX.tMakeR (Z c) (SpI Z.g X.K c P) E (RdA Z X.K E t) σ H Q := by
  obtain ⟨fr, ow, env, Qp, Ep, A, hw, post⟩ := h
  refine ⟨fr, ow, env, _, Ep, A, hw, fun ds vs H1 n1 r1 q1 a dx ha hdx hne => ?_⟩
  have A1 := A.mv n1
  refine ⟨a, dx, vs, fr.d0, MM fr ow, ds, Qp, Ep, H1, rfl, ha, hdx, hne, rfl, by rw [← A.k]; exact A1.g.dice, by rw [← A.z]; exact A1.g.tabs, A1.g.mex, ?_, q1, fun d H' n r q => ⟨rfl, ?_⟩, fun er cls dd H' n r q => ?_⟩
  · rw [← A.z]
    exact r1.lat (.sub fun a z => z.elim (fun z => z ▸ MM.d0) id)
  · rw [← A.z] at r n
    rw [← A.k] at n
    exact post _ _ H' (n1.trans n) (r.lat (.sub fun a z => .inr z)) q
  · rw [← A.z] at r n
    rw [← A.k] at n
    exact A1.er er cls dd H' n (r.lat (.sub fun a z => .inr z)) q
theorem qe_make (g : Mak X.prog X.w X.K X.mg X.base k x (Z c) (SpI Z.g X.K c P)) (hr : Room j X.A) (hk : k + 1 ≤ j) (hx : Passes (L2.CX X.prog X.w) X E) (ha : QA Z X E (e :: es) t) (hg : Gl X x := by rfl)
    (hdb : (x == ("__debug__" : Str)) = false := by decide) (he : starEach (e :: es) X.env = (false, eval e X.env) :: starEach es X.env := by rfl) (hpl : (backTo pos (starEach es X.env)).any (·.1) = false := by rfl) :
    QE Z X E (.Call (.Name x p) (e :: es) [] pos) (wCall P t) := (pe_mak g hr hk hx ha hg hdb he hpl).wk fun σ H Q h => make_rd h
/-- C(e, .., *y) -/
theorem qe_makeS (g : Mak X.prog X.w X.K X.mg X.base k x (Z c) (SpI Z.g X.K c P)) (hr : Room j X.A) (hk : k + 1 ≤ j) (hx : Passes (L2.CX X.prog X.w) X E) (ha : QA Z X E (e :: es) t) (hg : Gl X x := by rfl)
    (hdb : (x == ("__debug__" : Str)) = false := by decide) (he : starEach (e :: es) X.env = (false, eval e X.env) :: starEach es X.env := by rfl) (hst : (backTo pos (starEach es X.env)).any (·.1) = true := by rfl) :
    QE Z X E (.Call (.Name x p) (e :: es) [] pos) (wCall P t) := by
  obtain ⟨f, M, F⟩ := g.ex
  refine L2.PE.wk (t := StX.tMakeR (Z c) (SpI Z.g X.K c P) E (RdA Z X.K E t)) ⟨fun pins s σ H Q I h => ?_⟩ fun σ H Q h => make_rd h
  refine wpAny_Call_Name_kw (ld_glob I hg g.gl ?_ hdb)
  refine PySem.W.callWith_S2 (h₀ := X.base) I.ok.mod.kin M.kp (thn (ha.run pos pins s σ H _ I h) fun us s1 ⟨vs, H1, I1, r, q⟩ => ⟨I1.kIn, ?_⟩) he hst
  exact StX.run_makeR M F (hr.mono hk) hx I1 r q
/-- c(e, ..), c a name of the def that holds the class -/
theorem makl_at {σ : L2.St} {H : Hp} {Q : VK} (h : RdE Z X.K E (wMakL i c P t) σ H Q) : σ[i]? = some (some (.ref (Z c))) ∧ RdE Z X.K E (wCall P t) σ H Q := by
  obtain ⟨fr, ow, env, Qp, Ep, A, hw, post⟩ := h
  unfold wMakL at hw
  split at hw
  · rename_i c' ho
    obtain ⟨rfl, hw⟩ := hw
    obtain ⟨v, h1, h2⟩ := A.g.sl i _ ho
    refine ⟨?_, fr, ow, env, Qp, Ep, A, hw, post⟩
    rw [h1, ← A.z]
    cases h2
    rfl
  · exact hw.elim
theorem qe_makL {y : Str} (i : Nat) (g : Mak X.prog X.w X.K X.mg X.base k y (Z c) (SpI Z.g X.K c P)) (hr : Room j X.A) (hk : k + 1 ≤ j) (hx : Passes (L2.CX X.prog X.w) X E) (ha : QA Z X E (e :: es) t) (hN : X.N[i]? = some x := by rfl)
    (hv : Vis X.env.scope x := by first | exact Or.inl rfl | exact Or.inr (Or.inl rfl) | exact Or.inr (Or.inr rfl))
    (hdb : (x == ("__debug__" : Str)) = false := by decide) (hcd : (x == ("__classdict__" : Str)) = false := by decide) (he : starEach (e :: es) X.env = (false, eval e X.env) :: starEach es X.env := by rfl) (hpl : (backTo pos (starEach es X.env)).any (·.1) = false := by rfl) :
    QE Z X E (.Call (.Name x p) (e :: es) [] pos) (wMakL i c P t) := (pe_makL (i := i) g hr hk hx ha hN hv hdb hcd he hpl).wk fun σ H Q h => ⟨(makl_at h).1, make_rd (makl_at h).2⟩
theorem qe_makLS {y : Str} (i : Nat) (g : Mak X.prog X.w X.K X.mg X.base k y (Z c) (SpI Z.g X.K c P)) (hr : Room j X.A) (hk : k + 1 ≤ j) (hx : Passes (L2.CX X.prog X.w) X E) (ha : QA Z X E (e :: es) t) (hN : X.N[i]? = some x := by rfl)
    (hv : Vis X.env.scope x := by first | exact Or.inl rfl | exact Or.inr (Or.inl rfl) | exact Or.inr (Or.inr rfl))
    (hdb : (x == ("__debug__" : Str)) = false := by decide) (hcd : (x == ("__classdict__" : Str)) = false := by decide) (he : starEach (e :: es) X.env = (false, eval e X.env) :: starEach es X.env := by rfl) (hst : (backTo pos (starEach es X.env)).any (·.1) = true := by rfl) :
    QE Z X E (.Call (.Name x p) (e :: es) [] pos) (wMakL i c P t) := by
  obtain ⟨f, M, F⟩ := g.ex
  refine L2.PE.wk (t := fun σ H Q => σ[i]? = some (some (.ref (Z c))) ∧ StX.tMakeR (Z c) (SpI Z.g X.K c P) E (RdA Z X.K E t) σ H Q) ⟨fun pins s σ H Q I h => ?_⟩ fun σ H Q h => ⟨(makl_at h).1, make_rd (makl_at h).2⟩
  obtain ⟨hs, ht⟩ := h
  refine wpAny_Call_Name_kw (thn ((pe_var (pos := p) hN hv hdb hcd).run pins s σ H (fun v H1 => v = .ref (Z c) ∧ H1 = H) I ⟨.ref (Z c), hs, rfl, rfl⟩) fun u s1 ⟨v, H1, I1, r1, q1⟩ => ?_)
  obtain ⟨rfl, rfl⟩ := q1
  cases r1
  refine PySem.W.callWith_S2 (h₀ := X.base) I.ok.mod.kin M.kp (thn (ha.run pos pins s1 σ _ _ I1 ht) fun us s2 ⟨vs, H2, I2, r, q⟩ => ⟨I2.kIn, ?_⟩) he hst
  exact StX.run_makeR M F (hr.mono hk) hx I2 r q
/-! ### __init__ -/
theorem putF_new {f : Str} {y : V} : ∀ {ns : List Str} {vs : List V}, f ∉ ns → ns.length = vs.length → putF f y (ns.zip vs) = (ns ++ [f]).zip (vs ++ [y])
  | [], [], _, _ => rfl
  | n :: ns, v :: vs, h, hl => by
    rw [List.zip_cons_cons, putF_ne (fun z => h (by rw [z]; exact List.mem_cons_self ..)), putF_new (fun z => h (List.mem_cons_of_mem _ z)) (by simpa using hl)]
    rfl
/-- self.f = e, self being made -/
theorem qs_self {f : Str} {pos' p1 : Pos} (i : Nat) {c : Nat} (hC : Cls X.K (Z c)) (hn : NoAttr X.K (Z c) f) (hN : X.N[i]? = some x) (hv : Vis X.env.scope x) (he : QE Z X E e w) (hd : (x == ("__debug__" : Str)) = false := by decide) (hcd : (x == ("__classdict__" : Str)) = false := by decide)
    (hs : swapsWith e (some (.Attribute (.Name x p1) f pos')) pos.line X.env = pure false := by rfl) : QS Z X E (.Assign [.Attribute (.Name x p1) f pos'] e pos) (wSelfC c i f w) :=
  (ps_fld (pe_var hN hv hd hcd) he hs).wk fun D σ H ⟨fr, ow, env, Kn, A, ⟨⟨ns, fs, ho⟩, hw⟩, P⟩ => by
  unfold wSelf at hw
  rw [ho] at hw
  obtain ⟨hf, hl, hz, hw⟩ := hw
  obtain ⟨dx, vs, q1, q2, q3, ql, q4⟩ := A.g.sl i _ ho
  refine ⟨fr, ow, env, _, _, A, hw, fun d v H' n r q => ⟨_, q1, ?_⟩⟩
  obtain ⟨dx', vs', z1, z2, z3, zl, z4⟩ := (A.g.mv n).sl i _ ho
  rw [A.z] at z3
  refine ⟨fr.me, Z c, dx', _, rfl, z3, hC, hn, ?_, P.nx ow _ _ _ ?_ q⟩
  · rw [List.length_zip]
    omega
  · rw [putF_new hf zl]
    have := (A.g.mv n).wrF (c := c) (dx := dx') (us := vs' ++ [v]) (ns := ns ++ [f]) (ys := fs ++ [d]) (by rw [List.length_append, List.length_append, zl] <;> rfl) i (A.g.ib ho) rfl q1 z2 (z4.app (.cons r .nil))
    rw [A.z] at this
    exact this
theorem made_lat {K : PySem.W.Frag} {d0 x dx : Addr} {M : Addr → Prop} {H1 : Hp} {o1 o2 : HO} (hx : H1 x = none) (hdx : H1 dx = none) : Lat M H1 (fun a => M a ∨ a = x) (upd (upd H1 dx o1) x o2) := fun b o _ nb e =>
  ⟨by rw [upd_ne (ne_of_none e hx), upd_ne (ne_of_none e hdx)]; exact e, fun z => z.elim nb (ne_of_none e hx)⟩
/-- the start of an __init__'s body -/
theorem init_good {K : PySem.W.Frag} {d0 x dx : Addr} {M : Addr → Prop} {H1 : Hp} {vs : List V} {ds : List D} {c n : Nat} (hD : Dice K H1 d0) (hT : LamX.Tabs Z.g.tb H1) (hM : ∀ a, M a → Has H1 a) (r : Reps Z.g d0 (fun a => a = d0 ∨ M a) H1 vs ds) (hx : H1 x = none) (hdx : H1 dx = none) (hne : dx ≠ x) (hlb : ds.length + n + 1 ≤ CBASE) :
    Good ⟨Z, K, d0, M, fun _ => False, fun _ => False, H1, fun _ => none, x⟩ (fun i => if i = 0 then some x else none) (upd (upd H1 dx (.own x)) x (.ins (Z c) dx [])) (((V.ref x :: vs).map some) ++ List.replicate n none) (.obj c [] [] :: (ds.map .val ++ List.replicate n .un)) := by
  have dx0 : H1 d0 ≠ none := by
    obtain ⟨sa, ns, p, m, c, h1, _⟩ := hD.ex
    rw [h1]
    exact fun z => by cases z
  have mm : ∀ a, MM ⟨Z, K, d0, M, fun _ => False, fun _ => False, H1, fun _ => none, x⟩ (fun i => if i = 0 then some x else none) a → (a = d0 ∨ M a) ∨ a = x := fun a h => by
    rcases h with h | h | h | ⟨i, h⟩
    · exact .inl (.inl h)
    · exact .inl (.inr h)
    · exact h.elim
    · dsimp only at h
      split at h
      · exact .inr (Option.some.inj h).symm
      · cases h
  have s12 : Same H1 (upd (upd H1 dx (.own x)) x (.ins (Z c) dx [])) := fun b o e => by
    rw [upd_ne (ne_of_none e hx), upd_ne (ne_of_none e hdx)]
    exact e
  have nx : N0 Z.g.tb K d0 H1 (upd (upd H1 dx (.own x)) x (.ins (Z c) dx [])) := .of hD s12
  refine ⟨nx, hD, hT, fun a h => ?_, fun a h => (hM a h).nn, fun a h => h.elim, fun i a h => ?_, fun i j a h h' => ?_, fun i a h z => z.elim, fun a o h => (by cases h), ?_, ?_, fun i s e => ?_⟩
  · rcases mm a h with h | h
    · rcases h with h | h
      · rw [h]; exact nx.hx _ hD.has
      · exact nx.hx _ (hM a h)
    · rw [h]
      exact ⟨_, upd_same, nx_ins⟩
  · split at h
    · cases h
      exact .inl hx
    · cases h
  · split at h
    · split at h'
      · rename_i e1 e2
        rw [e1, e2]
      · cases h'
    · cases h
  · simp [r.length]
  · simp [r.length]; omega
  · cases i with
    | zero =>
      cases e
      exact ⟨dx, [], rfl, rfl, upd_same, rfl, .nil⟩
    | succ i =>
      have e : (ds.map Sl.val ++ List.replicate n Sl.un)[i]? = some s := by simpa using e
      by_cases hi : i < ds.length
      · rw [List.getElem?_append_left (by simpa using hi), List.getElem?_map] at e
        obtain ⟨d, h1, rfl⟩ := Option.map_eq_some_iff.mp e
        obtain ⟨v, q1, q2⟩ := r.get h1
        refine ⟨v, ?_, (q2.lat (made_lat (K := K) (d0 := d0) hx hdx)).lat (.sub mm)⟩
        rw [List.map_cons, List.cons_append, List.getElem?_cons_succ, List.getElem?_append_left (by rw [List.length_map, r.length]; exact hi), List.getElem?_map, q1]
        rfl
      · rw [List.getElem?_append_right (by simpa using Nat.le_of_not_lt hi), List.getElem?_replicate] at e
        split at e
        · cases e
          exact True.intro
        · cases e
variable {b : WS}
theorem init_end {fr : Fr} {ow : Ow} {H' : Hp} {σ' : L2.St} {env' : Ev} {c : Nat} {Qp : QD} (G : Good fr ow H' σ' env') (h : (fun env => match env with
  | .obj c' ns fs :: _ => c' = c ∧ Qp (.ins c ns fs)
  | _ => False : Ev → Prop) env') : ∃ d, Rep fr.Z.g fr.d0 (M1 fr) H' (.ref fr.me) d ∧ Qp d := by
  match env', h with
  | .obj c' ns fs :: r, ⟨hc, h⟩ =>
    subst hc
    obtain ⟨dx, vs, h1, h2, h3, hl, h4⟩ := G.sl 0 _ rfl
    refine ⟨_, .ins h3 (fun z => ?_) hl (h4.lat (.sub fun b z => z.elim .inl fun z => .inr (.inl z))), h⟩
    rcases z with z | z
    · exact G.ow_d0 h2 z
    · exact G.ow_m0 h2 z
/-- an __init__'s promise by data, read into its body -/
theorem init_rd {K : PySem.W.Frag} {N : List Str} {n c : Nat} {H : Hp} {vs : List V} {Q : VK} (hn : n + 1 ≤ N.length) (hb9 : N.length ≤ CBASE) (h : SpI Z.g K c (specI c n N.length b) vs H Q E) :
    RdS Z K E b { nx := fun _ H' => Q .non H', rt := Q } (L2.start N vs) H := by
  obtain ⟨x, dx, us, d0, M, ds, Qp, Ep, H1, rfl, hx, hdx, hne, rfl, hD, hT, hM, r, ⟨hl, hb⟩, post, per⟩ := h
  have e : L2.start N (V.ref x :: us) = ((V.ref x :: us).map some) ++ List.replicate (N.length - n - 1) none := by
    unfold L2.start
    rw [List.length_cons, r.length, hl, Nat.sub_sub]
  rw [e]
  refine ⟨⟨Z, K, d0, M, fun _ => False, fun _ => False, H1, fun _ => none, x⟩, _, _, _, ⟨rfl, rfl, init_good (n := N.length - n - 1) (c := c) hD hT hM r hx hdx hne (by rw [hl]; omega), fun er cls dd H' nx re q => per er cls dd H' ((init_good (Z := Z) (n := N.length - n - 1) (c := c) hD hT hM r hx hdx hne (by rw [hl]; omega)).nx.trans nx) (re.lat (.sub fun a z => z.elim .inl fun z => .inr (.inl z))) q⟩, hb, fun ow' env' σ' H' G q => ?_, fun d v _ _ _ H' nx r q => q.elim, fun _ _ _ _ _ z => z.elim, fun _ _ _ _ _ z => z.elim, fun er cls dd ow' env' σ' H' G re q => per er cls dd H' G.nx (re.lat (.sub fun a z => z.elim .inl fun z => .inr (.inl z))) q⟩
  obtain ⟨d, h1, h2⟩ := init_end G q
  exact post d H' G.nx h1 h2
theorem init_len {K : PySem.W.Frag} {N : List Str} {n c : Nat} {H : Hp} {vs : List V} {Q : VK} (h : SpI Z.g K c (specI c n N.length b) vs H Q E) : vs.length = n + 1 := by
  obtain ⟨x, dx, us, d0, M, ds, Qp, Ep, H1, rfl, hx, hdx, hne, rfl, hD, hT, hM, r, ⟨hl, hb⟩, post, per⟩ := h
  rw [List.length_cons, r.length, hl]
/-- what is left over stands in a new tuple -/
def SpT (n : Nat) (sp : Sp) : Sp := fun vs H Q E => ∃ ws p rest, vs = ws ++ [V.ref p] ∧ ws.length = n ∧ rest.length ≤ 1000 ∧ ∃ H0 : Hp, H0 p = none ∧ H = upd H0 p (.tup rest) ∧ sp (ws ++ rest) H0 Q E
theorem spt_of {n : Nat} {sp : Sp} {vs : List V} {H : Hp} {Q : VK} (hn : n ≤ vs.length) (hz : vs.length - n ≤ 1000) (h : sp vs H Q E) : ∃ ws rest, vs = ws ++ rest ∧ ws.length = n ∧ rest.length ≤ sizeLine ∧ ∀ p, H p = none → SpT n sp (ws ++ [V.ref p]) (upd H p (.tup rest)) Q E :=
  ⟨vs.take n, vs.drop n, (List.take_append_drop n vs).symm, by simp [hn], by rw [List.length_drop, sizeLine_eq]; omega, fun p hp => ⟨vs.take n, p, vs.drop n, rfl, by simp [hn], by rw [List.length_drop]; exact hz, H, hp, rfl, by rw [List.take_append_drop]; exact h⟩⟩
theorem initS_rd {K : PySem.W.Frag} {N : List Str} {n c : Nat} {H : Hp} {vs : List V} {Q : VK} (hn : n + 2 ≤ N.length) (hb9 : N.length ≤ CBASE) (h : SpT (n + 1) (SpI Z.g K c (specIS c n N.length b)) vs H Q E) :
    RdS Z K E b { nx := fun _ H' => Q .non H', rt := Q } (L2.start N vs) H := by
  obtain ⟨ws, p, rest, rfl, hw, hr, H0, hp, rfl, x, dx, us, d0, M, ds, Qp, Ep, H1, ev, hx, hdx, hne, eH, hD, hT, hM, r, ⟨hl, hl2, hb⟩, post, per⟩ := h
  -- the tuple is laid behind the instance: the frame starts where both stand
  cases ws with
  | nil => simp at hw
  | cons w0 ws =>
    rw [List.cons_append] at ev
    cases ev
    have hw : ws.length = n := by simpa using hw
    have e1 : ws = (ws ++ rest).take n := by rw [List.take_append_of_le_length (by omega), List.take_of_length_le (by omega)]
    have e2 : rest = (ws ++ rest).drop n := by rw [← hw, List.drop_left]
    have rt := r.take n
    have rd := r.drop n
    rw [← e1] at rt
    rw [← e2] at rd
    have px : p ≠ x := fun z => by rw [z, eH, upd_same] at hp; cases hp
    have pdx : p ≠ dx := fun z => by
      rw [z, eH, upd_ne hne, upd_same] at hp
      cases hp
    have p1 : H1 p = none := by
      rw [eH, upd_ne px, upd_ne pdx] at hp
      exact hp
    have nM : ¬ (p = d0 ∨ M p) := fun z => by
      rcases z with z | z
      · obtain ⟨sa, ns, p', m, c, h1, _⟩ := hD.ex
        rw [z, h1] at p1
        cases p1
      · exact (hM p z).nn p1
    have hD' : Dice K (upd H1 p (.tup rest)) d0 := hD.same (Same.new p1)
    have L : Lat (fun a => a = d0 ∨ M a) H1 (fun a => a = d0 ∨ M a) (upd H1 p (.tup rest)) := fun a o _ n e => ⟨by rw [upd_ne (ne_of_none e p1)]; exact e, n⟩
    have hT' : LamX.Tabs Z.g.tb (upd H1 p (.tup rest)) := hT.ext (Same.new p1)
    have G := init_good (Z := Z) (K := K) (x := x) (dx := dx) (c := c) (n := N.length - n - 2) (vs := ws ++ [V.ref p]) (ds := ds.take n ++ [.tup (ds.drop n)]) hD' hT' (fun a h => (by obtain ⟨o, q, n⟩ := hM a h; exact ⟨o, by rw [upd_ne (fun z => nM (.inr (by rw [← z]; exact h)))]; exact q, n⟩)) ((rt.lat L).app (.cons (.tup upd_same nM (rd.lat L)) .nil)) (by rw [upd_ne (Ne.symm px)]; exact hx) (by rw [upd_ne (Ne.symm pdx)]; exact hdx) hne (by simp; omega)
    have ec : upd (upd (upd H1 p (.tup rest)) dx (.own x)) x (.ins (Z c) dx []) = upd (upd (upd H1 dx (.own x)) x (.ins (Z c) dx [])) p (.tup rest) := by
      funext a
      by_cases h1 : a = p
      · subst h1
        rw [upd_same, upd_ne px, upd_ne pdx, upd_same]
      · rw [upd_ne h1]
        by_cases h2 : a = x
        · subst h2
          rw [upd_same, upd_same]
        · rw [upd_ne h2, upd_ne h2]
          by_cases h3 : a = dx
          · subst h3
            rw [upd_same, upd_same]
          · rw [upd_ne h3, upd_ne h3, upd_ne h1]
    rw [ec, ← eH] at G
    have e : L2.start N (V.ref x :: ws ++ [V.ref p]) = ((V.ref x :: (ws ++ [V.ref p])).map some) ++ List.replicate (N.length - n - 2) none := by
      unfold L2.start
      rw [List.cons_append, List.length_cons, List.length_append, hw]
      rfl
    rw [e]
    have n0 : N0 Z.g.tb K d0 H1 (upd H1 p (.tup rest)) := .of hD (Same.new p1)
    refine ⟨⟨Z, K, d0, M, fun _ => False, fun _ => False, upd H1 p (.tup rest), fun _ => none, x⟩, _, _, ⟨fun env => match env with
      | .obj c' ns fs :: _ => c' = c ∧ Qp (.ins c ns fs)
      | _ => False, fun _ _ => False, fun _ => False, fun _ => False, fun x _ => Ep x⟩, ⟨rfl, rfl, G, fun er cls dd H' nx re q => per er cls dd H' (n0.trans (G.nx.trans nx)) (re.lat (.sub fun a z => z.elim .inl fun z => .inr (.inl z))) q⟩, ?_, fun ow' env' σ' H' G q => ?_, fun d v _ _ _ H' nx r q => q.elim, fun _ _ _ _ _ z => z.elim, fun _ _ _ _ _ z => z.elim, fun er cls dd ow' env' σ' H' G re q => per er cls dd H' (n0.trans G.nx) (re.lat (.sub fun a z => z.elim .inl fun z => .inr (.inl z))) q⟩
    · rw [List.map_append, List.append_assoc]
      exact hb
    · obtain ⟨d, h1, h2⟩ := init_end G q
      exact post d H' (n0.trans G.nx) h1 h2
theorem initS_len {K : PySem.W.Frag} {N : List Str} {n c : Nat} {H : Hp} {vs : List V} {Q : VK} (h : SpI Z.g K c (specIS c n N.length b) vs H Q E) : n + 1 ≤ vs.length ∧ vs.length - (n + 1) ≤ 1000 := by
  obtain ⟨x, dx, us, d0, M, ds, Qp, Ep, H1, rfl, hx, hdx, hne, rfl, hD, hT, hM, r, ⟨hl, hl2, hb⟩, post, per⟩ := h
  rw [List.length_cons, r.length]
  omega
end
end Oil
/-! len, subscripts of own classes; the draws; a law's own body. -/
namespace Oil
open PySem PySem.Spec PyProof.Rows L2
section
variable {Z : ZM} {X : Cx} {E : XK} {e e1 e2 e3 : Expr} {es : List Expr} {w w1 w2 w3 : WE} {t t2 : WA} {u u1 u2 : WT} {pos p : Pos} {i : Nat} {x : Str} {k j : Nat} {P : PSpec} {c : Nat}
theorem pg_tp {is : List Nat} {es : List Expr} {kk : Nat} (hc : X.calm = true) (hn : (assignEach es X.env).length = is.length) (h : PGs X es (gNs is)) (hst : (assignEach es X.env).findIdx? (·.1) = none := by rfl) : PG X (.Tuple es kk pos) (Tgt.raw X.K (.tp is)) := pg_tup hc h hn hst
theorem cs0 (K : PySem.W.Frag) : ∀ c ∈ ([] : List Nat), Oc K (Z c) ∧ NotC K (Z c) := fun c h => by cases h
theorem cs1 {K : PySem.W.Frag} (h1 : Oc K (Z c)) (h2 : NotC K (Z c)) : ∀ c' ∈ [c], Oc K (Z c') ∧ NotC K (Z c') := fun c' h => by
  rw [List.mem_singleton.mp h]
  exact ⟨h1, h2⟩
theorem len_K1 {prog : Program} {w : World} {A : Around} {E : Value → Shared → Prop} {s : Shared} {K : PySem.W.Frag} {x C f : Addr} {ox : Obj} {od : Option Obj} {Q : Value → Shared → Prop} (X0 : K.In s.heap) (I : PySem.W.InstAt s.heap x ox C od) (hs : PySem.W.findIn K (.ref C) "__len__" = some (some (.ref f))) (hf : PySem.W.isFn K (.ref f) = true)
    (h : wpAny (model prog w) A.in1 (call (.ref f) [.ref x]) (PySem.W.LenBack Q) E s) : wpAny (model prog w) A (call (.builtin "len") [.ref x]) Q E s := by
  refine Calls.call_function_entry PySem.kind_len PySem.plain_len PySem.entry_len (PySem.args_len1 _) ?_
  unfold Builtin.«len»
  refine wpAny_bind (m := oneArg "len" _) (wpAny_pure ?_)
  refine wpAny_bind (m := callSpecial? (.ref x) (Str.ofString "__len__")) (PySem.W.special_fn X0 I hs (beq_iff_eq.mp hf) (wpAny_mono h (fun r s' hr => ?_) fun _ _ y => y))
  cases r <;> first | exact hr.elim | skip
  rename_i n u
  obtain ⟨⟨h0, h1⟩, hq⟩ := hr
  refine wpAny_bind (wpAny_holding (wpAny_pure ?_))
  refine wpAny_bind (wpAny_letGo ?_)
  show wpAny _ _ (if n < 0 then _ else _) _ _ _
  rw [if_neg (by omega)]
  show wpAny _ _ (if n ≥ 2 ^ 63 then _ else _) _ _ _
  rw [if_neg (by omega)]
  exact wpAny_bind (wpAny_mkInt (wpAny_pure ⟨_, rfl, hq⟩))
/-- len(o) by the class's own __len__ -/
structure LenO (P : Program) (w : World) (K : PySem.W.Frag) (mg : Str → Option Value) (base : Heap) (k : Nat) (C : Addr) (sp : Sp) : Prop where
  ex : ∃ g, PySem.W.findIn K (.ref C) "__len__" = some (some (.ref g)) ∧ PySem.W.isFn K (.ref g) = true ∧ FnR P w K mg base (L2.CX P w) k g sp
/-- o[i] by the class's own __getitem__ -/
structure GetO (P : Program) (w : World) (K : PySem.W.Frag) (mg : Str → Option Value) (base : Heap) (k : Nat) (C : Addr) (sp : Sp) : Prop where
  ex : ∃ g, PySem.W.findIn K (.ref C) "__getitem__" = some (some (.ref g)) ∧ PySem.W.fnIn K g = true ∧ PySem.W.isFn K (.ref g) = true ∧ FnR P w K mg base (L2.CX P w) k g sp
structure InvO (P : Program) (w : World) (K : PySem.W.Frag) (mg : Str → Option Value) (base : Heap) (k : Nat) (C : Addr) (sp : Sp) : Prop where
  ex : ∃ g, PySem.W.findIn K (.ref C) "__invert__" = some (some (.ref g)) ∧ PySem.W.isFn K (.ref g) = true ∧ FnR P w K mg base (L2.CX P w) k g sp
def rInv (C : Addr) (sp : Sp) (E : XK) : V → Hp → VK → Prop := fun x H Q => ∃ (a dx : Addr) (fs : List (Str × V)), x = .ref a ∧ H a = some (.ins C dx fs) ∧ sp [x] H Q E
theorem un_inv {C : Addr} {sp : Sp} (g : InvO X.prog X.w X.K X.mg X.base k C sp) (hr : Room j X.A) (hk : k ≤ j) (hx : Passes (L2.CX X.prog X.w) X E) : UnR X (unaryOp .Invert) (rInv C sp E) := by
  intro pins s σ H x v Q I rx h
  obtain ⟨f, hs, hf, F⟩ := g.ex
  obtain ⟨a, dx, fs, rfl, ha, q⟩ := h
  cases (show v = Value.ref a from rx)
  obtain ⟨ox, od, J⟩ := inst_of I ha
  obtain ⟨m, hF⟩ := I.fr
  exact PySem.W.ksp_inv hF I.ok.mod.kin J hs hf (wpAny_call (run_fnR (us := [.ref a]) (vs := [.ref a]) F (hr.mono hk) hx I (.cons rfl .nil) q))
theorem qe_inv (g : InvO X.prog X.w X.K X.mg X.base k (Z c) (SpD Z.g X.K P)) (hr : Room j X.A) (hk : k ≤ j) (hx : Passes (L2.CX X.prog X.w) X E) (ha : QE Z X E e w) : QE Z X E (.UnaryOp .Invert e pos) (wInv c P w) :=
  (pe_un (un_inv g hr hk hx) ha).wk fun σ H Q ⟨fr, ow, env, Qp, Ep, A, hw, post⟩ =>
  ⟨fr, ow, env, _, Ep, A, hw, fun d v H1 n1 r1 q1 => by
    cases d <;> try exact (show False from q1).elim
    obtain ⟨rfl, q1⟩ := q1
    obtain ⟨a, dx, vs, rfl, ha⟩ := r1.insAt A.z
    exact ⟨a, dx, _, rfl, ha, spd_of A n1 (.cons r1 .nil) q1 post⟩⟩
def cLenO (C : Addr) (sp : Sp) (E : XK) : List V → Hp → VK → Prop := fun xs H Q => ∃ (a dx : Addr) (fs : List (Str × V)), xs = [.ref a] ∧ H a = some (.ins C dx fs) ∧ sp [.ref a] H (fun v H' => ∃ n : Int, v = .int n ∧ (0 ≤ n ∧ n < 2 ^ 62) ∧ Q (.int n) H') E
theorem call_lenO {C : Addr} {sp : Sp} (g : LenO X.prog X.w X.K X.mg X.base k C sp) (hr : Room j X.A) (hk : k + 1 ≤ j) (hx2 : Passes (L2.CX X.prog X.w) X E) : CallR X (.builtin "len") (cLenO C sp E) := by
  intro pins s σ H xs us Q I r h
  obtain ⟨f, hs, hf, F⟩ := g.ex
  obtain ⟨a, dx, fs, rfl, ha, q⟩ := h
  obtain rfl := Vals.ref1 r
  obtain ⟨ox, od, J⟩ := inst_of I ha
  have hr' : Room k X.A.in1 := (hr.mono hk).in1
  refine len_K1 I.kIn J hs hf (wpAny_call (codeAny_mono (F X.A.in1 X.stack s H [.ref a] [.ref a] _ E hr' I.env0.in1 (.cons rfl .nil) q) fun r s' hq => ?_))
  cases r with
  | error er => exact hx2 pins σ H s er s' I hq
  | ok fl =>
    cases fl with
    | ret u =>
      obtain ⟨v, H', I3, rv, n, rfl, hn, q3⟩ := I.after hq
      obtain ⟨t, rfl⟩ := rv
      exact ⟨⟨hn.1, by have := hn.2; omega⟩, .int n, H', I3.tok _, ⟨_, rfl⟩, q3⟩
    | next => exact False.elim hq
    | brk => exact False.elim hq
    | cont => exact False.elim hq
theorem qe_lenO (g : LenO X.prog X.w X.K X.mg X.base k (Z c) (SpD Z.g X.K P)) (hr : Room j X.A) (hk : k + 1 ≤ j) (hx : Passes (L2.CX X.prog X.w) X E) (hg : Gl X x) (hm : X.mg x = none) (hv : bootBuiltins x = some (.builtin "len")) (ha : QE Z X E e w) (hn : x ≠ "__name__" := by decide) (hdb : (x == ("__debug__" : Str)) = false := by decide)
    (he : starEach [e] X.env = (false, eval e X.env) :: starEach [] X.env := by rfl) (hpl : (backTo pos (starEach [] X.env)).any (·.1) = false := by rfl) : QE Z X E (.Call (.Name x p) [e] [] pos) (wLenO c P w) :=
  (pe_callB (call_lenO (E := E) g hr hk hx) hg hm hv (pa_cons ha pa_nil he) hn hdb he hpl).wk fun σ H Q ⟨fr, ow, env, Qp, Ep, A, hw, post⟩ =>
  ⟨fr, ow, env, _, Ep, A, hw, fun d v H1 n1 r1 q1 => by
    cases d <;> try exact (show False from q1).elim
    obtain ⟨rfl, q1⟩ := q1
    obtain ⟨a, dx, vs, rfl, ha⟩ := r1.insAt A.z
    exact ⟨a, dx, _, rfl, ha, spd_of A n1 (.cons r1 .nil) q1 fun d v H' n r q => by
      cases r <;> try exact (show False from q).elim
      exact ⟨_, rfl, q.1, post _ _ _ n (.int _) q.2⟩⟩⟩
/-- o[i] -/
def rGet (C : Addr) (sp : Sp) (E : XK) : R2 := fun x y H Q => ∃ (a dx : Addr) (fs : List (Str × V)), x = .ref a ∧ H a = some (.ins C dx fs) ∧ sp [x, y] H Q E
theorem pe_get {C : Addr} {sp : Sp} {ta tb : TE} (g : GetO X.prog X.w X.K X.mg X.base k C sp) (hr : Room j X.A) (hk : k + 1 ≤ j) (hx : Passes (L2.CX X.prog X.w) X E) (ha : PE X e1 ta) (hb : PE X e2 tb)
    (hsl : ∀ (a : Addr) (v : Value), subscripted e2 true (.ref a) v = runValue (.builtin "lifetime.subscript" ⟨[.ref a, v], []⟩) := by intro _ _; with_unfolding_all rfl)
    (hev : eval (.Subscript e1 e2 pos) X.env = (do
      let o ← eval e1 X.env
      let i ← holding [o] (eval e2 X.env)
      standAt pos
      subscriptTail e1 e2 o i) := by rfl) : PE X (.Subscript e1 e2 pos) (tOp (rGet C sp E) ta tb) := by
  refine ⟨fun pins s σ H Q I h => ?_⟩
  refine Subscript_ (thn (ha.run pins s σ H _ I h) fun v s1 ⟨x, H1, I1, r1, q1⟩ => ?_)
  refine thn (hb.run pins s1 σ H1 _ I1 q1) fun u s2 ⟨y, H2, I2, r2, q2⟩ => ?_
  obtain ⟨a, dx, fs, rfl, ha, q⟩ := q2
  obtain ⟨f, hs, hf, hfn, F⟩ := g.ex
  cases (show v = Value.ref a from r1)
  obtain ⟨ox, od, J⟩ := inst_of I2 ha
  obtain ⟨m, hF⟩ := I2.fr
  have hr' : Room k X.A.in1 := (hr.mono hk).in1
  refine PySem.W.sub_K hF I2.ok.mod.kin J hs hf hfn (wpAny_call (codeAny_mono (F X.A.in1 X.stack s2 H2 [.ref a, u] [.ref a, y] Q E hr' I2.env0.in1 (.cons rfl (.cons r2 .nil)) q) fun r s' hq => ?_)) (hsl a u)
  cases r with
  | error er => exact hx pins σ H2 s2 er s' I2 hq
  | ok fl =>
    cases fl with
    | ret u => exact I2.after hq
    | next => exact False.elim hq
    | brk => exact False.elim hq
    | cont => exact False.elim hq
theorem qe_get (g : GetO X.prog X.w X.K X.mg X.base k (Z c) (SpD Z.g X.K P)) (hr : Room j X.A) (hk : k + 1 ≤ j) (hx : Passes (L2.CX X.prog X.w) X E) (ha : QE Z X E e1 w1) (hb : QE Z X E e2 w2)
    (hsl : ∀ (a : Addr) (v : Value), subscripted e2 true (.ref a) v = runValue (.builtin "lifetime.subscript" ⟨[.ref a, v], []⟩) := by intro _ _; with_unfolding_all rfl) : QE Z X E (.Subscript e1 e2 pos) (wGet c P w1 w2) :=
  (pe_get g hr hk hx ha hb hsl).wk fun σ H Q ⟨fr, ow, env, Qp, Ep, A, hw, post⟩ =>
  ⟨fr, ow, env, _, Ep, A, hw, fun d v H1 n1 r1 q1 => ⟨fr, ow, env, _, Ep, A.mv n1, q1, fun d2 v2 H2 n2 r2 q2 => by
    have r1 := r1.lat (Nz.lat n2 MM.d0)
    cases d <;> try exact (show False from q2).elim
    obtain ⟨rfl, q2⟩ := q2
    obtain ⟨a, dx, vs, rfl, ha⟩ := r1.insAt A.z
    exact ⟨a, dx, _, rfl, ha, spd_of A (n1.trans n2) (.cons r1 (.cons r2 .nil)) q2 post⟩⟩⟩
end
/-! ### the draws -/
/-- a draw below n -/
def S_next : PSpec := fun ds Q _ => ∃ n, ds = [.dice, .int n] ∧ 0 < n ∧ n < 2 ^ 100 ∧ ∀ r : Int, 0 ≤ r → r < n → Q (.int r)
theorem next_spd {Z : ZG} {K : PySem.W.Frag} {vs : List V} {H : Hp} {Q : VK} {E : XK} (h : SpD Z K S_next vs H Q E) : Sp2 (q_next K) vs H Q E := by
  obtain ⟨d0, M, ds, Qp, Ep, hD, hT, hM, r, ⟨n, rfl, n0, n1, q⟩, post, per⟩ := h
  cases r with
  | cons r1 r2 =>
    cases r2 with
    | cons r2 r3 =>
      cases r3
      cases r1
      cases r2
      exact ⟨_, _, rfl, d0, n, rfl, rfl, n0, n1, hD, fun r H' r0 r1 nx => post _ _ H' (.ofNx hD nx) (.int _) (q r r0 r1)⟩
/-! ### a law -/
/-- the law's frame behind its draws' making: the draws at d, their name in slot i -/
theorem law_good {Z : ZM} {K : PySem.W.Frag} {d0 : Addr} {H : Hp} {σ : L2.St} {i n : Nat} (hD : Dice K H d0) (hT : LamX.Tabs Z.g.tb H) (hl : σ.length = n) (hi : i < n) (hs : σ[i]? = some (some (.ref d0))) (hb9 : n ≤ CBASE) :
    Good ⟨Z, K, d0, fun _ => False, fun _ => False, fun _ => False, H, fun _ => none, d0⟩ (fun _ => none) H σ ((List.replicate n Sl.un).set i (.val .dice)) := by
  have dx : H d0 ≠ none := by
    obtain ⟨sa, ns, p, m, c, h1, _⟩ := hD.ex
    rw [h1]
    exact fun z => by cases z
  refine ⟨.refl hD, hD, hT, fun a h => ?_, fun a h => h.elim, fun a h => h.elim, fun i a h => (by cases h), fun i j a h => (by cases h), fun i a h => (by cases h), fun a o h => (by cases h), by simp [hl], by rw [hl]; exact hb9, fun j s e => ?_⟩
  · rcases h with h | h | h | ⟨i, h⟩
    · rw [h]; exact hD.has
    · exact h.elim
    · exact h.elim
    · cases h
  · rw [List.getElem?_set] at e
    split at e
    · rename_i hij
      subst hij
      split at e
      · cases e
        exact ⟨_, hs, .dice⟩
      · cases e
    · rw [List.getElem?_replicate] at e
      split at e
      · cases e
        exact True.intro
      · cases e
/-- what a law's rest must come to, by data -/
def LawEnd : KN := ⟨fun _ => False, fun d _ => d = .bl true, fun _ => False, fun _ => False, fun _ _ => False⟩
theorem law_rd {Z : ZM} {K : PySem.W.Frag} {E : XK} {b : WS} {d0 : Addr} {H : Hp} {σ : L2.St} {i n : Nat} {D : Ends} (hD : Dice K H d0) (hT : LamX.Tabs Z.g.tb H) (hl : σ.length = n) (hi : i < n) (hs : σ[i]? = some (some (.ref d0))) (hb9 : n ≤ CBASE) (hb : b ((List.replicate n Sl.un).set i (.val .dice)) LawEnd) (q : ∀ H', D.rt (.bl true) H') :
    RdS Z K E b D σ H :=
  ⟨_, _, _, LawEnd, ⟨rfl, rfl, law_good hD hT hl hi hs hb9, fun _ _ _ _ _ _ z => z.elim⟩, hb, fun _ _ _ _ _ z => z.elim, fun d v _ _ _ H' _ r e => by
    subst e
    cases r
    exact q H', fun _ _ _ _ _ z => z.elim, fun _ _ _ _ _ z => z.elim, fun _ _ _ _ _ _ _ _ _ z => z.elim⟩
end Oil
/-! Lambdas by data: made, kept in a list of the frame's own, given to a teller. -/
namespace Oil
open PySem PySem.Spec PyProof.Rows L2 LamX
def lamT (l : List LamD) : Nat → Option LamD := fun k => l[k]?
/-- what the making of lambdas asks of the maker -/
structure LamM (X : Cx) (T : List (Addr × Str)) (c P : Addr) : Prop where
  tb : TabB X.base X.mg c P
  cd : X.env.code = .ref c
  mem : (P, X.env.qual ++ "<lambda>") ∈ T
  uni : ∀ p ∈ T, p.1 = P → p.2 = X.env.qual ++ "<lambda>"
abbrev ldOf (X : Cx) (pa : Arguments) (bd : Expr) (sc : Scope) (d : Option Int) : LamD := ⟨X.env.qual ++ "<lambda>", pa, bd, sc, cloFrom X.env.cells sc.names [], d⟩
def RdLam (Z : ZM) (K : PySem.W.Frag) (D : LamD) : TE := fun σ H Q => ∃ fr ow env Ep E, At Z K E fr ow H σ env Ep ∧ ∀ f H', N0 fr.Z.g.tb fr.K fr.d0 H H' → LamAtD (MM fr ow) H' f D → Q (.ref f) H'
section
variable {Z : ZM} {X : Cx} {E : XK} {e e1 e2 e3 : Expr} {es : List Expr} {w w1 w2 w3 : WE} {t t2 : WA} {u u1 u2 : WT} {pos p : Pos} {i : Nat} {x : Str} {k j : Nat} {c P : Addr} {pa : Arguments} {bd : Expr} {sc : Scope}
theorem nx_code {c : Addr} {q : Str} : ¬ NX (CodeO c q) := fun h => by
  unfold CodeO at h
  exact h.2 _ rfl
/-- no code object is apart -/
theorem Good.noCode {fr : Fr} {ow : Ow} {H H1 : Hp} {σ : L2.St} {env : Ev} {c : Addr} {q : Str} (G : Good fr ow H σ env) (x : N0 fr.Z.g.tb fr.K fr.d0 H H1) (e : H1 c = some (CodeO c q)) : ¬ MM fr ow c := fun z => by
  obtain ⟨o, h1, h2⟩ := x.hx c (G.mex c z)
  rw [e] at h1
  cases h1
  exact nx_code h2
theorem LamAtD.at {M : Addr → Prop} {H : Hp} {f : Addr} {d : Option Int} (L : LamAtD M H f (ldOf X pa bd sc d)) : LamAt X H f pa bd sc d := by
  obtain ⟨_, c1, dv, h1, h2, _, h3⟩ := L
  exact ⟨c1, dv, h1, h2, h3.imp id fun ⟨n, t, e1, e2, e3, _⟩ => ⟨n, t, e1, e2, e3⟩⟩
theorem qlam0 (M : LamM X Z.g.tb c P) (L : LamV X.env.scope sc X.N) (hd : defaultsOf pa X.env = ([], [])) : PE X (.Lambda pa bd sc pos) (RdLam Z X.K (ldOf X pa bd sc none)) :=
  (pe_lam0 M.tb M.cd M.mem M.uni (fun ok => L.has ok) hd).wk fun σ H Q ⟨fr, ow, env, Ep, E, A, post⟩ => by
  have hT : Tabs Z.g.tb H := by rw [← A.z]; exact A.g.tabs
  refine ⟨hT, fun f c1 H1 ex xa T1 n e e2 => ?_⟩
  have x : N0 fr.Z.g.tb fr.K fr.d0 H H1 := .extN A.g.dice ex (fun _ => by rw [A.z]; exact T1) xa
  exact post f H1 x ⟨A.g.fresh n, c1, .none, e, e2, A.g.noCode x e2, .inl ⟨rfl, rfl⟩⟩
theorem qlamD {n : Int} {jj : Nat} {p : Pos} (M : LamM X Z.g.tb c P) (L : LamV X.env.scope sc X.N) (hd : defaultsOf pa X.env = ([eval (.Constant (.int n) jj p) X.env], [])) : PE X (.Lambda pa bd sc pos) (RdLam Z X.K (ldOf X pa bd sc (some n))) :=
  (pe_lamD M.tb M.cd M.mem M.uni (fun ok => L.has ok) hd).wk fun σ H Q ⟨fr, ow, env, Ep, E, A, post⟩ => by
  have hT : Tabs Z.g.tb H := by rw [← A.z]; exact A.g.tabs
  refine ⟨hT, fun f c1 tt H1 ex xa T1 nt n e e2 e3 => ?_⟩
  have x : N0 fr.Z.g.tb fr.K fr.d0 H H1 := .extN A.g.dice ex (fun _ => by rw [A.z]; exact T1) xa
  exact post f H1 x ⟨A.g.fresh n, c1, .ref tt, e, e2, A.g.noCode x e2, .inr ⟨_, tt, rfl, rfl, e3, A.g.fresh nt⟩⟩

/-! ### lists of lambdas -/
/-- lambdas made one after the other -/
def RdLs (Z : ZM) (K : PySem.W.Frag) (ks : List Nat) : TA := fun σ H Q => ∃ fr ow env Ep E, At Z K E fr ow H σ env Ep ∧ ∀ fs H', N0 fr.Z.g.tb fr.K fr.d0 H H' → LamsOk fr.Z (MM fr ow) H' fs ks → Q (fs.map .ref) H'
theorem qls_nil : PA X [] (RdLs Z X.K []) := pa_nil.wk fun σ H Q ⟨fr, ow, env, Ep, E, A, post⟩ => post [] H (.refl A.g.dice) .nil
theorem qls_cons {D : LamD} {ks : List Nat} (k : Nat) (hk : Z.lam k = some D) (h : PE X e (RdLam Z X.K D)) (hr : PA X es (RdLs Z X.K ks)) (hs : starEach (e :: es) X.env = (false, eval e X.env) :: starEach es X.env := by rfl) : PA X (e :: es) (RdLs Z X.K (k :: ks)) :=
  (pa_cons h hr hs).wk fun σ H Q ⟨fr, ow, env, Ep, E, A, post⟩ =>
  ⟨fr, ow, env, Ep, E, A, fun f H1 n1 L1 => ⟨fr, ow, env, Ep, E, A.mv n1, fun fs H2 n2 L2 => post (f :: fs) H2 (n1.trans n2) (.cons (by rw [A.z]; exact hk) (L1.lat (Nz.lat n2 MM.d0)) L2)⟩⟩
/-- x = [lambda: .., ..] -/
theorem qs_lams {pos' lp : Pos} {ks : List Nat} (i : Nat) (hN : X.N.Nodup) (hi : X.N[i]? = some x) (hx : Loc X.env.scope x) (h : PA X es (RdLs Z X.K ks)) (hs : swapsWith (.List es lp) (some (.Name x pos')) pos.line X.env = pure false := by rfl) (hf : X.fn x = true ∨ X.env.scope.names.lookup x = some .local := by first | exact .inl rfl | exact .inr rfl | assumption) (hb : i < CBASE := by decide) :
    QS Z X E (.Assign [.Name x pos'] (.List es lp) pos) (wLams i ks) := (ps_set (i := i) hN hi hx (pe_lst h) hs hf).wk fun D σ H ⟨fr, ow, env, Kn, A, hw, P⟩ =>
  ⟨fr, ow, env, _, _, A, fun fs H' n L => ⟨lim_line (by rw [List.length_map, L.length]; have := hw.1; unfold LIM; omega), fun l hl => by
    have N1 : New fr ow H (upd H' l (.lst (fs.map V.ref))) (.ref l) (fs.map Oil.D.loc) := .of n hl (reps_loc fs)
    obtain ⟨a, vs, e1, e2, e3, e4⟩ := N1
    cases e1
    exact P.nx _ _ _ _ (A.g.setN (s1 := .lams ks) (n.same (Same.new hl)) i hb e2 upd_same fun σ' hs L2 => ⟨l, fs, hs, by simp, upd_same, (L.lat fun b o _ nb e => ⟨by rw [upd_ne (ne_of_none e hl)]; exact e, fun z => z.elim nb (ne_of_none e hl)⟩).lat L2⟩) hw.2⟩⟩
where
  reps_loc {Z : ZG} {d0 : Addr} {M : Addr → Prop} {H : Hp} : ∀ fs : List Addr, Reps Z d0 M H (fs.map V.ref) (fs.map Oil.D.loc)
    | [] => .nil
    | f :: fs => .cons (.loc f) (reps_loc fs)
/-- x = x + [lambda: .., ..] -/
theorem qs_lamsA {pos' lp bp np : Pos} {ks : List Nat} (i : Nat) (hN : X.N.Nodup) (hi : X.N[i]? = some x) (hx : Loc X.env.scope x) (hv : Vis X.env.scope x) (h : PA X es (RdLs Z X.K ks)) (hd : (x == ("__debug__" : Str)) = false := by decide) (hcd : (x == ("__classdict__" : Str)) = false := by decide)
    (hs : swapsWith (.BinOp (.Name x np) .Add (.List es lp) bp) (some (.Name x pos')) pos.line X.env = pure false := by rfl) (hf : X.fn x = true ∨ X.env.scope.names.lookup x = some .local := by first | exact .inl rfl | exact .inr rfl | assumption) (hb : i < CBASE := by decide) :
    QS Z X E (.Assign [.Name x pos'] (.BinOp (.Name x np) .Add (.List es lp) bp) pos) (wLamsA i ks) := (ps_set (i := i) hN hi hx (pe_op op_cat (pe_var (i := i) hi hv hd hcd) (pe_lst h)) hs hf).wk fun D σ H ⟨fr, ow, env, Kn, A, hw, P⟩ => by
  unfold wLamsA at hw
  split at hw
  · rename_i ks0 ho
    obtain ⟨a0, fs0, h1, h2, h3, h4⟩ := A.g.sl i _ ho
    refine ⟨_, h1, fr, ow, env, _, _, A, fun fs H' n L => ⟨lim_line (by rw [List.length_map, L.length]; have := hw.1; unfold LIM; omega), fun l hl => ?_⟩⟩
    have n1 := n.same (Same.new (o := .lst (fs.map V.ref)) hl)
    have k0 := N0.at_own A.g n1 h2 h3
    have L0 := h4.lat (Nz.lat n1 MM.d0)
    have L1 : LamsOk fr.Z (MM fr ow) (upd H' l (.lst (fs.map V.ref))) fs ks := L.lat fun b o _ nb e => ⟨by rw [upd_ne (ne_of_none e hl)]; exact e, nb⟩
    refine ⟨a0, l, _, _, rfl, rfl, k0, upd_same, lim_line (by rw [List.length_map, List.length_map, L.length, L0.length]; have := hw.1; unfold LIM; omega), fun p hp => ?_⟩
    have n2 := n1.same (Same.new (o := .lst (fs0.map V.ref ++ fs.map V.ref)) hp)
    have e2 : H p = none := by
      cases z : H p with
      | none => rfl
      | some o => exact absurd hp (n1.ex _ (by rw [z]; exact fun y => by cases y))
    exact P.nx _ _ _ _ (A.g.setN (s1 := .lams (ks0 ++ ks)) n2 i hb e2 upd_same fun σ' hs L2 => ⟨p, fs0 ++ fs, hs, by simp, by rw [List.map_append]; exact upd_same, ((L0.app L1).lat fun b o _ nb e => ⟨by rw [upd_ne (ne_of_none e hp)]; exact e, fun z => z.elim nb (ne_of_none e hp)⟩).lat L2⟩) hw.2
  · exact hw.elim
/-- x.append(lambda: ..) -/
theorem qs_lams1 {p1 apos cpos : Pos} {D : LamD} (i k : Nat) (hk : Z.lam k = some D) (hN : X.N[i]? = some x) (hv : Vis X.env.scope x) (he : PE X e (RdLam Z X.K D)) (hd : (x == ("__debug__" : Str)) = false := by decide) (hcd : (x == ("__classdict__" : Str)) = false := by decide)
    (hbase : attributeBase (.Name x p1) "append" X.env (eval (.Name x p1) X.env) = eval (.Name x p1) X.env := by rfl)
    (hfew : ((backTo cpos (starEach [e] X.env)).all (fun x => !x.1) && (backToKw cpos (keywordEach [] X.env)).all (fun x => x.1.isSome) && decide ([e].length + ([] : List Keyword).length + (if ([] : List Keyword).isEmpty then 0 else 1) < 30)) = true := by rfl)
    (hline : (apos.endLine == cpos.line) = true := by rfl) (hse : starEach [e] X.env = (false, eval e X.env) :: starEach [] X.env := by rfl) (hplain : (backTo cpos (starEach [] X.env)).any (·.1) = false := by rfl)
    (hs : swapsWith (.Call (.Attribute (.Name x p1) "append" apos) [e] [] cpos) none pos.line X.env = pure false := by rfl) :
    QS Z X E (.Expr (.Call (.Attribute (.Name x p1) "append" apos) [e] [] cpos) pos) (wLamsA i [k]) :=
  (ps_expr (pe_bm PySem.F.plainAttrs_list PySem.F.slot_list_append PySem.F.type_list_append mt_append (pe_var hN hv hd hcd) (pa_cons he pa_nil hse) hbase hfew hline hse hplain) hs).wk fun D σ H ⟨fr, ow, env, Kn, A, hw, P⟩ => by
  unfold wLamsA at hw
  split at hw
  · rename_i ks0 ho
    obtain ⟨a0, fs0, h1, h2, h3, h4⟩ := A.g.sl i _ ho
    refine ⟨_, h1, .inl ⟨rfl, _, SqL.of h3⟩, fr, ow, env, _, _, A, fun f H' n L => ?_⟩
    have k0 := N0.at_own A.g n h2 h3
    have L0 := h4.lat (Nz.lat n MM.d0)
    refine ⟨a0, _, .ref f, rfl, rfl, k0, ?_, P.nx _ _ _ _ ((A.g.mv n).wrN (us := fs0.map V.ref ++ [.ref f]) (s1 := .lams (ks0 ++ [k])) i (A.g.ib ho) h1 h2 fun L2 => ⟨a0, fs0 ++ [f], h1, h2, ?_, (L0.app (.cons (by rw [A.z]; exact hk) L .nil)).lat L2⟩) hw.2⟩
    · rw [List.length_map, L0.length, sizeLine_eq]
      have := hw.1
      simp at this
      omega
    · rw [upd_same, List.map_append]
      rfl
  · exact hw.elim
/-! ### tellers -/
/-- where the called lambda raises: the handler's answer, by data -/
def HE (Z : ZG) (K : PySem.W.Frag) (tell : Er → QD → Prop) (Q : VK) : XK := fun cls dd H' => ∃ (d0 : Addr) (M : Addr → Prop) (er : Er) (Qp : QD), Dice K H' d0 ∧ Tabs Z.tb H' ∧ (∀ a, M a → Has H' a) ∧ RepE Z d0 (fun a => a = d0 ∨ M a) H' er cls dd ∧ tell er Qp ∧
  ∀ d v H2, N0 Z.tb K d0 H' H2 → Rep Z d0 (fun a => a = d0 ∨ M a) H2 v d → Qp d → Q v H2
/-- try: return x() -/
def TTD (Z : ZG) (K : PySem.W.Frag) (tell : Er → QD → Prop) : (XK → Hp → VK → Prop) → Hp → VK → Prop := fun tl H Q => tl (HE Z K tell Q) H Q
/-- try: x() .. return None -/
def TTR (Z : ZG) (K : PySem.W.Frag) (tell : Er → QD → Prop) : (XK → Hp → VK → Prop) → Hp → VK → Prop := fun tl H Q => tl (HE Z K tell Q) H fun _ H' => Q .non H'
/-- a teller -/
structure TelO (P : Program) (w : World) (K : PySem.W.Frag) (mg : Str → Option Value) (base : Heap) (x : Str) (TT : (XK → Hp → VK → Prop) → Hp → VK → Prop) : Prop where
  ex : ∃ (g : Addr) (a : Str) (pg : Arguments) (bg : List Stmt) (sg : Scope) (kV doc pm cdv ct oc : Value) (an od : Option Addr) (osl : Array (Option Value)) (Ng : List Str),
    mg x = some (.ref g) ∧ PySem.W.keepIn K (.ref g) = true ∧ K.lookup g = some ⟨oc, od, .func (PySem.W.fnOf x x pg bg sg .none kV doc pm an cdv ct), osl⟩ ∧ PySem.W.codeIn K cdv x = true ∧ L2.Binds K (PySem.W.fnOf x x pg bg sg .none kV doc pm an cdv ct) [a] [] ∧
    FnScope Ng [a] sg ∧ Ng[0]? = some a ∧ Vis sg a ∧ (a == ("__debug__" : Str)) = false ∧ (a == ("__classdict__" : Str)) = false ∧
    ∀ Y : Cx, Y.prog = P → Y.w = w → Y.K = K → Y.mg = mg → Y.base = base → GivesV Y Ng x sg g cdv bg a TT
theorem he_of {tell : Er → QD → Prop} {fr : Fr} {ow : Ow} {H : Hp} {σ : L2.St} {env : Ev} {Qp : QD} {Ep : QR} {Q : VK} (A : At Z X.K E fr ow H σ env Ep) (post : ∀ d v H', N0 fr.Z.g.tb fr.K fr.d0 H H' → Rep fr.Z.g fr.d0 (MM fr ow) H' v d → Qp d → Q v H') :
    At Z X.K (HE Z.g X.K tell Q) fr ow H σ env (fun er => tell er Qp) := ⟨A.z, A.k, A.g, fun er cls dd H' n r q => by
  have A1 := A.mv n
  refine ⟨fr.d0, MM fr ow, er, Qp, by rw [← A.k]; exact A1.g.dice, by rw [← A.z]; exact A1.g.tabs, A1.g.mex, by rw [← A.z]; exact r.lat (.sub fun a z => z.elim (fun z => z ▸ MM.d0) id), q, fun d v H2 n2 r2 q2 => ?_⟩
  rw [← A.z] at r2 n2
  rw [← A.k] at n2
  exact post d v H2 (n.trans n2) (r2.lat (.sub fun a z => .inr z)) q2⟩
/-- told(lambda: ..) -/
theorem qe_told {tell : Er → QD → Prop} {d : Option Int} {lp : Pos} (TO : TelO X.prog X.w X.K X.mg X.base x (TTD Z.g X.K tell)) (hr : Room j X.A) (hj : k + 2 ≤ j) (LK : LamK X k pa bd sc d (fun E => RdE Z X.K E w)) (mk : PE X (.Lambda pa bd sc lp) (RdLam Z X.K (ldOf X pa bd sc d))) (hg : Gl X x := by rfl)
    (hdb : (x == ("__debug__" : Str)) = false := by decide) (hse : starEach [.Lambda pa bd sc lp] X.env = (false, eval (.Lambda pa bd sc lp) X.env) :: starEach [] X.env := by rfl) (hpl : (backTo pos (starEach [] X.env)).any (·.1) = false := by rfl) :
    QE Z X E (.Call (.Name x p) [.Lambda pa bd sc lp] [] pos) (wTold tell w) := by
  obtain ⟨g, a, pg, bg, sg, kV, doc, pm, cdv, ct, oc, an, od, osl, Ng, h1, h2, h3, h4, h5, h6, h7, h8, h9, h10, hG⟩ := TO.ex
  refine (pe_toldV (k := k) hg h1 h2 h3 h4 h5 h6 h7 h8 (hG X rfl rfl rfl rfl rfl) (hr.mono hj) (pa_cons mk pa_nil hse) hdb h9 h10 hse hpl).wk fun σ H Q ⟨fr, ow, env, Qp, Ep, A, hw, post⟩ => ?_
  refine ⟨fr, ow, env, Ep, E, A, fun f H1 n1 L1 => ⟨f, pa, bd, sc, d, _, rfl, LK, L1.at, ?_⟩⟩
  exact ⟨fr, ow, env, Qp, _, he_of (A.mv n1) fun d v H' n r q => post d v H' (n1.trans n) r q, hw, fun d v H' n r q => post d v H' (n1.trans n) r q⟩
/-- raised(lambda: ..) -/
theorem qe_raised {tell : Er → QD → Prop} {d : Option Int} {lp : Pos} (TO : TelO X.prog X.w X.K X.mg X.base x (TTR Z.g X.K tell)) (hr : Room j X.A) (hj : k + 2 ≤ j) (LK : LamK X k pa bd sc d (fun E => RdE Z X.K E w)) (mk : PE X (.Lambda pa bd sc lp) (RdLam Z X.K (ldOf X pa bd sc d))) (hg : Gl X x := by rfl)
    (hdb : (x == ("__debug__" : Str)) = false := by decide) (hse : starEach [.Lambda pa bd sc lp] X.env = (false, eval (.Lambda pa bd sc lp) X.env) :: starEach [] X.env := by rfl) (hpl : (backTo pos (starEach [] X.env)).any (·.1) = false := by rfl) :
    QE Z X E (.Call (.Name x p) [.Lambda pa bd sc lp] [] pos) (wToldR tell w) := by
  obtain ⟨g, a, pg, bg, sg, kV, doc, pm, cdv, ct, oc, an, od, osl, Ng, h1, h2, h3, h4, h5, h6, h7, h8, h9, h10, hG⟩ := TO.ex
  refine (pe_toldV (k := k) hg h1 h2 h3 h4 h5 h6 h7 h8 (hG X rfl rfl rfl rfl rfl) (hr.mono hj) (pa_cons mk pa_nil hse) hdb h9 h10 hse hpl).wk fun σ H Q ⟨fr, ow, env, Qp, Ep, A, hw, post⟩ => ?_
  refine ⟨fr, ow, env, Ep, E, A, fun f H1 n1 L1 => ⟨f, pa, bd, sc, d, _, rfl, LK, L1.at, ?_⟩⟩
  exact ⟨fr, ow, env, (fun _ => Qp .non), _, he_of (A.mv n1) fun d v H' n r q => post d v H' (n1.trans n) r q, hw, fun d v H' n r q => post .non .non H' (n1.trans n) .non q⟩
/-- the lambdas of a maker, and what each comes to -/
inductive LKs (X : Cx) (Z : ZM) (k : Nat) : List LamD → List WE → Prop where
  | nil : LKs X Z k [] []
  | cons {pa : Arguments} {bd : Expr} {sc : Scope} {d : Option Int} {w : WE} {Ds : List LamD} {ws : List WE} : LamK X k pa bd sc d (fun E => RdE Z X.K E w) → LKs X Z k Ds ws → LKs X Z k (ldOf X pa bd sc d :: Ds) (w :: ws)
theorem LKs.get : ∀ {Ds : List LamD} {ws : List WE} {i : Nat} {D : LamD} {w : WE}, LKs X Z k Ds ws → Ds[i]? = some D → ws[i]? = some w → ∃ pa bd sc d, D = ldOf X pa bd sc d ∧ LamK X k pa bd sc d (fun E => RdE Z X.K E w)
  | _, _, _, _, _, .nil, e, _ => by simp at e
  | _, _, 0, _, _, .cons h t, e, e2 => by
    cases (Option.some.inj (by simpa using e))
    cases (Option.some.inj (by simpa using e2))
    exact ⟨_, _, _, _, rfl, h⟩
  | _, _, i + 1, _, _, .cons _ t, e, e2 => LKs.get (i := i) t (by simpa using e) (by simpa using e2)
/-- [told(y) for y in x] -/
theorem qf_toldL {tell : Er → QD → Prop} {Ds : List LamD} {ws : List WE} {y : Str} {scb : Scope} {iy : Nat} {cp yp tp ip : Pos} {xl : Str} (i : Nat) (hZ : Z.lam = lamT Ds) (LK : LKs X Z k Ds ws) (TO : TelO X.prog X.w X.K X.mg X.base x (TTD Z.g X.K tell)) (hr : Room j X.A) (hj : k + 2 ≤ j)
    (hc : X.calm = true) (hN : X.N.Nodup) (hi : X.N[i]? = some xl) (hv : Vis X.env.scope xl) (hy : X.N[iy]? = some y) (hne : i ≠ iy) (ok : BlkOk X.N X.env.scope scb [(y, iy)])
    (hg : ∀ (s : Shared) (H : Hp) (C : Addr) (cl : List (Str × Addr)) (fp : List Addr), PG (X.blk s H scb (compEnvC scb cl C X.env) fp) (.Name y tp) (gName iy))
    (hvy : ∀ (z : Shared) (H : Hp) (fp : List Addr), Vis (X.blk z H scb (bEnv X scb z) fp).env.scope y) (hgx : ∀ (z : Shared) (H : Hp) (fp : List Addr), Gl (X.blk z H scb (bEnv X scb z) fp) x) (hd : (xl == ("__debug__" : Str)) = false := by decide) (hcd : (xl == ("__classdict__" : Str)) = false := by decide) (hd2 : (y == ("__debug__" : Str)) = false := by decide) (hcd2 : (y == ("__classdict__" : Str)) = false := by decide) (hdb : (x == ("__debug__" : Str)) = false := by decide)
    (hf : ∀ z, foldedSetIterable (.Name xl ip) X.env z = pure z := by intro _; rfl) :
    QF Z X E (.ListComp (.Call (.Name x p) [.Name y yp] [] cp) [⟨.Name y tp, .Name xl ip, [], 0⟩] scb pos) (wToldL i tell ws) := by
  obtain ⟨g, a, pg, bg, sg, kV, doc, pm, cdv, ct, oc, an, od, osl, Ng, h1, h2, h3, h4, h5, h6, h7, h8, h9, h10, hG⟩ := TO.ex
  have PL := pe_lcK (X := X) (pos := pos) (own := [(y, iy)]) (te := tToldB X k (TTD Z.g X.K tell) (tCons (tVar iy) tNil)) hc hN (pi_list (tg := .Name y tp) (pe_var (pos := ip) hi hv hd hcd)) ok hg (fun pins σ z H fp I hfp =>
    pe_toldB (p := p) (pos := cp) I hfp h1 h2 h3 h4 h5 h6 h7 h8 (hG X rfl rfl rfl rfl rfl) (hr.mono hj) (hgx z H fp) (pa_cons (pe_var (X := X.blk z H scb (bEnv X scb z) fp) (i := iy) (pos := yp) hy (hvy z H fp) hd2 hcd2) pa_nil) hdb h9 h10) hf
  refine ⟨fun pins s σ H Q I q => PL.run pins s σ H Q I ?_⟩
  obtain ⟨fr, ow, env, Qp, Ep, A, hw, post⟩ := q
  unfold wToldL at hw
  split at hw
  · rename_i ks ho
    obtain ⟨hk1, hw⟩ := hw
    obtain ⟨al, fs, e1, e2, e3, e4⟩ := A.g.sl i _ ho
    have ly : iy < σ.length := by
      rw [I.len]
      exact (List.getElem?_eq_some_iff.mp hy).1
    refine r_lc ⟨_, e1, al, rfl, ⟨_, SqL.of e3⟩, ?_⟩
    refine c_list (xs := fs.map V.ref) (fun D i G => ∃ acc ds, G D = some (.lst acc) ∧ acc.length ≤ i ∧ Reps fr.Z.g fr.d0 (MM (fr.plus D) ow) G acc ds ∧ N0 fr.Z.g.tb fr.K fr.d0 H G ∧ Good (fr.plus D) ow G σ env ∧ toldGo (fun k Q => ∃ w, ws[k]? = some w ∧ w env Q (fun er => tell er Q)) (ks.drop i) ds fun ds => Qp (.lst ds)) (fun D nD => ?_) (fun D i G nD hi ⟨acc, ds, p1, p2, p3, p4, p5, p6⟩ => ?_) (fun D m v G nD hx ⟨acc, ds, p1, p2, p3, p4, p5, p6⟩ => ?_) (fun D G nD ⟨acc, ds, p1, p2, p3, p4, p5, p6⟩ => ?_)
    · exact ⟨[], [], upd_same, Nat.le_refl _, .nil, .of A.g.dice (Same.new nD), A.g.plus nD nx_lst, hw⟩
    · exact SqL.of (N0.at_own A.g p4 e2 e3)
    · rw [List.getElem?_map] at hx
      obtain ⟨f, hf1, rfl⟩ := Option.map_eq_some_iff.mp hx
      have mlt : m < ks.length := by
        rw [← e4.length]
        exact (List.getElem?_eq_some_iff.mp hf1).1
      have hkm : ks[m]? = some ks[m] := List.getElem?_eq_getElem mlt
      obtain ⟨f', D1, hf2, hD1, hL1⟩ := e4.get hkm
      rw [hf1] at hf2
      cases hf2
      rw [List.drop_eq_getElem_cons mlt] at p6
      obtain ⟨w1, hw1, p6⟩ := p6
      have hD2 : Ds[ks[m]]? = some D1 := by
        have : Z.lam ks[m] = some D1 := by rw [← A.z]; exact hD1
        rw [hZ] at this
        exact this
      obtain ⟨pa, bd, sc, d, rfl, LK1⟩ := LK.get hD2 hw1
      have hL2 : LamAtD (MM fr ow) G f (ldOf X pa bd sc d) := hL1.lat (Nz.lat p4 MM.d0)
      have Dd : D ≠ fr.d0 := fun z => A.g.fresh nD (by rw [z]; exact MM.d0)
      refine ⟨?_, ?_⟩
      · exact (wipe_set (List.mem_cons_self ..)).trans (lc_rd.wipe_idem _ _)
      · show (if true = true then _ else _)
        rw [if_pos rfl]
        refine ⟨.ref f, ?_, f, pa, bd, sc, d, _, rfl, LK1, hL2.at, ?_⟩
        · rw [List.getElem?_set, if_pos rfl, if_pos]
          show iy < (wipe σ [iy]).length
          unfold wipe wipe
          simpa using ly
        · have A2 : At Z X.K E0 (fr.plus D) ow G σ env (fun _ => False) := ⟨A.z, A.k, p5, fun _ _ _ _ _ _ z => z.elim⟩
          have post2 : ∀ dd v H', N0 fr.Z.g.tb fr.K fr.d0 G H' → Rep fr.Z.g fr.d0 (MM (fr.plus D) ow) H' v dd → toldGo (fun k Q => ∃ w, ws[k]? = some w ∧ w env Q (fun er => tell er Q)) (ks.drop (m + 1)) (ds ++ [dd]) (fun ds => Qp (.lst ds)) →
              ∃ acc, H' D = some (.lst acc) ∧ acc.length < sizeLine ∧ ∃ acc2 ds2, upd H' D (.lst (acc ++ [v])) D = some (.lst acc2) ∧ acc2.length ≤ m + 1 ∧ Reps fr.Z.g fr.d0 (MM (fr.plus D) ow) (upd H' D (.lst (acc ++ [v]))) acc2 ds2 ∧ N0 fr.Z.g.tb fr.K fr.d0 H (upd H' D (.lst (acc ++ [v]))) ∧ Good (fr.plus D) ow (upd H' D (.lst (acc ++ [v]))) σ env ∧
                toldGo (fun k Q => ∃ w, ws[k]? = some w ∧ w env Q (fun er => tell er Q)) (ks.drop (m + 1)) ds2 (fun ds => Qp (.lst ds)) := fun dd v H' n r q => by
            have hD3 : H' D = some (.lst acc) := n.keep D _ Dd id nt_lst p1
            have n2 := p4.trans n
            have G4 := p5.mv (H' := H') n
            have Dav : (fr.plus D).av D := .inr rfl
            have Lw : Lat (MM (fr.plus D) ow) H' (MM (fr.plus D) ow) (upd H' D (.lst (acc ++ [v]))) := fun a o _ n e => ⟨by rw [upd_ne (fun z => n (by rw [z]; exact .inr (.inr (.inl Dav))))]; exact e, n⟩
            refine ⟨acc, hD3, ?_, acc ++ [v], ds ++ [dd], upd_same, by rw [List.length_append]; show acc.length + 1 ≤ m + 1; omega, ?_, n2.write A.g.dice (.new nD) Dd ⟨_, hD3, nx_lst⟩ nx_lst (.inl nD), ?_, q⟩
            · rw [sizeLine_eq]
              omega
            · exact ((p3.lat (p5.lat n)).app (.cons r .nil)).lat Lw
            · exact G4.wrA (H1 := H) n2 nD A.g.nx Dav hD3 nx_lst nx_lst
          exact ⟨fr.plus D, ow, env, _, _, he_of A2 post2, p6, post2⟩
    · rw [List.length_map, e4.length, List.drop_length] at p6
      exact post _ _ G p4 ⟨D, acc, rfl, nD, p1, p3.lat (.sub fun a z => MM.plus.mpr z)⟩ p6
  · exact hw.elim
end
end Oil
/-! A caught error by data: what a suite asks of it. -/
namespace Oil
open PySem PySem.Spec PyProof.Rows L2 LamX
/-- what is asked of the classes of errors -/
structure ErC (K : PySem.W.Frag) (Z : ZG) (cs : List Nat) : Prop where
  ec : ∀ c ∈ cs, ExcC K (Z c)
  kt : ∀ c ∈ cs, ∀ c' ∈ cs, PySem.W.kitOne K (.ref (Z c)) (.ref (Z c')) = some (c == c')
  kv : ∀ c ∈ cs, PySem.W.kitOne K (.ref (Z c)) (.type "ValueError") = some true
  em : ∀ c ∈ cs, PySem.W.exmOne K (.ref (Z c)) (.ref (Z 0)) = some true
theorem repE_dict {Z : ZG} {d0 : Addr} {M : Addr → Prop} {H : Hp} {er : Er} {cls : Value} {dd : Option Addr} (r : RepE Z d0 M H er cls dd) : DictOk dd H := by
  rcases r.2 with ⟨_, _, z⟩ | ⟨x, vs, e1, e2, _⟩
  · exact .inl z
  · exact .inr ⟨x, _, e1, e2⟩
section
variable {Z : ZG} {X : Cx} {E : XK} {e e1 e2 : Expr} {es : List Expr} {w w1 w2 : WE} {pos p : Pos} {i : Nat} {x : Str} {a : Addr} {oe : Obj} {cls : Value} {d : Option Addr} {pn : List (Addr × Obj)} {y : Str} {cs : List Nat} {c : Nat} {p1 p2 p3 : Pos}
/-- the frame of a suite -/
abbrev suZ (Z : ZG) (a : Addr) (cls : Value) (d : Option Addr) : ZM := ⟨Z, fun _ => none, some (a, cls, d)⟩
theorem su_at {fr : Fr} {ow : Ow} {H : Hp} {σ : L2.St} {env : Ev} {er : Er} (G : Good fr ow H σ env) (hz : fr.Z = suZ Z a cls d) (e : env[i]? = some (.err er)) : σ[i]? = some (some (.ref a)) ∧ RepE Z fr.d0 (MM fr ow) H er cls d := by
  obtain ⟨a', cls', d', h1, h2, h3⟩ := G.sl i _ e
  rw [hz] at h1 h3
  cases h1
  exact ⟨h2, h3⟩
theorem qe_isErr (EC : ErC X.K Z cs) (hz : Zc cls d oe) (hf : ∃ vs, oe.data = .fields vs) (i : Nat) (hc : c ∈ cs) (hg : Gl (X.suite a ((a, oe) :: pn)) "isinstance") (hm : (X.suite a ((a, oe) :: pn)).mg "isinstance" = none) (hv : bootBuiltins "isinstance" = some (.builtin "isinstance"))
    (hN : X.N[i]? = some x) (hvx : Vis X.env.scope x) (hgy : Gl (X.suite a ((a, oe) :: pn)) y) (hmy : (X.suite a ((a, oe) :: pn)).mg y = some (.ref (Z c)))
    (hd : (x == ("__debug__" : Str)) = false := by decide) (hcd : (x == ("__classdict__" : Str)) = false := by decide) (hdy : (y == ("__debug__" : Str)) = false := by decide) :
    QE (suZ Z a cls d) (X.suite a ((a, oe) :: pn)) E (.Call (.Name "isinstance" p) [.Name x p1, .Name y p2] [] pos) (wErrIs cs i c) :=
  (pe_callB (call_isX hz hf) hg hm hv (pa_cons (pe_var (X := X.suite a ((a, oe) :: pn)) (i := i) (pos := p1) hN hvx hd hcd) (pa_cons (pe_glob (X := X.suite a ((a, oe) :: pn)) (v := .ref (Z c)) (pos := p2) hgy hmy rfl hdy) pa_nil))).wk fun σ H Q ⟨fr, ow, env, Qp, Ep, A, hw, post⟩ => by
  unfold wErrIs at hw
  split at hw
  · rename_i er ho
    obtain ⟨h1, h2⟩ := su_at A.g A.z ho
    refine ⟨_, h1, ?_⟩
    refine ⟨Z er.c, .ref (Z c), .ref (Z c), er.c == c, rfl, h2.1, EC.ec _ hw.1, .own _, EC.kt _ hw.1 _ hc, repE_dict h2, post _ _ H (.refl A.g.dice) (.bl _) hw.2⟩
  · exact hw.elim
theorem qe_isVE (EC : ErC X.K Z cs) (hz : Zc cls d oe) (hf : ∃ vs, oe.data = .fields vs) (i : Nat) (hg : Gl (X.suite a ((a, oe) :: pn)) "isinstance") (hm : (X.suite a ((a, oe) :: pn)).mg "isinstance" = none) (hv : bootBuiltins "isinstance" = some (.builtin "isinstance"))
    (hN : X.N[i]? = some x) (hvx : Vis X.env.scope x) (hgy : Gl (X.suite a ((a, oe) :: pn)) "ValueError") (hmy : (X.suite a ((a, oe) :: pn)).mg "ValueError" = none) (hvy : bootBuiltins "ValueError" = some (.type "ValueError"))
    (hd : (x == ("__debug__" : Str)) = false := by decide) (hcd : (x == ("__classdict__" : Str)) = false := by decide) :
    QE (suZ Z a cls d) (X.suite a ((a, oe) :: pn)) E (.Call (.Name "isinstance" p) [.Name x p1, .Name "ValueError" p2] [] pos) (wErrVE cs i) :=
  (pe_callB (call_isX hz hf) hg hm hv (pa_cons (pe_var (X := X.suite a ((a, oe) :: pn)) (i := i) (pos := p1) hN hvx hd hcd) (pa_cons (pe_bltn (X := X.suite a ((a, oe) :: pn)) (v := .ty "ValueError") (pos := p2) hgy hmy hvy rfl) pa_nil))).wk fun σ H Q ⟨fr, ow, env, Qp, Ep, A, hw, post⟩ => by
  unfold wErrVE at hw
  split at hw
  · rename_i er ho
    obtain ⟨h1, h2⟩ := su_at A.g A.z ho
    refine ⟨_, h1, ?_⟩
    refine ⟨Z er.c, .ty "ValueError", .type "ValueError", true, rfl, h2.1, EC.ec _ hw.1, .ty _, EC.kv _ hw.1, repE_dict h2, post _ _ H (.refl A.g.dice) (.bl _) hw.2⟩
  · exact hw.elim
theorem qe_errFld {f : Str} (T : XfC X.K (Z c)) (hno : PySem.W.findIn X.K (.ref (Z c)) f = some none) (hz : Zc cls d oe) (hf : ∃ vs, oe.data = .fields vs) (i : Nat) (hN : X.N[i]? = some x) (hvx : Vis X.env.scope x)
    (hd : (x == ("__debug__" : Str)) = false := by decide) (hcd : (x == ("__classdict__" : Str)) = false := by decide) (hb : attributeBase (.Name x p1) f X.env (eval (.Name x p1) X.env) = eval (.Name x p1) X.env := by rfl) :
    QE (suZ Z a cls d) (X.suite a ((a, oe) :: pn)) E (.Attribute (.Name x p1) f pos) (wErrFld i c f) :=
  (pe_xf T hno hz hf (pe_var (X := X.suite a ((a, oe) :: pn)) (i := i) (pos := p1) hN hvx hd hcd) hb).wk fun σ H Q ⟨fr, ow, env, Qp, Ep, A, hw, post⟩ => by
  unfold wErrFld at hw
  split at hw
  · rename_i er ho
    obtain ⟨h1, h2⟩ := su_at A.g A.z ho
    obtain ⟨rfl, dv, h3, h4⟩ := hw
    refine ⟨_, h1, rfl, h2.1, ?_⟩
    rcases h2.2 with ⟨z1, z2, _⟩ | ⟨xx, vs, e1, e2, e3, e4, e5⟩
    · rw [z1] at h3
      simp at h3
    · obtain ⟨v, q1, q2⟩ := zip_look e5 h3
      exact ⟨xx, _, v, e1, e2, q1, post _ _ H (.refl A.g.dice) (by rw [A.z]; exact q2) h4⟩
  · exact hw.elim
end
section
variable {Z : ZM} {X : Cx} {E : XK} {e e1 e2 : Expr} {w w1 w2 : WE} {pos p apos cpos : Pos}
theorem count_sc {fr : Fr} {ow : Ow} {H : Hp} {y : V} {dy : D} (ry : Rep fr.Z.g fr.d0 (MM fr ow) H y dy) (fy : dy.flat = true) : ∀ {vs : List V} {ds : List D}, Reps fr.Z.g fr.d0 (MM fr ow) H vs ds → ds.all D.flat = true → vs.countP (fun z => eqV z y) = ds.countP fun z => D.sc z dy
  | _, _, .nil, _ => rfl
  | _, _, .cons r t, e => by
    rw [List.all_cons, Bool.and_eq_true] at e
    rw [List.countP_cons, List.countP_cons, sc_eqV r (.inl ry) e.1 fy, count_sc ry fy t e.2]
theorem qe_lidx (ha : QB Z X E e1 w1) (hb : QE Z X E e2 w2) (hbase : attributeBase e1 "index" X.env (eval e1 X.env) = eval e1 X.env := by rfl)
    (hfew : ((backTo cpos (starEach [e2] X.env)).all (fun x => !x.1) && (backToKw cpos (keywordEach [] X.env)).all (fun x => x.1.isSome) && decide ([e2].length + ([] : List Keyword).length + (if ([] : List Keyword).isEmpty then 0 else 1) < 30)) = true := by rfl)
    (hline : (apos.endLine == cpos.line) = true := by rfl) (hs : starEach [e2] X.env = (false, eval e2 X.env) :: starEach [] X.env := by rfl) (hplain : (backTo cpos (starEach [] X.env)).any (·.1) = false := by rfl) :
    QE Z X E (.Call (.Attribute e1 "index" apos) [e2] [] cpos) (wLM bIdx w1 w2) :=
  (pe_bm PySem.F.plainAttrs_list PySem.F.slot_list_index PySem.F.type_list_index mt_index ha (pa_cons hb pa_nil hs) hbase hfew hline hs hplain).wk fun σ H Q ⟨fr, ow, env, Qp, Ep, A, hw, post⟩ =>
  ⟨fr, ow, env, _, Ep, A, hw, fun dx v H1 n1 r1 q1 => by
    cases dx <;> try exact (show False from q1).elim
    rename_i xs
    obtain ⟨al, vs, rfl, e1, e2⟩ := r1.lst
    refine ⟨.inl ⟨rfl, vs, SqL.of e1⟩, fr, ow, env, _, Ep, A.mv n1, q1, fun dy u H2 n2 r2 q2 => ?_⟩
    obtain ⟨al', vs', ev, e3, e4⟩ := (r1.mv n2).lst
    cases ev
    have e1' := e3
    obtain ⟨f1, f2, j, x, g1, g2, g3, g4⟩ := q2
    obtain ⟨vx, k1, k2⟩ := e4.get g1
    refine ⟨al, vs', u, j, vx, rfl, rfl, SqL.of e1', r2.flat f1, e4.flat f2, k1, ?_, fun m z' hm hz => ?_, post _ _ H2 (n1.trans n2) (.int _) g4⟩
    · rw [sc_eqV k2 (.inl r2) (List.all_eq_true.mp f2 _ (List.mem_of_getElem? g1)) f1]
      exact g2
    · have lt : m < xs.length := by
        rw [← e4.length]
        exact (List.getElem?_eq_some_iff.mp hz).1
      have gx : xs[m]? = some xs[m] := List.getElem?_eq_getElem lt
      obtain ⟨vz, k3, k4⟩ := e4.get gx
      rw [hz] at k3
      cases k3
      rw [sc_eqV k4 (.inl r2) (List.all_eq_true.mp f2 _ (List.mem_of_getElem? gx)) f1]
      exact g3 m _ hm gx⟩
theorem qe_lcnt (ha : QB Z X E e1 w1) (hb : QE Z X E e2 w2) (hbase : attributeBase e1 "count" X.env (eval e1 X.env) = eval e1 X.env := by rfl)
    (hfew : ((backTo cpos (starEach [e2] X.env)).all (fun x => !x.1) && (backToKw cpos (keywordEach [] X.env)).all (fun x => x.1.isSome) && decide ([e2].length + ([] : List Keyword).length + (if ([] : List Keyword).isEmpty then 0 else 1) < 30)) = true := by rfl)
    (hline : (apos.endLine == cpos.line) = true := by rfl) (hs : starEach [e2] X.env = (false, eval e2 X.env) :: starEach [] X.env := by rfl) (hplain : (backTo cpos (starEach [] X.env)).any (·.1) = false := by rfl) :
    QE Z X E (.Call (.Attribute e1 "count" apos) [e2] [] cpos) (wLM bCnt w1 w2) :=
  (pe_bm PySem.F.plainAttrs_list PySem.F.slot_list_count PySem.F.type_list_count mt_cntF ha (pa_cons hb pa_nil hs) hbase hfew hline hs hplain).wk fun σ H Q ⟨fr, ow, env, Qp, Ep, A, hw, post⟩ =>
  ⟨fr, ow, env, _, Ep, A, hw, fun dx v H1 n1 r1 q1 => by
    cases dx <;> try exact (show False from q1).elim
    rename_i xs
    obtain ⟨al, vs, rfl, e1, e2⟩ := r1.lst
    refine ⟨.inl ⟨rfl, vs, SqL.of e1⟩, fr, ow, env, _, Ep, A.mv n1, q1, fun dy u H2 n2 r2 q2 => ?_⟩
    obtain ⟨al', vs', ev, e3, e4⟩ := (r1.mv n2).lst
    cases ev
    have e1' := e3
    obtain ⟨f1, f2, g4⟩ := q2
    refine ⟨al, vs', u, rfl, rfl, SqL.of e1', r2.flat f1, e4.flat f2, ?_⟩
    rw [count_sc r2 f1 e4 f2]
    exact post _ _ H2 (n1.trans n2) (.int _) g4⟩
end
theorem vint_eq {i j : Int} : decide (V.int i = V.int j) = decide (i = j) := by
  by_cases h : i = j
  · rw [h, decide_eq_true rfl, decide_eq_true rfl]
  · rw [decide_eq_false h, decide_eq_false fun z => h (by injection z)]
theorem ops_qi : OpS rEq oQI := fun fr ow H x y dx dy Qp Q _ rx ry h k => by
  cases dx <;> cases dy <;> try exact (show False from h).elim
  rw [rx.int, ry.int]
  refine ⟨rfl, ?_⟩
  rw [vint_eq]
  exact k _ _ H (.refl H) (.bl _) h
theorem ops_ni : OpS rNe oNI := fun fr ow H x y dx dy Qp Q _ rx ry h k => by
  cases dx <;> cases dy <;> try exact (show False from h).elim
  rw [rx.int, ry.int]
  refine ⟨rfl, ?_⟩
  rw [vint_eq]
  exact k _ _ H (.refl H) (.bl _) h
/-! ### tellers, by their text -/
/-- the frame of a handler at its start -/
theorem sui_good {Z : ZM} {K : PySem.W.Frag} {d0 a : Addr} {cls : Value} {dd : Option Addr} {M : Addr → Prop} {H : Hp} {σ : L2.St} {i m : Nat} {er : Er} (hD : Dice K H d0) (hT : Tabs Z.g.tb H) (hM : ∀ a, M a → Has H a) (hZ : Z.er = some (a, cls, dd)) (re : RepE Z.g d0 (fun a => a = d0 ∨ M a) H er cls dd) (hl : σ.length = m) (hb9 : m ≤ CBASE) :
    Good ⟨Z, K, d0, M, fun _ => False, fun _ => False, H, fun _ => none, d0⟩ (fun _ => none) H (σ.set i (some (.ref a))) ((List.replicate m Sl.un).set i (.err er)) := by
  have mm : ∀ a, MM ⟨Z, K, d0, M, fun _ => False, fun _ => False, H, fun _ => none, d0⟩ (fun _ => none) a → a = d0 ∨ M a := fun a h => by
    rcases h with h | h | h | ⟨i, h⟩
    · exact .inl h
    · exact .inr h
    · exact h.elim
    · cases h
  refine ⟨.refl hD, hD, hT, fun a h => ?_, fun a h => (hM a h).nn, fun a h => h.elim, fun i a h => (by cases h), fun i j a h => (by cases h), fun i a h => (by cases h), fun a o h => (by cases h), by simp [hl], by simpa [hl] using hb9, fun j s e => ?_⟩
  · rcases mm a h with h | h
    · rw [h]; exact hD.has
    · exact hM a h
  · rw [List.getElem?_set] at e
    split at e
    · rename_i hij
      subst hij
      split at e
      · rename_i lt
        cases e
        exact ⟨a, cls, dd, hZ, by rw [List.getElem?_set, if_pos rfl, if_pos (by rw [hl]; simpa using lt)], re.lat (.sub mm)⟩
      · cases e
    · rw [List.getElem?_replicate] at e
      split at e
      · cases e
        exact True.intro
      · cases e
/-- a handler's answer, where the error is of these classes -/
def tellC (cs : List Nat) (t : Er → QD → Prop) : Er → QD → Prop := fun er Q => er.c ∈ cs ∧ t er Q
theorem sui_rd {Z : ZG} {K : PySem.W.Frag} {E : XK} {a : Addr} {cls : Value} {dd : Option Addr} {H : Hp} {σ : L2.St} {i m : Nat} {b : WS} {cs : List Nat} {Q : VK} {D : Ends} (hE : HE Z K (tellC cs (tellOf m i b)) Q cls dd H) (hl : σ.length = m) (hb9 : m ≤ CBASE) (hrt : ∀ v H', Q v H' → D.rt v H') : RdS (suZ Z a cls dd) K E b D (σ.set i (some (.ref a))) H := by
  obtain ⟨d0, M, er, Qp, hD, hT, hM, re, ⟨_, ht⟩, post⟩ := hE
  have G := sui_good (Z := suZ Z a cls dd) (K := K) (σ := σ) (i := i) hD hT hM rfl re hl hb9
  exact ⟨_, _, _, ⟨fun _ => False, fun d _ => Qp d, fun _ => False, fun _ => False, fun _ _ => False⟩, ⟨rfl, rfl, G, fun _ _ _ _ _ _ z => z.elim⟩, ht, fun _ _ _ _ _ z => z.elim, fun d v ow' env' σ' H' G' r q => hrt _ _ (post d v H' G'.nx r.m1 q), fun _ _ _ _ _ z => z.elim, fun _ _ _ _ _ z => z.elim, fun _ _ _ _ _ _ _ _ _ z => z.elim⟩
section
variable {X : Cx} {Z : ZG} {Ng : List Str} {x a n cW : Str} {sg : Scope} {g : Addr} {cdg : Value} {i m : Nat} {b : WS} {b0 : Stmt} {suite : List Stmt} {p1 p2 p3 p4 p5 p6 p7 p8 : Pos} {cs : List Nat}
theorem told_gives (hN : Ng.Nodup) (hm : Ng.length = m) (hb9 : m ≤ CBASE) (hi : Ng[i]? = some n) (i0 : ∀ f : Addr, (L2.start Ng [V.ref f])[0]? = some (some (V.ref f))) (hln : sg.names.lookup n = some .local) (hgW : sg.names.lookup cW = some .globalImplicit) (hmW : X.mg cW = some (.ref (Z 0))) (EC : ErC X.K Z cs)
    (hsu : ∀ (s : Shared) (H : Hp) (a : Addr) (oe : Obj) (cls : Value) (d : Option Addr) (pn : List (Addr × Obj)), Zc cls d oe → (∃ vs, oe.data = .fields vs) → QSs (suZ Z a cls d) ((cxOf C8.CX0 X.prog X.w X.K X.mg X.base Ng x sg g cdg X.A X.stack s H C8.E0).nox.suite a ((a, oe) :: pn)) E0 (b0 :: suite) b)
    (hd : (cW == ("__debug__" : Str)) = false := by decide) :
    GivesV X Ng x sg g cdg [.Try [.Return (some (.Call (.Name a p1) [] [] p2)) p3] [.ExceptHandler (some (.Name cW p4)) (some n) (b0 :: suite) p5] [] [] p6] a (TTD Z X.K (tellC cs (tellOf m i b))) := by
  intro f Φ s H Q tl act hc h
  refine ⟨_, pss_one (ps_try_as (X := (cxOf C8.CX0 X.prog X.w X.K X.mg X.base Ng x sg g cdg X.A X.stack s H C8.E0).nox) (i := i) (c := .ref (Z 0)) (ts := fun a cls d => RdS (suZ Z a cls d) X.K E0 b)
    (tb := fun W D σ H => ∃ Ech : XK, (∀ (cls : Value) (d : Option Addr) (σ2 : L2.St) (H2 : Hp), σ2.length = m → Ech cls d H2 → W cls d σ2 H2) ∧ σ[0]? = some (some (.ref f)) ∧ Φ H ∧ tl Ech H D.rt)
    (Wout := fun _ _ _ _ => False) rfl rfl hN hi hln ⟨hgW, hd, .inl hmW⟩ LamX.takes0 (fun W pn xe tk _ => ?_) (fun a oe cls d pn hz hf => hsu s H a oe cls d pn hz hf)), ?_⟩
  · refine ⟨fun pins s2 σ H2 D I h2 => ?_⟩
    obtain ⟨Ech, hW, e1, e2, e3⟩ := h2
    have hp := fun p1 p2 => act _ pn xe Ech p1 p2 (takes_len tk) (fun cls d σ2 H3 hE hl => hW cls d σ2 H3 (hl.trans hm) hE)
    exact (pss_one (ps_ret (hp _ _))).run pins s2 σ H2 D I ⟨e1, e2, e3⟩
  · refine ⟨fun cls d H2 => HE Z X.K (tellC cs (tellOf m i b)) Q cls d H2, fun cls d σ2 H2 hl hE => ?_, i0 f, hc, h⟩
    have hE' := hE
    obtain ⟨d0, M, er, Qp, hD, hT, hM, re, ⟨hcs, ht⟩, post⟩ := hE'
    refine ⟨true, by rw [re.1]; exact EC.em _ hcs, fun _ a _ => sui_rd hE hl hb9 fun _ _ q => q, fun z => nomatch z⟩
theorem raised_gives {jc : Nat} (hN : Ng.Nodup) (hm : Ng.length = m) (hb9 : m ≤ CBASE) (hi : Ng[i]? = some n) (i0 : ∀ f : Addr, (L2.start Ng [V.ref f])[0]? = some (some (V.ref f))) (hln : sg.names.lookup n = some .local) (hgW : sg.names.lookup cW = some .globalImplicit) (hmW : X.mg cW = some (.ref (Z 0))) (EC : ErC X.K Z cs)
    (hsu : ∀ (s : Shared) (H : Hp) (a : Addr) (oe : Obj) (cls : Value) (d : Option Addr) (pn : List (Addr × Obj)), Zc cls d oe → (∃ vs, oe.data = .fields vs) → QSs (suZ Z a cls d) ((cxOf C8.CX0 X.prog X.w X.K X.mg X.base Ng x sg g cdg X.A X.stack s H C8.E0).nox.suite a ((a, oe) :: pn)) E0 (b0 :: suite) b)
    (hd : (cW == ("__debug__" : Str)) = false := by decide)
    (hsw : ∀ env : Env, swapsWith (.Call (.Name a p1) [] [] p2) none p3.line env = pure false := by intro _; rfl) :
    GivesV X Ng x sg g cdg [.Try [.Expr (.Call (.Name a p1) [] [] p2) p3] [.ExceptHandler (some (.Name cW p4)) (some n) (b0 :: suite) p5] [] [] p6, .Return (some (.Constant .none jc p7)) p8] a (TTR Z X.K (tellC cs (tellOf m i b))) := by
  intro f Φ s H Q tl act hc h
  refine ⟨_, pss_cons (ps_try_as (X := (cxOf C8.CX0 X.prog X.w X.K X.mg X.base Ng x sg g cdg X.A X.stack s H C8.E0).nox) (i := i) (c := .ref (Z 0)) (ts := fun a cls d => RdS (suZ Z a cls d) X.K E0 b)
    (tb := fun W D σ H => ∃ Ech : XK, (∀ (cls : Value) (d : Option Addr) (σ2 : L2.St) (H2 : Hp), σ2.length = m → Ech cls d H2 → W cls d σ2 H2) ∧ σ[0]? = some (some (.ref f)) ∧ Φ H ∧ tl Ech H fun _ H' => D.nx σ H')
    (Wout := fun _ _ _ _ => False) rfl rfl hN hi hln ⟨hgW, hd, .inl hmW⟩ LamX.takes0 (fun W pn xe tk _ => ?_) (fun a oe cls d pn hz hf => hsu s H a oe cls d pn hz hf)) (pss_one (ps_ret pe_non)), ?_⟩
  · refine ⟨fun pins s2 σ H2 D I h2 => ?_⟩
    obtain ⟨Ech, hW, e1, e2, e3⟩ := h2
    have hp := fun p1 p2 => act _ pn xe Ech p1 p2 (takes_len tk) (fun cls d σ2 H3 hE hl => hW cls d σ2 H3 (hl.trans hm) hE)
    exact (pss_one (ps_expr (hp _ _) (hsw _))).run pins s2 σ H2 D I ⟨e1, e2, e3⟩
  · refine ⟨fun cls d H2 => HE Z X.K (tellC cs (tellOf m i b)) Q cls d H2, fun cls d σ2 H2 hl hE => ?_, i0 f, hc, ?_⟩
    · have hE' := hE
      obtain ⟨d0, M, er, Qp, hD, hT, hM, re, ⟨hcs, ht⟩, post⟩ := hE'
      refine ⟨true, by rw [re.1]; exact EC.em _ hcs, fun _ a _ => sui_rd hE hl hb9 fun _ _ q => q, fun z => nomatch z⟩
    · exact h
end

/-! ### membership and place among data of any depth -/
theorem room65 {k : Nat} {A : Around} (r : Room k A) : A.units + 65 < cLine := by have := r.un; omega
def oInD : O2 := fun x y Q => ∃ a b, x.pd = some a ∧ y.pd = some (.list b) ∧ SeqAt.shaped a = true ∧ SeqAt.shaped (.list b) = true ∧ Q (.bl (b.any fun z => PyData.eqv z a))
def oNotInD : O2 := fun x y Q => ∃ a b, x.pd = some a ∧ y.pd = some (.list b) ∧ SeqAt.shaped a = true ∧ SeqAt.shaped (.list b) = true ∧ Q (.bl (!b.any fun z => PyData.eqv z a))
def bIdxD (xs : List D) (y : D) (Q : QD) : Prop := ∃ (d : PyData) (ds : List PyData) (j : Nat) (z : PyData), y.pd = some d ∧ (D.lst xs).pd = some (.list ds) ∧ SeqAt.shaped (.list ds) = true ∧ SeqAt.shaped d = true ∧ ds[j]? = some z ∧ PyData.eqv z d = true ∧ (∀ (m : Nat) (z' : PyData), m < j → ds[m]? = some z' → PyData.eqv z' d = false) ∧ Q (.int (j : Nat))
theorem ops_inD {K : PySem.W.Frag} : OpS (rInD K) oInD := fun fr ow H x y dx dy Qp Q fre rx ry h k => by
  obtain ⟨a, b, h1, h2, h3, h4, h5⟩ := h
  exact ⟨a, b, rx.dp h1, ry.dp h2, h3, h4, k _ _ H (.refl H) (.bl _) h5⟩
theorem ops_notInD {K : PySem.W.Frag} : OpS (rNotInD K) oNotInD := fun fr ow H x y dx dy Qp Q fre rx ry h k => by
  obtain ⟨a, b, h1, h2, h3, h4, h5⟩ := h
  exact ⟨a, b, rx.dp h1, ry.dp h2, h3, h4, k _ _ H (.refl H) (.bl _) h5⟩
section
variable {Z : ZM} {X : Cx} {E : XK} {e1 e2 : Expr} {w1 w2 : WE} {apos cpos : Pos}
theorem qe_lidxD (hu : X.A.units + 65 < cLine) (ha : QB Z X E e1 w1) (hb : QE Z X E e2 w2) (hbase : attributeBase e1 "index" X.env (eval e1 X.env) = eval e1 X.env := by rfl)
    (hfew : ((backTo cpos (starEach [e2] X.env)).all (fun x => !x.1) && (backToKw cpos (keywordEach [] X.env)).all (fun x => x.1.isSome) && decide ([e2].length + ([] : List Keyword).length + (if ([] : List Keyword).isEmpty then 0 else 1) < 30)) = true := by rfl)
    (hline : (apos.endLine == cpos.line) = true := by rfl) (hs : starEach [e2] X.env = (false, eval e2 X.env) :: starEach [] X.env := by rfl) (hplain : (backTo cpos (starEach [] X.env)).any (·.1) = false := by rfl) :
    QE Z X E (.Call (.Attribute e1 "index" apos) [e2] [] cpos) (wLM bIdxD w1 w2) :=
  (pe_bm PySem.F.plainAttrs_list PySem.F.slot_list_index PySem.F.type_list_index (mt_indexD hu) ha (pa_cons hb pa_nil hs) hbase hfew hline hs hplain).wk fun σ H Q ⟨fr, ow, env, Qp, Ep, A, hw, post⟩ =>
  ⟨fr, ow, env, _, Ep, A, hw, fun dx v H1 n1 r1 q1 => by
    cases dx <;> try exact (show False from q1).elim
    rename_i xs
    obtain ⟨al, vs, rfl, e1, e2⟩ := r1.lst
    refine ⟨.inl ⟨rfl, vs, SqL.of e1⟩, fr, ow, env, _, Ep, A.mv n1, q1, fun dy u H2 n2 r2 q2 => ?_⟩
    obtain ⟨d, ds, j, z, g1, g2, g3, g4, g5, g6, g7, g8⟩ := q2
    exact ⟨al, u, d, ds, j, z, rfl, rfl, (r1.mv n2).dp g2, r2.dp g1, g3, g4, g5, g6, g7, post _ _ H2 (n1.trans n2) (.int _) g8⟩⟩
end
end Oil
/-! Own errors with fields, raised by data. -/
namespace Oil
open PySem PySem.Spec PyProof.Rows L2 LamX
/-- a field's value -/
def OkF (v : V) : Prop := (∃ t : Str, v = .str t ∧ t.length ≤ 1000) ∨ ∃ i : Int, v = .int i ∧ i.natAbs.log2 < 1000
/-- what an error's own __init__ keeps -/
def SpX (C : Addr) (ns : List Str) : Sp := fun vs H Q _ => ∃ (x : Addr) (us : List V), vs = .ref x :: us ∧ us.length = ns.length ∧ (∀ u ∈ us, OkF u) ∧ H x = some (exo x C none) ∧ ∀ dx, H dx = none → dx ≠ x → Q .non (upd (upd H dx (exd dx (ns.zip us).reverse)) x (exo x C (some dx)))
theorem OkF.len {v : V} (h : OkF v) : ∃ y : Str, y.length ≤ 1100 ∧ ∀ (Q : VK) (H : Hp), Q (.str y) H → ((∃ y : Str, v = .str y ∧ y.length ≤ sizeLine ∧ Q (.str y) H) ∨ ∃ i : Int, v = .int i ∧ i.natAbs.log2 < 1920 ∧ Q (.str (toString i)) H) := by
  rcases h with ⟨t, rfl, ht⟩ | ⟨i, rfl, hi⟩
  · exact ⟨t, by omega, fun Q H q => .inl ⟨t, rfl, by rw [sizeLine_eq]; omega, q⟩⟩
  · refine ⟨toString i, ?_, fun Q H q => .inr ⟨i, rfl, by omega, q⟩⟩
    have e := int_text_length_le (k := 1000) (by decide) hi
    have : (Str.ofString (toString i)).length = (toString i).length := PySem.ofString_length _
    show (Str.ofString (toString i)).length ≤ 1100
    rw [this]
    omega
section
variable {Z : ZM} {X : Cx} {E : XK} {e e1 e2 : Expr} {es : List Expr} {t : WA} {pos p p0 : Pos} {x : Str} {k j c : Nat} {ns : List Str}
theorem big_log {i : Int} (h : Big i) : i.natAbs.log2 < 1000 := by
  unfold Big at h
  by_cases z : i.natAbs = 0
  · rw [z]; decide
  · rw [Nat.log2_lt z]
    exact Nat.lt_of_lt_of_le h (Nat.pow_le_pow_right (by decide) (by decide))
theorem short_ok {fr : Fr} {ow : Ow} {H : Hp} : ∀ {vs : List V} {ds : List D}, Reps fr.Z.g fr.d0 (MM fr ow) H vs ds → (∀ d ∈ ds, D.short d) → ∀ u ∈ vs, OkF u
  | _, _, .nil, _, u, h => by cases h
  | _, _, .cons (d := d) r t, h, u, hu => by
    rcases List.mem_cons.mp hu with rfl | hu
    · have := h d (List.mem_cons_self ..)
      cases r <;> first | exact .inl ⟨_, rfl, this⟩ | exact .inr ⟨_, rfl, big_log this⟩ | exact (show False from this).elim
    · exact short_ok t (fun d hd => h d (List.mem_cons_of_mem _ hd)) u hu
theorem Reps.revZ {fr : Fr} {ow : Ow} {H : Hp} {vs : List V} {ds : List D} (r : Reps fr.Z.g fr.d0 (MM fr ow) H vs ds) : Reps fr.Z.g fr.d0 (MM fr ow) H vs.reverse ds.reverse := r.rev
theorem zip_revX {α β : Type} : ∀ {ns : List α} {vs : List β}, ns.length = vs.length → (ns.zip vs).reverse = ns.reverse.zip vs.reverse
  | [], [], _ => rfl
  | n :: ns, v :: vs, h => by
    have h : ns.length = vs.length := by simpa using h
    rw [List.zip_cons_cons, List.reverse_cons, List.reverse_cons, List.reverse_cons, zip_revX h, List.zip_append (by simp [h])]
    rfl
/-- raise C(e, ..), C an own error with fields -/
theorem qs_raiseX (g : Exo X.prog X.w X.K X.mg X.base k x (Z c) (SpX (Z c) ns)) (hr : Room j X.A) (hk : k + 1 ≤ j) (hc : X.calm = true) (tk : Takes X (fun cls d _ H => E cls d H)) (hx : Passes (L2.CX X.prog X.w) X (fun _ _ _ => False)) (ha : QA Z X E (e :: es) t) (hg : Gl X x := by rfl)
    (hdb : (x == ("__debug__" : Str)) = false := by decide) (he : starEach (e :: es) X.env = (false, eval e X.env) :: starEach es X.env := by rfl) (hpl : (backTo p (starEach es X.env)).any (·.1) = false := by rfl) (hn : ns.length ≤ 1000 := by decide) :
    QS Z X E (.Raise (some (.Call (.Name x p0) (e :: es) [] p)) none pos) (wRaiseX c ns t) := (ps_raise hc tk (pmk_exo g hr hk ha hx hg hdb he hpl)).wk fun D σ H ⟨fr, ow, env, Kn, A, hw, P⟩ =>
  ⟨fr, ow, env, _, _, A, hw, fun ds vs H1 n1 r1 ⟨q1, q2, q3⟩ => by
    have lv : vs.length = ns.length := by rw [r1.length, q1]
    refine ⟨?_, fun a ha => ⟨a, vs, by rw [List.append_nil], lv, short_ok r1 q2, upd_same, fun dx hdx hne => ⟨rfl, dx, (ns.zip vs).reverse, upd_same, by rw [upd_ne hne, upd_same], ?_, ?_⟩⟩⟩
    · rw [lv]; exact hn
    · rw [upd_ne hne] at hdx
      exact hdx
    · have hd1 : H1 dx = none := by rw [upd_ne hne] at hdx; exact hdx
      have eh : upd (del (upd (upd (upd H1 a (exo a (Z c) none)) dx (exd dx (ns.zip vs).reverse)) a (exo a (Z c) (some dx))) a) dx (.xd (ns.zip vs).reverse) = upd H1 dx (.xd (ns.zip vs).reverse) := by
        funext b
        by_cases h1 : b = dx
        · rw [h1, upd_same, upd_same]
        · rw [upd_ne h1, upd_ne h1]
          unfold del
          by_cases h2 : b = a
          · rw [if_pos h2, h2, ha]
          · rw [if_neg h2, upd_ne h2, upd_ne h1, upd_ne h2]
      rw [eh]
      have n2 := n1.same (Same.new (o := .xd (ns.zip vs).reverse) hd1)
      refine A.er _ _ _ _ n2 ⟨by rw [A.z], .inr ⟨dx, vs.reverse, rfl, ?_, ?_, ?_, ?_⟩⟩ q3
      · rw [upd_same, zip_revX lv.symm]
      · exact (A.g.mv n1).fresh hd1
      · rw [List.length_reverse, List.length_reverse, lv]
      · exact (r1.lat fun a o _ n h => ⟨by rw [upd_ne (ne_of_none h hd1)]; exact h, n⟩).rev⟩
end
/-! ### their own __init__s -/
section
variable {P : Program} {w : World} {K : PySem.W.Frag} {mg : Str → Option Value} {base : Heap}
theorem OkF.fmt {v : V} {i : Nat} {σ : L2.St} (hv : σ[i]? = some (some v)) (h : OkF v) : ∃ y : Str, y.length ≤ 1100 ∧ ∀ (H : Hp) (Q : VK), Q (.str y) H → tFmt (tVar i) σ H Q := by
  obtain ⟨y, hy, k⟩ := h.len
  exact ⟨y, hy, fun H Q q => ⟨v, hv, k Q H q⟩⟩
/-- f'..{x}' and f'..{x}..{y}' -/
theorem fstr1 {a0 : Str} {v : V} {σ : L2.St} {H : Hp} {Q : Str → Hp → Prop} {i : Nat} (hv : σ[i]? = some (some v)) (ok : OkF v) (h0 : a0.length ≤ 1000) (q : ∀ o, Q o H) : tJs [tC (.str a0), tFmt (tVar i)] Str.empty σ H Q := by
  obtain ⟨y, hy, k⟩ := ok.fmt hv
  have l0 : (Str.empty ++ a0).length = a0.length := by rw [Str.length_append]; show 0 + _ = _; omega
  refine ⟨a0, rfl, by rw [l0, sizeLine_eq]; omega, ?_⟩
  refine k H _ ⟨y, rfl, ?_, q _⟩
  rw [Str.length_append, l0, sizeLine_eq]
  omega
theorem fstr2 {a0 a1 : Str} {v u : V} {σ : L2.St} {H : Hp} {Q : Str → Hp → Prop} {i j : Nat} (hv : σ[i]? = some (some v)) (hu : σ[j]? = some (some u)) (ok : OkF v) (ok2 : OkF u) (h0 : a0.length ≤ 1000) (h1 : a1.length ≤ 1000) (q : ∀ o, Q o H) :
    tJs [tC (.str a0), tFmt (tVar i), tC (.str a1), tFmt (tVar j)] Str.empty σ H Q := by
  obtain ⟨y, hy, k⟩ := ok.fmt hv
  obtain ⟨y2, hy2, k2⟩ := ok2.fmt hu
  have l0 : (Str.empty ++ a0).length = a0.length := by rw [Str.length_append]; show 0 + _ = _; omega
  refine ⟨a0, rfl, by rw [l0, sizeLine_eq]; omega, ?_⟩
  refine k H _ ⟨y, rfl, by rw [Str.length_append, l0, sizeLine_eq]; omega, a1, rfl, by rw [Str.length_append, Str.length_append, l0, sizeLine_eq]; omega, ?_⟩
  refine k2 H _ ⟨y2, rfl, ?_, q _⟩
  rw [Str.length_append, Str.length_append, Str.length_append, l0, sizeLine_eq]
  omega
end
end Oil
/-! What the program's defs come to, by data. -/
namespace Oil
open PySem PySem.Spec PyProof.Rows L2
def dN : Option Int → D
  | none => .non
  | some n => .int n
/-- a stretch's data -/
def dSt (s : Str3) : D := .ins 12 ["_need", "_gain", "_top"] [dN s.need, .int s.gain, .int s.top]
/-- the same stretch many times -/
def S_rep (n : Nat) : PSpec := fun ds Q _ => ∃ s k, ds = [dSt s, .int k] ∧ s.Ok ∧ 1 ≤ k ∧ k < 2 ^ n ∧ Q (dSt (s.mul k))
def S_repeated : PSpec := S_rep 60

def b_law_capacity : WS := (wRet (wOp oAdd (wC (.int 1)) (wCall S_next (wCons (wName 0) (wCons (wOp oIx (wLst (wCons (wC (.int 9)) (wCons (wC (.int 30)) (wCons (wC (.int 120)) wNil)))) (wCall S_next (wCons (wName 0) (wCons (wC (.int 3)) wNil)))) wNil)))))
def S_law_capacity : PSpec := specOf 1 1 b_law_capacity
def b_law_posts : WS := (wSeq (wSet 2 (wOp oIx (wLst (wCons (wC (.int 4)) (wCons (wC (.int 9)) (wCons (wC (.int 40)) wNil)))) (wCall S_next (wCons (wName 0) (wCons (wC (.int 3)) wNil)))))
    (wSeq (wSetO 3 (wLc (wRange1 (wOp oAdd (wC (.int 1)) (wCall S_next (wCons (wName 0) (wCons (wName 1) wNil))))) (.nm 5) wYes (wTup (wCons (wCall S_next (wCons (wName 0) (wCons (wOp oAdd (wName 2) (wC (.int 2))) wNil))) (wCons (wOp oAdd (wC (.int 1)) (wCall S_next (wCons (wName 0) (wCons (wName 2) wNil)))) wNil))) [5]))
    (wSeq (wSet 4 (wCB bSum (wCons (wLc (wIter (wOwn 3)) (.tp [6, 7]) wYes (wOp oSub (wName 7) (wName 6)) [6, 7]) wNil)))
    (wSeq (wIfS (wtAnd (wtVal (wOp oGt (wName 4) (wC (.int 0)))) (wtVal (wOp oGt (wCall S_next (wCons (wName 0) (wCons (wC (.int 3)) wNil))) (wC (.int 0)))))
    (wPutI 3 (wC (.int 0)) (wTup (wCons (wOp oAdd (wOp oIx (wOp oIx (wOwn 3) (wC (.int 0))) (wC (.int 0))) (wName 4)) (wCons (wOp oIx (wOp oIx (wOwn 3) (wC (.int 0))) (wC (.int 1))) wNil))))
    wSkip)
    (wFrz 3 (wRet (wName 3)))))))
def S_law_posts : PSpec := specOf 2 8 b_law_posts
def b_is_number : WS := (wRet (wAnd (wCB (bIsiC []) (wCons (wName 0) (wCons (wC (.ty "int")) wNil))) (wNot (wCB (bIsiC []) (wCons (wName 0) (wCons (wC (.ty "bool")) wNil))))))
def S_is_number : PSpec := specOf 1 1 b_is_number
def b_is_number_within : WS := (wRet (wAnd (wCall S_is_number (wCons (wName 0) wNil)) (wChain oLe oLe (wName 1) (wName 0) (wName 2))))
def S_is_number_within : PSpec := specOf 3 3 b_is_number_within
def b_check_number_within : WS := (wIfS (wtNot (wtVal (wCall S_is_number_within (wCons (wName 0) (wCons (wName 1) (wCons (wName 2) wNil))))))
    (wRaise 3)
    wSkip)
def S_check_number_within : PSpec := specOf 3 3 b_check_number_within
def b_is_post : WS := (wRet (wAnd (wCB (bIsiC []) (wCons (wName 0) (wCons (wC (.ty "tuple")) wNil))) (wAnd (wOp oEq (wCB bLen (wCons (wName 0) wNil)) (wC (.int 2))) (wAnd (wCall S_is_number_within (wCons (wOp oIx (wName 0) (wC (.int 0))) (wCons (wC (.int 0)) (wCons (wC (.int 1000000000)) wNil)))) (wCall S_is_number_within (wCons (wOp oIx (wName 0) (wC (.int 1))) (wCons (wC (.int 1)) (wCons (wC (.int 1000000000)) wNil))))))))
def S_is_post : PSpec := specOf 1 1 b_is_post
def b_first_wrong : WS := (wSeq (wFor (wEnumT (wName 0)) (.tp [1, 2])
    (wIfS (wtOr (wtVal (wOp oEq (wName 1) (wC (.int 12)))) (wtNot (wtVal (wCall S_is_post (wCons (wName 2) wNil)))))
    (wRet (wName 1))
    wSkip))
    (wRet (wIf (wtTru (wName 0)) (wC .non) (wC (.int 0)))))
def S_first_wrong : PSpec := specOf 1 3 b_first_wrong
def b_Way_init : WS := (wSeq (wIfS (wtNot (wtVal (wCall S_is_number_within (wCons (wName 1) (wCons (wC (.int 1)) (wCons (wC (.int 1000000000)) wNil))))))
    (wRaiseX 1 ["part", "index"] (wCons (wC (.str "capacity")) (wCons (wC (.int 0)) wNil)))
    wSkip)
    (wSeq (wSet 3 (wCall S_first_wrong (wCons (wName 2) wNil)))
    (wSeq (wIfS (wtVal (wOp oIsNot (wName 3) (wC .non)))
    (wRaiseX 1 ["part", "index"] (wCons (wC (.str "posts")) (wCons (wName 3) wNil)))
    wSkip)
    (wSeq (wSelfC 13 0 "_capacity" (wName 1))
    (wSelfC 13 0 "_posts" (wName 2))))))
def S_Way_init : PSpec := specIS 13 1 4 b_Way_init
def b_Way_even : WS := (wSeq (wExpr (wCall S_check_number_within (wCons (wName 2) (wCons (wC (.int 1)) (wCons (wC (.int 12)) wNil)))))
    (wSeq (wSet 5 (wLc (wRange1 (wName 2)) (.nm 6) wYes (wTup (wCons (wName 3) (wCons (wName 4) wNil))) [6]))
    (wRet (wMakL 0 13 S_Way_init (wCons (wName 1) (wStar (wName 5) wNil))))))
def S_Way_even : PSpec := specOf 5 7 b_Way_even
def b_check_post : WS := (wIfS (wtNot (wtVal (wCall S_is_number_within (wCons (wName 0) (wCons (wC (.int 0)) (wCons (wOp oSub (wName 1) (wC (.int 1))) wNil))))))
    (wRaise 2)
    wSkip)
def S_check_post : PSpec := specOf 2 2 b_check_post
def b_Way_with_post : WS := (wSeq (wExpr (wCall S_check_post (wCons (wName 1) (wCons (wCB bLen (wCons (wFld 13 "_posts" (wName 0)) wNil)) wNil))))
    (wSeq (wSetO 4 (wCB bList (wCons (wFld 13 "_posts" (wName 0)) wNil)))
    (wSeq (wPutI 4 (wName 1) (wTup (wCons (wName 2) (wCons (wName 3) wNil))))
    (wRet (wCall S_Way_init (wCons (wFld 13 "_capacity" (wName 0)) (wStar (wOwn 4) wNil)))))))
def S_Way_with_post : PSpec := specOf 4 5 b_Way_with_post
def b_law_way : WS := (wSeq (wSet 2 (wCMeth 13 S_Way_even (wC (.cls 13)) (wCons (wName 0) (wCons (wCB bLen (wCons (wName 1) wNil)) (wCons (wC (.int 0)) (wCons (wC (.int 1)) wNil))))))
    (wSeq (wFor (wRange1 (wCB bLen (wCons (wName 1) wNil))) (.nm 3)
    (wSet 2 (wMeth 13 "with_post" S_Way_with_post (wName 2) (wCons (wName 3) (wCons (wOp oIx (wOp oIx (wName 1) (wName 3)) (wC (.int 0))) (wCons (wOp oIx (wOp oIx (wName 1) (wName 3)) (wC (.int 1))) wNil))))))
    (wRet (wName 2))))
def S_law_way : PSpec := specOf 2 4 b_law_way
def b_law_drawn : WS := (wSeq (wParN (wpVal 2 (wCall S_law_posts (wCons (wName 0) (wCons (wName 1) wNil))) (wpVal 3 (wCall S_law_capacity (wCons (wName 0) wNil)) wpNil)))
    (wRet (wTup (wCons (wCall S_law_way (wCons (wName 3) (wCons (wName 2) wNil))) (wCons (wName 3) (wCons (wName 2) (wCons (wCall S_next (wCons (wName 0) (wCons (wCB bLen (wCons (wName 2) wNil)) wNil))) (wCons (wCall S_next (wCons (wName 0) (wCons (wOp oAdd (wName 3) (wC (.int 1))) wNil))) wNil))))))))
def S_law_drawn : PSpec := specOf 2 4 b_law_drawn
def b_law_great : WS := (wRet (wOp oMod (wCB bInt (wCons (wOp oAdd (wOp oMul (wCall S_next (wCons (wName 0) (wCons (wOp oPow (wC (.int 10)) (wC (.int 9))) wNil))) (wOp oPow (wC (.int 10)) (wC (.int 9)))) (wCall S_next (wCons (wName 0) (wCons (wOp oPow (wC (.int 10)) (wC (.int 9))) wNil)))) wNil)) (wName 1)))
def S_law_great : PSpec := specOf 2 2 b_law_great
def b_Way_len : WS := (wRet (wCB bLen (wCons (wFld 13 "_posts" (wName 0)) wNil)))
def S_Way_len : PSpec := specOf 1 1 b_Way_len
def b_Way_capacity : WS := (wRet (wFld 13 "_capacity" (wName 0)))
def S_Way_capacity : PSpec := specOf 1 1 b_Way_capacity
def b_check_start : WS := (wSeq (wExpr (wCall S_check_post (wCons (wName 1) (wCons (wLenO 13 S_Way_len (wName 0)) wNil))))
    (wExpr (wCall S_check_number_within (wCons (wName 2) (wCons (wC (.int 0)) (wCons (wProp 13 S_Way_capacity (wName 0)) wNil))))))
def S_check_start : PSpec := specOf 3 3 b_check_start
def b_is_number_from : WS := (wRet (wAnd (wCall S_is_number (wCons (wName 0) wNil)) (wOp oGe (wName 0) (wName 1))))
def S_is_number_from : PSpec := specOf 2 2 b_is_number_from
def b_Stretch_init : WS := (wSeq (wIfS (wtAnd (wtVal (wOp oIsNot (wName 1) (wC .non))) (wtNot (wtVal (wCall S_is_number_from (wCons (wName 1) (wCons (wC (.int 0)) wNil))))))
    (wRaiseX 4 ["part"] (wCons (wC (.str "need")) wNil))
    wSkip)
    (wSeq (wIfS (wtOr (wtNot (wtVal (wCall S_is_number (wCons (wName 2) wNil)))) (wtAnd (wtVal (wOp oIsNot (wName 1) (wC .non))) (wtVal (wOp oLt (wOp oAdd (wName 1) (wName 2)) (wC (.int 0))))))
    (wRaiseX 4 ["part"] (wCons (wC (.str "gain")) wNil))
    wSkip)
    (wSeq (wIfS (wtNot (wtVal (wCall S_is_number_from (wCons (wName 3) (wCons (wC (.int 0)) wNil)))))
    (wRaiseX 4 ["part"] (wCons (wC (.str "top")) wNil))
    wSkip)
    (wSeq (wSelfC 12 0 "_need" (wName 1))
    (wSeq (wSelfC 12 0 "_gain" (wIf (wtVal (wOp oIs (wName 1) (wC .non))) (wC (.int 0)) (wName 2)))
    (wSelfC 12 0 "_top" (wIf (wtVal (wOp oIs (wName 1) (wC .non))) (wC (.int 0)) (wName 3))))))))
def S_Stretch_init : PSpec := specI 12 3 4 b_Stretch_init
def b_Stretch_barred : WS := (wRet (wMakL 0 12 S_Stretch_init (wCons (wC .non) (wCons (wC (.int 0)) (wCons (wC (.int 0)) wNil)))))
def S_Stretch_barred : PSpec := specOf 1 1 b_Stretch_barred
def b_Stretch_add : WS := (wSeq (wIfS (wtNot (wtVal (wCB (bIsiC [12]) (wCons (wName 1) (wCons (wC (.cls 12)) wNil)))))
    wNever
    wSkip)
    (wSeq (wIfS (wtOr (wtVal (wOp oIs (wFld 12 "_need" (wName 0)) (wC .non))) (wtOr (wtVal (wOp oIs (wFld 12 "_need" (wName 1)) (wC .non))) (wtVal (wOp oLt (wFld 12 "_top" (wName 0)) (wFld 12 "_need" (wName 1))))))
    (wRet (wCMeth 12 S_Stretch_barred (wC (.cls 12)) wNil))
    wSkip)
    (wSeq (wSet 2 (wCB bMax2 (wCons (wFld 12 "_need" (wName 0)) (wCons (wOp oSub (wFld 12 "_need" (wName 1)) (wFld 12 "_gain" (wName 0))) wNil))))
    (wSeq (wSet 3 (wCB bMin2 (wCons (wOp oAdd (wFld 12 "_top" (wName 0)) (wFld 12 "_gain" (wName 1))) (wCons (wFld 12 "_top" (wName 1)) wNil))))
    (wRet (wCall S_Stretch_init (wCons (wName 2) (wCons (wOp oAdd (wFld 12 "_gain" (wName 0)) (wFld 12 "_gain" (wName 1))) (wCons (wName 3) wNil)))))))))
def S_Stretch_add : PSpec := specOf 2 4 b_Stretch_add
def b_joined : WS := (wSeq (wSet 1 (wOp oIx (wName 0) (wC (.int 0))))
    (wSeq (wFor (wIter (wSlice (wName 0) (wPart (wC (.int 1))) wNoPart)) (.nm 2)
    (wSet 1 (wOpC 12 S_Stretch_add (wName 1) (wName 2))))
    (wRet (wName 1))))
def S_joined : PSpec := specOf 1 3 b_joined
def b_leg : WS := (wSeq (wIfS (wtVal (wOp oGt (wName 2) (wName 0)))
    (wRet (wCMeth 12 S_Stretch_barred (wC (.cls 12)) wNil))
    wSkip)
    (wRet (wCall S_Stretch_init (wCons (wCB bMax2 (wCons (wC (.int 0)) (wCons (wOp oSub (wName 2) (wName 1)) wNil))) (wCons (wOp oSub (wName 1) (wName 2)) (wCons (wOp oSub (wName 0) (wName 2)) wNil))))))
def S_leg : PSpec := specOf 3 3 b_leg
def b_Way_posts_from : WS := (wRet (wOp oAdd (wSlice (wFld 13 "_posts" (wName 0)) (wPart (wName 1)) wNoPart) (wSlice (wFld 13 "_posts" (wName 0)) wNoPart (wPart (wName 1)))))
def S_Way_posts_from : PSpec := specOf 2 2 b_Way_posts_from
def b_Stretch_mul : WS := (wSeq (wExpr (wCall S_check_number_within (wCons (wName 1) (wCons (wC (.int 1)) (wCons (wC (.int 1000000000000000000)) wNil)))))
    (wRet (wCall S_repeated (wCons (wName 0) (wCons (wName 1) wNil)))))
def S_Stretch_mul : PSpec := specOf 2 2 b_Stretch_mul
def b_Way_stretch : WS := (wSeq (wExpr (wCall S_check_post (wCons (wName 1) (wCons (wCB bLen (wCons (wFld 13 "_posts" (wName 0)) wNil)) wNil))))
    (wSeq (wExpr (wCall S_check_number_within (wCons (wName 2) (wCons (wC (.int 1)) (wCons (wC (.int 1000000000000000000)) wNil)))))
    (wSeq (wSet 3 (wLc (wIter (wMeth 13 "_posts_from" S_Way_posts_from (wName 0) (wCons (wName 1) wNil))) (.tp [6, 7]) wYes (wCall S_leg (wCons (wFld 13 "_capacity" (wName 0)) (wCons (wName 6) (wCons (wName 7) wNil)))) [6, 7]))
    (wSeq (wUnp (.tp [4, 5]) (wCB bDivmod (wCons (wName 2) (wCons (wCB bLen (wCons (wName 3) wNil)) wNil))))
    (wSeq (wIfS (wtVal (wOp oEq (wName 4) (wC (.int 0))))
    (wRet (wCall S_joined (wCons (wSlice (wName 3) wNoPart (wPart (wName 5))) wNil)))
    wSkip)
    (wRet (wCall S_joined (wCons (wOp oAdd (wLst (wCons (wOpF 12 S_Stretch_mul (wCall S_joined (wCons (wName 3) wNil)) (wName 4)) wNil)) (wSlice (wName 3) wNoPart (wPart (wName 5)))) wNil))))))))
def S_Way_stretch : PSpec := specOf 3 8 b_Way_stretch
def b_Stretch_need : WS := (wRet (wFld 12 "_need" (wName 0)))
def S_Stretch_need : PSpec := specOf 1 1 b_Stretch_need
def b_Way_surplus : WS := (wRet (wCB bSum (wCons (wLc (wIter (wFld 13 "_posts" (wName 0))) (.tp [1, 2]) wYes (wOp oSub (wName 1) (wName 2)) [1, 2]) wNil)))
def S_Way_surplus : PSpec := specOf 1 3 b_Way_surplus
def b_least_oil : WS := (wSeq (wSet 2 (wMeth 13 "stretch" S_Way_stretch (wName 0) (wCons (wName 1) (wCons (wOp oMul (wC (.int 2)) (wLenO 13 S_Way_len (wName 0))) wNil))))
    (wRet (wIf (wtVal (wOp oLt (wProp 13 S_Way_surplus (wName 0)) (wC (.int 0)))) (wC .non) (wProp 12 S_Stretch_need (wName 2)))))
def S_least_oil : PSpec := specOf 2 3 b_least_oil
def b_is_endless : WS := (wSeq (wExpr (wCall S_check_start (wCons (wName 0) (wCons (wName 1) (wCons (wName 2) wNil)))))
    (wSeq (wSet 3 (wCall S_least_oil (wCons (wName 0) (wCons (wName 1) wNil))))
    (wRet (wAnd (wOp oIsNot (wName 3) (wC .non)) (wOp oGe (wName 2) (wName 3))))))
def S_is_endless : PSpec := specOf 3 4 b_is_endless
def b_lacks : WS := (wSeq (wSet 3 (wOp oAdd (wSlice (wName 0) (wPart (wName 1)) wNoPart) (wSlice (wName 0) wNoPart (wPart (wName 1)))))
    (wSeq (wSet 4 (wOp oIx (wOp oIx (wName 3) (wC (.int 0))) (wC (.int 0))))
    (wSeq (wSetO 5 (wLst wNil))
    (wSeq (wFor (wRange1 (wName 2)) (.nm 6)
    (wSeq (wUnp (.tp [7, 8]) (wOp oIx (wName 3) (wOp oMod (wCB bInt (wCons (wName 6) wNil)) (wCB bLen (wCons (wName 3) wNil)))))
    (wSeq (wSet 4 (wOp oAdd (wOp oSub (wName 4) (wName 7)) (wName 8)))
    (wApp 5 (wName 4)))))
    (wFrz 5 (wRet (wName 5)))))))
def S_lacks : PSpec := specOf 3 9 b_lacks
def b_Way_posts : WS := (wRet (wFld 13 "_posts" (wName 0)))
def S_Way_posts : PSpec := specOf 1 1 b_Way_posts
def b_judge_stretch : WS := (wSeq (wExpr (wCall S_check_post (wCons (wName 1) (wCons (wLenO 13 S_Way_len (wName 0)) wNil))))
    (wSeq (wExpr (wCall S_check_number_within (wCons (wName 2) (wCons (wC (.int 1)) (wCons (wC (.int 12)) wNil)))))
    (wRet (wCB bMax (wCons (wCall S_lacks (wCons (wProp 13 S_Way_posts (wName 0)) (wCons (wName 1) (wCons (wName 2) wNil)))) wNil)))))
def S_judge_stretch : PSpec := specOf 3 3 b_judge_stretch
def b_worst : WS := (wSeq (wSet 1 (wCB bLen (wCons (wName 0) wNil)))
    (wSeq (wSet 3 (wLc (wRange1 (wName 1)) (.nm 2) wYes (wCall S_lacks (wCons (wName 0) (wCons (wName 2) (wCons (wName 1) wNil)))) [2]))
    (wSeq (wSet 4 (wTup (wCons (wC (.int 0)) (wCons (wC (.int 1)) (wCons (wOp oIx (wOp oIx (wName 3) (wC (.int 0))) (wC (.int 0))) wNil)))))
    (wSeq (wFor (wRange2 (wC (.int 1)) (wOp oAdd (wName 1) (wC (.int 1)))) (.nm 5)
    (wFor (wRange1 (wName 1)) (.nm 2)
    (wIfS (wtVal (wOp oGt (wOp oIx (wOp oIx (wName 3) (wName 2)) (wOp oSub (wName 5) (wC (.int 1)))) (wOp oIx (wName 4) (wC (.int 2)))))
    (wSet 4 (wTup (wCons (wName 2) (wCons (wName 5) (wCons (wOp oIx (wOp oIx (wName 3) (wName 2)) (wOp oSub (wName 5) (wC (.int 1)))) wNil)))))
    wSkip)))
    (wRet (wName 4))))))
def S_worst : PSpec := specOf 1 6 b_worst
def b_greatest_lack : WS := (wRet (wOp oIx (wCall S_worst (wCons (wName 0) wNil)) (wC (.int 2))))
def S_greatest_lack : PSpec := specOf 1 1 b_greatest_lack
def b_least_capacity : WS := (wSeq (wIfS (wtVal (wOp oLt (wProp 13 S_Way_surplus (wName 0)) (wC (.int 0))))
    (wRet (wC .non))
    wSkip)
    (wRet (wCall S_greatest_lack (wCons (wProp 13 S_Way_posts (wName 0)) wNil))))
def S_least_capacity : PSpec := specOf 1 1 b_least_capacity
def b_check_number_from : WS := (wIfS (wtNot (wtVal (wCall S_is_number_from (wCons (wName 0) (wCons (wName 1) wNil)))))
    (wRaise 3)
    wSkip)
def S_check_number_from : PSpec := specOf 2 2 b_check_number_from
def b_Stretch_call : WS := (wSeq (wExpr (wCall S_check_number_from (wCons (wName 1) (wCons (wC (.int 0)) wNil))))
    (wSeq (wIfS (wtOr (wtVal (wOp oIs (wFld 12 "_need" (wName 0)) (wC .non))) (wtVal (wOp oLt (wName 1) (wFld 12 "_need" (wName 0)))))
    (wRet (wC .non))
    wSkip)
    (wRet (wCB bMin2 (wCons (wFld 12 "_top" (wName 0)) (wCons (wOp oAdd (wName 1) (wFld 12 "_gain" (wName 0))) wNil))))))
def S_Stretch_call : PSpec := specOf 2 2 b_Stretch_call
def b_oil_after : WS := (wSeq (wExpr (wCall S_check_start (wCons (wName 0) (wCons (wName 1) (wCons (wName 2) wNil)))))
    (wSeq (wExpr (wCall S_check_number_within (wCons (wName 3) (wCons (wC (.int 0)) (wCons (wC (.int 1000000000000000000)) wNil)))))
    (wSeq (wIfS (wtVal (wOp oEq (wName 3) (wC (.int 0))))
    (wRet (wName 2))
    wSkip)
    (wSeq (wSet 4 (wMeth 13 "stretch" S_Way_stretch (wName 0) (wCons (wName 1) (wCons (wName 3) wNil))))
    (wRet (wClo 12 S_Stretch_call (wName 4) (wCons (wName 2) wNil)))))))
def S_oil_after : PSpec := specOf 4 5 b_oil_after
def b_Way_with_capacity : WS := (wRet (wCall S_Way_init (wCons (wName 1) (wStar (wFld 13 "_posts" (wName 0)) wNil))))
def S_Way_with_capacity : PSpec := specOf 2 2 b_Way_with_capacity
def b_Way_getitem : WS := (wSeq (wExpr (wCall S_check_post (wCons (wName 1) (wCons (wCB bLen (wCons (wFld 13 "_posts" (wName 0)) wNil)) wNil))))
    (wRet (wOp oIx (wFld 13 "_posts" (wName 0)) (wName 1))))
def S_Way_getitem : PSpec := specOf 2 2 b_Way_getitem
def b_taken : WS := (wRet (wCB bMin2 (wCons (wProp 13 S_Way_capacity (wName 0)) (wCons (wOp oAdd (wName 2) (wOp oIx (wGet 13 S_Way_getitem (wName 0) (wName 1)) (wC (.int 0)))) wNil))))
def S_taken : PSpec := specOf 3 3 b_taken
def b_goes_out : WS := (wSeq (wIfS (wtVal (wCall S_is_endless (wCons (wName 0) (wCons (wName 1) (wCons (wName 2) wNil)))))
    (wRet (wC .non))
    wSkip)
    (wSeq (wSet 3 (wC (.int 0)))
    (wSeq (wSet 4 (wOp oMul (wOp oAdd (wProp 13 S_Way_capacity (wName 0)) (wC (.int 1))) (wLenO 13 S_Way_len (wName 0))))
    (wSeq (wWhile (wtVal (wOp oGt (wOp oSub (wName 4) (wName 3)) (wC (.int 1))))
    (wSeq (wSet 5 (wOp oDiv (wOp oAdd (wName 3) (wName 4)) (wC (.int 2))))
    (wIfS (wtVal (wOp oIs (wCall S_oil_after (wCons (wName 0) (wCons (wName 1) (wCons (wName 2) (wCons (wName 5) wNil))))) (wC .non)))
    (wSet 4 (wName 5))
    (wSet 3 (wName 5)))))
    (wSeq (wSet 6 (wOp oMod (wCB bInt (wCons (wOp oAdd (wName 1) (wName 3)) wNil)) (wLenO 13 S_Way_len (wName 0))))
    (wRet (wTup (wCons (wName 3) (wCons (wCall S_taken (wCons (wName 0) (wCons (wName 6) (wCons (wCall S_oil_after (wCons (wName 0) (wCons (wName 1) (wCons (wName 2) (wCons (wName 3) wNil))))) wNil)))) wNil)))))))))
def S_goes_out : PSpec := specOf 3 7 b_goes_out
def b_good_posts : WS := (wRet (wLc (wRange1 (wLenO 13 S_Way_len (wName 0))) (.nm 1) (wtVal (wOp oEq (wCall S_least_oil (wCons (wName 0) (wCons (wName 1) wNil))) (wC (.int 0)))) (wName 1) [1]))
def S_good_posts : PSpec := specOf 1 2 b_good_posts
def b_Stretch_eq : WS := (wRet (wAnd (wCB (bIsiC [12]) (wCons (wName 1) (wCons (wC (.cls 12)) wNil))) (wAnd (wOp oEq (wFld 12 "_need" (wName 0)) (wFld 12 "_need" (wName 1))) (wAnd (wOp oEq (wFld 12 "_gain" (wName 0)) (wFld 12 "_gain" (wName 1))) (wOp oEq (wFld 12 "_top" (wName 0)) (wFld 12 "_top" (wName 1)))))))
def S_Stretch_eq : PSpec := specOf 2 2 b_Stretch_eq
def b_Stretch_gain : WS := (wRet (wFld 12 "_gain" (wName 0)))
def S_Stretch_gain : PSpec := specOf 1 1 b_Stretch_gain
def b_Stretch_top : WS := (wRet (wFld 12 "_top" (wName 0)))
def S_Stretch_top : PSpec := specOf 1 1 b_Stretch_top
def b_Stretch_bool : WS := (wRet (wOp oIsNot (wFld 12 "_need" (wName 0)) (wC .non)))
def S_Stretch_bool : PSpec := specOf 1 1 b_Stretch_bool
def b_settled : WS := (wSeq (wIfS (wtNot (wtVal (wCall S_is_endless (wCons (wName 0) (wCons (wName 1) (wCons (wName 2) wNil))))))
    (wRet (wC .non))
    wSkip)
    (wSeq (wSet 3 (wMeth 13 "stretch" S_Way_stretch (wName 0) (wCons (wName 1) (wCons (wLenO 13 S_Way_len (wName 0)) wNil))))
    (wSeq (wIfS (wtVal (wOp oGt (wName 2) (wProp 12 S_Stretch_top (wName 3))))
    (wRet (wTup (wCons (wC (.int 1)) (wCons (wProp 12 S_Stretch_top (wName 3)) wNil))))
    wSkip)
    (wSeq (wIfS (wtVal (wOp oEq (wProp 12 S_Stretch_gain (wName 3)) (wC (.int 0))))
    (wRet (wTup (wCons (wC (.int 0)) (wCons (wName 2) wNil))))
    wSkip)
    (wSeq (wSet 4 (wOp oDiv (wOp oSub (wOp oAdd (wOp oSub (wProp 12 S_Stretch_top (wName 3)) (wName 2)) (wProp 12 S_Stretch_gain (wName 3))) (wC (.int 1))) (wProp 12 S_Stretch_gain (wName 3))))
    (wRet (wTup (wCons (wName 4) (wCons (wProp 12 S_Stretch_top (wName 3)) wNil)))))))))
def S_settled : PSpec := specOf 3 5 b_settled
def b_worst_stretch : WS := (wRet (wCall S_worst (wCons (wProp 13 S_Way_posts (wName 0)) wNil)))
def S_worst_stretch : PSpec := specOf 1 1 b_worst_stretch
def b_with_one_more : WS := (wSeq (wUnp (.tp [2, 3]) (wOp oIx (wName 0) (wName 1)))
    (wRet (wOp oAdd (wOp oAdd (wSlice (wName 0) wNoPart (wPart (wName 1))) (wTup (wCons (wTup (wCons (wOp oAdd (wName 2) (wC (.int 1))) (wCons (wName 3) wNil))) wNil))) (wSlice (wName 0) (wPart (wOp oAdd (wName 1) (wC (.int 1)))) wNoPart))))
def S_with_one_more : PSpec := specOf 2 4 b_with_one_more
def b_helpful_posts : WS := (wSeq (wIfS (wtVal (wOp oLt (wProp 13 S_Way_surplus (wName 0)) (wC (.int 0))))
    (wRet (wLst wNil))
    wSkip)
    (wSeq (wSet 1 (wProp 13 S_Way_posts (wName 0)))
    (wSeq (wSet 2 (wCall S_greatest_lack (wCons (wName 1) wNil)))
    (wRet (wLc (wRange1 (wCB bLen (wCons (wName 1) wNil))) (.nm 3) (wtVal (wOp oLt (wCall S_greatest_lack (wCons (wCall S_with_one_more (wCons (wName 1) (wCons (wName 3) wNil))) wNil)) (wName 2))) (wName 3) [3])))))
def S_helpful_posts : PSpec := specOf 1 4 b_helpful_posts
def b_Way_eq : WS := (wRet (wAnd (wCB (bIsiC [13]) (wCons (wName 1) (wCons (wC (.cls 13)) wNil))) (wAnd (wOp oEq (wFld 13 "_capacity" (wName 0)) (wFld 13 "_capacity" (wName 1))) (wOp oEq (wFld 13 "_posts" (wName 0)) (wFld 13 "_posts" (wName 1))))))
def S_Way_eq : PSpec := specOf 2 2 b_Way_eq
def b_Way_invert : WS := (wSeq (wSet 1 (wBack (wFld 13 "_posts" (wName 0))))
    (wSeq (wSet 2 (wOp oAdd (wSlice (wName 1) (wPart (wNeg (wC (.int 1)))) wNoPart) (wSlice (wName 1) wNoPart (wPart (wNeg (wC (.int 1)))))))
    (wSeq (wSet 3 (wLc (wZip (wName 2) (wName 1)) (.tp [4, 5]) wYes (wTup (wCons (wOp oIx (wName 4) (wC (.int 0))) (wCons (wOp oIx (wName 5) (wC (.int 1))) wNil))) [4, 5]))
    (wRet (wCall S_Way_init (wCons (wFld 13 "_capacity" (wName 0)) (wStar (wName 3) wNil)))))))
def S_Way_invert : PSpec := specOf 1 6 b_Way_invert
def b_Way_rshift : WS := (wSeq (wExpr (wCall S_check_number_within (wCons (wName 1) (wCons (wC (.int 0)) (wCons (wOp oSub (wCB bLen (wCons (wFld 13 "_posts" (wName 0)) wNil)) (wC (.int 1))) wNil)))))
    (wSeq (wSet 2 (wMeth 13 "_posts_from" S_Way_posts_from (wName 0) (wCons (wName 1) wNil)))
    (wRet (wCall S_Way_init (wCons (wFld 13 "_capacity" (wName 0)) (wStar (wName 2) wNil))))))
def S_Way_rshift : PSpec := specOf 2 3 b_Way_rshift
def b_law_made : WS := (wSeq (wSet 2 (wCMeth 13 S_Way_even (wC (.cls 13)) (wCons (wName 0) (wCons (wCB bLen (wCons (wName 1) wNil)) (wCons (wC (.int 0)) (wCons (wC (.int 1)) wNil))))))
    (wSeq (wFor (wRange1 (wCB bLen (wCons (wName 1) wNil))) (.nm 3)
    (wSet 2 (wMeth 13 "with_post" S_Way_with_post (wName 2) (wCons (wName 3) (wCons (wOp oIx (wOp oIx (wName 1) (wName 3)) (wC (.int 0))) (wCons (wOp oIx (wOp oIx (wName 1) (wName 3)) (wC (.int 1))) wNil))))))
    (wRet (wName 2))))
def S_law_made : PSpec := specOf 2 4 b_law_made
def b_law_leg : WS := (wSeq (wUnp (.tp [3, 4]) (wName 1))
    (wSeq (wSet 5 (wCB bMin2 (wCons (wName 0) (wCons (wOp oAdd (wName 2) (wName 3)) wNil))))
    (wRet (wIf (wtVal (wOp oGe (wName 5) (wName 4))) (wOp oSub (wName 5) (wName 4)) (wOp oSub (wOp oSub (wC (.int 0)) (wC (.int 1))) (wName 5))))))
def S_law_leg : PSpec := specOf 3 6 b_law_leg
def b_law_walk : WS := (wSeq (wSetO 5 (wLst (wCons (wName 3) wNil)))
    (wSeq (wFor (wRange1 (wName 4)) (.nm 6)
    (wIfS (wtVal (wOp oGe (wOp oIx (wOwn 5) (wNeg (wC (.int 1)))) (wC (.int 0))))
    (wApp 5 (wCall S_law_leg (wCons (wName 0) (wCons (wOp oIx (wName 1) (wOp oMod (wCB bInt (wCons (wOp oAdd (wName 2) (wName 6)) wNil)) (wCB bLen (wCons (wName 1) wNil)))) (wCons (wOp oIx (wOwn 5) (wNeg (wC (.int 1)))) wNil)))))
    wSkip))
    (wFrz 5 (wRet (wName 5)))))
def S_law_walk : PSpec := specOf 5 7 b_law_walk
def b_law_pick : WS := (wRet (wOp oIx (wName 1) (wCall S_next (wCons (wName 0) (wCons (wCB bLen (wCons (wName 1) wNil)) wNil)))))
def S_law_pick : PSpec := specOf 2 2 b_law_pick
def b_law_rows : WS := (wSeq (wSetO 1 (wLc (wRange1 (wOp oAdd (wC (.int 1)) (wCall S_next (wCons (wName 0) (wCons (wC (.int 5)) wNil))))) (.nm 3) wYes (wTup (wCons (wCall S_next (wCons (wName 0) (wCons (wC (.int 6)) wNil))) (wCons (wOp oAdd (wC (.int 1)) (wCall S_next (wCons (wName 0) (wCons (wCall S_law_pick (wCons (wName 0) (wCons (wLst (wCons (wC (.int 3)) (wCons (wC (.int 5)) wNil))) wNil))) wNil)))) wNil))) [3]))
    (wSeq (wIfS (wtVal (wOp oEq (wCall S_next (wCons (wName 0) (wCons (wC (.int 2)) wNil))) (wC (.int 0))))
    (wSeq (wSet 2 (wCB bSum (wCons (wLc (wIter (wOwn 1)) (.tp [4, 5]) wYes (wOp oSub (wName 5) (wName 4)) [4, 5]) wNil)))
    (wPutI 1 (wC (.int 0)) (wTup (wCons (wOp oAdd (wOp oIx (wOp oIx (wOwn 1) (wC (.int 0))) (wC (.int 0))) (wCB bMax2 (wCons (wC (.int 0)) (wCons (wName 2) wNil)))) (wCons (wOp oIx (wOp oIx (wOwn 1) (wC (.int 0))) (wC (.int 1))) wNil)))))
    wSkip)
    (wRet (wTup (wCons (wOp oAdd (wC (.int 2)) (wCall S_next (wCons (wName 0) (wCons (wC (.int 9)) wNil)))) (wCons (wCB bTuple (wCons (wOwn 1) wNil)) wNil))))))
def S_law_rows : PSpec := specOf 1 6 b_law_rows
def b_repeated (S : PSpec) : WS := (wSeq (wIfS (wtVal (wOp oEq (wName 1) (wC (.int 1))))
    (wRet (wName 0))
    wSkip)
    (wSeq (wSet 2 (wCall S (wCons (wName 0) (wCons (wOp oDiv (wName 1) (wC (.int 2))) wNil))))
    (wSeq (wSet 3 (wOpC 12 S_Stretch_add (wName 2) (wName 2)))
    (wRet (wIf (wtTru (wOp oOdd (wName 1) (wC (.int 1)))) (wOpC 12 S_Stretch_add (wName 3) (wName 0)) (wName 3))))))

end Oil
/-! Wishes answered, one construct a lemma. -/
namespace Oil
open PySem PySem.Spec PyProof.Rows L2
/-! ### what follows a part -/
def kAnd (A : Prop) (Q : QD) : QD
  | .bl true => A
  | .bl false => Q (.bl false)
  | _ => False
def kOr (A : Prop) (Q : QD) : QD
  | .bl true => Q (.bl true)
  | .bl false => A
  | _ => False
def kNot (Q : QD) : QD
  | .bl b => Q (.bl !b)
  | _ => False
def kVal (Q : Bool → Prop) : QD
  | .bl b => Q b
  | _ => False
def kNeg (Q : QD) : QD
  | .int i => Q (.int (-i))
  | _ => False
def kPart (Q : Option Int → Prop) : QD
  | .int i => Q (some i)
  | _ => False
def kRg1 (Q : List D → Prop) : QD
  | .int n => (-(2 ^ 62) ≤ n ∧ n < 2 ^ 62) ∧ Q (intD 0 n.toNat)
  | _ => False
def kRg2 (Q : List D → Prop) (x : D) : QD := fun y => match x, y with
  | .int m, .int n => (-(2 ^ 62) ≤ m ∧ m < 2 ^ 62 ∧ -(2 ^ 62) ≤ n ∧ n < 2 ^ 62) ∧ Q (intD m (n - m).toNat)
  | _, _ => False
def kIter (Q : List D → Prop) : QD := fun x => match x.items with
  | some xs => Q xs
  | none => False
def kTru (Q : Bool → Prop) : QD := fun x => match x.tru with
  | some b => Q b
  | none => False
def kStar (r : WA) (env : Ev) (Q : List D → Prop) (E : QR) : QD := fun x => match x.items with
  | some ys => r env (fun xs => Q (ys ++ xs)) E
  | none => False
def kSlice (l h : Option Int) (Q : QD) : QD
  | .lst xs => Q (.lst (cutD xs l h))
  | .tup xs => Q (.tup (cutD xs l h))
  | _ => False
def kFld (c : Nat) (f : Str) (Q : QD) : QD
  | .ins c' ns xs => c' = c ∧ ∃ d, (ns.zip xs).lookup f = some d ∧ Q d
  | _ => False
def kMeth (c : Nat) (m : Str) (s : PSpec) (t : WA) (env : Ev) (Q : QD) (E : QR) : QD
  | .ins c' ns xs => c' = c ∧ m ∉ ns ∧ t env (fun ds => s (.ins c' ns xs :: ds) Q E) E
  | _ => False
def kClo (c : Nat) (s : PSpec) (t : WA) (env : Ev) (Q : QD) (E : QR) : QD
  | .ins c' ns xs => c' = c ∧ t env (fun ds => s (.ins c' ns xs :: ds) Q E) E
  | _ => False
def kProp (c : Nat) (s : PSpec) (Q : QD) : QD
  | .ins c' ns xs => c' = c ∧ s [.ins c' ns xs] Q (fun _ => False)
  | _ => False
def kInv (c : Nat) (s : PSpec) (Q : QD) (E : QR) : QD
  | .ins c' ns xs => c' = c ∧ s [.ins c' ns xs] Q E
  | _ => False
def kLenI (Q : QD) : QD
  | .int n => (0 ≤ n ∧ n < 2 ^ 62) ∧ Q (.int n)
  | _ => False
def kLenO (c : Nat) (s : PSpec) (Q : QD) (E : QR) : QD
  | .ins c' ns xs => c' = c ∧ s [.ins c' ns xs] (kLenI Q) E
  | _ => False
def kGet (c : Nat) (s : PSpec) (y : D) (Q : QD) (E : QR) : QD
  | .ins c' ns xs => c' = c ∧ s [.ins c' ns xs, y] Q E
  | _ => False
def kCMeth (c : Nat) (s : PSpec) (t : WA) (env : Ev) (Q : QD) (E : QR) (x : D) : Prop := match x with
  | .cls c' => c' = c ∧ t env (fun ds => s (x :: ds) Q E) E
  | _ => False
def kOpC (c : Nat) (s : PSpec) (Q : QD) (E : QR) (x y : D) : Prop := match x, y with
  | .ins c1 _ _, .ins c2 _ _ => (c1 = c ∧ c2 = c) ∧ s [x, y] Q E
  | _, _ => False
def kOpF (c : Nat) (s : PSpec) (Q : QD) (E : QR) (x y : D) : Prop := match x with
  | .ins c1 _ _ => c1 = c ∧ y.flat = true ∧ s [x, y] Q E
  | _ => False
def kEqO (c : Nat) (s : PSpec) (Q : QD) (E : QR) (x y : D) : Prop := match x with
  | .ins c1 _ _ => c1 = c ∧ (match y with
    | .ins c2 _ _ => c2 = c
    | y => y.kind.isSome = true) ∧ s [x, y] Q E
  | _ => False
def kOwn (i : Nat) (env : Ev) (n : Ev → Prop) : QD
  | .lst xs => n (env.set i (.own xs))
  | _ => False
def kpOwn (i : Nat) (r : WP) (env envL : Ev) (K : Ev → Prop) (E : QR) : QD
  | .lst xs => r env (envL.set i (.own xs)) K E
  | _ => False
def kPut (xs : List D) (i : Nat) (d : D) (env : Ev) (n : Ev → Prop) : QD
  | .int z => ∃ k, ixD xs.length z = some k ∧ n (env.set i (.own (xs.set k d)))
  | _ => False
def kChain (h : O2) (c : WE) (env : Ev) (y : D) (Q : QD) (E : QR) : QD
  | .bl true => c env (fun u => h y u Q) E
  | .bl false => Q (.bl false)
  | _ => False
def kZip (Q : List D → Prop) (x y : D) : Prop := match x, y with
  | .lst xs, .lst ys => Q ((xs.zip ys).map fun p => .tup [p.1, p.2])
  | .tup xs, .tup ys => Q ((xs.zip ys).map fun p => .tup [p.1, p.2])
  | _, _ => False
def kEnum (Q : List D → Prop) : QD
  | .tup xs => Q (xs.zipIdx.map fun p => .tup [.int (p.2 : Nat), p.1])
  | _ => False
def kBool (Q : Bool → Prop) : QD
  | .bl b => Q b
  | _ => False
section
variable {env env' : Ev} {Q : QD} {QB : Bool → Prop} {QL : List D → Prop} {QO : Option Int → Prop} {E : QR} {n bk ct : Ev → Prop} {rt : D → Ev → Prop} {er : Er → Ev → Prop} {a b c : WE} {t u : WT} {s s' : WS} {l l2 : WA} {lo hi : WO} {wi : WI} {g g2 : O2} {P : PSpec} {i j k : Nat} {d x y : D} {xs ys ds : List D} {f m : Str} {cn : Nat} {ns : List Str} {p q : Int} {bb : Bool} {vs : List Nat} {gt : Tgt}
theorem p_seq (h : s env ⟨fun e => s' e ⟨n, rt, bk, ct, er⟩, rt, bk, ct, er⟩) : wSeq s s' env ⟨n, rt, bk, ct, er⟩ := h
theorem p_skip (h : n env) : wSkip env ⟨n, rt, bk, ct, er⟩ := h
theorem p_set (h : a env (fun d => n (env.set i (.val d))) (fun x => er x env)) : wSet i a env ⟨n, rt, bk, ct, er⟩ := h
theorem p_setO (h : a env (kOwn i env n) (fun x => er x env)) : wSetO i a env ⟨n, rt, bk, ct, er⟩ := h
theorem p_kown (h : n (env.set i (.own xs))) : kOwn i env n (.lst xs) := h
theorem p_unp (h : a env (fun d => gt.put env d n) (fun x => er x env)) : wUnp gt a env ⟨n, rt, bk, ct, er⟩ := h
theorem p_put {is : List Nat} (hl : ds.length = is.length) (h : n (setMany env is ds)) : (Tgt.tp is).put env (.tup ds) n := ⟨hl, h⟩
theorem p_put1 (h : n (env.set i (.val d))) : (Tgt.nm i).put env d n := h
theorem p_par {r : WP} (h : r env env n (fun x => er x env)) : wParN r env ⟨n, rt, bk, ct, er⟩ := h
theorem p_pnil {envL : Ev} {R : Ev → Prop} (h : R envL) : wpNil env envL R E := h
theorem p_pval {envL : Ev} {R : Ev → Prop} {r : WP} (h : a env (fun d => r env (envL.set i (.val d)) R E) E) : wpVal i a r env envL R E := h
theorem p_pown {envL : Ev} {R : Ev → Prop} {r : WP} (h : a env (kpOwn i r env envL R E) E) : wpOwn i a r env envL R E := h
theorem p_kpown {envL : Ev} {R : Ev → Prop} {r : WP} (h : r env (envL.set i (.own xs)) R E) : kpOwn i r env envL R E (.lst xs) := h
theorem p_expr (h : a env (fun _ => n env) (fun x => er x env)) : wExpr a env ⟨n, rt, bk, ct, er⟩ := h
theorem p_ret (h : a env (fun d => rt d env) (fun x => er x env)) : wRet a env ⟨n, rt, bk, ct, er⟩ := h
theorem p_retN (h : rt .non env) : wRetN env ⟨n, rt, bk, ct, er⟩ := h
theorem p_ifS (h : t env (fun c => if c = true then s env ⟨n, rt, bk, ct, er⟩ else s' env ⟨n, rt, bk, ct, er⟩) (fun x => er x env)) : wIfS t s s' env ⟨n, rt, bk, ct, er⟩ := h
theorem p_app (e : env[i]? = some (.own xs)) (h : a env (fun d => xs.length < LIM ∧ n (env.set i (.own (xs ++ [d])))) (fun x => er x env)) : wApp i a env ⟨n, rt, bk, ct, er⟩ := by
  unfold wApp
  rw [e]
  exact h
theorem p_putI (e : env[i]? = some (.own xs)) (h : b env (fun d => a env (kPut xs i d env n) (fun x => er x env)) (fun x => er x env)) : wPutI i a b env ⟨n, rt, bk, ct, er⟩ := by
  unfold wPutI
  rw [e]
  exact h
theorem p_kput (e : ixD xs.length p = some k) (h : n (env.set i (.own (xs.set k d)))) : kPut xs i d env n (.int p) := ⟨k, e, h⟩
theorem p_frz (e : env[i]? = some (.own xs)) (h : s (env.set i (.val (.lst xs))) ⟨n, rt, bk, ct, er⟩) : wFrz i s env ⟨n, rt, bk, ct, er⟩ := by
  unfold wFrz
  rw [e]
  exact h
theorem p_frzV (e : env[i]? = some (.val d)) (h : s env ⟨n, rt, bk, ct, er⟩) : wFrz i s env ⟨n, rt, bk, ct, er⟩ := by
  unfold wFrz
  rw [e]
  exact h
theorem p_for (h : wi env (fun xs => wForGo gt s ⟨n, rt, bk, ct, er⟩ xs env) (fun x => er x env)) : wFor wi gt s env ⟨n, rt, bk, ct, er⟩ := h
theorem p_raise (h : er ⟨cn, [], []⟩ env) : wRaise cn env ⟨n, rt, bk, ct, er⟩ := h
theorem p_self {i c : Nat} {fs : List D} (e : env[i]? = some (.obj c ns fs)) (h1 : f ∉ ns) (h2 : ns.length = fs.length) (h3 : ns.length < 900) (h : a env (fun d => n (env.set i (.obj c (ns ++ [f]) (fs ++ [d])))) (fun x => er x env)) : wSelfC c i f a env ⟨n, rt, bk, ct, er⟩ := by
  refine ⟨⟨ns, fs, e⟩, ?_⟩
  unfold wSelf
  rw [e]
  exact ⟨h1, h2, h3, h⟩
theorem p_name (e : env[i]? = some (.val d)) (h : Q d) : wName i env Q E := by
  unfold wName
  rw [e]
  exact h
theorem p_ownV (e : env[i]? = some (.val d)) (h : Q d) : wOwn i env Q E := by
  unfold wOwn
  rw [e]
  exact h
theorem p_own (e : env[i]? = some (.own xs)) (h : Q (.lst xs)) : wOwn i env Q E := by
  unfold wOwn
  rw [e]
  exact h
theorem p_c (h : Q d) : wC d env Q E := h
theorem p_op (h : a env (fun x => b env (fun y => g x y Q) E) E) : wOp g a b env Q E := h
theorem p_neg (h : a env (kNeg Q) E) : wNeg a env Q E := h
theorem p_kneg (h : Q (.int (-p))) : kNeg Q (.int p) := h
theorem p_chain (h : a env (fun x => b env (fun y => g x y (kChain g2 c env y Q E)) E) E) : wChain g g2 a b c env Q E := h
theorem p_kchain (h1 : bb = true → c env (fun u => g2 y u Q) E) (h2 : bb = false → Q (.bl false)) : kChain g2 c env y Q E (.bl bb) := by
  cases bb with
  | true => exact h1 rfl
  | false => exact h2 rfl
theorem p_and (h : a env (kAnd (b env Q E) Q) E) : wAnd a b env Q E := h
theorem p_kand {A : Prop} (h1 : bb = true → A) (h2 : bb = false → Q (.bl false)) : kAnd A Q (.bl bb) := by
  cases bb with
  | true => exact h1 rfl
  | false => exact h2 rfl
theorem p_or (h : a env (kOr (b env Q E) Q) E) : wOr a b env Q E := h
theorem p_kor {A : Prop} (h1 : bb = true → Q (.bl true)) (h2 : bb = false → A) : kOr A Q (.bl bb) := by
  cases bb with
  | true => exact h1 rfl
  | false => exact h2 rfl
theorem p_not (h : a env (kNot Q) E) : wNot a env Q E := h
theorem p_knot (h : Q (.bl !bb)) : kNot Q (.bl bb) := h
theorem p_if (h : t env (fun c => if c = true then a env Q E else b env Q E) E) : wIf t a b env Q E := h
theorem p_nil (h : QL []) : wNil env QL E := h
theorem p_cons (h : a env (fun x => l env (fun xs => QL (x :: xs)) E) E) : wCons a l env QL E := h
theorem p_star (h : a env (kStar l env QL E) E) : wStar a l env QL E := h
theorem p_kstarT (h : l env (fun xs => QL (ys ++ xs)) E) : kStar l env QL E (.tup ys) := h
theorem p_kstarL (h : l env (fun xs => QL (ys ++ xs)) E) : kStar l env QL E (.lst ys) := h
theorem p_tup (h : l env (fun xs => xs.length ≤ LIM ∧ Q (.tup xs)) E) : wTup l env Q E := h
theorem p_lst (h : l env (fun xs => xs.length ≤ LIM ∧ Q (.lst xs)) E) : wLst l env Q E := h
theorem p_call (h : l env (fun ds => P ds Q E) E) : wCall P l env Q E := h
theorem p_cb {r : CB} (h : l env (fun ds => r ds Q) E) : wCB r l env Q E := h
theorem p_val (h : a env (kVal QB) E) : wtVal a env QB E := h
theorem p_kval (h : QB bb) : kVal QB (.bl bb) := h
theorem p_ttru (h : a env (kTru QB) E) : wtTru a env QB E := h
theorem p_ktruN (h : QB false) : kTru QB .non := h
theorem p_ktruB (h : QB bb) : kTru QB (.bl bb) := h
theorem p_ktruI (h : QB (p != 0)) : kTru QB (.int p) := h
theorem p_ktruL (h : QB !xs.isEmpty) : kTru QB (.lst xs) := h
theorem p_ktruT (h : QB !xs.isEmpty) : kTru QB (.tup xs) := h
theorem p_tnot (h : t env (fun b => QB !b) E) : wtNot t env QB E := h
theorem p_tand (h : t env (fun b => if b = true then u env QB E else QB false) E) : wtAnd t u env QB E := h
theorem p_tor (h : t env (fun b => if b = true then QB true else u env QB E) E) : wtOr t u env QB E := h
theorem p_nopart (h : QO none) : wNoPart env QO E := h
theorem p_part (h : a env (kPart QO) E) : wPart a env QO E := h
theorem p_kpart (h : QO (some p)) : kPart QO (.int p) := h
theorem p_slice (h : a env (fun x => lo env (fun l => hi env (fun h => kSlice l h Q x) E) E) E) : wSlice a lo hi env Q E := h
theorem p_ksliceL {l h' : Option Int} (h : Q (.lst (cutD xs l h'))) : kSlice l h' Q (.lst xs) := h
theorem p_ksliceT {l h' : Option Int} (h : Q (.tup (cutD xs l h'))) : kSlice l h' Q (.tup xs) := h
theorem p_fld (h : a env (kFld cn f Q) E) : wFld cn f a env Q E := h
theorem p_kfld {c' : Nat} (e : c' = cn) (e2 : (ns.zip xs).lookup f = some d) (h : Q d) : kFld cn f Q (.ins c' ns xs) := ⟨e, d, e2, h⟩
theorem p_meth (h : a env (kMeth cn m P l env Q E) E) : wMeth cn m P a l env Q E := h
theorem p_kmeth {c' : Nat} (e : c' = cn) (e2 : m ∉ ns) (h : l env (fun ds => P (.ins c' ns xs :: ds) Q E) E) : kMeth cn m P l env Q E (.ins c' ns xs) := ⟨e, e2, h⟩
theorem p_clo (h : a env (kClo cn P l env Q E) E) : wClo cn P a l env Q E := h
theorem p_kclo {c' : Nat} (e : c' = cn) (h : l env (fun ds => P (.ins c' ns xs :: ds) Q E) E) : kClo cn P l env Q E (.ins c' ns xs) := ⟨e, h⟩
theorem p_prop (h : a env (kProp cn P Q) E) : wProp cn P a env Q E := h
theorem p_kprop {c' : Nat} (e : c' = cn) (h : P [.ins c' ns xs] Q (fun _ => False)) : kProp cn P Q (.ins c' ns xs) := ⟨e, h⟩
theorem p_inv (h : a env (kInv cn P Q E) E) : wInv cn P a env Q E := h
theorem p_kinv {c' : Nat} (e : c' = cn) (h : P [.ins c' ns xs] Q E) : kInv cn P Q E (.ins c' ns xs) := ⟨e, h⟩
theorem p_lenO (h : a env (kLenO cn P Q E) E) : wLenO cn P a env Q E := h
theorem p_klenO {c' : Nat} (e : c' = cn) (h : P [.ins c' ns xs] (kLenI Q) E) : kLenO cn P Q E (.ins c' ns xs) := ⟨e, h⟩
theorem p_klenI (h1 : 0 ≤ p ∧ p < 2 ^ 62) (h : Q (.int p)) : kLenI Q (.int p) := ⟨h1, h⟩
theorem p_get (h : a env (fun x => b env (fun y => kGet cn P y Q E x) E) E) : wGet cn P a b env Q E := h
theorem p_kget {c' : Nat} (e : c' = cn) (h : P [.ins c' ns xs, y] Q E) : kGet cn P y Q E (.ins c' ns xs) := ⟨e, h⟩
theorem p_cmeth (h : a env (kCMeth cn P l env Q E) E) : wCMeth cn P a l env Q E := h
theorem p_kcmeth {c' : Nat} (e : c' = cn) (h : l env (fun ds => P (.cls c' :: ds) Q E) E) : kCMeth cn P l env Q E (.cls c') := ⟨e, h⟩
theorem p_makL {c' : Nat} (e : env[i]? = some (.val (.cls c'))) (e2 : c' = cn) (h : l env (fun ds => P ds Q E) E) : wMakL i cn P l env Q E := by
  unfold wMakL
  rw [e]
  exact ⟨e2, h⟩
theorem p_opC (h : a env (fun x => b env (fun y => kOpC cn P Q E x y) E) E) : wOpC cn P a b env Q E := h
theorem p_kopC {c1 c2 : Nat} {ns2 : List Str} (e : c1 = cn) (e2 : c2 = cn) (h : P [.ins c1 ns xs, .ins c2 ns2 ys] Q E) : kOpC cn P Q E (.ins c1 ns xs) (.ins c2 ns2 ys) := ⟨⟨e, e2⟩, h⟩
theorem p_opF (h : a env (fun x => b env (fun y => kOpF cn P Q E x y) E) E) : wOpF cn P a b env Q E := h
theorem p_kopF {c1 : Nat} (e : c1 = cn) (e2 : y.flat = true) (h : P [.ins c1 ns xs, y] Q E) : kOpF cn P Q E (.ins c1 ns xs) y := ⟨e, e2, h⟩
theorem p_eqO (h : a env (fun x => b env (fun y => kEqO cn P Q E x y) E) E) : wEqO cn P a b env Q E := h
theorem p_keqO {c1 c2 : Nat} {ns2 : List Str} (e : c1 = cn) (e2 : c2 = cn) (h : P [.ins c1 ns xs, .ins c2 ns2 ys] Q E) : kEqO cn P Q E (.ins c1 ns xs) (.ins c2 ns2 ys) := ⟨e, e2, h⟩
theorem p_iter (h : a env (kIter QL) E) : wIter a env QL E := h
theorem p_kiterL (h : QL xs) : kIter QL (.lst xs) := h
theorem p_kiterT (h : QL xs) : kIter QL (.tup xs) := h
theorem p_rg1 (h : a env (kRg1 QL) E) : wRange1 a env QL E := h
theorem p_krg1 (h1 : -(2 ^ 62) ≤ p ∧ p < 2 ^ 62) (h : QL (intD 0 p.toNat)) : kRg1 QL (.int p) := ⟨h1, h⟩
theorem p_rg2 (h : a env (fun x => b env (fun y => kRg2 QL x y) E) E) : wRange2 a b env QL E := h
theorem p_krg2 (h1 : -(2 ^ 62) ≤ p ∧ p < 2 ^ 62 ∧ -(2 ^ 62) ≤ q ∧ q < 2 ^ 62) (h : QL (intD p (q - p).toNat)) : kRg2 QL (.int p) (.int q) := ⟨h1, h⟩
theorem p_enum (h : a env (kEnum QL) E) : wEnumT a env QL E := h
theorem p_kenum (h : QL (xs.zipIdx.map fun p => .tup [.int (p.2 : Nat), p.1])) : kEnum QL (.tup xs) := h
theorem p_lc (h : wi env (fun xs => xs.length ≤ LIM ∧ wLcGo gt t a (wipeE env vs) xs [] fun ds => Q (.lst ds)) E) : wLc wi gt t a vs env Q E := h
theorem p_yes (h : QB true) : wYes env QB E := h
theorem p_dec {cc : Prop} [Decidable cc] {A B : Prop} (h1 : cc → A) (h2 : ¬ cc → B) : if decide cc = true then A else B := by
  by_cases h : cc
  · rw [if_pos (decide_eq_true h)]
    exact h1 h
  · rw [if_neg (by rw [decide_eq_false h]; exact Bool.false_ne_true)]
    exact h2 h
theorem p_ndec {cc : Prop} [Decidable cc] {A B : Prop} (h1 : ¬ cc → A) (h2 : cc → B) : if (!decide cc) = true then A else B := by
  by_cases h : cc
  · rw [decide_eq_true h]
    exact h2 h
  · rw [decide_eq_false h]
    exact h1 h
theorem p_tt {A B : Prop} (h : A) : if true = true then A else B := h
theorem p_ff {A B : Prop} (h : B) : if false = true then A else B := h
theorem p_bT {A B : Prop} (e : bb = true) (h : A) : if bb = true then A else B := by rw [e]; exact h
theorem p_bF {A B : Prop} (e : bb = false) (h : B) : if bb = true then A else B := by rw [e]; exact h
/-! operators at given data -/
theorem o_add (h : Q (.int (p + q))) : oAdd (.int p) (.int q) Q := h
theorem o_addL (hl : xs.length + ys.length ≤ LIM) (h : Q (.lst (xs ++ ys))) : oAdd (.lst xs) (.lst ys) Q := ⟨hl, h⟩
theorem o_addT (hl : xs.length + ys.length ≤ LIM) (h : Q (.tup (xs ++ ys))) : oAdd (.tup xs) (.tup ys) Q := ⟨hl, h⟩
theorem o_catL (hl : xs.length + ys.length ≤ LIM) (h : Q (.lst (xs ++ ys))) : oCatL (.lst xs) (.lst ys) Q := ⟨hl, h⟩
theorem o_sub (h : Q (.int (p - q))) : oSub (.int p) (.int q) Q := h
theorem o_mul (hp : Big p) (hq : Big q) (h : Q (.int (p * q))) : oMul (.int p) (.int q) Q := ⟨⟨hp, hq⟩, h⟩
theorem o_mod (hq : q ≠ 0) (h : Q (.int (p.fmod q))) : oMod (.int p) (.int q) Q := ⟨hq, h⟩
theorem o_div (hq : 0 < q) (hb : Big q) (h : Q (.int (p / q))) : oDiv (.int p) (.int q) Q := ⟨⟨hq, hb⟩, h⟩
theorem o_pow (h1 : 0 ≤ q ∧ q ≤ 100 ∧ p.natAbs ≤ 1000) (h : Q (.int (p ^ q.toNat))) : oPow (.int p) (.int q) Q := ⟨h1, h⟩
theorem o_odd (h1 : 0 ≤ p) (h : Q (.int (p % 2))) : oOdd (.int p) (.int 1) Q := ⟨⟨h1, rfl⟩, h⟩
theorem o_lt (h : Q (.bl (decide (p < q)))) : oLt (.int p) (.int q) Q := h
theorem o_le (h : Q (.bl (decide (p ≤ q)))) : oLe (.int p) (.int q) Q := h
theorem o_gt (h : Q (.bl (decide (q < p)))) : oGt (.int p) (.int q) Q := h
theorem o_ge (h : Q (.bl (decide (q ≤ p)))) : oGe (.int p) (.int q) Q := h
theorem o_is (h : Q (.bl x.isNon)) : oIs x .non Q := ⟨rfl, h⟩
theorem o_isNot (h : Q (.bl !x.isNon)) : oIsNot x .non Q := ⟨rfl, h⟩
theorem o_ixL (e : ixD xs.length p = some k) (e2 : xs[k]? = some x) (h : Q x) : oIx (.lst xs) (.int p) Q := ⟨k, x, e, e2, h⟩
theorem o_ixT (e : ixD xs.length p = some k) (e2 : xs[k]? = some x) (h : Q x) : oIx (.tup xs) (.int p) Q := ⟨k, x, e, e2, h⟩
/-! built-ins at given data -/
theorem b_lenL (h : Q (.int xs.length)) : bLen [.lst xs] Q := h
theorem b_lenT (h : Q (.int xs.length)) : bLen [.tup xs] Q := h
theorem b_int (h : Q (.int p)) : bInt [.int p] Q := h
theorem b_tupL (h : Q (.tup xs)) : bTuple [.lst xs] Q := h
theorem b_tupT (h : Q (.tup xs)) : bTuple [.tup xs] Q := h
theorem b_listL (h : Q (.lst xs)) : bList [.lst xs] Q := h
theorem b_listT (h : Q (.lst xs)) : bList [.tup xs] Q := h
theorem b_max2 (h : Q (.int (max p q))) : bMax2 [.int p, .int q] Q := h
theorem b_min2 (h : Q (.int (min p q))) : bMin2 [.int p, .int q] Q := h
theorem b_divmod (h1 : 0 < q ∧ q < 2 ^ 30) (h : Q (.tup [.int (p / q), .int (p % q)])) : bDivmod [.int p, .int q] Q := ⟨h1, h⟩
end
/-! ### numbers as places -/
theorem ixD_nat {m i : Nat} (h : i < m) : ixD m (i : Int) = some i := by
  unfold ixD ixN
  rw [if_pos (by omega), if_pos (by omega)]
  rfl
theorem ixD_of {m : Nat} {p : Int} (h0 : 0 ≤ p) (h1 : p < m) : ixD m p = some p.toNat := by
  unfold ixD ixN
  rw [if_pos h0, if_pos h1]
theorem big_of {p : Int} (h : p.natAbs < 10 ^ 40) : Big p := by
  unfold Big
  exact Nat.lt_of_lt_of_le h (by decide)
/-! ### loops and comprehensions by a rule -/
/-- a comprehension whose element is told place by place -/
theorem lc_go {gt : Tgt} {t : WT} {e : WE} {env : Ev} {Q : List D → Prop} (R : List D → List D → Prop) : ∀ (xs acc : List D), R xs acc → (∀ acc, R [] acc → Q acc) →
    (∀ x xs acc, R (x :: xs) acc → gt.put env x fun env1 => t env1 (fun b => if b = true then e env1 (fun d => R xs (acc ++ [d])) (fun _ => False) else R xs acc) (fun _ => False)) →
    (∀ (x : D) (F G : Ev → Prop), (∀ e, F e → G e) → gt.put env x F → gt.put env x G) →
    (∀ (env1 : Ev) (F G : Bool → Prop), (∀ b, F b → G b) → t env1 F (fun _ => False) → t env1 G (fun _ => False)) →
    (∀ (env1 : Ev) (F G : QD), (∀ d, F d → G d) → e env1 F (fun _ => False) → e env1 G (fun _ => False)) → wLcGo gt t e env xs acc Q
  | [], acc, h, h0, _, _, _, _ => h0 acc h
  | x :: xs, acc, h, h0, hs, m1, m2, m3 => m1 x _ _ (fun env1 q => m2 env1 _ _ (fun b q => by
      cases b with
      | true =>
        rw [if_pos rfl] at q ⊢
        exact m3 env1 _ _ (fun d q => lc_go R xs _ q h0 hs m1 m2 m3) q
      | false =>
        rw [if_neg Bool.false_ne_true] at q ⊢
        exact lc_go R xs _ q h0 hs m1 m2 m3) q) (hs x xs acc h)
end Oil
/-! The program's defs at given numbers: checks, ways. -/
namespace Oil
open PySem PySem.Spec PyProof.Rows L2
local macro_rules | `(tactic| walk_at "pq1") => `(tactic| with_reducible first
  | refine p_seq ?_ | refine p_skip ?_ | refine p_set ?_ | refine p_setO ?_ | refine p_kown ?_ | refine p_unp ?_ | refine p_put rfl ?_ | refine p_put1 ?_
  | refine p_par ?_ | refine p_pnil ?_ | refine p_pval ?_ | refine p_pown ?_ | refine p_kpown ?_ | refine p_expr ?_ | refine p_ret ?_ | refine p_retN ?_ | refine p_ifS ?_
  | refine p_for ?_ | refine p_raise ?_ | refine p_c ?_ | refine p_op ?_ | refine p_neg ?_ | refine p_kneg ?_ | refine p_chain ?_ | refine p_and ?_ | refine p_or ?_ | refine p_not ?_ | refine p_knot ?_
  | refine p_if ?_ | refine p_nil ?_ | refine p_cons ?_ | refine p_star ?_ | refine p_kstarT ?_ | refine p_kstarL ?_ | refine p_tup ?_ | refine p_lst ?_ | refine p_call ?_ | refine p_cb ?_ | refine p_val ?_ | refine p_kval ?_
  | refine p_ttru ?_ | refine p_ktruN ?_ | refine p_ktruB ?_ | refine p_ktruI ?_ | refine p_ktruL ?_ | refine p_ktruT ?_ | refine p_tnot ?_ | refine p_tand ?_ | refine p_tor ?_
  | refine p_nopart ?_ | refine p_part ?_ | refine p_kpart ?_ | refine p_slice ?_ | refine p_ksliceL ?_ | refine p_ksliceT ?_ | refine p_fld ?_ | refine p_meth ?_ | refine p_clo ?_ | refine p_kclo rfl ?_ | refine p_prop ?_ | refine p_kprop rfl ?_
  | refine p_inv ?_ | refine p_kinv rfl ?_ | refine p_lenO ?_ | refine p_klenO rfl ?_ | refine p_get ?_ | refine p_kget rfl ?_ | refine p_cmeth ?_ | refine p_kcmeth rfl ?_ | refine p_opC ?_ | refine p_kopC rfl rfl ?_ | refine p_opF ?_ | refine p_kopF rfl rfl ?_
  | refine p_eqO ?_ | refine p_keqO rfl rfl ?_ | refine p_iter ?_ | refine p_kiterL ?_ | refine p_kiterT ?_ | refine p_rg1 ?_ | refine p_rg2 ?_ | refine p_enum ?_ | refine p_kenum ?_ | refine p_lc ?_ | refine p_yes ?_
  | refine p_tt ?_ | refine p_ff ?_
  | refine o_add ?_ | refine o_sub ?_ | refine o_lt ?_ | refine o_le ?_ | refine o_gt ?_ | refine o_ge ?_
  | refine b_lenL ?_ | refine b_lenT ?_ | refine b_int ?_ | refine b_tupL ?_ | refine b_tupT ?_ | refine b_listL ?_ | refine b_listT ?_ | refine b_max2 ?_ | refine b_min2 ?_)
local macro_rules | `(tactic| walk_at "pq2") => `(tactic| with_reducible first
  | refine p_name (by with_unfolding_all rfl) ?_ | refine p_ownV (by with_unfolding_all rfl) ?_ | refine p_own (by with_unfolding_all rfl) ?_ | refine p_app (by with_unfolding_all rfl) ?_ | refine p_putI (by with_unfolding_all rfl) ?_
  | refine p_frz (by with_unfolding_all rfl) ?_ | refine p_frzV (by with_unfolding_all rfl) ?_ | refine p_kfld (by with_unfolding_all rfl) (by with_unfolding_all rfl) ?_ | refine p_kmeth (by with_unfolding_all rfl) (by decide) ?_ | refine p_makL (by with_unfolding_all rfl) (by with_unfolding_all rfl) ?_
  | refine p_self (by with_unfolding_all rfl) (by decide) (by with_unfolding_all rfl) (by decide) ?_)
local macro_rules | `(tactic| walk_at "pq") => `(tactic| repeat (first | walk_at "pq1" | walk_at "pq2"))
/-! ### more operators -/
theorem pds_int : ∀ xs : List Int, D.pds (xs.map .int) = some (xs.map PyData.int)
  | [] => rfl
  | x :: xs => by
    show (match D.pd (.int x), D.pds (xs.map .int) with
      | some a, some b => some (a :: b)
      | _, _ => none) = _
    rw [pds_int xs]
    rfl
theorem canLay_int : ∀ xs : List Int, PyData.canLayAll0 (xs.map PyData.int) = true
  | [] => by simp [PyData.canLayAll0]
  | x :: xs => by simp [PyData.canLayAll0, PyData.canLay0, canLay_int xs]
theorem depth_int : ∀ xs : List Int, PyData.depthAll (xs.map PyData.int) = 0
  | [] => by simp [PyData.depthAll]
  | x :: xs => by simp [PyData.depthAll, PyData.depth, depth_int xs]
theorem shaped_int (xs : List Int) : SeqAt.shaped (.list (xs.map PyData.int)) = true := by
  simp [SeqAt.shaped, PyData.canLay0, canLay_int, PyData.depth, depth_int]
theorem eqv_int (p q : Int) : PyData.eqv (.int p) (.int q) = decide (p = q) := by
  simp [PyData.eqv]
  rfl
theorem eqv_intL (xs ys : List Int) : PyData.eqv (.list (xs.map .int)) (.list (ys.map .int)) = decide (xs = ys) := by
  rw [← PySem.W.ked_eqvAll xs ys]
  simp [PyData.eqv]
section
variable {Q : QD} {QL : List D → Prop} {E : QR} {p q : Int} {A : Prop} {xs ys : List Int}
theorem o_eqI (h : Q (.bl (decide (p = q)))) : oEq (.int p) (.int q) Q := ⟨.int p, .int q, rfl, rfl, rfl, rfl, by rw [eqv_int]; exact h⟩
theorem o_neI (h : Q (.bl (!decide (p = q)))) : oNe (.int p) (.int q) Q := ⟨.int p, .int q, rfl, rfl, rfl, rfl, by rw [eqv_int]; exact h⟩
theorem o_eqL (h : Q (.bl (decide (xs = ys)))) : oEq (.lst (xs.map .int)) (.lst (ys.map .int)) Q := ⟨.list (xs.map .int), .list (ys.map .int), by show (D.pds _).map _ = _; rw [pds_int]; rfl, by show (D.pds _).map _ = _; rw [pds_int]; rfl, shaped_int _, shaped_int _, by rw [eqv_intL]; exact h⟩
theorem o_neL (h : Q (.bl (!decide (xs = ys)))) : oNe (.lst (xs.map .int)) (.lst (ys.map .int)) Q := ⟨.list (xs.map .int), .list (ys.map .int), by show (D.pds _).map _ = _; rw [pds_int]; rfl, by show (D.pds _).map _ = _; rw [pds_int]; rfl, shaped_int _, shaped_int _, by rw [eqv_intL]; exact h⟩
theorem o_isNon (h : Q (.bl true)) : oIs .non .non Q := ⟨rfl, h⟩
theorem o_isInt (h : Q (.bl false)) : oIs (.int p) .non Q := ⟨rfl, h⟩
theorem o_isNotNon (h : Q (.bl false)) : oIsNot .non .non Q := ⟨rfl, h⟩
theorem o_isNotInt (h : Q (.bl true)) : oIsNot (.int p) .non Q := ⟨rfl, h⟩
theorem p_kandT {Q : QD} (h : A) : kAnd A Q (.bl true) := h
theorem p_kandF {Q : QD} (h : Q (.bl false)) : kAnd A Q (.bl false) := h
theorem p_korT {Q : QD} (h : Q (.bl true)) : kOr A Q (.bl true) := h
theorem p_korF {Q : QD} (h : A) : kOr A Q (.bl false) := h
theorem p_nt {A B : Prop} (h : B) : if (!true) = true then A else B := h
theorem p_nf {A B : Prop} (h : A) : if (!false) = true then A else B := h
theorem bsi_int {c : String} (h : Q (.bl (c == "int"))) (hk : kitB "int" c = some (c == "int")) : bIsiC [] [.int p, .ty c] Q := by
  refine ⟨fun c hc => ?_, _, _, rfl, hk, h⟩
  simp at hc
theorem bsi_tup {xs : List D} (h : Q (.bl true)) : bIsiC [] [.tup xs, .ty "tuple"] Q := by
  refine ⟨fun c hc => ?_, "tuple", true, rfl, by decide +kernel, h⟩
  simp at hc
end
local macro_rules | `(tactic| walk_at "pq3") => `(tactic| with_reducible first
  | refine o_eqI ?_ | refine o_neI ?_ | refine o_isNon ?_ | refine o_isInt ?_ | refine o_isNotNon ?_ | refine o_isNotInt ?_ | refine p_kandT ?_ | refine p_kandF ?_ | refine p_korT ?_ | refine p_korF ?_ | refine p_nt ?_ | refine p_nf ?_)
local macro_rules | `(tactic| walk_at "pq") => `(tactic| repeat (first | walk_at "pq1" | walk_at "pq2" | walk_at "pq3"))
/-! ### checks -/
section
variable {Q : QD} {E : QR} {p a b : Int}
theorem n_is_number (h : Q (.bl true)) : S_is_number [.int p] Q E := by
  refine ⟨rfl, ?_⟩
  show b_is_number [.val (.int p)] _
  unfold b_is_number
  walk_at "pq"
  refine bsi_int ?_ (by decide +kernel)
  show kAnd _ _ (.bl true)
  walk_at "pq"
  refine bsi_int ?_ (by decide +kernel)
  exact h
theorem n_within (h : Q (.bl (decide (a ≤ p ∧ p ≤ b)))) : S_is_number_within [.int p, .int a, .int b] Q E := by
  refine ⟨rfl, ?_⟩
  show b_is_number_within [.val (.int p), .val (.int a), .val (.int b)] _
  unfold b_is_number_within
  walk_at "pq"
  refine n_is_number ?_
  walk_at "pq"
  refine p_kchain (fun z => ?_) (fun z => ?_)
  · walk_at "pq"
    have z := of_decide_eq_true z
    have e : decide (a ≤ p ∧ p ≤ b) = decide (p ≤ b) := by simp [z]
    rw [e] at h
    exact h
  · have z := of_decide_eq_false z
    have e : decide (a ≤ p ∧ p ≤ b) = false := by simp [z]
    rw [e] at h
    exact h
theorem n_from (h : Q (.bl (decide (a ≤ p)))) : S_is_number_from [.int p, .int a] Q E := by
  refine ⟨rfl, ?_⟩
  show b_is_number_from [.val (.int p), .val (.int a)] _
  unfold b_is_number_from
  walk_at "pq"
  refine n_is_number ?_
  walk_at "pq"
  exact h
theorem n_check_within (h1 : a ≤ p) (h2 : p ≤ b) (h : Q .non) : S_check_number_within [.int p, .int a, .int b] Q E := by
  refine ⟨rfl, ?_⟩
  show b_check_number_within [.val (.int p), .val (.int a), .val (.int b)] _
  unfold b_check_number_within
  walk_at "pq"
  refine n_within ?_
  walk_at "pq"
  refine p_bF (by simp [h1, h2]) ?_
  exact h
theorem n_check_from (h1 : a ≤ p) (h : Q .non) : S_check_number_from [.int p, .int a] Q E := by
  refine ⟨rfl, ?_⟩
  show b_check_number_from [.val (.int p), .val (.int a)] _
  unfold b_check_number_from
  walk_at "pq"
  refine n_from ?_
  walk_at "pq"
  refine p_bF (by simp [h1]) ?_
  exact h
theorem n_check_post (h1 : 0 ≤ p) (h2 : p < a) (h : Q .non) : S_check_post [.int p, .int a] Q E := by
  refine ⟨rfl, ?_⟩
  show b_check_post [.val (.int p), .val (.int a)] _
  unfold b_check_post
  walk_at "pq"
  refine n_within ?_
  walk_at "pq"
  refine p_bF (by simp [h1]; omega) ?_
  exact h
end
/-! ### ways -/
def dP (r : Int × Int) : D := .tup [.int r.1, .int r.2]
def dW (c : Int) (rs : List (Int × Int)) : D := .ins 13 ["_capacity", "_posts"] [.int c, .tup (rs.map dP)]
def PV (r : Int × Int) : Prop := (0 ≤ r.1 ∧ r.1 ≤ 1000000000) ∧ 1 ≤ r.2 ∧ r.2 ≤ 1000000000
structure WV (c : Int) (rs : List (Int × Int)) : Prop where
  c1 : 1 ≤ c
  c2 : c ≤ 1000000000
  l1 : 1 ≤ rs.length
  l2 : rs.length ≤ 12
  pv : ∀ r ∈ rs, PV r
section
variable {Q : QD} {E : QR} {p a b c : Int} {rs : List (Int × Int)} {r : Int × Int}
theorem n_is_post (hr : PV r) (h : Q (.bl true)) : S_is_post [dP r] Q E := by
  refine ⟨rfl, ?_⟩
  show b_is_post [.val (.tup [.int r.1, .int r.2])] _
  unfold b_is_post
  walk_at "pq"
  refine bsi_tup ?_
  walk_at "pq"
  refine o_ixT (k := 0) rfl rfl ?_
  walk_at "pq"
  refine n_within ?_
  rw [decide_eq_true hr.1]
  walk_at "pq"
  refine o_ixT (k := 1) rfl rfl ?_
  walk_at "pq"
  refine n_within ?_
  rw [decide_eq_true hr.2]
  exact h
theorem fw_go (K : KN) : ∀ (xs : List (Int × Int)) (k : Nat) (env0 env1 env2 : Sl), (∀ r ∈ xs, PV r) → k + xs.length ≤ 12 → (∀ e1 e2, K.nx [env0, e1, e2]) →
    wForGo (.tp [1, 2]) (wIfS (wtOr (wtVal (wOp oEq (wName 1) (wC (.int 12)))) (wtNot (wtVal (wCall S_is_post (wCons (wName 2) wNil)))))
    (wRet (wName 1))
    wSkip) K (((xs.map dP).zipIdx k).map fun p => .tup [.int (p.2 : Nat), p.1]) [env0, env1, env2]
  | [], k, e0, e1, e2, _, _, h => h _ _
  | r :: xs, k, e0, e1, e2, hv, hl, h => by
    refine p_put rfl ?_
    show wIfS _ _ _ [e0, .val (.int (k : Nat)), .val (dP r)] _
    simp only [List.length_cons] at hl
    walk_at "pq"
    have hk : decide ((k : Int) = 12) = false := decide_eq_false (by omega)
    refine p_bF hk ?_
    walk_at "pq"
    refine n_is_post (hv r (by simp)) ?_
    walk_at "pq"
    exact fw_go K xs (k + 1) e0 _ _ (fun r hr => hv r (by simp [hr])) (by omega) h
theorem n_first_wrong (hv : WV c rs) (h : Q .non) : S_first_wrong [.tup (rs.map dP)] Q E := by
  refine ⟨rfl, ?_⟩
  show b_first_wrong [.val (.tup (rs.map dP)), .un, .un] _
  unfold b_first_wrong
  walk_at "pq"
  refine fw_go _ rs 0 _ _ _ hv.pv (by have := hv.l2; omega) fun e1 e2 => ?_
  walk_at "pq"
  have l1 := hv.l1
  refine p_bT ?_ ?_
  · cases rs with
    | nil => simp at l1
    | cons r rs => rfl
  walk_at "pq"
  exact h
theorem n_Way_init (hv : WV c rs) (h : Q (dW c rs)) : S_Way_init (.int c :: rs.map dP) Q E := by
  have l2 := hv.l2
  refine ⟨by simp, by simp; omega, ?_⟩
  show b_Way_init [.obj 13 [] [], .val (.int c), .val (.tup (rs.map dP)), .un] _
  unfold b_Way_init
  walk_at "pq"
  refine n_within ?_
  rw [decide_eq_true ⟨hv.c1, hv.c2⟩]
  walk_at "pq"
  refine n_first_wrong hv ?_
  walk_at "pq"
  exact ⟨rfl, h⟩
end
end Oil
namespace Oil
open PySem PySem.Spec PyProof.Rows L2
local macro_rules | `(tactic| walk_at "pq1") => `(tactic| with_reducible first
  | refine p_seq ?_ | refine p_skip ?_ | refine p_set ?_ | refine p_setO ?_ | refine p_kown ?_ | refine p_unp ?_ | refine p_put rfl ?_ | refine p_put1 ?_
  | refine p_par ?_ | refine p_pnil ?_ | refine p_pval ?_ | refine p_pown ?_ | refine p_kpown ?_ | refine p_expr ?_ | refine p_ret ?_ | refine p_retN ?_ | refine p_ifS ?_
  | refine p_for ?_ | refine p_raise ?_ | refine p_c ?_ | refine p_op ?_ | refine p_neg ?_ | refine p_kneg ?_ | refine p_chain ?_ | refine p_and ?_ | refine p_or ?_ | refine p_not ?_ | refine p_knot ?_
  | refine p_if ?_ | refine p_nil ?_ | refine p_cons ?_ | refine p_star ?_ | refine p_kstarT ?_ | refine p_kstarL ?_ | refine p_tup ?_ | refine p_lst ?_ | refine p_call ?_ | refine p_cb ?_ | refine p_val ?_ | refine p_kval ?_
  | refine p_ttru ?_ | refine p_ktruN ?_ | refine p_ktruB ?_ | refine p_ktruI ?_ | refine p_ktruL ?_ | refine p_ktruT ?_ | refine p_tnot ?_ | refine p_tand ?_ | refine p_tor ?_
  | refine p_nopart ?_ | refine p_part ?_ | refine p_kpart ?_ | refine p_slice ?_ | refine p_ksliceL ?_ | refine p_ksliceT ?_ | refine p_fld ?_ | refine p_meth ?_ | refine p_clo ?_ | refine p_kclo rfl ?_ | refine p_prop ?_ | refine p_kprop rfl ?_
  | refine p_inv ?_ | refine p_kinv rfl ?_ | refine p_lenO ?_ | refine p_klenO rfl ?_ | refine p_get ?_ | refine p_kget rfl ?_ | refine p_cmeth ?_ | refine p_kcmeth rfl ?_ | refine p_opC ?_ | refine p_kopC rfl rfl ?_ | refine p_opF ?_ | refine p_kopF rfl rfl ?_
  | refine p_eqO ?_ | refine p_keqO rfl rfl ?_ | refine p_iter ?_ | refine p_kiterL ?_ | refine p_kiterT ?_ | refine p_rg1 ?_ | refine p_rg2 ?_ | refine p_enum ?_ | refine p_kenum ?_ | refine p_lc ?_ | refine p_yes ?_
  | refine p_tt ?_ | refine p_ff ?_
  | refine o_add ?_ | refine o_sub ?_ | refine o_lt ?_ | refine o_le ?_ | refine o_gt ?_ | refine o_ge ?_
  | refine b_lenL ?_ | refine b_lenT ?_ | refine b_int ?_ | refine b_tupL ?_ | refine b_tupT ?_ | refine b_listL ?_ | refine b_listT ?_ | refine b_max2 ?_ | refine b_min2 ?_)
local macro_rules | `(tactic| walk_at "pq2") => `(tactic| with_reducible first
  | refine p_name (by with_unfolding_all rfl) ?_ | refine p_ownV (by with_unfolding_all rfl) ?_ | refine p_own (by with_unfolding_all rfl) ?_ | refine p_app (by with_unfolding_all rfl) ?_ | refine p_putI (by with_unfolding_all rfl) ?_
  | refine p_frz (by with_unfolding_all rfl) ?_ | refine p_frzV (by with_unfolding_all rfl) ?_ | refine p_kfld (by with_unfolding_all rfl) (by with_unfolding_all rfl) ?_ | refine p_kmeth (by with_unfolding_all rfl) (by decide) ?_ | refine p_makL (by with_unfolding_all rfl) (by with_unfolding_all rfl) ?_
  | refine p_self (by with_unfolding_all rfl) (by decide) (by with_unfolding_all rfl) (by decide) ?_)
local macro_rules | `(tactic| walk_at "pq3") => `(tactic| with_reducible first
  | refine o_eqI ?_ | refine o_neI ?_ | refine o_isNon ?_ | refine o_isInt ?_ | refine o_isNotNon ?_ | refine o_isNotInt ?_ | refine p_kandT ?_ | refine p_kandF ?_ | refine p_korT ?_ | refine p_korF ?_ | refine p_nt ?_ | refine p_nf ?_)
local macro_rules | `(tactic| walk_at "pq") => `(tactic| repeat (first | walk_at "pq1" | walk_at "pq2" | walk_at "pq3"))
/-! ### comprehensions and loops at known lists -/
section
variable {gt : Tgt} {t : WT} {e : WE} {env : Ev} {Q : List D → Prop} {α : Type}
theorem lc_mapT (g f : α → D) : ∀ (rs : List α) (acc : List D), (∀ r ∈ rs, ∀ A : QD, A (f r) → gt.put env (g r) fun env1 => e env1 A (fun _ => False)) → Q (acc ++ rs.map f) → wLcGo gt wYes e env (rs.map g) acc Q
  | [], acc, _, h => by rw [List.map_nil, List.append_nil] at h; exact h
  | r :: rs, acc, hx, h => hx r (by simp) _ (lc_mapT g f rs _ (fun r hr => hx r (by simp [hr])) (by rw [List.append_assoc]; exact h))
theorem lc_filtT (g f : α → D) (b : α → Bool) : ∀ (rs : List α) (acc : List D), (∀ r ∈ rs, ∀ (A : QD) (B : Prop), (b r = true → A (f r)) → (b r = false → B) → gt.put env (g r) fun env1 => t env1 (fun bb => if bb = true then e env1 A (fun _ => False) else B) (fun _ => False)) → Q (acc ++ (rs.filter b).map f) → wLcGo gt t e env (rs.map g) acc Q
  | [], acc, _, h => by rw [List.filter_nil, List.map_nil, List.append_nil] at h; exact h
  | r :: rs, acc, hx, h => hx r (by simp) _ _
      (fun hb => lc_filtT g f b rs _ (fun r hr => hx r (by simp [hr])) (by rw [List.filter_cons_of_pos hb] at h; rw [List.append_assoc]; exact h))
      (fun hb => lc_filtT g f b rs _ (fun r hr => hx r (by simp [hr])) (by rw [List.filter_cons_of_neg (by simp [hb])] at h; exact h))
theorem lc_draw {W : α → Prop} (g : α → D) : ∀ (xs acc : List D), (∀ x ∈ xs, ∀ A : QD, (∀ r, W r → A (g r)) → gt.put env x fun env1 => e env1 A (fun _ => False)) → (∀ rs : List α, rs.length = xs.length → (∀ r ∈ rs, W r) → Q (acc ++ rs.map g)) → wLcGo gt wYes e env xs acc Q
  | [], acc, _, h => by
    have := h [] rfl (fun r hr => by simp at hr)
    rw [List.map_nil, List.append_nil] at this
    exact this
  | x :: xs, acc, hx, h => hx x (by simp) _ fun r hr => lc_draw g xs _ (fun x hx' => hx x (by simp [hx'])) fun rs hl hrs => by
      have := h (r :: rs) (by simp [hl]) (fun r' hr' => by
        rcases List.mem_cons.mp hr' with e | e
        · subst e; exact hr
        · exact hrs r' e)
      rw [List.append_assoc]
      exact this
end
theorem intD_map (lo : Int) (n : Nat) : intD lo n = (List.range n).map fun (k : Nat) => D.int (lo + (k : Int)) := rfl
theorem intD_zero (n : Nat) : intD 0 n = (List.range n).map fun (k : Nat) => D.int (k : Int) := by
  unfold intD
  congr 1
  funext k
  rw [Int.zero_add]
theorem intsOf_map : ∀ ns : List Int, intsOf (ns.map .int) = some ns
  | [] => rfl
  | n :: ns => by
    show (intsOf (ns.map .int)).map (n :: ·) = _
    rw [intsOf_map ns]
    rfl
theorem b_sum {Q : QD} {ns : List Int} (h : Q (.int ns.sum)) : bSum [.lst (ns.map .int)] Q := ⟨ns, intsOf_map ns, h⟩
theorem b_maxM {Q : QD} {ns : List Int} (h0 : 0 < ns.length) (h : ∀ m, m ∈ ns → (∀ y, y ∈ ns → y ≤ m) → Q (.int m)) : bMax [.lst (ns.map .int)] Q := ⟨ns, intsOf_map ns, h0, h⟩
theorem n_next {Q : QD} {E : QR} {n : Int} (h0 : 0 < n) (h1 : n < 2 ^ 100) (h : ∀ r : Int, 0 ≤ r → r < n → Q (.int r)) : S_next [.dice, .int n] Q E := ⟨n, rfl, h0, h1, h⟩
/-! ### the law's draws -/
structure LP (m : Int) (rs : List (Int × Int)) : Prop where
  l1 : 1 ≤ rs.length
  l2 : (rs.length : Int) ≤ m
  pv : ∀ r ∈ rs, (0 ≤ r.1 ∧ r.1 ≤ 1000) ∧ 1 ≤ r.2 ∧ r.2 ≤ 40
theorem three {Q : Int → Prop} (a b c : Int) (h : Q a ∧ Q b ∧ Q c) {r : Int} (h0 : 0 ≤ r) (h1 : r < 3) {P : QD} (hP : ∀ x, Q x → P (.int x)) : oIx (.lst [.int a, .int b, .int c]) (.int r) P := by
  have : r = 0 ∨ r = 1 ∨ r = 2 := by omega
  rcases this with e | e | e
  · subst e; exact o_ixL (k := 0) rfl rfl (hP _ h.1)
  · subst e; exact o_ixL (k := 1) rfl rfl (hP _ h.2.1)
  · subst e; exact o_ixL (k := 2) rfl rfl (hP _ h.2.2)
theorem n_law_capacity {Q : QD} {E : QR} (h : ∀ c : Int, 1 ≤ c → c ≤ 120 → Q (.int c)) : S_law_capacity [.dice] Q E := by
  refine ⟨rfl, ?_⟩
  show b_law_capacity [.val .dice] _
  unfold b_law_capacity
  walk_at "pq"
  refine ⟨by show 3 ≤ LIM; decide, ?_⟩
  walk_at "pq"
  refine n_next (by decide) (by decide) fun r h0 h1 => ?_
  walk_at "pq"
  refine three (Q := fun x => 1 ≤ x ∧ x ≤ 120) 9 30 120 ⟨⟨by decide, by decide⟩, ⟨by decide, by decide⟩, by decide, by decide⟩ h0 h1 fun x ⟨x0, x1⟩ => ?_
  walk_at "pq"
  refine n_next (by omega) (by omega) fun r h0 h1 => ?_
  walk_at "pq"
  exact h _ (by omega) (by omega)
theorem sum_short : ∀ rs : List (Int × Int), (∀ r ∈ rs, (0 ≤ r.1 ∧ r.1 ≤ 1000) ∧ 1 ≤ r.2 ∧ r.2 ≤ 40) → (rs.map fun r => r.2 - r.1).sum ≤ 40 * (rs.length : Int)
  | [], _ => by simp
  | r :: rs, h => by
    have h1 := sum_short rs fun r hr => h r (by simp [hr])
    have h2 := h r (by simp)
    simp only [List.map_cons, List.sum_cons, List.length_cons]
    omega
theorem n_law_posts {Q : QD} {E : QR} {m : Int} (m1 : 1 ≤ m) (m2 : m ≤ 12) (h : ∀ rs, LP m rs → Q (.lst (rs.map dP))) : S_law_posts [.dice, .int m] Q E := by
  refine ⟨rfl, ?_⟩
  show b_law_posts [.val .dice, .val (.int m), .un, .un, .un, .un, .un, .un] _
  unfold b_law_posts
  walk_at "pq"
  refine ⟨by show 3 ≤ LIM; decide, ?_⟩
  walk_at "pq"
  refine n_next (by decide) (by decide) fun r h0 h1 => ?_
  walk_at "pq"
  refine three (Q := fun x => 1 ≤ x ∧ x ≤ 40) 4 9 40 ⟨⟨by decide, by decide⟩, ⟨by decide, by decide⟩, by decide, by decide⟩ h0 h1 fun x ⟨x0, x1⟩ => ?_
  walk_at "pq"
  refine n_next (by omega) (by omega) fun r h0 h1 => ?_
  walk_at "pq"
  refine p_krg1 (by omega) ?_
  refine ⟨by rw [intD_len]; unfold LIM; omega, ?_⟩
  refine lc_draw (W := fun r : Int × Int => (0 ≤ r.1 ∧ r.1 ≤ 41) ∧ 1 ≤ r.2 ∧ r.2 ≤ 40) dP _ _ ?_ ?_
  · intro y hy A hA
    refine p_put1 ?_
    dsimp only [wipeE, List.set]
    walk_at "pq"
    refine n_next (by omega) (by omega) fun a a0 a1 => ?_
    walk_at "pq"
    refine n_next (by omega) (by omega) fun b b0 b1 => ?_
    walk_at "pq"
    refine ⟨by show 2 ≤ LIM; decide, ?_⟩
    exact hA (a, 1 + b) ⟨⟨by omega, by omega⟩, by omega, by omega⟩
  · intro rs hl hrs
    rw [intD_len] at hl
    have hl1 : 1 ≤ rs.length := by omega
    have hl2 : (rs.length : Int) ≤ m := by omega
    rw [List.nil_append]
    walk_at "pq"
    refine ⟨by simp [LIM]; omega, ?_⟩
    refine lc_mapT dP (fun r => .int (r.2 - r.1)) rs [] ?_ ?_
    · intro r hr A hA
      refine p_put rfl ?_
      dsimp only [wipeE, List.set, setMany]
      walk_at "pq"
      exact hA
    rw [List.nil_append]
    have e1 : (rs.map fun r => D.int (r.2 - r.1)) = (rs.map fun r => r.2 - r.1).map .int := by simp
    rw [e1]
    walk_at "pq"
    refine b_sum ?_
    have hS := sum_short rs fun r hr => ⟨⟨(hrs r hr).1.1, by have := (hrs r hr).1.2; omega⟩, (hrs r hr).2⟩
    generalize hs : (rs.map fun r => r.2 - r.1).sum = S at hS ⊢
    walk_at "pq"
    refine p_dec (fun z => ?_) (fun z => ?_)
    · walk_at "pq"
      refine n_next (by decide) (by decide) fun a a0 a1 => ?_
      walk_at "pq"
      cases rs with
      | nil => simp at hl1
      | cons r rs =>
        have hr := hrs r (by simp)
        refine p_dec (fun z2 => ?_) (fun z2 => ?_)
        · walk_at "pq"
          refine o_ixL (k := 0) (ixD_nat (i := 0) (by simp)) rfl ?_
          walk_at "pq"
          refine o_ixT (k := 0) rfl rfl ?_
          walk_at "pq"
          refine o_ixL (k := 0) (ixD_nat (i := 0) (by simp)) rfl ?_
          walk_at "pq"
          refine o_ixT (k := 1) rfl rfl ?_
          walk_at "pq"
          refine ⟨by show 2 ≤ LIM; decide, ?_⟩
          walk_at "pq"
          refine p_kput (k := 0) (ixD_nat (i := 0) (by simp)) ?_
          walk_at "pq"
          refine h ((r.1 + S, r.2) :: rs) ⟨by simp, by simpa using hl2, fun r' hr' => ?_⟩
          rcases List.mem_cons.mp hr' with e | e
          · subst e
            simp only [List.length_cons] at hS hl2
            refine ⟨⟨?_, ?_⟩, hr.2⟩
            · show 0 ≤ r.1 + S
              omega
            · show r.1 + S ≤ 1000
              omega
          · have q := hrs r' (by simp [e])
            exact ⟨⟨q.1.1, by omega⟩, q.2⟩
        · walk_at "pq"
          refine h (r :: rs) ⟨hl1, hl2, fun r' hr' => ?_⟩
          have q := hrs r' hr'
          exact ⟨⟨q.1.1, by omega⟩, q.2⟩
    · walk_at "pq"
      refine h rs ⟨hl1, hl2, fun r' hr' => ?_⟩
      have q := hrs r' hr'
      exact ⟨⟨q.1.1, by omega⟩, q.2⟩
end Oil
namespace Oil
open PySem PySem.Spec PyProof.Rows L2
local macro_rules | `(tactic| walk_at "pq1") => `(tactic| with_reducible first
  | refine p_seq ?_ | refine p_skip ?_ | refine p_set ?_ | refine p_setO ?_ | refine p_kown ?_ | refine p_unp ?_ | refine p_put rfl ?_ | refine p_put1 ?_
  | refine p_par ?_ | refine p_pnil ?_ | refine p_pval ?_ | refine p_pown ?_ | refine p_kpown ?_ | refine p_expr ?_ | refine p_ret ?_ | refine p_retN ?_ | refine p_ifS ?_
  | refine p_for ?_ | refine p_raise ?_ | refine p_c ?_ | refine p_op ?_ | refine p_neg ?_ | refine p_kneg ?_ | refine p_chain ?_ | refine p_and ?_ | refine p_or ?_ | refine p_not ?_ | refine p_knot ?_
  | refine p_if ?_ | refine p_nil ?_ | refine p_cons ?_ | refine p_star ?_ | refine p_kstarT ?_ | refine p_kstarL ?_ | refine p_tup ?_ | refine p_lst ?_ | refine p_call ?_ | refine p_cb ?_ | refine p_val ?_ | refine p_kval ?_
  | refine p_ttru ?_ | refine p_ktruN ?_ | refine p_ktruB ?_ | refine p_ktruI ?_ | refine p_ktruL ?_ | refine p_ktruT ?_ | refine p_tnot ?_ | refine p_tand ?_ | refine p_tor ?_
  | refine p_nopart ?_ | refine p_part ?_ | refine p_kpart ?_ | refine p_slice ?_ | refine p_ksliceL ?_ | refine p_ksliceT ?_ | refine p_fld ?_ | refine p_meth ?_ | refine p_clo ?_ | refine p_kclo rfl ?_ | refine p_prop ?_ | refine p_kprop rfl ?_
  | refine p_inv ?_ | refine p_kinv rfl ?_ | refine p_lenO ?_ | refine p_klenO rfl ?_ | refine p_get ?_ | refine p_kget rfl ?_ | refine p_cmeth ?_ | refine p_kcmeth rfl ?_ | refine p_opC ?_ | refine p_kopC rfl rfl ?_ | refine p_opF ?_ | refine p_kopF rfl rfl ?_
  | refine p_eqO ?_ | refine p_keqO rfl rfl ?_ | refine p_iter ?_ | refine p_kiterL ?_ | refine p_kiterT ?_ | refine p_rg1 ?_ | refine p_rg2 ?_ | refine p_enum ?_ | refine p_kenum ?_ | refine p_lc ?_ | refine p_yes ?_
  | refine p_tt ?_ | refine p_ff ?_
  | refine o_add ?_ | refine o_sub ?_ | refine o_lt ?_ | refine o_le ?_ | refine o_gt ?_ | refine o_ge ?_
  | refine b_lenL ?_ | refine b_lenT ?_ | refine b_int ?_ | refine b_tupL ?_ | refine b_tupT ?_ | refine b_listL ?_ | refine b_listT ?_ | refine b_max2 ?_ | refine b_min2 ?_)
local macro_rules | `(tactic| walk_at "pq2") => `(tactic| with_reducible first
  | refine p_name (by with_unfolding_all rfl) ?_ | refine p_ownV (by with_unfolding_all rfl) ?_ | refine p_own (by with_unfolding_all rfl) ?_ | refine p_app (by with_unfolding_all rfl) ?_ | refine p_putI (by with_unfolding_all rfl) ?_
  | refine p_frz (by with_unfolding_all rfl) ?_ | refine p_frzV (by with_unfolding_all rfl) ?_ | refine p_kfld (by with_unfolding_all rfl) (by with_unfolding_all rfl) ?_ | refine p_kmeth (by with_unfolding_all rfl) (by decide) ?_ | refine p_makL (by with_unfolding_all rfl) (by with_unfolding_all rfl) ?_
  | refine p_self (by with_unfolding_all rfl) (by decide) (by with_unfolding_all rfl) (by decide) ?_)
local macro_rules | `(tactic| walk_at "pq3") => `(tactic| with_reducible first
  | refine o_eqI ?_ | refine o_neI ?_ | refine o_isNon ?_ | refine o_isInt ?_ | refine o_isNotNon ?_ | refine o_isNotInt ?_ | refine p_kandT ?_ | refine p_kandF ?_ | refine p_korT ?_ | refine p_korF ?_ | refine p_nt ?_ | refine p_nf ?_)
local macro_rules | `(tactic| walk_at "pq") => `(tactic| repeat (first | walk_at "pq1" | walk_at "pq2" | walk_at "pq3"))
/-! ### slices -/
theorem cutD_from (xs : List D) (i : Nat) (h : i ≤ xs.length) : cutD xs (some (i : Int)) none = xs.drop i := by
  unfold cutD
  rw [HT.sIx_nat, HT.sIx_none, Nat.min_eq_left h]
  exact List.take_of_length_le (by simp)
theorem cutD_to (xs : List D) (i : Nat) (h : i ≤ xs.length) : cutD xs none (some (i : Int)) = xs.take i := by
  unfold cutD
  rw [HT.sIx_nat, HT.sIx_none, Nat.min_eq_left h]
  rfl
/-- from a place on, round -/
def rot (rs : List (Int × Int)) (i : Nat) : List (Int × Int) := rs.drop i ++ rs.take i
theorem rot_len {rs : List (Int × Int)} {i : Nat} (h : i ≤ rs.length) : (rot rs i).length = rs.length := by
  unfold rot
  rw [List.length_append, List.length_drop, List.length_take]
  omega
theorem rot_mem {rs : List (Int × Int)} {i : Nat} {r : Int × Int} (h : r ∈ rot rs i) : r ∈ rs := by
  rcases List.mem_append.mp h with h | h
  · exact List.mem_of_mem_drop h
  · exact List.mem_of_mem_take h
section
variable {Q : QD} {E : QR} {p a b c c' : Int} {rs : List (Int × Int)} {r : Int × Int} {i n : Nat}
theorem n_Way_even (h1 : 1 ≤ n) (h2 : n ≤ 12) (hc : 1 ≤ c ∧ c ≤ 1000000000) (hr : PV (a, b)) (h : Q (dW c (List.replicate n (a, b)))) : S_Way_even [.cls 13, .int c, .int (n : Int), .int a, .int b] Q E := by
  refine ⟨rfl, ?_⟩
  show b_Way_even [.val (.cls 13), .val (.int c), .val (.int (n : Int)), .val (.int a), .val (.int b), .un, .un] _
  unfold b_Way_even
  walk_at "pq"
  refine n_check_within (by omega) (by omega) ?_
  walk_at "pq"
  refine p_krg1 (by omega) ?_
  rw [Int.toNat_natCast, intD_zero]
  refine ⟨by simp [LIM]; omega, ?_⟩
  refine lc_mapT (fun (k : Nat) => D.int (k : Int)) (fun _ => dP (a, b)) _ [] ?_ ?_
  · intro k hk A hA
    refine p_put1 ?_
    dsimp only [wipeE, List.set]
    walk_at "pq"
    exact ⟨by show 2 ≤ LIM; decide, hA⟩
  have e : ((List.range n).map fun _ => dP (a, b)) = (List.replicate n (a, b)).map dP := by
    rw [List.map_const', List.length_range, List.map_replicate]
  rw [List.nil_append, e]
  walk_at "pq"
  rw [List.append_nil]
  exact n_Way_init ⟨hc.1, hc.2, by simpa using h1, by simpa using h2, fun r hr' => by rw [(List.mem_replicate.mp hr').2]; exact hr⟩ h
theorem n_with_post (hv : WV c rs) (hi : i < rs.length) (hr : PV r) (h : Q (dW c (rs.set i r))) : S_Way_with_post [dW c rs, .int (i : Int), .int r.1, .int r.2] Q E := by
  refine ⟨rfl, ?_⟩
  show b_Way_with_post [.val (dW c rs), .val (.int (i : Int)), .val (.int r.1), .val (.int r.2), .un] _
  unfold b_Way_with_post dW
  walk_at "pq"
  refine n_check_post (by omega) (by rw [List.length_map]; omega) ?_
  walk_at "pq"
  refine ⟨by show 2 ≤ LIM; decide, ?_⟩
  walk_at "pq"
  refine p_kput (k := i) (ixD_nat (by rw [List.length_map]; exact hi)) ?_
  walk_at "pq"
  rw [List.append_nil, show D.tup [D.int r.1, D.int r.2] = dP r from rfl, ← List.map_set]
  refine n_Way_init ⟨hv.c1, hv.c2, by rw [List.length_set]; exact hv.l1, by rw [List.length_set]; exact hv.l2, fun r' hr' => ?_⟩ h
  rcases List.mem_or_eq_of_mem_set hr' with e | e
  · exact hv.pv r' e
  · rw [e]; exact hr
theorem n_with_capacity (hv : WV c' rs) (h : Q (dW c' rs)) : S_Way_with_capacity [dW c rs, .int c'] Q E := by
  refine ⟨rfl, ?_⟩
  show b_Way_with_capacity [.val (dW c rs), .val (.int c')] _
  unfold b_Way_with_capacity dW
  walk_at "pq"
  rw [List.append_nil]
  exact n_Way_init hv h
theorem n_len (h : Q (.int rs.length)) : S_Way_len [dW c rs] Q E := by
  refine ⟨rfl, ?_⟩
  show b_Way_len [.val (dW c rs)] _
  unfold b_Way_len dW
  walk_at "pq"
  rw [List.length_map]
  exact h
theorem n_capacity (h : Q (.int c)) : S_Way_capacity [dW c rs] Q E := by
  refine ⟨rfl, ?_⟩
  show b_Way_capacity [.val (dW c rs)] _
  unfold b_Way_capacity dW
  walk_at "pq"
  exact h
theorem n_posts (h : Q (.tup (rs.map dP))) : S_Way_posts [dW c rs] Q E := by
  refine ⟨rfl, ?_⟩
  show b_Way_posts [.val (dW c rs)] _
  unfold b_Way_posts dW
  walk_at "pq"
  exact h
/-- what a round leaves -/
def surp (rs : List (Int × Int)) : Int := (rs.map fun r => r.1 - r.2).sum
theorem n_surplus (hl : rs.length ≤ 12) (h : Q (.int (surp rs))) : S_Way_surplus [dW c rs] Q E := by
  refine ⟨rfl, ?_⟩
  show b_Way_surplus [.val (dW c rs), .un, .un] _
  unfold b_Way_surplus dW
  walk_at "pq"
  refine ⟨by simp [LIM]; omega, ?_⟩
  refine lc_mapT dP (fun r => .int (r.1 - r.2)) rs [] ?_ ?_
  · intro r hr A hA
    refine p_put rfl ?_
    dsimp only [wipeE, List.set, setMany]
    walk_at "pq"
    exact hA
  rw [List.nil_append]
  have e1 : (rs.map fun r => D.int (r.1 - r.2)) = (rs.map fun r => r.1 - r.2).map .int := by simp
  rw [e1]
  walk_at "pq"
  exact b_sum h
theorem n_posts_from (hl : rs.length ≤ 12) (hi : i < rs.length) (h : Q (.tup ((rot rs i).map dP))) : S_Way_posts_from [dW c rs, .int (i : Int)] Q E := by
  refine ⟨rfl, ?_⟩
  show b_Way_posts_from [.val (dW c rs), .val (.int (i : Int))] _
  unfold b_Way_posts_from dW
  walk_at "pq"
  rw [cutD_from _ _ (by simp; omega), cutD_to _ _ (by simp; omega)]
  refine o_addT (by simp [LIM]; omega) ?_
  rw [← List.map_drop, ← List.map_take, ← List.map_append]
  exact h
end
/-! ### the law's ways -/
theorem lw_go (c : Int) (rs : List (Int × Int)) (hv : WV c rs) (K : KN) (e0 : Sl) (hK : ∀ e3, K.nx [e0, .val (.lst (rs.map dP)), .val (dW c rs), e3]) : ∀ (m k : Nat) (ws : List (Int × Int)) (e3 : Sl), k + m = rs.length → ws.length = rs.length → WV c ws → (∀ j, j < k → ws[j]? = rs[j]?) →
    wForGo (.nm 3) (wSet 2 (wMeth 13 "with_post" S_Way_with_post (wName 2) (wCons (wName 3) (wCons (wOp oIx (wOp oIx (wName 1) (wName 3)) (wC (.int 0))) (wCons (wOp oIx (wOp oIx (wName 1) (wName 3)) (wC (.int 1))) wNil))))) K ((List.range' k m).map fun (k : Nat) => D.int (k : Int)) [e0, .val (.lst (rs.map dP)), .val (dW c ws), e3]
  | 0, k, ws, e3, hk, hl, hw, he => by
    have : ws = rs := List.ext_getElem? fun j => by
      by_cases hj : j < k
      · exact he j hj
      · rw [List.getElem?_eq_none (by omega), List.getElem?_eq_none (by omega)]
    subst this
    exact hK e3
  | m + 1, k, ws, e3, hk, hl, hw, he => by
    rw [List.range'_succ, List.map_cons]
    refine p_put1 ?_
    dsimp only [List.set]
    have hkl : k < rs.length := by omega
    have hg : (rs.map dP)[k]? = some (dP rs[k]) := by rw [List.getElem?_map, List.getElem?_eq_getElem hkl]; rfl
    unfold dW
    walk_at "pq"
    refine o_ixL (ixD_nat (by rw [List.length_map]; exact hkl)) hg ?_
    unfold dP
    walk_at "pq"
    refine o_ixT (k := 0) rfl rfl ?_
    walk_at "pq"
    refine o_ixL (ixD_nat (by rw [List.length_map]; exact hkl)) hg ?_
    unfold dP
    walk_at "pq"
    refine o_ixT (k := 1) rfl rfl ?_
    walk_at "pq"
    have hp := hv.pv rs[k] (List.getElem_mem hkl)
    refine n_with_post (rs := ws) (r := rs[k]) hw (by omega) hp ?_
    dsimp only [List.set]
    refine lw_go c rs hv K e0 hK m (k + 1) (ws.set k rs[k]) _ (by omega) (by rw [List.length_set]; exact hl) ⟨hw.c1, hw.c2, by rw [List.length_set]; exact hw.l1, by rw [List.length_set]; exact hw.l2, fun r' hr' => ?_⟩ ?_
    · rcases List.mem_or_eq_of_mem_set hr' with e | e
      · exact hw.pv r' e
      · rw [e]; exact hp
    · intro j hj
      by_cases e : j = k
      · subst e
        rw [List.getElem?_set_self (by omega), List.getElem?_eq_getElem hkl]
      · rw [List.getElem?_set_ne (by omega)]
        exact he j (by omega)
theorem n_law_way {Q : QD} {E : QR} {c : Int} {rs : List (Int × Int)} (hv : WV c rs) (h : Q (dW c rs)) : S_law_way [.int c, .lst (rs.map dP)] Q E := by
  refine ⟨rfl, ?_⟩
  show b_law_way [.val (.int c), .val (.lst (rs.map dP)), .un, .un] _
  have l1 := hv.l1
  have l2 := hv.l2
  unfold b_law_way
  walk_at "pq"
  rw [List.length_map]
  have hp : PV (0, 1) := ⟨⟨by decide, by decide⟩, by decide, by decide⟩
  refine n_Way_even hv.l1 hv.l2 ⟨hv.c1, hv.c2⟩ hp ?_
  walk_at "pq"
  rw [List.length_map]
  refine p_krg1 (by omega) ?_
  rw [Int.toNat_natCast, intD_zero, List.range_eq_range']
  dsimp only [List.set]
  refine lw_go c rs hv _ _ (fun e3 => ?_) rs.length 0 _ _ (by omega) (by simp) ⟨hv.c1, hv.c2, by simpa using l1, by simpa using l2, fun r hr' => by rw [(List.mem_replicate.mp hr').2]; exact hp⟩ (fun j hj => by omega)
  walk_at "pq"
  exact h
theorem LP.wv {m c : Int} {rs : List (Int × Int)} (h : LP m rs) (hm : m ≤ 12) (h1 : 1 ≤ c) (h2 : c ≤ 1000000000) : WV c rs := ⟨h1, h2, h.l1, by have := h.l2; omega, fun r hr => by
  obtain ⟨⟨a, b⟩, d, e⟩ := h.pv r hr
  exact ⟨⟨a, by omega⟩, d, by omega⟩⟩
theorem n_law_drawn {Q : QD} {E : QR} {m : Int} (m1 : 1 ≤ m) (m2 : m ≤ 12) (h : ∀ (c : Int) (rs : List (Int × Int)) (i x : Nat), 1 ≤ c → c ≤ 120 → LP m rs → i < rs.length → (x : Int) ≤ c → Q (.tup [dW c rs, .int c, .lst (rs.map dP), .int (i : Int), .int (x : Int)])) : S_law_drawn [.dice, .int m] Q E := by
  refine ⟨rfl, ?_⟩
  show b_law_drawn [.val .dice, .val (.int m), .un, .un] _
  unfold b_law_drawn
  walk_at "pq"
  refine n_law_posts m1 m2 fun rs hr => ?_
  walk_at "pq"
  refine n_law_capacity fun c c1 c2 => ?_
  walk_at "pq"
  refine n_law_way (hr.wv m2 c1 (by omega)) ?_
  walk_at "pq"
  have l1 := hr.l1
  have l2 := hr.l2
  refine n_next (by rw [List.length_map]; omega) (by rw [List.length_map]; omega) fun i i0 i1 => ?_
  walk_at "pq"
  refine n_next (by omega) (by omega) fun x x0 x1 => ?_
  walk_at "pq"
  refine ⟨by show 5 ≤ LIM; decide, ?_⟩
  rw [List.length_map] at i1
  have := h c rs i.toNat x.toNat c1 c2 hr (by omega) (by omega)
  rw [Int.toNat_of_nonneg i0, Int.toNat_of_nonneg x0] at this
  exact this
theorem n_law_great {Q : QD} {E : QR} {n : Int} (n1 : 1 ≤ n) (h : ∀ x : Nat, (x : Int) < n → Q (.int (x : Int))) : S_law_great [.dice, .int n] Q E := by
  refine ⟨rfl, ?_⟩
  show b_law_great [.val .dice, .val (.int n)] _
  unfold b_law_great
  walk_at "pq"
  refine o_pow (by decide) ?_
  walk_at "pq"
  refine n_next (by decide) (by decide) fun a a0 a1 => ?_
  walk_at "pq"
  refine o_pow (by decide) ?_
  have a1 : a < 1000000000 := a1
  refine o_mul (big_of (by omega)) (big_of (by decide)) ?_
  walk_at "pq"
  refine o_pow (by decide) ?_
  walk_at "pq"
  refine n_next (by decide) (by decide) fun b b0 b1 => ?_
  walk_at "pq"
  refine o_mod (by omega) ?_
  rw [Int.fmod_eq_emod_of_nonneg _ (by omega)]
  have e0 := Int.emod_nonneg (a * 10 ^ Int.toNat 9 + b) (show n ≠ 0 by omega)
  have e1 := Int.emod_lt_of_pos (a * 10 ^ Int.toNat 9 + b) (show 0 < n by omega)
  obtain ⟨x, hx⟩ := Int.eq_ofNat_of_zero_le e0
  rw [hx] at e1 ⊢
  exact h x e1
end Oil
namespace Oil
open PySem PySem.Spec PyProof.Rows L2
local macro_rules | `(tactic| walk_at "pq1") => `(tactic| with_reducible first
  | refine p_seq ?_ | refine p_skip ?_ | refine p_set ?_ | refine p_setO ?_ | refine p_kown ?_ | refine p_unp ?_ | refine p_put rfl ?_ | refine p_put1 ?_
  | refine p_par ?_ | refine p_pnil ?_ | refine p_pval ?_ | refine p_pown ?_ | refine p_kpown ?_ | refine p_expr ?_ | refine p_ret ?_ | refine p_retN ?_ | refine p_ifS ?_
  | refine p_for ?_ | refine p_raise ?_ | refine p_c ?_ | refine p_op ?_ | refine p_neg ?_ | refine p_kneg ?_ | refine p_chain ?_ | refine p_and ?_ | refine p_or ?_ | refine p_not ?_ | refine p_knot ?_
  | refine p_if ?_ | refine p_nil ?_ | refine p_cons ?_ | refine p_star ?_ | refine p_kstarT ?_ | refine p_kstarL ?_ | refine p_tup ?_ | refine p_lst ?_ | refine p_call ?_ | refine p_cb ?_ | refine p_val ?_ | refine p_kval ?_
  | refine p_ttru ?_ | refine p_ktruN ?_ | refine p_ktruB ?_ | refine p_ktruI ?_ | refine p_ktruL ?_ | refine p_ktruT ?_ | refine p_tnot ?_ | refine p_tand ?_ | refine p_tor ?_
  | refine p_nopart ?_ | refine p_part ?_ | refine p_kpart ?_ | refine p_slice ?_ | refine p_ksliceL ?_ | refine p_ksliceT ?_ | refine p_fld ?_ | refine p_meth ?_ | refine p_clo ?_ | refine p_kclo rfl ?_ | refine p_prop ?_ | refine p_kprop rfl ?_
  | refine p_inv ?_ | refine p_kinv rfl ?_ | refine p_lenO ?_ | refine p_klenO rfl ?_ | refine p_get ?_ | refine p_kget rfl ?_ | refine p_cmeth ?_ | refine p_kcmeth rfl ?_ | refine p_opC ?_ | refine p_kopC rfl rfl ?_ | refine p_opF ?_ | refine p_kopF rfl rfl ?_
  | refine p_eqO ?_ | refine p_keqO rfl rfl ?_ | refine p_iter ?_ | refine p_kiterL ?_ | refine p_kiterT ?_ | refine p_rg1 ?_ | refine p_rg2 ?_ | refine p_enum ?_ | refine p_kenum ?_ | refine p_lc ?_ | refine p_yes ?_
  | refine p_tt ?_ | refine p_ff ?_
  | refine o_add ?_ | refine o_sub ?_ | refine o_lt ?_ | refine o_le ?_ | refine o_gt ?_ | refine o_ge ?_
  | refine b_lenL ?_ | refine b_lenT ?_ | refine b_int ?_ | refine b_tupL ?_ | refine b_tupT ?_ | refine b_listL ?_ | refine b_listT ?_ | refine b_max2 ?_ | refine b_min2 ?_)
local macro_rules | `(tactic| walk_at "pq2") => `(tactic| with_reducible first
  | refine p_name (by with_unfolding_all rfl) ?_ | refine p_ownV (by with_unfolding_all rfl) ?_ | refine p_own (by with_unfolding_all rfl) ?_ | refine p_app (by with_unfolding_all rfl) ?_ | refine p_putI (by with_unfolding_all rfl) ?_
  | refine p_frz (by with_unfolding_all rfl) ?_ | refine p_frzV (by with_unfolding_all rfl) ?_ | refine p_kfld (by with_unfolding_all rfl) (by with_unfolding_all rfl) ?_ | refine p_kmeth (by with_unfolding_all rfl) (by decide) ?_ | refine p_makL (by with_unfolding_all rfl) (by with_unfolding_all rfl) ?_
  | refine p_self (by with_unfolding_all rfl) (by decide) (by with_unfolding_all rfl) (by decide) ?_)
local macro_rules | `(tactic| walk_at "pq3") => `(tactic| with_reducible first
  | refine o_eqI ?_ | refine o_neI ?_ | refine o_isNon ?_ | refine o_isInt ?_ | refine o_isNotNon ?_ | refine o_isNotInt ?_ | refine p_kandT ?_ | refine p_kandF ?_ | refine p_korT ?_ | refine p_korF ?_ | refine p_nt ?_ | refine p_nf ?_)
local macro_rules | `(tactic| walk_at "pq") => `(tactic| repeat (first | walk_at "pq1" | walk_at "pq2" | walk_at "pq3"))
/-! ### stretches -/
namespace Str3
/-- what is left behind it -/
def app (s : Str3) (x : Int) : Option Int := match s.need with
  | none => none
  | some n => if x < n then none else some (min s.top (x + s.gain))
theorem app_barred (x : Int) : barred.app x = none := rfl
theorem app_add (a b : Str3) (x : Int) : (a.add b).app x = (a.app x).bind b.app := by
  obtain ⟨na, ga, ta⟩ := a
  obtain ⟨nb, gb, tb⟩ := b
  cases na with
  | none => rw [add_none (.inl rfl)]; rfl
  | some n =>
    cases nb with
    | none =>
      rw [add_none (.inr rfl)]
      show none = Option.bind (if x < n then none else some (min ta (x + ga))) _
      split <;> rfl
    | some m =>
      rw [add_some]
      show _ = Option.bind (if x < n then none else some (min ta (x + ga))) (fun y => if y < m then none else some (min tb (y + gb)))
      by_cases h1 : ta < m
      · rw [if_pos h1]
        by_cases h2 : x < n
        · rw [if_pos h2]; rfl
        · rw [if_neg h2]
          show none = if min ta (x + ga) < m then none else _
          rw [if_pos (by omega)]
      · rw [if_neg h1]
        show (if x < max n (m - ga) then none else some (min (min (ta + gb) tb) (x + (ga + gb)))) = _
        by_cases h2 : x < n
        · rw [if_pos h2, if_pos (by omega)]; rfl
        · rw [if_neg h2]
          show _ = if min ta (x + ga) < m then none else some (min tb (min ta (x + ga) + gb))
          by_cases h3 : x + ga < m
          · rw [if_pos (by omega), if_pos (by omega)]
          · rw [if_neg (by omega), if_neg (by omega)]
            congr 1
            omega
end Str3
/-- all together -/
def sumS : List Str3 → Str3
  | [] => Str3.barred
  | s :: ss => ss.foldl Str3.add s
theorem foldl_ok : ∀ (ss : List Str3) (s : Str3), s.Ok → (∀ x ∈ ss, Str3.Ok x) → (ss.foldl Str3.add s).Ok
  | [], s, h, _ => h
  | x :: ss, s, h, hs => foldl_ok ss (s.add x) (Str3.ok_add h (hs x (by simp))) fun y hy => hs y (by simp [hy])
theorem sumS_ok {ss : List Str3} (h : ∀ x ∈ ss, Str3.Ok x) : (sumS ss).Ok := by
  cases ss with
  | nil => exact Str3.ok_barred
  | cons s ss => exact foldl_ok ss s (h s (by simp)) fun y hy => h y (by simp [hy])
/-- one leg -/
def legS (c : Int) (r : Int × Int) : Str3 := if c < r.2 then Str3.barred else ⟨some (max 0 (r.2 - r.1)), r.1 - r.2, c - r.2⟩
theorem legS_ok {c : Int} {r : Int × Int} : (legS c r).Ok := by
  unfold legS
  split
  · exact Str3.ok_barred
  · show 0 ≤ max 0 (r.2 - r.1) ∧ 0 ≤ max 0 (r.2 - r.1) + (r.1 - r.2) ∧ 0 ≤ c - r.2
    omega
/-- so many legs from a post on -/
def stW (c : Int) (rs : List (Int × Int)) (i n : Nat) : Str3 :=
  if n / rs.length = 0 then sumS (((rot rs i).map (legS c)).take (n % rs.length))
  else sumS ((sumS ((rot rs i).map (legS c))).mul ((n / rs.length : Nat) : Int) :: ((rot rs i).map (legS c)).take (n % rs.length))
theorem legs_ok {c : Int} {xs : List (Int × Int)} : ∀ x ∈ xs.map (legS c), Str3.Ok x := fun x hx => by
  obtain ⟨r, _, e⟩ := List.mem_map.mp hx
  rw [← e]
  exact legS_ok
theorem stW_ok {c : Int} {rs : List (Int × Int)} {i n : Nat} : (stW c rs i n).Ok := by
  unfold stW
  split
  · exact sumS_ok fun x hx => legs_ok x (List.mem_of_mem_take hx)
  · refine sumS_ok fun x hx => ?_
    rcases List.mem_cons.mp hx with e | e
    · rw [e]
      exact Str3.ok_mul (sumS_ok legs_ok) _
    · exact legs_ok x (List.mem_of_mem_take e)
section
variable {Q : QD} {E : QR} {p a b c x : Int} {rs : List (Int × Int)} {r : Int × Int} {i n : Nat} {s t : Str3}
theorem n_St_some {n g tp : Int} (h1 : 0 ≤ n) (h2 : 0 ≤ n + g) (h3 : 0 ≤ tp) (h : Q (dSt ⟨some n, g, tp⟩)) : S_Stretch_init [.int n, .int g, .int tp] Q E := by
  refine ⟨rfl, ?_⟩
  show b_Stretch_init [.obj 12 [] [], .val (.int n), .val (.int g), .val (.int tp)] _
  unfold b_Stretch_init
  walk_at "pq"
  refine n_from ?_
  rw [decide_eq_true h1]
  walk_at "pq"
  refine n_is_number ?_
  walk_at "pq"
  refine p_bF (decide_eq_false (by omega)) ?_
  walk_at "pq"
  refine n_from ?_
  rw [decide_eq_true h3]
  walk_at "pq"
  exact ⟨rfl, h⟩
theorem n_St_none (h : Q (dSt Str3.barred)) : S_Stretch_init [.non, .int 0, .int 0] Q E := by
  refine ⟨rfl, ?_⟩
  show b_Stretch_init [.obj 12 [] [], .val .non, .val (.int 0), .val (.int 0)] _
  unfold b_Stretch_init
  walk_at "pq"
  refine n_is_number ?_
  walk_at "pq"
  refine n_from ?_
  walk_at "pq"
  refine p_bF (by decide) ?_
  walk_at "pq"
  exact ⟨rfl, h⟩
theorem n_barred (h : Q (dSt Str3.barred)) : S_Stretch_barred [.cls 12] Q E := by
  refine ⟨rfl, ?_⟩
  show b_Stretch_barred [.val (.cls 12)] _
  unfold b_Stretch_barred
  walk_at "pq"
  exact n_St_none h
theorem n_need (h : Q (dN s.need)) : S_Stretch_need [dSt s] Q E := by
  refine ⟨rfl, ?_⟩
  show b_Stretch_need [.val (dSt s)] _
  unfold b_Stretch_need dSt
  walk_at "pq"
  exact h
theorem n_gain (h : Q (.int s.gain)) : S_Stretch_gain [dSt s] Q E := by
  refine ⟨rfl, ?_⟩
  show b_Stretch_gain [.val (dSt s)] _
  unfold b_Stretch_gain dSt
  walk_at "pq"
  exact h
theorem n_top (h : Q (.int s.top)) : S_Stretch_top [dSt s] Q E := by
  refine ⟨rfl, ?_⟩
  show b_Stretch_top [.val (dSt s)] _
  unfold b_Stretch_top dSt
  walk_at "pq"
  exact h
theorem n_call (h0 : 0 ≤ x) (h : Q (dN (s.app x))) : S_Stretch_call [dSt s, .int x] Q E := by
  refine ⟨rfl, ?_⟩
  show b_Stretch_call [.val (dSt s), .val (.int x)] _
  unfold b_Stretch_call dSt
  walk_at "pq"
  refine n_check_from h0 ?_
  walk_at "pq"
  obtain ⟨need, g, tp⟩ := s
  cases need with
  | none =>
    show oIs .non .non _
    walk_at "pq"
    exact h
  | some n =>
    show oIs (.int n) .non _
    walk_at "pq"
    show oLt (.int x) (.int n) _
    walk_at "pq"
    have h : Q (dN (if x < n then none else some (min tp (x + g)))) := h
    refine p_dec (fun z => ?_) (fun z => ?_)
    · rw [if_pos z] at h
      walk_at "pq"
      exact h
    · rw [if_neg z] at h
      walk_at "pq"
      exact h
theorem n_add (hs : s.Ok) (ht : t.Ok) (h : Q (dSt (s.add t))) : S_Stretch_add [dSt s, dSt t] Q E := by
  refine ⟨rfl, ?_⟩
  show b_Stretch_add [.val (dSt s), .val (dSt t), .un, .un] _
  unfold b_Stretch_add dSt
  walk_at "pq"
  refine ⟨by simp, rfl, ?_⟩
  walk_at "pq"
  obtain ⟨ns, gs, ts⟩ := s
  obtain ⟨nt, gt, tt⟩ := t
  cases ns with
  | none =>
    rw [Str3.add_none (.inl rfl)] at h
    show oIs .non .non _
    walk_at "pq"
    exact n_barred h
  | some m =>
    show oIs (.int m) .non _
    walk_at "pq"
    cases nt with
    | none =>
      rw [Str3.add_none (.inr rfl)] at h
      show oIs .non .non _
      walk_at "pq"
      exact n_barred h
    | some k =>
      rw [Str3.add_some] at h
      show oIs (.int k) .non _
      walk_at "pq"
      show oLt (.int ts) (.int k) _
      walk_at "pq"
      have hs : 0 ≤ m ∧ 0 ≤ m + gs ∧ 0 ≤ ts := hs
      have ht : 0 ≤ k ∧ 0 ≤ k + gt ∧ 0 ≤ tt := ht
      refine p_dec (fun z => ?_) (fun z => ?_)
      · rw [if_pos z] at h
        walk_at "pq"
        exact n_barred h
      · rw [if_neg z] at h
        walk_at "pq"
        show oSub (.int k) (.int gs) _
        walk_at "pq"
        show bMax2 [.int m, .int (k - gs)] _
        walk_at "pq"
        show S_Stretch_init [.int (max m (k - gs)), .int (gs + gt), .int (min (ts + gt) tt)] _ _
        exact n_St_some (by omega) (by omega) (by omega) h
theorem rep_step (n : Nat) (ds : List D) (Q : QD) (E : QR) (h : S_rep (n + 1) ds Q E) : specOf 2 4 (b_repeated (S_rep n)) ds Q E := by
  obtain ⟨s, k, rfl, ok, k1, k2, q⟩ := h
  refine ⟨rfl, ?_⟩
  show b_repeated (S_rep n) [.val (dSt s), .val (.int k), .un, .un] _
  unfold b_repeated
  walk_at "pq"
  refine p_dec (fun z => ?_) (fun z => ?_)
  · subst z
    walk_at "pq"
    exact q
  · walk_at "pq"
    refine o_div (by decide) (big_of (by decide)) ?_
    walk_at "pq"
    have e : (2 : Int) ^ (n + 1) = 2 * 2 ^ n := by rw [Int.pow_succ, Int.mul_comm]
    refine ⟨s, k / 2, rfl, ok, by omega, by omega, ?_⟩
    have om := Str3.ok_mul ok (k / 2)
    have ha := Str3.ok_add om om
    rw [Str3.mul_half (by omega)] at q
    walk_at "pq"
    refine ⟨⟨rfl, rfl⟩, n_add om om ?_⟩
    walk_at "pq"
    refine o_odd (by omega) ?_
    walk_at "pq"
    by_cases z2 : k % 2 = 1
    · rw [if_pos z2] at q
      rw [z2]
      refine p_bT rfl ?_
      walk_at "pq"
      exact ⟨⟨rfl, rfl⟩, n_add ha ok q⟩
    · rw [if_neg z2] at q
      rw [show k % 2 = 0 by omega]
      refine p_bF rfl ?_
      walk_at "pq"
      exact q
theorem n_mul {k : Int} (ok : s.Ok) (k1 : 1 ≤ k) (k2 : k ≤ 1000000000000000000) (h : Q (dSt (s.mul k))) : S_Stretch_mul [dSt s, .int k] Q E := by
  refine ⟨rfl, ?_⟩
  show b_Stretch_mul [.val (dSt s), .val (.int k)] _
  unfold b_Stretch_mul
  walk_at "pq"
  refine n_check_within k1 k2 ?_
  walk_at "pq"
  refine ⟨s, k, rfl, ok, k1, ?_, h⟩
  have : (2 : Int) ^ 60 = 1152921504606846976 := by decide
  omega
theorem n_leg (h1 : 0 ≤ r.1) (h2 : 1 ≤ r.2) (h : Q (dSt (legS c r))) : S_leg [.int c, .int r.1, .int r.2] Q E := by
  refine ⟨rfl, ?_⟩
  show b_leg [.val (.int c), .val (.int r.1), .val (.int r.2)] _
  unfold b_leg
  walk_at "pq"
  unfold legS at h
  refine p_dec (fun z => ?_) (fun z => ?_)
  · rw [if_pos z] at h
    walk_at "pq"
    exact n_barred h
  · rw [if_neg z] at h
    walk_at "pq"
    exact n_St_some (by omega) (by omega) (by omega) h
theorem jn_go (K : KN) (e0 : Sl) (hK : ∀ s e2, s = s → K.nx [e0, .val (dSt s), e2] → True) : ∀ (ss : List Str3) (s : Str3) (e2 : Sl), s.Ok → (∀ x ∈ ss, Str3.Ok x) → (∀ e2, K.nx [e0, .val (dSt (ss.foldl Str3.add s)), e2]) →
    wForGo (.nm 2) (wSet 1 (wOpC 12 S_Stretch_add (wName 1) (wName 2))) K (ss.map dSt) [e0, .val (dSt s), e2]
  | [], s, e2, _, _, h => h e2
  | x :: ss, s, e2, ok, oks, h => by
    refine p_put1 ?_
    dsimp only [List.set]
    walk_at "pq"
    refine ⟨⟨rfl, rfl⟩, n_add ok (oks x (by simp)) ?_⟩
    dsimp only [List.set]
    exact jn_go K e0 hK ss (s.add x) _ (Str3.ok_add ok (oks x (by simp))) (fun y hy => oks y (by simp [hy])) h
theorem n_joined {ss : List Str3} (l1 : 1 ≤ ss.length) (ok : ∀ x ∈ ss, Str3.Ok x) (h : Q (dSt (sumS ss))) : S_joined [.lst (ss.map dSt)] Q E := by
  refine ⟨rfl, ?_⟩
  show b_joined [.val (.lst (ss.map dSt)), .un, .un] _
  cases ss with
  | nil => simp at l1
  | cons s ss =>
    unfold b_joined
    walk_at "pq"
    refine o_ixL (k := 0) (ixD_nat (i := 0) (by simp)) rfl ?_
    walk_at "pq"
    rw [show cutD (List.map dSt (s :: ss)) (some 1) none = ss.map dSt from cutD_from _ 1 (by simp)]
    dsimp only [List.set]
    refine jn_go _ _ (fun _ _ _ _ => trivial) ss s _ (ok s (by simp)) (fun y hy => ok y (by simp [hy])) fun e2 => ?_
    walk_at "pq"
    exact h
theorem take_ok {c : Int} {xs : List (Int × Int)} {k : Nat} : ∀ x ∈ (xs.map (legS c)).take k, Str3.Ok x := fun x hx => legs_ok x (List.mem_of_mem_take hx)
theorem n_stretch (hv : WV c rs) (hi : i < rs.length) (n1 : 1 ≤ n) (n2 : n ≤ 1000000000000000000) (h : Q (dSt (stW c rs i n))) : S_Way_stretch [dW c rs, .int (i : Int), .int (n : Int)] Q E := by
  have l1 := hv.l1
  have l2 := hv.l2
  refine ⟨rfl, ?_⟩
  show b_Way_stretch [.val (dW c rs), .val (.int (i : Int)), .val (.int (n : Int)), .un, .un, .un, .un, .un] _
  unfold b_Way_stretch dW
  walk_at "pq"
  refine n_check_post (by omega) (by rw [List.length_map]; omega) ?_
  walk_at "pq"
  refine n_check_within (by omega) (by omega) ?_
  walk_at "pq"
  refine n_posts_from l2 hi ?_
  walk_at "pq"
  refine ⟨by rw [List.length_map, rot_len (by omega)]; simp [LIM]; omega, ?_⟩
  refine lc_mapT dP (fun r => dSt (legS c r)) (rot rs i) [] ?_ ?_
  · intro r hr A hA
    refine p_put rfl ?_
    dsimp only [wipeE, List.set, setMany]
    walk_at "pq"
    have hp := hv.pv r (rot_mem hr)
    exact n_leg hp.1.1 hp.2.1 hA
  rw [List.nil_append, show ((rot rs i).map fun r => dSt (legS c r)) = ((rot rs i).map (legS c)).map dSt by rw [List.map_map]; rfl]
  walk_at "pq"
  rw [show (((rot rs i).map (legS c)).map dSt).length = rs.length by rw [List.length_map, List.length_map, rot_len (by omega)]]
  refine b_divmod (by omega) ?_
  walk_at "pq"
  dsimp only [List.set, setMany]
  rw [← Int.natCast_ediv, ← Int.natCast_emod]
  have hL : ((rot rs i).map (legS c)).length = rs.length := by rw [List.length_map, rot_len (by omega)]
  have hm : n % rs.length < rs.length := Nat.mod_lt _ (by omega)
  have hd := Nat.div_add_mod n rs.length
  have hq := Nat.div_le_self n rs.length
  unfold stW at h
  by_cases z : n / rs.length = 0
  · rw [if_pos z] at h
    rw [z]
    rw [z] at hd
    walk_at "pq"
    refine p_bT (by decide) ?_
    walk_at "pq"
    rw [cutD_to _ _ (by rw [List.length_map, hL]; omega), ← List.map_take]
    exact n_joined (by rw [List.length_take, hL]; omega) take_ok h
  · rw [if_neg z] at h
    walk_at "pq"
    refine p_bF (decide_eq_false (by omega)) ?_
    walk_at "pq"
    refine n_joined (by omega) legs_ok ?_
    walk_at "pq"
    have hz : (1 : Int) ≤ ((n / rs.length : Nat) : Int) := Int.ofNat_le.mpr (Nat.one_le_iff_ne_zero.mpr z)
    have hz2 : ((n / rs.length : Nat) : Int) ≤ 1000000000000000000 := Int.ofNat_le.mpr (Nat.le_trans hq n2)
    refine ⟨rfl, rfl, n_mul (sumS_ok legs_ok) hz hz2 ?_⟩
    walk_at "pq"
    refine ⟨by show 1 ≤ LIM; decide, ?_⟩
    walk_at "pq"
    rw [cutD_to _ _ (by rw [List.length_map, hL]; omega), ← List.map_take]
    refine o_addL (by simp [LIM]; omega) ?_
    walk_at "pq"
    refine n_joined (ss := (sumS ((rot rs i).map (legS c))).mul ((n / rs.length : Nat) : Int) :: ((rot rs i).map (legS c)).take (n % rs.length)) (by simp) (fun x hx => ?_) h
    rcases List.mem_cons.mp hx with e | e
    · rw [e]
      exact Str3.ok_mul (sumS_ok legs_ok) _
    · exact take_ok x e
end
end Oil
namespace Oil
open PySem PySem.Spec PyProof.Rows L2
local macro_rules | `(tactic| walk_at "pq1") => `(tactic| with_reducible first
  | refine p_seq ?_ | refine p_skip ?_ | refine p_set ?_ | refine p_setO ?_ | refine p_kown ?_ | refine p_unp ?_ | refine p_put rfl ?_ | refine p_put1 ?_
  | refine p_par ?_ | refine p_pnil ?_ | refine p_pval ?_ | refine p_pown ?_ | refine p_kpown ?_ | refine p_expr ?_ | refine p_ret ?_ | refine p_retN ?_ | refine p_ifS ?_
  | refine p_for ?_ | refine p_raise ?_ | refine p_c ?_ | refine p_op ?_ | refine p_neg ?_ | refine p_kneg ?_ | refine p_chain ?_ | refine p_and ?_ | refine p_or ?_ | refine p_not ?_ | refine p_knot ?_
  | refine p_if ?_ | refine p_nil ?_ | refine p_cons ?_ | refine p_star ?_ | refine p_kstarT ?_ | refine p_kstarL ?_ | refine p_tup ?_ | refine p_lst ?_ | refine p_call ?_ | refine p_cb ?_ | refine p_val ?_ | refine p_kval ?_
  | refine p_ttru ?_ | refine p_ktruN ?_ | refine p_ktruB ?_ | refine p_ktruI ?_ | refine p_ktruL ?_ | refine p_ktruT ?_ | refine p_tnot ?_ | refine p_tand ?_ | refine p_tor ?_
  | refine p_nopart ?_ | refine p_part ?_ | refine p_kpart ?_ | refine p_slice ?_ | refine p_ksliceL ?_ | refine p_ksliceT ?_ | refine p_fld ?_ | refine p_meth ?_ | refine p_clo ?_ | refine p_kclo rfl ?_ | refine p_prop ?_ | refine p_kprop rfl ?_
  | refine p_inv ?_ | refine p_kinv rfl ?_ | refine p_lenO ?_ | refine p_klenO rfl ?_ | refine p_get ?_ | refine p_kget rfl ?_ | refine p_cmeth ?_ | refine p_kcmeth rfl ?_ | refine p_opC ?_ | refine p_kopC rfl rfl ?_ | refine p_opF ?_ | refine p_kopF rfl rfl ?_
  | refine p_eqO ?_ | refine p_keqO rfl rfl ?_ | refine p_iter ?_ | refine p_kiterL ?_ | refine p_kiterT ?_ | refine p_rg1 ?_ | refine p_rg2 ?_ | refine p_enum ?_ | refine p_kenum ?_ | refine p_lc ?_ | refine p_yes ?_
  | refine p_tt ?_ | refine p_ff ?_
  | refine o_add ?_ | refine o_sub ?_ | refine o_lt ?_ | refine o_le ?_ | refine o_gt ?_ | refine o_ge ?_
  | refine b_lenL ?_ | refine b_lenT ?_ | refine b_int ?_ | refine b_tupL ?_ | refine b_tupT ?_ | refine b_listL ?_ | refine b_listT ?_ | refine b_max2 ?_ | refine b_min2 ?_)
local macro_rules | `(tactic| walk_at "pq2") => `(tactic| with_reducible first
  | refine p_name (by with_unfolding_all rfl) ?_ | refine p_ownV (by with_unfolding_all rfl) ?_ | refine p_own (by with_unfolding_all rfl) ?_ | refine p_app (by with_unfolding_all rfl) ?_ | refine p_putI (by with_unfolding_all rfl) ?_
  | refine p_frz (by with_unfolding_all rfl) ?_ | refine p_frzV (by with_unfolding_all rfl) ?_ | refine p_kfld (by with_unfolding_all rfl) (by with_unfolding_all rfl) ?_ | refine p_kmeth (by with_unfolding_all rfl) (by decide) ?_ | refine p_makL (by with_unfolding_all rfl) (by with_unfolding_all rfl) ?_
  | refine p_self (by with_unfolding_all rfl) (by decide) (by with_unfolding_all rfl) (by decide) ?_)
local macro_rules | `(tactic| walk_at "pq3") => `(tactic| with_reducible first
  | refine o_eqI ?_ | refine o_neI ?_ | refine o_isNon ?_ | refine o_isInt ?_ | refine o_isNotNon ?_ | refine o_isNotInt ?_ | refine p_kandT ?_ | refine p_kandF ?_ | refine p_korT ?_ | refine p_korF ?_ | refine p_nt ?_ | refine p_nf ?_)
local macro_rules | `(tactic| walk_at "pq") => `(tactic| repeat (first | walk_at "pq1" | walk_at "pq2" | walk_at "pq3"))
/-! ### walks, by numbers alone -/
/-- one leg with c in the lantern at most -/
def step (c : Int) (r : Int × Int) (x : Int) : Option Int := if min c (x + r.1) < r.2 then none else some (min c (x + r.1) - r.2)
/-- the leg after k legs -/
def nth (L : List (Int × Int)) (k : Nat) : Int × Int := L[k % L.length]?.getD (0, 1)
def walk (c : Int) (L : List (Int × Int)) (x : Int) : Nat → Option Int
  | 0 => some x
  | n + 1 => (walk c L x n).bind (step c (nth L n))
theorem legS_app {c : Int} {r : Int × Int} {x : Int} (hx : 0 ≤ x) (hr : 0 ≤ r.1) : (legS c r).app x = step c r x := by
  unfold legS step
  by_cases h : c < r.2
  · rw [if_pos h, if_pos (by omega)]
    rfl
  · rw [if_neg h]
    show (if x < max 0 (r.2 - r.1) then none else some (min (c - r.2) (x + (r.1 - r.2)))) = _
    by_cases h2 : min c (x + r.1) < r.2
    · rw [if_pos h2, if_pos (by omega)]
    · rw [if_neg h2, if_neg (by omega)]
      congr 1
      omega
theorem step_nonneg {c : Int} {r : Int × Int} {x y : Int} (h : step c r x = some y) : 0 ≤ y := by
  unfold step at h
  split at h
  · exact absurd h (by simp)
  · have := Option.some.inj h
    omega
theorem walk_nonneg {c : Int} {L : List (Int × Int)} {x y : Int} (hx : 0 ≤ x) : ∀ {n : Nat}, walk c L x n = some y → 0 ≤ y
  | 0, h => by
    have := Option.some.inj h
    omega
  | n + 1, h => by
    unfold walk at h
    cases e : walk c L x n with
    | none => rw [e] at h; exact absurd h (by simp)
    | some z => rw [e] at h; exact step_nonneg h
theorem nth_lt {L : List (Int × Int)} {k : Nat} (h : k < L.length) : nth L k = L[k] := by
  unfold nth
  rw [Nat.mod_eq_of_lt h, List.getElem?_eq_getElem h]
  rfl
theorem nth_add {L : List (Int × Int)} {q k : Nat} : nth L (L.length * q + k) = nth L k := by
  unfold nth
  rw [Nat.mul_add_mod]
theorem nth_mem {L : List (Int × Int)} {k : Nat} (h : 0 < L.length) : nth L k ∈ L := by
  have h2 := Nat.mod_lt k h
  unfold nth
  rw [List.getElem?_eq_getElem h2]
  exact List.getElem_mem h2
theorem bind_none {f : Int → Option Int} : Option.bind none f = none := rfl
theorem walk_add {c : Int} {L : List (Int × Int)} {x : Int} {q : Nat} : ∀ {n : Nat}, walk c L x (L.length * q + n) = (walk c L x (L.length * q)).bind fun y => walk c L y n
  | 0 => by
    show walk c L x (L.length * q) = (walk c L x (L.length * q)).bind fun y => some y
    cases walk c L x (L.length * q) <;> rfl
  | n + 1 => by
    show (walk c L x (L.length * q + n)).bind (step c (nth L (L.length * q + n))) = (walk c L x (L.length * q)).bind fun y => (walk c L y n).bind (step c (nth L n))
    rw [walk_add, show nth L (L.length * q + n) = nth L n from nth_add]
    cases walk c L x (L.length * q) <;> rfl
theorem walk_none {c : Int} {L : List (Int × Int)} {x : Int} {n : Nat} (h : walk c L x n = none) : ∀ m, walk c L x (n + m) = none
  | 0 => h
  | m + 1 => by
    show (walk c L x (n + m)).bind _ = none
    rw [walk_none h m]
    rfl
/-- stretches of the first legs -/
theorem fold_app {c : Int} {L : List (Int × Int)} {x : Int} (hx : 0 ≤ x) (hL : ∀ r ∈ L, 0 ≤ r.1) : ∀ (m k : Nat) (s : Str3), k + m ≤ L.length → s.app x = walk c L x k → ((((L.map (legS c)).drop k).take m).foldl Str3.add s).app x = walk c L x (k + m)
  | 0, k, s, _, h => by rw [List.take_zero]; exact h
  | m + 1, k, s, hk, h => by
    have hk2 : k < L.length := by omega
    have e : (L.map (legS c)).drop k = legS c L[k] :: (L.map (legS c)).drop (k + 1) := by
      rw [List.drop_eq_getElem_cons (by rw [List.length_map]; exact hk2), List.getElem_map]
    rw [e, List.take_succ_cons, List.foldl_cons, show k + (m + 1) = (k + 1) + m by omega]
    refine fold_app hx hL m (k + 1) _ (by omega) ?_
    rw [Str3.app_add, h]
    show _ = (walk c L x k).bind _
    cases e2 : walk c L x k with
    | none => rfl
    | some y =>
      show (legS c L[k]).app y = step c (nth L k) y
      rw [nth_lt hk2, legS_app (walk_nonneg hx e2) (hL _ (List.getElem_mem hk2))]
theorem sum_take {c : Int} {L : List (Int × Int)} {x : Int} (hx : 0 ≤ x) (hL : ∀ r ∈ L, 0 ≤ r.1) {n : Nat} (h1 : 1 ≤ n) (h2 : n ≤ L.length) : (sumS ((L.map (legS c)).take n)).app x = walk c L x n := by
  cases L with
  | nil => simp at h2; omega
  | cons r L =>
    obtain ⟨k, rfl⟩ : ∃ k, n = k + 1 := ⟨n - 1, by omega⟩
    rw [List.map_cons, List.take_succ_cons]
    show (((L.map (legS c)).take k).foldl Str3.add (legS c r)).app x = _
    have := fold_app (c := c) (L := r :: L) hx hL k 1 (legS c r) (by omega) (by
      rw [legS_app hx (hL r (by simp))]
      show _ = (some x).bind (step c (nth (r :: L) 0))
      rw [nth_lt (by simp)]
      rfl)
    rw [show k + 1 = 1 + k by omega]
    exact this
theorem sum_all {c : Int} {L : List (Int × Int)} {x : Int} (hx : 0 ≤ x) (hL : ∀ r ∈ L, 0 ≤ r.1) (h1 : 1 ≤ L.length) : (sumS (L.map (legS c))).app x = walk c L x L.length := by
  have := sum_take (c := c) hx hL h1 (Nat.le_refl _)
  rwa [List.take_of_length_le (by simp)] at this
theorem rep_app {c : Int} {L : List (Int × Int)} {x : Int} (hx : 0 ≤ x) (hL : ∀ r ∈ L, 0 ≤ r.1) (h1 : 1 ≤ L.length) : ∀ k : Nat, ((sumS (L.map (legS c))).rep k).app x = walk c L x (L.length * (k + 1))
  | 0 => by
    rw [Nat.mul_one]
    exact sum_all hx hL h1
  | k + 1 => by
    show (((sumS (L.map (legS c))).rep k).add _).app x = _
    rw [Str3.app_add, rep_app hx hL h1 k, Nat.mul_succ L.length (k + 1), walk_add (q := k + 1)]
    cases e : walk c L x (L.length * (k + 1)) with
    | none => rfl
    | some y => exact sum_all (walk_nonneg hx e) hL h1
theorem foldl_add : ∀ (ss : List Str3) (s t : Str3), (ss.foldl Str3.add (s.add t)) = s.add (ss.foldl Str3.add t)
  | [], _, _ => rfl
  | u :: ss, s, t => by
    rw [List.foldl_cons, List.foldl_cons, Str3.add_assoc]
    exact foldl_add ss s (t.add u)
theorem foldl_sum : ∀ (ss : List Str3) (s : Str3), ss ≠ [] → (ss.foldl Str3.add s) = s.add (sumS ss)
  | [], s, h => absurd rfl h
  | t :: ss, s, _ => foldl_add ss s t
/-- what a way's stretch tells is what walking tells -/
theorem stW_app {c : Int} {rs : List (Int × Int)} {i n : Nat} {x : Int} (hx : 0 ≤ x) (hv : ∀ r ∈ rs, 0 ≤ r.1) (hi : i < rs.length) (n1 : 1 ≤ n) : (stW c rs i n).app x = walk c (rot rs i) x n := by
  have hl := rot_len (rs := rs) (i := i) (by omega)
  have hL : ∀ r ∈ rot rs i, 0 ≤ r.1 := fun r hr => hv r (rot_mem hr)
  have hd := Nat.div_add_mod n rs.length
  have hm : n % rs.length < rs.length := Nat.mod_lt _ (by omega)
  unfold stW
  by_cases z : n / rs.length = 0
  · rw [if_pos z]
    rw [z] at hd
    rw [show n % rs.length = n by omega]
    exact sum_take hx hL n1 (by omega)
  · rw [if_neg z]
    have e1 : ((sumS ((rot rs i).map (legS c))).mul ((n / rs.length : Nat) : Int)).app x = walk c (rot rs i) x ((rot rs i).length * (n / rs.length)) := by
      unfold Str3.mul
      rw [rep_app hx hL (by omega), Int.toNat_natCast, Nat.sub_add_cancel (Nat.one_le_iff_ne_zero.mpr z)]
    show ((((rot rs i).map (legS c)).take (n % rs.length)).foldl Str3.add _).app x = _
    by_cases z2 : n % rs.length = 0
    · rw [z2, List.take_zero, List.foldl_nil, e1, hl]
      congr 1
      omega
    · rw [foldl_sum _ _ (by
        intro h
        have := congrArg List.length h
        rw [List.length_take, List.length_map, hl, List.length_nil] at this
        omega), Str3.app_add, e1]
      have : n = (rot rs i).length * (n / rs.length) + n % rs.length := by rw [hl]; exact hd.symm
      conv => rhs; rw [this]
      rw [walk_add]
      cases e : walk c (rot rs i) x ((rot rs i).length * (n / rs.length)) with
      | none => rfl
      | some y => exact sum_take (walk_nonneg hx e) hL (by omega) (by omega)
/-- more in the lantern never leaves less -/
theorem step_mono {c c' : Int} {r : Int × Int} {x x' y : Int} (hc : c ≤ c') (hx : x ≤ x') (h : step c r x = some y) : ∃ y', step c' r x' = some y' ∧ y ≤ y' := by
  unfold step at h ⊢
  split at h
  · exact absurd h (by simp)
  · have := Option.some.inj h
    rw [if_neg (by omega)]
    exact ⟨_, rfl, by omega⟩
theorem walk_mono {c c' : Int} {L : List (Int × Int)} {x x' : Int} (hc : c ≤ c') (hx : x ≤ x') : ∀ {n : Nat} {y : Int}, walk c L x n = some y → ∃ y', walk c' L x' n = some y' ∧ y ≤ y'
  | 0, y, h => ⟨x', rfl, by have := Option.some.inj h; omega⟩
  | n + 1, y, h => by
    unfold walk at h ⊢
    cases e : walk c L x n with
    | none => rw [e] at h; exact absurd h (by simp)
    | some z =>
      rw [e] at h
      obtain ⟨z', e', hz⟩ := walk_mono hc hx e
      rw [e']
      exact step_mono hc hz h
/-- what is gained by so many legs -/
def gains (L : List (Int × Int)) : Nat → Int
  | 0 => 0
  | n + 1 => gains L n + ((nth L n).1 - (nth L n).2)
/-- what a full lantern must hold from leg f to leg t -/
def lackR (L : List (Int × Int)) (f t : Nat) : Int := (nth L f).1 + gains L f - gains L t
theorem lack_step (L : List (Int × Int)) (f t : Nat) : lackR L f (t + 1) = lackR L f t - (nth L t).1 + (nth L t).2 := by
  unfold lackR
  rw [show gains L (t + 1) = gains L t + ((nth L t).1 - (nth L t).2) from rfl]
  omega
/-- with enough in a full lantern one never stops -/
theorem walk_full {c : Int} {L : List (Int × Int)} (hL : ∀ k, 0 ≤ (nth L k).1) {x : Int} (hx : c ≤ x) {N : Nat} (hc : ∀ f t, f < t → t ≤ N → lackR L f t ≤ c) (c0 : 0 ≤ c) : ∀ n, n ≤ N → ∃ y, walk c L x n = some y ∧ 0 ≤ y ∧ (c ≤ y ∨ ∃ f, f < n ∧ c - lackR L f n ≤ y)
  | 0, _ => ⟨x, rfl, by omega, .inl hx⟩
  | n + 1, hn => by
    obtain ⟨y, e, y0, hy⟩ := walk_full hL hx hc c0 n (by omega)
    unfold walk
    rw [e]
    show ∃ y', step c (nth L n) y = some y' ∧ _
    have h1 := hc n (n + 1) (by omega) hn
    have h2 := hL n
    have h3 : lackR L n (n + 1) = (nth L n).2 := by rw [lack_step]; unfold lackR; omega
    by_cases z : c ≤ y + (nth L n).1
    · unfold step
      rw [Int.min_eq_left z, if_neg (by omega)]
      exact ⟨_, rfl, by omega, .inr ⟨n, by omega, by omega⟩⟩
    · rcases hy with hy | ⟨f, hf, hy⟩
      · omega
      · have h4 := hc f (n + 1) (by omega) hn
        rw [lack_step] at h4
        unfold step
        rw [Int.min_eq_right (by omega), if_neg (by omega)]
        exact ⟨_, rfl, by omega, .inr ⟨f, by omega, by rw [lack_step]; omega⟩⟩
/-- with less than a lack one stops -/
theorem walk_less {c : Int} {L : List (Int × Int)} {x : Int} (f : Nat) : ∀ n y, walk c L x (f + 1 + n) = some y → y ≤ c - lackR L f (f + 1 + n)
  | 0, y, h => by
    have h : walk c L x (f + 1) = some y := h
    unfold walk at h
    cases e : walk c L x f with
    | none => rw [e] at h; exact absurd h (by simp)
    | some z =>
      rw [e] at h
      have h : step c (nth L f) z = some y := h
      unfold step at h
      split at h
      · exact absurd h (by simp)
      · have := Option.some.inj h
        rw [Nat.add_zero, lack_step]
        unfold lackR
        omega
  | n + 1, y, h => by
    have h : (walk c L x (f + 1 + n)).bind (step c (nth L (f + 1 + n))) = some y := h
    cases e : walk c L x (f + 1 + n) with
    | none => rw [e] at h; exact absurd h (by simp)
    | some z =>
      rw [e] at h
      have := walk_less f n z e
      have h : step c (nth L (f + 1 + n)) z = some y := h
      unfold step at h
      split at h
      · exact absurd h (by simp)
      · have := Option.some.inj h
        rw [show f + 1 + (n + 1) = f + 1 + n + 1 from rfl, lack_step]
        omega
end Oil
namespace Oil
open PySem PySem.Spec PyProof.Rows L2
local macro_rules | `(tactic| walk_at "pq1") => `(tactic| with_reducible first
  | refine p_seq ?_ | refine p_skip ?_ | refine p_set ?_ | refine p_setO ?_ | refine p_kown ?_ | refine p_unp ?_ | refine p_put rfl ?_ | refine p_put1 ?_
  | refine p_par ?_ | refine p_pnil ?_ | refine p_pval ?_ | refine p_pown ?_ | refine p_kpown ?_ | refine p_expr ?_ | refine p_ret ?_ | refine p_retN ?_ | refine p_ifS ?_
  | refine p_for ?_ | refine p_raise ?_ | refine p_c ?_ | refine p_op ?_ | refine p_neg ?_ | refine p_kneg ?_ | refine p_chain ?_ | refine p_and ?_ | refine p_or ?_ | refine p_not ?_ | refine p_knot ?_
  | refine p_if ?_ | refine p_nil ?_ | refine p_cons ?_ | refine p_star ?_ | refine p_kstarT ?_ | refine p_kstarL ?_ | refine p_tup ?_ | refine p_lst ?_ | refine p_call ?_ | refine p_cb ?_ | refine p_val ?_ | refine p_kval ?_
  | refine p_ttru ?_ | refine p_ktruN ?_ | refine p_ktruB ?_ | refine p_ktruI ?_ | refine p_ktruL ?_ | refine p_ktruT ?_ | refine p_tnot ?_ | refine p_tand ?_ | refine p_tor ?_
  | refine p_nopart ?_ | refine p_part ?_ | refine p_kpart ?_ | refine p_slice ?_ | refine p_ksliceL ?_ | refine p_ksliceT ?_ | refine p_fld ?_ | refine p_meth ?_ | refine p_clo ?_ | refine p_kclo rfl ?_ | refine p_prop ?_ | refine p_kprop rfl ?_
  | refine p_inv ?_ | refine p_kinv rfl ?_ | refine p_lenO ?_ | refine p_klenO rfl ?_ | refine p_get ?_ | refine p_kget rfl ?_ | refine p_cmeth ?_ | refine p_kcmeth rfl ?_ | refine p_opC ?_ | refine p_kopC rfl rfl ?_ | refine p_opF ?_ | refine p_kopF rfl rfl ?_
  | refine p_eqO ?_ | refine p_keqO rfl rfl ?_ | refine p_iter ?_ | refine p_kiterL ?_ | refine p_kiterT ?_ | refine p_rg1 ?_ | refine p_rg2 ?_ | refine p_enum ?_ | refine p_kenum ?_ | refine p_lc ?_ | refine p_yes ?_
  | refine p_tt ?_ | refine p_ff ?_
  | refine o_add ?_ | refine o_sub ?_ | refine o_lt ?_ | refine o_le ?_ | refine o_gt ?_ | refine o_ge ?_
  | refine b_lenL ?_ | refine b_lenT ?_ | refine b_int ?_ | refine b_tupL ?_ | refine b_tupT ?_ | refine b_listL ?_ | refine b_listT ?_ | refine b_max2 ?_ | refine b_min2 ?_)
local macro_rules | `(tactic| walk_at "pq2") => `(tactic| with_reducible first
  | refine p_name (by with_unfolding_all rfl) ?_ | refine p_ownV (by with_unfolding_all rfl) ?_ | refine p_own (by with_unfolding_all rfl) ?_ | refine p_app (by with_unfolding_all rfl) ?_ | refine p_putI (by with_unfolding_all rfl) ?_
  | refine p_frz (by with_unfolding_all rfl) ?_ | refine p_frzV (by with_unfolding_all rfl) ?_ | refine p_kfld (by with_unfolding_all rfl) (by with_unfolding_all rfl) ?_ | refine p_kmeth (by with_unfolding_all rfl) (by decide) ?_ | refine p_makL (by with_unfolding_all rfl) (by with_unfolding_all rfl) ?_
  | refine p_self (by with_unfolding_all rfl) (by decide) (by with_unfolding_all rfl) (by decide) ?_)
local macro_rules | `(tactic| walk_at "pq3") => `(tactic| with_reducible first
  | refine o_eqI ?_ | refine o_neI ?_ | refine o_isNon ?_ | refine o_isInt ?_ | refine o_isNotNon ?_ | refine o_isNotInt ?_ | refine p_kandT ?_ | refine p_kandF ?_ | refine p_korT ?_ | refine p_korF ?_ | refine p_nt ?_ | refine p_nf ?_)
local macro_rules | `(tactic| walk_at "pq") => `(tactic| repeat (first | walk_at "pq1" | walk_at "pq2" | walk_at "pq3"))
/-! ### round ways by numbers -/
theorem nth_rot {rs : List (Int × Int)} {i k : Nat} (hi : i < rs.length) : nth (rot rs i) k = nth rs (i + k) := by
  unfold nth
  rw [rot_len (by omega)]
  have hr : k % rs.length < rs.length := Nat.mod_lt _ (by omega)
  have e : (i + k) % rs.length = (i + k % rs.length) % rs.length := by rw [Nat.add_mod, Nat.mod_eq_of_lt hi]
  rw [e]
  generalize k % rs.length = r at hr
  congr 1
  unfold rot
  by_cases h : i + r < rs.length
  · rw [Nat.mod_eq_of_lt h, List.getElem?_append_left (by rw [List.length_drop]; omega), List.getElem?_drop]
  · rw [Nat.mod_eq_sub_mod (by omega), Nat.mod_eq_of_lt (by omega), List.getElem?_append_right (by rw [List.length_drop]; omega), List.length_drop, List.getElem?_take_of_lt (by omega)]
    congr 1
    omega
theorem gains_rot {rs : List (Int × Int)} {i : Nat} (hi : i < rs.length) : ∀ k, gains (rot rs i) k = gains rs (i + k) - gains rs i
  | 0 => by show (0 : Int) = gains rs i - gains rs i; omega
  | k + 1 => by
    show gains (rot rs i) k + ((nth (rot rs i) k).1 - (nth (rot rs i) k).2) = gains rs (i + k) + ((nth rs (i + k)).1 - (nth rs (i + k)).2) - _
    rw [gains_rot hi k, nth_rot hi]
    omega
theorem lack_rot {rs : List (Int × Int)} {i f t : Nat} (hi : i < rs.length) : lackR (rot rs i) f t = lackR rs (i + f) (i + t) := by
  unfold lackR
  rw [nth_rot hi, gains_rot hi, gains_rot hi]
  omega
theorem gains_take {rs : List (Int × Int)} : ∀ k, k ≤ rs.length → gains rs k = ((rs.take k).map fun r => r.1 - r.2).sum
  | 0, _ => rfl
  | k + 1, h => by
    show gains rs k + _ = _
    rw [gains_take k (by omega), nth_lt (by omega), List.take_succ_eq_append_getElem (by omega), List.map_append, List.sum_append]
    simp
theorem gains_all {rs : List (Int × Int)} : gains rs rs.length = surp rs := by
  rw [gains_take _ (Nat.le_refl _), List.take_of_length_le (Nat.le_refl _)]
  rfl
theorem nth_per {rs : List (Int × Int)} (k : Nat) : nth rs (k + rs.length) = nth rs k := by
  unfold nth
  rw [Nat.add_mod_right]
theorem gains_per {rs : List (Int × Int)} : ∀ k, gains rs (k + rs.length) = gains rs k + surp rs
  | 0 => by rw [Nat.zero_add, gains_all]; show _ = (0 : Int) + _; omega
  | k + 1 => by
    rw [show k + 1 + rs.length = (k + rs.length) + 1 by omega]
    show gains rs (k + rs.length) + _ = gains rs k + _ + _
    rw [gains_per k, nth_per]
    omega
/-- what must be held for so many legs is at most what is told for the legs of a round -/
theorem lack_le {rs : List (Int × Int)} {w : Int} (hn : 1 ≤ rs.length) (hs : 0 ≤ surp rs) (hw : ∀ j l, j < rs.length → 1 ≤ l → l ≤ rs.length → lackR (rot rs j) 0 l ≤ w) : ∀ (m F T : Nat), F + T ≤ m → F < T → lackR rs F T ≤ w
  | 0, F, T, h, h2 => by omega
  | m + 1, F, T, h, h2 => by
    by_cases a : rs.length ≤ F
    · have e := lack_le hn hs hw m (F - rs.length) (T - rs.length) (by omega) (by omega)
      have e1 := gains_per (rs := rs) (F - rs.length)
      have e2 := gains_per (rs := rs) (T - rs.length)
      have e3 := nth_per (rs := rs) (F - rs.length)
      rw [Nat.sub_add_cancel (by omega)] at e1 e2 e3
      unfold lackR at e ⊢
      rw [e1, e2, e3]
      omega
    · by_cases b : T - F ≤ rs.length
      · have := hw F (T - F) (by omega) (by omega) b
        rw [lack_rot (by omega), Nat.add_zero, show F + (T - F) = T by omega] at this
        exact this
      · have e := lack_le hn hs hw m F (T - rs.length) (by omega) (by omega)
        have e2 := gains_per (rs := rs) (T - rs.length)
        rw [Nat.sub_add_cancel (by omega)] at e2
        unfold lackR at e ⊢
        rw [e2]
        omega
def lackL (L : List (Int × Int)) (n : Nat) : List Int := (List.range n).map fun j => lackR L 0 (j + 1)
theorem lackL_len (L : List (Int × Int)) (n : Nat) : (lackL L n).length = n := by simp [lackL]
theorem lackL_get {L : List (Int × Int)} {n j : Nat} (h : j < n) : ((lackL L n).map D.int)[j]? = some (.int (lackR L 0 (j + 1))) := by
  unfold lackL
  rw [List.getElem?_map, List.getElem?_map, List.getElem?_range h]
  rfl
theorem mem_lackL {L : List (Int × Int)} {n : Nat} {y : Int} (h : y ∈ lackL L n) : ∃ j, j < n ∧ y = lackR L 0 (j + 1) := by
  obtain ⟨j, h1, h2⟩ := List.mem_map.mp h
  exact ⟨j, List.mem_range.mp h1, h2.symm⟩
theorem lackL_mem {L : List (Int × Int)} {n j : Nat} (h : j < n) : lackR L 0 (j + 1) ∈ lackL L n := List.mem_map.mpr ⟨j, List.mem_range.mpr h, rfl⟩
/-- is the lantern never out? -/
def endl (c : Int) (rs : List (Int × Int)) (i : Nat) (x : Int) : Bool := decide (0 ≤ surp rs) && (walk c (rot rs i) x (2 * rs.length)).isSome
section
variable {Q : QD} {E : QR} {p a b c x : Int} {rs : List (Int × Int)} {r : Int × Int} {i n : Nat} {s t : Str3}
theorem n_check_start (hv : WV c rs) (hi : i < rs.length) (x0 : 0 ≤ x) (x1 : x ≤ c) (h : Q .non) : S_check_start [dW c rs, .int (i : Int), .int x] Q E := by
  have l2 := hv.l2
  refine ⟨rfl, ?_⟩
  show b_check_start [.val (dW c rs), .val (.int (i : Int)), .val (.int x)] _
  unfold b_check_start dW
  walk_at "pq"
  refine n_len ?_
  refine p_klenI (by omega) ?_
  walk_at "pq"
  refine n_check_post (by omega) (by omega) ?_
  walk_at "pq"
  refine n_capacity ?_
  walk_at "pq"
  exact n_check_within x0 x1 h
theorem n_oil_after (hv : WV c rs) (hi : i < rs.length) (x0 : 0 ≤ x) (x1 : x ≤ c) (n2 : n ≤ 1000000000000000000) (h : Q (dN (walk c (rot rs i) x n))) : S_oil_after [dW c rs, .int (i : Int), .int x, .int (n : Int)] Q E := by
  refine ⟨rfl, ?_⟩
  show b_oil_after [.val (dW c rs), .val (.int (i : Int)), .val (.int x), .val (.int (n : Int)), .un] _
  unfold b_oil_after
  walk_at "pq"
  refine n_check_start hv hi x0 x1 ?_
  walk_at "pq"
  refine n_check_within (by omega) (by omega) ?_
  walk_at "pq"
  refine p_dec (fun z => ?_) (fun z => ?_)
  · walk_at "pq"
    have : n = 0 := by omega
    subst this
    exact h
  · walk_at "pq"
    refine ⟨rfl, by decide, ?_⟩
    walk_at "pq"
    refine n_stretch hv hi (by omega) n2 ?_
    walk_at "pq"
    refine ⟨rfl, ?_⟩
    walk_at "pq"
    refine n_call x0 ?_
    rw [stW_app x0 (fun r hr => (hv.pv r hr).1.1) hi (by omega)]
    exact h
theorem n_least_oil (hv : WV c rs) (hi : i < rs.length) (h : Q (if surp rs < 0 then .non else dN (stW c rs i (2 * rs.length)).need)) : S_least_oil [dW c rs, .int (i : Int)] Q E := by
  have l1 := hv.l1
  have l2 := hv.l2
  refine ⟨rfl, ?_⟩
  show b_least_oil [.val (dW c rs), .val (.int (i : Int)), .un] _
  unfold b_least_oil
  walk_at "pq"
  refine ⟨rfl, by decide, ?_⟩
  walk_at "pq"
  refine ⟨rfl, n_len (p_klenI (by omega) ?_)⟩
  refine o_mul (big_of (by decide)) (big_of (by omega)) ?_
  walk_at "pq"
  rw [show (2 : Int) * (rs.length : Int) = ((2 * rs.length : Nat) : Int) by omega]
  refine n_stretch hv hi (by omega) (by omega) ?_
  walk_at "pq"
  refine ⟨rfl, n_surplus l2 ?_⟩
  walk_at "pq"
  refine p_dec (fun z => ?_) (fun z => ?_)
  · rw [if_pos z] at h
    walk_at "pq"
    exact h
  · rw [if_neg z] at h
    walk_at "pq"
    exact ⟨rfl, n_need h⟩
theorem n_is_endless (hv : WV c rs) (hi : i < rs.length) (x0 : 0 ≤ x) (x1 : x ≤ c) (h : Q (.bl (endl c rs i x))) : S_is_endless [dW c rs, .int (i : Int), .int x] Q E := by
  have l1 := hv.l1
  refine ⟨rfl, ?_⟩
  show b_is_endless [.val (dW c rs), .val (.int (i : Int)), .val (.int x), .un] _
  unfold b_is_endless
  walk_at "pq"
  refine n_check_start hv hi x0 x1 ?_
  walk_at "pq"
  refine n_least_oil hv hi ?_
  unfold endl at h
  rw [← stW_app x0 (fun r hr => (hv.pv r hr).1.1) hi (by omega)] at h
  generalize stW c rs i (2 * rs.length) = s at h ⊢
  by_cases z : surp rs < 0
  · rw [if_pos z]
    rw [decide_eq_false (by omega)] at h
    walk_at "pq"
    exact h
  · rw [if_neg z]
    rw [decide_eq_true (by omega)] at h
    obtain ⟨need, g, tp⟩ := s
    cases need with
    | none =>
      walk_at "pq"
      show oIsNot .non .non _
      walk_at "pq"
      exact h
    | some m =>
      walk_at "pq"
      show oIsNot (.int m) .non _
      walk_at "pq"
      show oGe (.int x) (.int m) _
      walk_at "pq"
      have e : (true && (Str3.app ⟨some m, g, tp⟩ x).isSome) = decide (m ≤ x) := by
        show (if x < m then none else some (min tp (x + g)) : Option Int).isSome = _
        by_cases z2 : m ≤ x
        · rw [if_neg (by omega), decide_eq_true z2]; rfl
        · rw [if_pos (by omega), decide_eq_false z2]; rfl
      rw [e] at h
      exact h
/-! lacks -/
theorem lk_go (K : KN) (L : List (Int × Int)) (d0 d1 d2 : Sl) (hl : 1 ≤ L.length) (hl2 : L.length ≤ 12) (n : Nat) (hn : n ≤ 12) : ∀ (m k : Nat) (d6 d7 d8 : Sl), k + m = n → (∀ d6 d7 d8 a, K.nx [d0, d1, d2, .val (.tup (L.map dP)), a, .own ((lackL L n).map .int), d6, d7, d8]) →
    wForGo (.nm 6) (wSeq (wUnp (.tp [7, 8]) (wOp oIx (wName 3) (wOp oMod (wCB bInt (wCons (wName 6) wNil)) (wCB bLen (wCons (wName 3) wNil)))))
    (wSeq (wSet 4 (wOp oAdd (wOp oSub (wName 4) (wName 7)) (wName 8)))
    (wApp 5 (wName 4)))) K ((List.range' k m).map fun (k : Nat) => D.int (k : Int)) [d0, d1, d2, .val (.tup (L.map dP)), .val (.int (lackR L 0 k)), .own ((lackL L k).map .int), d6, d7, d8]
  | 0, k, d6, d7, d8, hk, h => by
    have : k = n := by omega
    subst this
    exact h d6 d7 d8 _
  | m + 1, k, d6, d7, d8, hk, h => by
    rw [List.range'_succ, List.map_cons]
    refine p_put1 ?_
    dsimp only [List.set]
    walk_at "pq"
    have hr : k % L.length < L.length := Nat.mod_lt _ (by omega)
    rw [List.length_map]
    refine o_mod (by omega) ?_
    rw [Int.fmod_eq_emod_of_nonneg _ (by omega), ← Int.natCast_emod]
    refine o_ixT (k := k % L.length) (x := dP (nth L k)) (ixD_nat (by rw [List.length_map]; exact hr)) ?_ ?_
    · unfold nth
      rw [List.getElem?_map, List.getElem?_eq_getElem hr]
      rfl
    unfold dP
    refine p_put rfl ?_
    dsimp only [List.set, setMany]
    walk_at "pq"
    refine ⟨by rw [List.length_map, lackL_len]; unfold LIM; omega, ?_⟩
    dsimp only [List.set]
    have e1 : lackR L 0 k - (nth L k).1 + (nth L k).2 = lackR L 0 (k + 1) := (lack_step L 0 k).symm
    have e2 : ((lackL L k).map D.int) ++ [.int (lackR L 0 k - (nth L k).1 + (nth L k).2)] = (lackL L (k + 1)).map .int := by
      rw [e1]
      unfold lackL
      rw [List.range_succ, List.map_append, List.map_append]
      rfl
    rw [e2, e1]
    exact lk_go K L d0 d1 d2 hl hl2 n hn m (k + 1) _ _ _ (by omega) h
theorem n_lacks (l1 : 1 ≤ rs.length) (l2 : rs.length ≤ 12) (hi : i < rs.length) (hn : n ≤ 12) (h : Q (.lst ((lackL (rot rs i) n).map .int))) : S_lacks [.tup (rs.map dP), .int (i : Int), .int (n : Int)] Q E := by
  have hL := rot_len (rs := rs) (i := i) (by omega)
  refine ⟨rfl, ?_⟩
  show b_lacks [.val (.tup (rs.map dP)), .val (.int (i : Int)), .val (.int (n : Int)), .un, .un, .un, .un, .un, .un] _
  unfold b_lacks
  walk_at "pq"
  rw [cutD_from _ _ (by rw [List.length_map]; omega), cutD_to _ _ (by rw [List.length_map]; omega)]
  refine o_addT (by simp [LIM]; omega) ?_
  rw [← List.map_drop, ← List.map_take, ← List.map_append, show rs.drop i ++ rs.take i = rot rs i from rfl]
  walk_at "pq"
  have h0 : 0 < (rot rs i).length := by omega
  refine o_ixT (k := 0) (x := dP (nth (rot rs i) 0)) (ixD_nat (i := 0) (by rw [List.length_map]; exact h0)) ?_ ?_
  · rw [nth_lt h0, List.getElem?_map, List.getElem?_eq_getElem h0]
    rfl
  unfold dP
  walk_at "pq"
  refine o_ixT (k := 0) rfl rfl ?_
  walk_at "pq"
  refine ⟨by show 0 ≤ LIM; decide, ?_⟩
  walk_at "pq"
  refine p_krg1 (by omega) ?_
  rw [Int.toNat_natCast, intD_zero, List.range_eq_range']
  dsimp only [List.set]
  have e : (nth (rot rs i) 0).1 = lackR (rot rs i) 0 0 := by unfold lackR; omega
  rw [e]
  refine lk_go _ (rot rs i) _ _ _ (by omega) (by omega) n hn n 0 _ _ _ (by omega) fun d6 d7 d8 a => ?_
  walk_at "pq"
  exact h
theorem n_judge (hv : WV c rs) (hi : i < rs.length) (n1 : 1 ≤ n) (hn : n ≤ 12) (h : ∀ m, m ∈ lackL (rot rs i) n → (∀ y, y ∈ lackL (rot rs i) n → y ≤ m) → Q (.int m)) : S_judge_stretch [dW c rs, .int (i : Int), .int (n : Int)] Q E := by
  have l1 := hv.l1
  have l2 := hv.l2
  refine ⟨rfl, ?_⟩
  show b_judge_stretch [.val (dW c rs), .val (.int (i : Int)), .val (.int (n : Int))] _
  unfold b_judge_stretch
  walk_at "pq"
  refine ⟨rfl, n_len (p_klenI (by omega) ?_)⟩
  walk_at "pq"
  refine n_check_post (by omega) (by omega) ?_
  walk_at "pq"
  refine n_check_within (by omega) (by omega) ?_
  walk_at "pq"
  refine ⟨rfl, n_posts ?_⟩
  walk_at "pq"
  refine n_lacks l1 l2 hi hn ?_
  walk_at "pq"
  exact b_maxM (by rw [lackL_len]; omega) h
/-- a greatest lack of the stretches of at most a round -/
structure Worst (rs : List (Int × Int)) (i l : Nat) (w : Int) : Prop where
  hi : i < rs.length
  l1 : 1 ≤ l
  l2 : l ≤ rs.length
  e : w = lackR (rot rs i) 0 l
  le : ∀ j k, j < rs.length → 1 ≤ k → k ≤ rs.length → lackR (rot rs j) 0 k ≤ w
  lt : ∀ j k, j < rs.length → 1 ≤ k → k < l → lackR (rot rs j) 0 k < w
  lt2 : ∀ j, j < i → lackR (rot rs j) 0 l < w
/-- so far: all shorter ones, and of this length those from earlier posts -/
structure WorstTo (rs : List (Int × Int)) (u v : Nat) (i l : Nat) (w : Int) : Prop where
  hi : i < rs.length
  l1 : 1 ≤ l
  l2 : l ≤ rs.length
  e : w = lackR (rot rs i) 0 l
  le : ∀ j k, j < rs.length → 1 ≤ k → k < u → lackR (rot rs j) 0 k ≤ w
  le2 : ∀ j, j < v → lackR (rot rs j) 0 u ≤ w
  lt : ∀ j k, j < rs.length → 1 ≤ k → k < l → lackR (rot rs j) 0 k < w
  lt2 : ∀ j, j < i → lackR (rot rs j) 0 l < w
def dLs (rs : List (Int × Int)) : D := .lst ((List.range rs.length).map fun i => .lst ((lackL (rot rs i) rs.length).map .int))
def dW3 (i l : Nat) (w : Int) : D := .tup [.int (i : Int), .int (l : Int), .int w]
theorem wo_in (K : KN) (d0 d1 d5 : Sl) (u : Nat) (u1 : 1 ≤ u) (u2 : u ≤ rs.length) : ∀ (m v i l : Nat) (w : Int) (d2 : Sl), v + m = rs.length → WorstTo rs u v i l w → (∀ i l w d2, WorstTo rs u rs.length i l w → K.nx [d0, d1, d2, .val (dLs rs), .val (dW3 i l w), .val (.int (u : Int))]) →
    wForGo (.nm 2) (wIfS (wtVal (wOp oGt (wOp oIx (wOp oIx (wName 3) (wName 2)) (wOp oSub (wName 5) (wC (.int 1)))) (wOp oIx (wName 4) (wC (.int 2)))))
    (wSet 4 (wTup (wCons (wName 2) (wCons (wName 5) (wCons (wOp oIx (wOp oIx (wName 3) (wName 2)) (wOp oSub (wName 5) (wC (.int 1)))) wNil)))))
    wSkip) K ((List.range' v m).map fun (k : Nat) => D.int (k : Int)) [d0, d1, d2, .val (dLs rs), .val (dW3 i l w), .val (.int (u : Int))]
  | 0, v, i, l, w, d2, hv, hw, h => by
    have : v = rs.length := by omega
    subst this
    exact h i l w d2 hw
  | m + 1, v, i, l, w, d2, hv, hw, h => by
    rw [List.range'_succ, List.map_cons]
    refine p_put1 ?_
    dsimp only [List.set]
    have hvl : v < rs.length := by omega
    have g1 : ((List.range rs.length).map fun i => D.lst ((lackL (rot rs i) rs.length).map .int))[v]? = some (.lst ((lackL (rot rs v) rs.length).map .int)) := by
      rw [List.getElem?_map, List.getElem?_range hvl]
      rfl
    have g2 := lackL_get (L := rot rs v) (n := rs.length) (j := u - 1) (by omega)
    rw [Nat.sub_add_cancel u1] at g2
    have g3 : ixD ((lackL (rot rs v) rs.length).map D.int).length ((u : Int) - 1) = some (u - 1) := by
      rw [ixD_of (by omega) (by rw [List.length_map, lackL_len]; omega)]
      congr 1
      omega
    unfold dLs
    walk_at "pq"
    refine o_ixL (ixD_nat (by rw [List.length_map, List.length_range]; exact hvl)) g1 ?_
    walk_at "pq"
    refine o_ixL g3 g2 ?_
    unfold dW3
    walk_at "pq"
    refine o_ixT (k := 2) rfl rfl ?_
    walk_at "pq"
    refine p_dec (fun z => ?_) (fun z => ?_)
    · walk_at "pq"
      refine o_ixL (ixD_nat (by rw [List.length_map, List.length_range]; exact hvl)) g1 ?_
      walk_at "pq"
      refine o_ixL g3 g2 ?_
      refine ⟨by show 3 ≤ LIM; decide, ?_⟩
      dsimp only [List.set]
      refine wo_in K d0 d1 d5 u u1 u2 m (v + 1) v u (lackR (rot rs v) 0 u) _ (by omega) ⟨hvl, u1, u2, rfl, fun j k hj k1 k2 => ?_, fun j hj => ?_, fun j k hj k1 k2 => ?_, fun j hj => ?_⟩ h
      · have := hw.le j k hj k1 k2
        omega
      · by_cases ej : j = v
        · subst ej; omega
        · have := hw.le2 j (by omega)
          omega
      · have := hw.le j k hj k1 k2
        omega
      · have := hw.le2 j hj
        omega
    · walk_at "pq"
      refine wo_in K d0 d1 d5 u u1 u2 m (v + 1) i l w _ (by omega) ⟨hw.hi, hw.l1, hw.l2, hw.e, hw.le, fun j hj => ?_, hw.lt, hw.lt2⟩ h
      by_cases ej : j = v
      · subst ej; omega
      · exact hw.le2 j (by omega)
theorem wo_out (K : KN) (d0 : Sl) (hl : rs.length ≤ 12) : ∀ (m u i l : Nat) (w : Int) (d2 d5 : Sl), 1 ≤ u → u + m = rs.length + 1 → WorstTo rs u 0 i l w → (∀ i l w d2 d5, Worst rs i l w → K.nx [d0, .val (.int (rs.length : Int)), d2, .val (dLs rs), .val (dW3 i l w), d5]) →
    wForGo (.nm 5) (wFor (wRange1 (wName 1)) (.nm 2)
    (wIfS (wtVal (wOp oGt (wOp oIx (wOp oIx (wName 3) (wName 2)) (wOp oSub (wName 5) (wC (.int 1)))) (wOp oIx (wName 4) (wC (.int 2)))))
    (wSet 4 (wTup (wCons (wName 2) (wCons (wName 5) (wCons (wOp oIx (wOp oIx (wName 3) (wName 2)) (wOp oSub (wName 5) (wC (.int 1)))) wNil)))))
    wSkip)) K ((List.range' u m).map fun (k : Nat) => D.int (k : Int)) [d0, .val (.int (rs.length : Int)), d2, .val (dLs rs), .val (dW3 i l w), d5]
  | 0, u, i, l, w, d2, d5, u1, hu, hw, h => h i l w d2 d5 ⟨hw.hi, hw.l1, hw.l2, hw.e, fun j k hj k1 k2 => hw.le j k hj k1 (by omega), hw.lt, hw.lt2⟩
  | m + 1, u, i, l, w, d2, d5, u1, hu, hw, h => by
    rw [List.range'_succ, List.map_cons]
    refine p_put1 ?_
    dsimp only [List.set]
    walk_at "pq"
    refine p_krg1 (by omega) ?_
    rw [Int.toNat_natCast, intD_zero, List.range_eq_range']
    refine wo_in _ _ _ d5 u u1 (by omega) rs.length 0 i l w _ (by omega) hw fun i l w d2 hw => ?_
    exact wo_out K d0 hl m (u + 1) i l w _ _ (by omega) (by omega) ⟨hw.hi, hw.l1, hw.l2, hw.e, fun j k hj k1 k2 => by
      by_cases ek : k = u
      · subst ek; exact hw.le2 j hj
      · exact hw.le j k hj k1 (by omega), fun j hj => by omega, hw.lt, hw.lt2⟩ h
theorem n_worst (l1 : 1 ≤ rs.length) (l2 : rs.length ≤ 12) (h : ∀ i l w, Worst rs i l w → Q (dW3 i l w)) : S_worst [.tup (rs.map dP)] Q E := by
  refine ⟨rfl, ?_⟩
  show b_worst [.val (.tup (rs.map dP)), .un, .un, .un, .un, .un] _
  unfold b_worst
  walk_at "pq"
  rw [List.length_map]
  walk_at "pq"
  refine p_krg1 (by omega) ?_
  rw [Int.toNat_natCast, intD_zero]
  refine ⟨by rw [List.length_map, List.length_range]; unfold LIM; omega, ?_⟩
  refine lc_mapT (fun (k : Nat) => D.int (k : Int)) (fun i => .lst ((lackL (rot rs i) rs.length).map .int)) _ [] ?_ ?_
  · intro k hk A hA
    have hk := List.mem_range.mp hk
    refine p_put1 ?_
    dsimp only [wipeE, List.set]
    walk_at "pq"
    exact n_lacks l1 l2 hk l2 hA
  rw [List.nil_append, show D.lst ((List.range rs.length).map fun i => D.lst ((lackL (rot rs i) rs.length).map .int)) = dLs rs from rfl]
  walk_at "pq"
  unfold dLs
  refine o_ixL (k := 0) (x := .lst ((lackL (rot rs 0) rs.length).map .int)) (ixD_nat (i := 0) (by rw [List.length_map, List.length_range]; omega)) (by rw [List.getElem?_map, List.getElem?_range (by omega)]; rfl) ?_
  walk_at "pq"
  refine o_ixL (k := 0) (ixD_nat (i := 0) (by rw [List.length_map, lackL_len]; omega)) (lackL_get (by omega)) ?_
  refine ⟨by show 3 ≤ LIM; decide, ?_⟩
  walk_at "pq"
  refine p_krg2 (by omega) ?_
  rw [show ((rs.length : Int) + 1 - 1).toNat = rs.length by omega]
  have e : intD 1 rs.length = (List.range' 1 rs.length).map fun (k : Nat) => D.int (k : Int) := by
    rw [intD_map, List.range'_eq_map_range, List.map_map]
    congr 1
  rw [e]
  dsimp only [List.set]
  refine wo_out _ _ l2 rs.length 1 0 1 (lackR (rot rs 0) 0 1) _ _ (by omega) (by omega) ⟨by omega, by omega, by omega, rfl, fun j k hj k1 k2 => by omega, fun j hj => by omega, fun j k hj k1 k2 => by omega, fun j hj => by omega⟩ fun i l w d2 d5 hw => ?_
  walk_at "pq"
  exact h i l w hw
theorem n_greatest_lack (l1 : 1 ≤ rs.length) (l2 : rs.length ≤ 12) (h : ∀ i l w, Worst rs i l w → Q (.int w)) : S_greatest_lack [.tup (rs.map dP)] Q E := by
  refine ⟨rfl, ?_⟩
  show b_greatest_lack [.val (.tup (rs.map dP))] _
  unfold b_greatest_lack
  walk_at "pq"
  refine n_worst l1 l2 fun i l w hw => ?_
  unfold dW3
  walk_at "pq"
  exact o_ixT (k := 2) rfl rfl (h i l w hw)
theorem n_least_capacity (l1 : 1 ≤ rs.length) (l2 : rs.length ≤ 12) (h1 : surp rs < 0 → Q .non) (h2 : 0 ≤ surp rs → ∀ i l w, Worst rs i l w → Q (.int w)) : S_least_capacity [dW c rs] Q E := by
  refine ⟨rfl, ?_⟩
  show b_least_capacity [.val (dW c rs)] _
  unfold b_least_capacity
  walk_at "pq"
  refine ⟨rfl, n_surplus l2 ?_⟩
  walk_at "pq"
  refine p_dec (fun z => ?_) (fun z => ?_)
  · walk_at "pq"
    exact h1 z
  · walk_at "pq"
    refine ⟨rfl, n_posts ?_⟩
    walk_at "pq"
    exact n_greatest_lack l1 l2 (h2 (by omega))
end
end Oil
/-! bool(o), o of an own class with a __bool__ of its own. -/
namespace Oil
open PySem PySem.Spec PyProof.Rows L2
theorem new_boolIn (prog : Program) (w : World) (x : Value) : MeetsIn prog w (Builtin.«bool.__new__» ⟨[.type "bool", x], []⟩) (fun A R s => wpAny (model prog w) A.in1 (truthy x) (fun b s' => R (.ok (.ret (.bool b))) s') (fun e s' => R (.error e) s') s) := by
  refine MeetsIn.of_wp fun A R s hs => ?_
  have f1 := F.conv_sub_bool
  repeat (any_goals (first | assumption | wp_step))
  refine wpAny_mono (show wpAny _ _ (truthy x) _ _ _ from hs) (fun b s' h => ?_) fun _ _ x => x
  exact wpAny_pure ⟨_, rfl, h⟩
/-- bool(o) -/
def wBoolO (c : Nat) (s : PSpec) (a : WE) : WE := fun env Q E => a env (fun x => match x with
  | .ins c' _ _ => c' = c ∧ s [x] (fun d => match d with
    | .bl b => Q (.bl b)
    | _ => False) E
  | _ => False) E
section
variable {X : Cx} {E : XK} {k j : Nat} {Z : ZM} {c : Nat} {P : PSpec} {e : Expr} {w : WE} {x : Str} {p pos : Pos}
def cBoolO (C : Addr) (sp : Sp) (E : XK) : List V → Hp → VK → Prop := fun xs H Q => ∃ (a dx : Addr) (fs : List (Str × V)), xs = [.ref a] ∧ H a = some (.ins C dx fs) ∧ sp [.ref a] H (fun v H' => ∃ b : Bool, v = .bl b ∧ Q (.bl b) H') E
theorem call_boolO {C : Addr} {sp : Sp} (g : TruO X.prog X.w X.K X.mg X.base k C sp) (hr : Room j X.A) (hk : k + 1 + 1 ≤ j) (hx2 : Passes (L2.CX X.prog X.w) X E) : CallR X (.type "bool") (cBoolO C sp E) := by
  intro pins s σ H xs us Q I r h
  obtain ⟨f, hs, hf, Fg⟩ := g.ex
  obtain ⟨a, dx, fs, rfl, ha, q⟩ := h
  obtain rfl := Vals.ref1 r
  obtain ⟨ox, od, J⟩ := inst_of I ha
  obtain ⟨m, hF⟩ := I.fr
  have hr' : Room k X.A.in1.in1 := ((hr.mono hk).in1).in1
  refine callType_newIn F.called_bool F.newNe_bool (F.typeCall_bool_1 _) (F.newCall_bool_1 _) (fun obj => F.args_object_init_2 obj _) F.entry_bool_new (new_boolIn _ _ _) ?_
  refine PySem.W.truthy_K hF I.ok.mod.kin J hs hf (wpAny_call (codeAny_mono (Fg X.A.in1.in1 X.stack s H [.ref a] [.ref a] _ E hr' I.env0.in1.in1 (.cons rfl .nil) q) fun r s' hq => ?_))
  cases r with
  | error er => exact hx2 pins σ H s er s' I hq
  | ok fl =>
    cases fl with
    | ret u =>
      obtain ⟨v, H', I3, rv, n, rfl, q3⟩ := I.after hq
      cases (show u = Value.bool n from rv)
      exact ⟨rfl, .bl n, H', I3, rfl, q3⟩
    | next => exact False.elim hq
    | brk => exact False.elim hq
    | cont => exact False.elim hq
theorem qe_boolO (g : TruO X.prog X.w X.K X.mg X.base k (Z c) (SpD Z.g X.K P)) (hr : Room j X.A) (hk : k + 1 + 1 ≤ j) (hx : Passes (L2.CX X.prog X.w) X E) (hg : Gl X x) (hm : X.mg x = none) (hv : bootBuiltins x = some (.type "bool")) (ha : QE Z X E e w) (hn : x ≠ "__name__" := by decide) (hdb : (x == ("__debug__" : Str)) = false := by decide)
    (he : starEach [e] X.env = (false, eval e X.env) :: starEach [] X.env := by rfl) (hpl : (backTo pos (starEach [] X.env)).any (·.1) = false := by rfl) : QE Z X E (.Call (.Name x p) [e] [] pos) (wBoolO c P w) :=
  (pe_callTy (call_boolO (E := E) g hr hk hx) hg hm hv (pa_cons ha pa_nil he) hn hdb he hpl).wk fun σ H Q ⟨fr, ow, env, Qp, Ep, A, hw, post⟩ =>
  ⟨fr, ow, env, _, Ep, A, hw, fun d v H1 n1 r1 q1 => by
    cases d <;> try exact (show False from q1).elim
    obtain ⟨rfl, q1⟩ := q1
    obtain ⟨a, dx, vs, rfl, ha⟩ := r1.insAt A.z
    exact ⟨a, dx, _, rfl, ha, spd_of A n1 (.cons r1 .nil) q1 fun d v H' n r q => by
      cases d <;> try exact (show False from q).elim
      cases r
      exact ⟨_, rfl, post _ _ _ n (.bl _) q⟩⟩⟩
/-- a == b, a of an own class, as a test -/
theorem qt_eqO {e1 e2 : Expr} {w1 w2 : WE} (g : EqO X.prog X.w X.K X.mg X.base k (Z c) (SpD Z.g X.K P)) (hr : Room j X.A) (hk : k ≤ j) (hx : Passes (L2.CX X.prog X.w) X E) (hn : ∀ T ∈ ["NoneType", "bool", "int", "str", "tuple", "list"], PySem.W.notFirst X.K (Z c) (.type T) = true) (ha : QE Z X E e1 w1) (hb : QE Z X E e2 w2) (hm : behindInMarks .Eq e2 = false := by exact nomark _) : QT Z X E (.Compare e1 [.Eq] [e2] pos) (wtVal (wEqO c P w1 w2)) :=
  (pt_cmpR (op_eqo g hr hk hx) ha hb hm).wk fun σ H Q ⟨fr, ow, env, Qp, Ep, A, hw, post⟩ =>
  ⟨fr, ow, env, _, Ep, A, hw, fun d v H1 n1 r1 q1 => ⟨fr, ow, env, _, Ep, A.mv n1, q1, fun d2 v2 H2 n2 r2 q2 => by
    have r1 := r1.lat (Nz.lat n2 MM.d0)
    cases d <;> try exact (show False from q2).elim
    obtain ⟨rfl, hf, q2⟩ := q2
    obtain ⟨a, dx, vs, rfl, ha⟩ := r1.insAt A.z
    have sp := spd_of A (n1.trans n2) (.cons r1 (.cons r2 .nil)) q2 (Q := fun z H => ∃ k, z = V.bl k ∧ Q k H) fun d v H' n r q => by
      cases r <;> try exact (show False from q).elim
      exact ⟨_, rfl, post _ _ n q⟩
    refine ⟨a, dx, _, rfl, ha, ?_, sp⟩
    cases hk : d2.kind with
    | some T =>
      have kn := r2.kn (K := X.K) hk
      exact .inr (.inr ⟨_, kn.ty, hn T kn.mem⟩)
    | none =>
      cases d2 <;> first | (cases hk; done) | skip
      · obtain rfl := hf
        obtain ⟨b, dy, us, rfl, hb⟩ := r2.insAt A.z
        exact .inl ⟨b, dy, _, rfl, hb⟩
      all_goals exact absurd (show (none : Option String).isSome = true from hk ▸ hf) (by decide)⟩⟩
end
end Oil
/-! t[::-1], t a tuple. -/
namespace Oil
open PySem PySem.Spec PyProof.Rows L2
theorem back_adjust (n : Int) : Builtin.Slice.sliceAdjust none none (-1) n = (n - 1, -1) := rfl
theorem back_places (n : Nat) : Builtin.Slice.slicePlaces ((n : Int) - 1) (-1) (-1) = n := by
  unfold Builtin.Slice.slicePlaces
  rw [if_neg (show ¬ ((-1 : Int) > 0) by decide), show (-(-1) : Int) = 1 from rfl, Int.ediv_one]
  split <;> omega
theorem fm_congr {α β : Type} {f g : α → Option β} : ∀ l : List α, (∀ m ∈ l, f m = g m) → l.filterMap f = l.filterMap g
  | [], _ => rfl
  | a :: l, h => by
    rw [List.filterMap_cons, List.filterMap_cons, h a (by simp), fm_congr l fun m hm => h m (by simp [hm])]
theorem back_pick (xs : Array Value) : ((List.range xs.size).filterMap fun (m : Nat) => xs[((xs.size : Int) - 1 + (m : Int) * -1).toNat]?).toArray = xs.toList.reverse.toArray := by
  have e : slicePick xs none none (some (-1)) = ((List.range xs.size).filterMap fun (m : Nat) => xs[((xs.size : Int) - 1 + (m : Int) * -1).toNat]?).toArray := by
    unfold slicePick
    rw [PySem.W.krv_bounds]
    show ((sliceRange ((xs.size : Int) - 1) (-1) (-1)).filterMap (xs[·]?)).toArray = _
    rw [PySem.W.krv_sliceRange, List.filterMap_map]
    congr 1
    refine fm_congr _ fun m hm => ?_
    have := List.mem_range.mp hm
    show xs[xs.size - 1 - m]? = xs[((xs.size : Int) - 1 + (m : Int) * -1).toNat]?
    rw [show ((xs.size : Int) - 1 + (m : Int) * -1).toNat = xs.size - 1 - m by omega]
  rw [← e, PySem.W.krv_pick]
section
variable {prog : Program} {w : World} {A : Around} {E : Value → Shared → Prop} {s : Shared}
theorem back_applied {q : Addr} {a b z : Value} {n : Nat} {R : Int × Int × Nat → Shared → Prop} (ho : s.heap.IsSliceOf q a b z) (ia : IsPart a none) (ib : IsPart b none) (iz : IsPart z (some (-1)))
    (g : R ((n : Int) - 1, -1, n) s) : wpAny (model prog w) A (Builtin.Slice.sliceApplied (.ref q) (pure (n : Int))) R E s := by
  obtain ⟨o, h1, h2, h3⟩ := id ho
  unfold Builtin.Slice.sliceApplied Builtin.Slice.sliceFields
  refine wpAny_bind (wpAny_bind (wpAny_field h1 h3 (x := a) rfl (wpAny_bind (wpAny_field h1 h3 (x := b) rfl
    (wpAny_bind (wpAny_field h1 h3 (x := z) rfl (wpAny_pure ?_)))))))
  refine wpAny_bind (HT.slicePart_ iz ?_)
  show wpAny _ _ (if ((-1 : Int) == 0) = true then _ else _) _ _ s
  rw [if_neg (by decide)]
  refine wpAny_bind (HT.slicePart_ ia (wpAny_bind (HT.slicePart_ ib (wpAny_bind (wpAny_pure ?_)))))
  show wpAny _ _ (match Builtin.Slice.sliceAdjust none none (-1) (n : Int) with | (i, j) => pure (i, (-1 : Int), Builtin.Slice.slicePlaces i j (-1))) _ _ s
  rw [back_adjust]
  show wpAny _ _ (pure ((n : Int) - 1, (-1 : Int), Builtin.Slice.slicePlaces ((n : Int) - 1) (-1) (-1))) _ _ s
  rw [back_places]
  exact wpAny_pure g
theorem tuple_back {t q : Addr} {us : Array Value} {a b z : Value} {R : Value → Shared → Prop} (ht : IsTup s.heap t us) (ho : s.heap.IsSliceOf q a b z) (ia : IsPart a none) (ib : IsPart b none) (iz : IsPart z (some (-1)))
    (g : R (.ref s.heap.objs.size) { s with heap := s.heap.push { cls := .type "tuple", data := .seq us.toList.reverse.toArray } }) (hz : us.size ≤ sizeLine) : wpAny (model prog w) A (getItem (.ref t) (.ref q)) R E s := by
  have room : sizeOk (.seq us.toList.reverse.toArray) := by
    show us.toList.reverse.toArray.size ≤ sizeLine
    rw [List.size_toArray, List.length_reverse, Array.length_toList]
    exact hz
  obtain ⟨o, h1, h2, h3⟩ := id ho
  have ty : s.TypeIs (.ref q) "slice" := ⟨o, h1, h2⟩
  unfold getItem
  try with_reducible refine wpAny_holding ?_
  try refine wpAny_bind (wpAny_pure ?_)
  refine wpAny_bind (wpAny_sequenceKey ht.typeIs (by decide) (wpAny_bind ?_))
  refine wpAny_callSpecial?_slot (name := Str.ofString "__getitem__") ht.typeIs slot_tuple_getitem ?_
  refine wpAny_call_entry slot_tuple_getitem ht.typeIs entry_tuple_getitem ?_ (args_tuple_getitem _ _)
  show wpAny _ _ (Builtin.Tuple.tupleItemsOf (.ref t) >>= _) _ _ s
  refine wpAny_bind (tupleItemsOf_ ht (wpAny_bind (wpAny_typeOf ty ?_)))
  rw [if_pos (by decide)]
  refine wpAny_bind (back_applied ho ia ib iz ?_)
  show wpAny _ _ (if (((us.size : Int) - 1) == 0 && (-1 : Int) == 1 && us.size == us.size) = true then _ else _) _ _ s
  rw [if_neg (by rw [show ((-1 : Int) == 1) = false from rfl, Bool.and_false, Bool.false_and]; decide), back_pick]
  first
    | exact wpAny_bind (m := Builtin.Tuple.tupleExact _) (wpAny_newObj_type (wpAny_pure ⟨_, rfl, wpAny_pure g⟩) room)
    | exact wpAny_bind (m := Builtin.Tuple.tupleExact _) (wpAny_newObj_type (wpAny_bind (wpAny_pure (wpAny_pure ⟨_, rfl, wpAny_pure g⟩))) room)
    | exact wpAny_bind (wpAny_bind (m := Builtin.Tuple.tupleExact _) (wpAny_newObj_type (wpAny_pure (wpAny_pure ⟨_, rfl, wpAny_pure g⟩)) room))
    | exact wpAny_bind (wpAny_bind (m := Builtin.Tuple.tupleExact _) (wpAny_newObj_type (wpAny_pure ⟨_, rfl, wpAny_pure g⟩) room))
end
section
variable {X : Cx} {E : XK}
/-- e[::-1], e a list or a tuple -/
def tBk (K : PySem.W.Frag) (te : TE) : TE := fun σ H Q => te σ H fun x G => ∃ (a : Addr) (xs : List V), x = .ref a ∧
  (SqL K G a xs ∧ (∀ p, G p = none → Q (.ref p) (upd G p (.lst xs.reverse))) ∨ SqT K G a xs ∧ (∀ p, G p = none → Q (.ref p) (upd G p (.tup xs.reverse))))
theorem pe_bk {e : Expr} {te : TE} {k : Nat} {pa pb pc pd : Pos} (he : PE X e te) :
    PE X (.Subscript e (.Slice none none (some (.UnaryOp .USub (.Constant (.int 1) k pa) pb)) pc) pd) (tBk X.K te) := by
  refine ⟨fun pins s0 σ H Q I hw => ?_⟩
  have hz : PO X (some (.UnaryOp .USub (.Constant (.int 1) k pa) pb)) (tPart (tUn (rU fun i => .int (-i)) (tC (.int 1)))) :=
    po_some (pe_un un_neg pe_int)
  refine Subscript_ (thn (he.run pins s0 σ H _ I hw) fun v0 sa ⟨x, Ha, Ia, rx, a, xs, hx, alt⟩ => ?_)
  subst hx
  cases rx
  refine wpAny_Slice (thn (po_none.run pins sa σ Ha (fun o G => o = none ∧ G = Ha) Ia ⟨rfl, rfl⟩) fun v1 sb ⟨o1, Hb, Ib, i1, eb, gb⟩ => ?_)
  subst eb gb
  refine thn (po_none.run pins sb σ Hb (fun o G => o = none ∧ G = Hb) Ib ⟨rfl, rfl⟩) fun v2 sc ⟨o2, Hc, Ic, i2, ec, gc⟩ => ?_
  subst ec gc
  refine thn (hz.run pins sc σ Hc (fun o G => o = some (-1) ∧ G = Hc) Ic ⟨1, rfl, -1, rfl, rfl, rfl⟩) fun v3 sd ⟨o3, Hd, Id, i3, ed, gd⟩ => ?_
  subst ed gd
  have J : Inv X pins σ Hd { sd with heap := sd.heap.push { cls := .type "slice", data := .fields #[v1, v2, v3] } } :=
    Id.kept (t' := sd.toks) fun b ob q => Heap.get?_push_of_some _ q
  show wpAny (model X.prog X.w) X.A (subscriptTail e (.Slice none none (some (.UnaryOp .USub (.Constant (.int 1) k pa) pb)) pc) (.ref a) (.ref sd.heap.objs.size))
    (EP X pins σ Q) X.xe { sd with heap := sd.heap.push { cls := .type "slice", data := .fields #[v1, v2, v3] } }
  rcases alt with ⟨hs, q⟩ | ⟨hs, q⟩
  · obtain ⟨us, r, hl, hn⟩ := J.list hs
    have hlen := r.length
    refine tail_any (ops := [.ref a, .ref sd.heap.objs.size]) hl.isList.typeIs slot_list_getitem.lookup ?_ (by with_unfolding_all rfl)
    refine wpAny_getItem_list_slice hl.isList (Heap.IsSliceOf.new _ v1 v2 v3) i1 i2 i3 (by decide) ?_ (by rw [List.size_toArray]; omega)
    rw [PySem.W.krv_pick]
    refine ⟨.ref _, _, J.laid (t' := sd.toks) (o := .lst xs.reverse) (fun b ob z => Heap.get?_push_of_some _ z) (Nat.le_refl _) ?_, rfl, q _ (J.hok.fresh (Nat.le_refl _))⟩
    exact ⟨by rw [List.length_reverse]; exact hn, _, 0, r.reverse, Heap.get?_push_size _ rfl⟩
  · obtain ⟨us, r, hl, hn⟩ := J.tuple hs
    have hlen := r.length
    refine tail_any (ops := [.ref a, .ref sd.heap.objs.size]) hl.typeIs slot_tuple_getitem.lookup ?_ (by with_unfolding_all rfl)
    refine tuple_back hl (Heap.IsSliceOf.new _ v1 v2 v3) i1 i2 i3 ?_ (by rw [List.size_toArray]; omega)
    refine ⟨.ref _, _, J.laid (t' := sd.toks) (o := .tup xs.reverse) (fun b ob z => Heap.get?_push_of_some _ z) (Nat.le_refl _) ?_, rfl, q _ (J.hok.fresh (Nat.le_refl _))⟩
    exact ⟨by rw [List.length_reverse]; exact hn, _, r.reverse, IsTup.new _ _⟩
variable {Z : ZM} {e : Expr} {w : WE} {k : Nat} {pa pb pc pd : Pos}
theorem qe_back (ha : QB Z X E e w) : QE Z X E (.Subscript e (.Slice none none (some (.UnaryOp .USub (.Constant (.int 1) k pa) pb)) pc) pd) (wBack w) :=
  (pe_bk ha).wk fun σ H Q ⟨fr, ow, env, Qp, Ep, A, hw, post⟩ =>
  ⟨fr, ow, env, _, Ep, A, hw, fun d v H1 n1 r1 q1 => by
    cases d <;> try exact (show False from q1).elim
    · obtain ⟨a, vs, rfl, _, h1, h2⟩ := r1.seq rfl
      have h1 : H1 a = some (.tup vs) := by rcases h1 with ⟨_, z⟩ | ⟨z, _⟩; cases z; exact z
      exact ⟨a, vs, rfl, .inr ⟨SqT.of h1, fun p hp => post _ _ _ (n1.same (Same.new hp)) (.fresh_tup hp ((A.g.mv n1).fresh hp) h2.rev) q1⟩⟩
    · obtain ⟨a, vs, rfl, _, h1, h2⟩ := r1.seq rfl
      have h1 : H1 a = some (.lst vs) := by rcases h1 with ⟨z, _⟩ | ⟨_, z⟩; exact z; cases z
      exact ⟨a, vs, rfl, .inl ⟨SqL.of h1, fun p hp => post _ _ _ (n1.same (Same.new hp)) (.fresh_lst hp ((A.g.mv n1).fresh hp) h2.rev) q1⟩⟩⟩
end
end Oil
namespace Oil
open PySem PySem.Spec PyProof.Rows L2
local macro_rules | `(tactic| walk_at "pq1") => `(tactic| with_reducible first
  | refine p_seq ?_ | refine p_skip ?_ | refine p_set ?_ | refine p_setO ?_ | refine p_kown ?_ | refine p_unp ?_ | refine p_put rfl ?_ | refine p_put1 ?_
  | refine p_par ?_ | refine p_pnil ?_ | refine p_pval ?_ | refine p_pown ?_ | refine p_kpown ?_ | refine p_expr ?_ | refine p_ret ?_ | refine p_retN ?_ | refine p_ifS ?_
  | refine p_for ?_ | refine p_raise ?_ | refine p_c ?_ | refine p_op ?_ | refine p_neg ?_ | refine p_kneg ?_ | refine p_chain ?_ | refine p_and ?_ | refine p_or ?_ | refine p_not ?_ | refine p_knot ?_
  | refine p_if ?_ | refine p_nil ?_ | refine p_cons ?_ | refine p_star ?_ | refine p_kstarT ?_ | refine p_kstarL ?_ | refine p_tup ?_ | refine p_lst ?_ | refine p_call ?_ | refine p_cb ?_ | refine p_val ?_ | refine p_kval ?_
  | refine p_ttru ?_ | refine p_ktruN ?_ | refine p_ktruB ?_ | refine p_ktruI ?_ | refine p_ktruL ?_ | refine p_ktruT ?_ | refine p_tnot ?_ | refine p_tand ?_ | refine p_tor ?_
  | refine p_nopart ?_ | refine p_part ?_ | refine p_kpart ?_ | refine p_slice ?_ | refine p_ksliceL ?_ | refine p_ksliceT ?_ | refine p_fld ?_ | refine p_meth ?_ | refine p_clo ?_ | refine p_kclo rfl ?_ | refine p_prop ?_ | refine p_kprop rfl ?_
  | refine p_inv ?_ | refine p_kinv rfl ?_ | refine p_lenO ?_ | refine p_klenO rfl ?_ | refine p_get ?_ | refine p_kget rfl ?_ | refine p_cmeth ?_ | refine p_kcmeth rfl ?_ | refine p_opC ?_ | refine p_kopC rfl rfl ?_ | refine p_opF ?_ | refine p_kopF rfl rfl ?_
  | refine p_eqO ?_ | refine p_keqO rfl rfl ?_ | refine p_iter ?_ | refine p_kiterL ?_ | refine p_kiterT ?_ | refine p_rg1 ?_ | refine p_rg2 ?_ | refine p_enum ?_ | refine p_kenum ?_ | refine p_lc ?_ | refine p_yes ?_
  | refine p_tt ?_ | refine p_ff ?_
  | refine o_add ?_ | refine o_sub ?_ | refine o_lt ?_ | refine o_le ?_ | refine o_gt ?_ | refine o_ge ?_
  | refine b_lenL ?_ | refine b_lenT ?_ | refine b_int ?_ | refine b_tupL ?_ | refine b_tupT ?_ | refine b_listL ?_ | refine b_listT ?_ | refine b_max2 ?_ | refine b_min2 ?_)
local macro_rules | `(tactic| walk_at "pq2") => `(tactic| with_reducible first
  | refine p_name (by with_unfolding_all rfl) ?_ | refine p_ownV (by with_unfolding_all rfl) ?_ | refine p_own (by with_unfolding_all rfl) ?_ | refine p_app (by with_unfolding_all rfl) ?_ | refine p_putI (by with_unfolding_all rfl) ?_
  | refine p_frz (by with_unfolding_all rfl) ?_ | refine p_frzV (by with_unfolding_all rfl) ?_ | refine p_kfld (by with_unfolding_all rfl) (by with_unfolding_all rfl) ?_ | refine p_kmeth (by with_unfolding_all rfl) (by decide) ?_ | refine p_makL (by with_unfolding_all rfl) (by with_unfolding_all rfl) ?_
  | refine p_self (by with_unfolding_all rfl) (by decide) (by with_unfolding_all rfl) (by decide) ?_)
local macro_rules | `(tactic| walk_at "pq3") => `(tactic| with_reducible first
  | refine o_eqI ?_ | refine o_neI ?_ | refine o_isNon ?_ | refine o_isInt ?_ | refine o_isNotNon ?_ | refine o_isNotInt ?_ | refine p_kandT ?_ | refine p_kandF ?_ | refine p_korT ?_ | refine p_korF ?_ | refine p_nt ?_ | refine p_nf ?_)
local macro_rules | `(tactic| walk_at "pq") => `(tactic| repeat (first | walk_at "pq1" | walk_at "pq2" | walk_at "pq3"))
/-! ### equality of answers -/
theorem eqv_N (a b : Option Int) : ∃ x y, (dN a).pd = some x ∧ (dN b).pd = some y ∧ SeqAt.shaped x = true ∧ SeqAt.shaped y = true ∧ PyData.eqv x y = decide (a = b) := by
  cases a with
  | none =>
    cases b with
    | none => exact ⟨.none, .none, rfl, rfl, rfl, rfl, by simp [PyData.eqv]⟩
    | some q => exact ⟨.none, .int q, rfl, rfl, rfl, rfl, by simp [PyData.eqv]⟩
  | some p =>
    cases b with
    | none => exact ⟨.int p, .none, rfl, rfl, rfl, rfl, by simp [PyData.eqv]⟩
    | some q => exact ⟨.int p, .int q, rfl, rfl, rfl, rfl, by rw [eqv_int]; simp⟩
section
variable {Q : QD} {E : QR} {a b : Option Int} {s t : Str3} {p q : Bool}
theorem o_eqN (h : Q (.bl (decide (a = b)))) : oEq (dN a) (dN b) Q := by
  obtain ⟨x, y, h1, h2, h3, h4, h5⟩ := eqv_N a b
  exact ⟨x, y, h1, h2, h3, h4, by rw [h5]; exact h⟩
theorem o_neN (h : Q (.bl (!decide (a = b)))) : oNe (dN a) (dN b) Q := by
  obtain ⟨x, y, h1, h2, h3, h4, h5⟩ := eqv_N a b
  exact ⟨x, y, h1, h2, h3, h4, by rw [h5]; exact h⟩
theorem o_neB (h : Q (.bl (!decide (p = q)))) : oNe (.bl p) (.bl q) Q := by
  refine ⟨.bool p, .bool q, rfl, rfl, rfl, rfl, ?_⟩
  have : PyData.eqv (.bool p) (.bool q) = decide (p = q) := by
    cases p <;> cases q <;> simp [PyData.eqv]
  rw [this]
  exact h
theorem o_eqB (h : Q (.bl (decide (p = q)))) : oEq (.bl p) (.bl q) Q := by
  refine ⟨.bool p, .bool q, rfl, rfl, rfl, rfl, ?_⟩
  have : PyData.eqv (.bool p) (.bool q) = decide (p = q) := by
    cases p <;> cases q <;> simp [PyData.eqv]
  rw [this]
  exact h
theorem o_isNotN (h : Q (.bl a.isSome)) : oIsNot (dN a) .non Q := by
  cases a with
  | none => exact ⟨rfl, h⟩
  | some x => exact ⟨rfl, h⟩
theorem o_isN (h : Q (.bl (!a.isSome))) : oIs (dN a) .non Q := by
  cases a with
  | none => exact ⟨rfl, h⟩
  | some x => exact ⟨rfl, h⟩
theorem n_St (ok : s.Ok) (h : Q (dSt s)) : S_Stretch_init [dN s.need, .int s.gain, .int s.top] Q E := by
  obtain ⟨n, g, tp⟩ := s
  cases n with
  | none =>
    obtain ⟨h1, h2⟩ := (show g = 0 ∧ tp = 0 from ok)
    subst h1 h2
    exact n_St_none h
  | some n =>
    obtain ⟨h1, h2, h3⟩ := (show 0 ≤ n ∧ 0 ≤ n + g ∧ 0 ≤ tp from ok)
    exact n_St_some h1 h2 h3 h
theorem n_St_eq (h : Q (.bl (decide (s = t)))) : S_Stretch_eq [dSt s, dSt t] Q E := by
  refine ⟨rfl, ?_⟩
  show b_Stretch_eq [.val (dSt s), .val (dSt t)] _
  unfold b_Stretch_eq dSt
  walk_at "pq"
  refine ⟨by simp, rfl, ?_⟩
  walk_at "pq"
  refine o_eqN ?_
  refine p_kand (fun z => ?_) (fun z => ?_)
  · walk_at "pq"
    refine p_kand (fun z2 => ?_) (fun z2 => ?_)
    · walk_at "pq"
      have e : decide (s = t) = decide (s.top = t.top) := by
        have z := of_decide_eq_true z
        have z2 := of_decide_eq_true z2
        obtain ⟨n, g, tp⟩ := s
        obtain ⟨n', g', tp'⟩ := t
        obtain rfl : n = n' := z
        obtain rfl : g = g' := z2
        simp
      rw [e] at h
      exact h
    · have e : decide (s = t) = false := decide_eq_false fun e => by
        rw [e] at z2
        simp at z2
      rw [e] at h
      exact h
  · have e : decide (s = t) = false := decide_eq_false fun e => by
      rw [e] at z
      simp at z
    rw [e] at h
    exact h
theorem n_St_eqI {i : Int} (h : Q (.bl false)) : S_Stretch_eq [dSt s, .int i] Q E := by
  refine ⟨rfl, ?_⟩
  show b_Stretch_eq [.val (dSt s), .val (.int i)] _
  unfold b_Stretch_eq dSt
  walk_at "pq"
  refine ⟨by simp, rfl, ?_⟩
  exact h
theorem n_St_bool (h : Q (.bl s.need.isSome)) : S_Stretch_bool [dSt s] Q E := by
  refine ⟨rfl, ?_⟩
  show b_Stretch_bool [.val (dSt s)] _
  unfold b_Stretch_bool dSt
  walk_at "pq"
  exact o_isNotN h
end
/-! ### stretches as legs, one by one -/
/-- n + 1 legs -/
def tS (c : Int) (f : Nat → Int × Int) : Nat → Str3
  | 0 => legS c (f 0)
  | n + 1 => (tS c f n).add (legS c (f (n + 1)))
theorem tS_add (c : Int) (f : Nat → Int × Int) (a : Nat) : ∀ b, tS c f (a + b + 1) = (tS c f a).add (tS c (fun k => f (a + 1 + k)) b)
  | 0 => rfl
  | b + 1 => by
    show (tS c f (a + b + 1)).add (legS c (f (a + b + 1 + 1))) = (tS c f a).add ((tS c (fun k => f (a + 1 + k)) b).add (legS c (f (a + 1 + (b + 1)))))
    rw [tS_add c f a b, Str3.add_assoc, show a + b + 1 + 1 = a + 1 + (b + 1) by omega]
theorem fold_tS {c : Int} {L : List (Int × Int)} : ∀ (m k : Nat), k + 1 + m ≤ L.length → (((L.map (legS c)).drop (k + 1)).take m).foldl Str3.add (tS c (nth L) k) = tS c (nth L) (k + m)
  | 0, k, _ => by rw [List.take_zero]; rfl
  | m + 1, k, hk => by
    have hk2 : k + 1 < L.length := by omega
    have e : (L.map (legS c)).drop (k + 1) = legS c L[k + 1] :: (L.map (legS c)).drop (k + 1 + 1) := by
      rw [List.drop_eq_getElem_cons (by rw [List.length_map]; exact hk2), List.getElem_map]
    rw [e, List.take_succ_cons, List.foldl_cons, ← nth_lt hk2, show (tS c (nth L) k).add (legS c (nth L (k + 1))) = tS c (nth L) (k + 1) from rfl, fold_tS m (k + 1) (by omega)]
    congr 1
    omega
theorem sum_tS {c : Int} {L : List (Int × Int)} {n : Nat} (h2 : n + 1 ≤ L.length) : sumS ((L.map (legS c)).take (n + 1)) = tS c (nth L) n := by
  cases L with
  | nil => simp at h2
  | cons r L =>
    rw [List.map_cons, List.take_succ_cons]
    have := fold_tS (c := c) (L := r :: L) n 0 (by omega)
    have e0 : tS c (nth (r :: L)) (0 + n) = tS c (nth (r :: L)) n := by rw [Nat.zero_add]
    rw [← e0, ← this]
    show (((L.map (legS c)).take n).foldl Str3.add (legS c r)) = ((((L.map (legS c))).take n).foldl Str3.add (legS c (nth (r :: L) 0)))
    rw [nth_lt (by simp)]
    rfl
theorem nth_shift {L : List (Int × Int)} (q : Nat) : (fun k => nth L (L.length * q + k)) = nth L := by
  funext k
  exact nth_add
theorem rep_tS {c : Int} {L : List (Int × Int)} (h : 1 ≤ L.length) : ∀ k, (tS c (nth L) (L.length - 1)).rep k = tS c (nth L) (L.length * (k + 1) - 1)
  | 0 => by rw [Nat.mul_one]; rfl
  | k + 1 => by
    show ((tS c (nth L) (L.length - 1)).rep k).add _ = _
    rw [rep_tS h k]
    have hp : 1 ≤ L.length * (k + 1) := Nat.mul_pos h (by omega)
    have e : L.length * (k + 1 + 1) - 1 = (L.length * (k + 1) - 1) + (L.length - 1) + 1 := by rw [Nat.mul_succ]; omega
    rw [e, tS_add, Nat.sub_add_cancel hp, nth_shift]
theorem stW_tS {c : Int} {rs : List (Int × Int)} {i n : Nat} (hi : i < rs.length) (n1 : 1 ≤ n) : stW c rs i n = tS c (nth (rot rs i)) (n - 1) := by
  have hl := rot_len (rs := rs) (i := i) (by omega)
  have hd := Nat.div_add_mod n rs.length
  have hm : n % rs.length < rs.length := Nat.mod_lt _ (by omega)
  have hl1 : 1 ≤ rs.length := by omega
  unfold stW
  generalize rot rs i = L at hl
  rw [← hl] at hd hm hl1 ⊢
  generalize n / L.length = q at hd
  generalize n % L.length = r at hd hm
  by_cases z : q = 0
  · rw [if_pos z]
    subst z
    rw [Nat.mul_zero, Nat.zero_add] at hd
    subst hd
    obtain ⟨k, rfl⟩ : ∃ k, r = k + 1 := ⟨r - 1, by omega⟩
    exact sum_tS (by omega)
  · rw [if_neg z]
    have e0 : sumS (L.map (legS c)) = tS c (nth L) (L.length - 1) := by
      have := sum_tS (c := c) (L := L) (n := L.length - 1) (by omega)
      rwa [Nat.sub_add_cancel hl1, List.take_of_length_le (by simp)] at this
    have e1 : (sumS (L.map (legS c))).mul (q : Int) = tS c (nth L) (L.length * q - 1) := by
      rw [e0]
      unfold Str3.mul
      rw [rep_tS hl1, Int.toNat_natCast, Nat.sub_add_cancel (Nat.one_le_iff_ne_zero.mpr z)]
    have hp : 1 ≤ L.length * q := Nat.mul_pos hl1 (Nat.one_le_iff_ne_zero.mpr z)
    show ((L.map (legS c)).take r).foldl Str3.add _ = _
    by_cases z2 : r = 0
    · rw [z2, List.take_zero, List.foldl_nil, e1]
      congr 1
      omega
    · obtain ⟨k, rfl⟩ : ∃ k, r = k + 1 := ⟨r - 1, by omega⟩
      rw [foldl_sum _ _ (by
        intro h
        have := congrArg List.length h
        rw [List.length_take, List.length_map, List.length_nil] at this
        omega), e1, sum_tS (by omega)]
      have e2 : n - 1 = (L.length * q - 1) + k + 1 := by omega
      rw [e2, tS_add, Nat.sub_add_cancel hp, nth_shift]
/-- one stretch, and the one that follows it -/
theorem stW_add {c : Int} {rs : List (Int × Int)} {i a b : Nat} (hi : i < rs.length) (a1 : 1 ≤ a) (b1 : 1 ≤ b) : (stW c rs i a).add (stW c rs ((i + a) % rs.length) b) = stW c rs i (a + b) := by
  have hm : (i + a) % rs.length < rs.length := Nat.mod_lt _ (by omega)
  rw [stW_tS hi a1, stW_tS hm b1, stW_tS hi (by omega), show a + b - 1 = (a - 1) + (b - 1) + 1 by omega, tS_add]
  congr 1
  have e : nth (rot rs ((i + a) % rs.length)) = fun k => nth (rot rs i) (a - 1 + 1 + k) := by
    funext k
    rw [nth_rot hm, nth_rot hi]
    unfold nth
    rw [Nat.mod_add_mod, show i + a + k = i + (a - 1 + 1 + k) by omega]
  rw [e]
/-- rounds -/
theorem stW_mul {c : Int} {rs : List (Int × Int)} {i k : Nat} (hi : i < rs.length) (k1 : 1 ≤ k) : (stW c rs i rs.length).mul (k : Int) = stW c rs i (rs.length * k) := by
  have hl := rot_len (rs := rs) (i := i) (by omega)
  have hp : 1 ≤ rs.length * k := Nat.mul_pos (by omega) k1
  rw [stW_tS hi (by omega), stW_tS hi hp, ← hl]
  unfold Str3.mul
  rw [rep_tS (by omega), Int.toNat_natCast, Nat.sub_add_cancel k1]
/-! ### the law's plain walks -/
def foundL (c : Int) (L : List (Int × Int)) (x : Int) (n : Nat) : List Int := (List.range n).map fun k => (walk c L x (k + 1)).getD 0
theorem foundL_succ {c : Int} {L : List (Int × Int)} {x : Int} {n : Nat} {y : Int} (h : walk c L x (n + 1) = some y) : foundL c L x n ++ [y] = foundL c L x (n + 1) := by
  unfold foundL
  rw [List.range_succ, List.map_append, List.map_cons, List.map_nil, h]
  rfl
theorem foundL_len {c : Int} {L : List (Int × Int)} {x : Int} {n : Nat} : (foundL c L x n).length = n := by simp [foundL]
theorem found_last {c : Int} {L : List (Int × Int)} {x y : Int} : ∀ {n : Nat}, walk c L x n = some y → ([x] ++ foundL c L x n)[n]? = some y
  | 0, h => by rw [← Option.some.inj h]; rfl
  | n + 1, h => by
    rw [List.getElem?_append_right (by simp)]
    unfold foundL
    rw [List.getElem?_map, show n + 1 - [x].length = n from rfl, List.getElem?_range (by omega)]
    show some ((walk c L x (n + 1)).getD 0) = _
    rw [h]
    rfl
end Oil
namespace Oil
open PySem PySem.Spec PyProof.Rows L2
local macro_rules | `(tactic| walk_at "pq1") => `(tactic| with_reducible first
  | refine p_seq ?_ | refine p_skip ?_ | refine p_set ?_ | refine p_setO ?_ | refine p_kown ?_ | refine p_unp ?_ | refine p_put rfl ?_ | refine p_put1 ?_
  | refine p_par ?_ | refine p_pnil ?_ | refine p_pval ?_ | refine p_pown ?_ | refine p_kpown ?_ | refine p_expr ?_ | refine p_ret ?_ | refine p_retN ?_ | refine p_ifS ?_
  | refine p_for ?_ | refine p_raise ?_ | refine p_c ?_ | refine p_op ?_ | refine p_neg ?_ | refine p_kneg ?_ | refine p_chain ?_ | refine p_and ?_ | refine p_or ?_ | refine p_not ?_ | refine p_knot ?_
  | refine p_if ?_ | refine p_nil ?_ | refine p_cons ?_ | refine p_star ?_ | refine p_kstarT ?_ | refine p_kstarL ?_ | refine p_tup ?_ | refine p_lst ?_ | refine p_call ?_ | refine p_cb ?_ | refine p_val ?_ | refine p_kval ?_
  | refine p_ttru ?_ | refine p_ktruN ?_ | refine p_ktruB ?_ | refine p_ktruI ?_ | refine p_ktruL ?_ | refine p_ktruT ?_ | refine p_tnot ?_ | refine p_tand ?_ | refine p_tor ?_
  | refine p_nopart ?_ | refine p_part ?_ | refine p_kpart ?_ | refine p_slice ?_ | refine p_ksliceL ?_ | refine p_ksliceT ?_ | refine p_fld ?_ | refine p_meth ?_ | refine p_clo ?_ | refine p_kclo rfl ?_ | refine p_prop ?_ | refine p_kprop rfl ?_
  | refine p_inv ?_ | refine p_kinv rfl ?_ | refine p_lenO ?_ | refine p_klenO rfl ?_ | refine p_get ?_ | refine p_kget rfl ?_ | refine p_cmeth ?_ | refine p_kcmeth rfl ?_ | refine p_opC ?_ | refine p_kopC rfl rfl ?_ | refine p_opF ?_ | refine p_kopF rfl rfl ?_
  | refine p_eqO ?_ | refine p_keqO rfl rfl ?_ | refine p_iter ?_ | refine p_kiterL ?_ | refine p_kiterT ?_ | refine p_rg1 ?_ | refine p_rg2 ?_ | refine p_enum ?_ | refine p_kenum ?_ | refine p_lc ?_ | refine p_yes ?_
  | refine p_tt ?_ | refine p_ff ?_
  | refine o_add ?_ | refine o_sub ?_ | refine o_lt ?_ | refine o_le ?_ | refine o_gt ?_ | refine o_ge ?_
  | refine b_lenL ?_ | refine b_lenT ?_ | refine b_int ?_ | refine b_tupL ?_ | refine b_tupT ?_ | refine b_listL ?_ | refine b_listT ?_ | refine b_max2 ?_ | refine b_min2 ?_)
local macro_rules | `(tactic| walk_at "pq2") => `(tactic| with_reducible first
  | refine p_name (by with_unfolding_all rfl) ?_ | refine p_ownV (by with_unfolding_all rfl) ?_ | refine p_own (by with_unfolding_all rfl) ?_ | refine p_app (by with_unfolding_all rfl) ?_ | refine p_putI (by with_unfolding_all rfl) ?_
  | refine p_frz (by with_unfolding_all rfl) ?_ | refine p_frzV (by with_unfolding_all rfl) ?_ | refine p_kfld (by with_unfolding_all rfl) (by with_unfolding_all rfl) ?_ | refine p_kmeth (by with_unfolding_all rfl) (by decide) ?_ | refine p_makL (by with_unfolding_all rfl) (by with_unfolding_all rfl) ?_
  | refine p_self (by with_unfolding_all rfl) (by decide) (by with_unfolding_all rfl) (by decide) ?_)
local macro_rules | `(tactic| walk_at "pq3") => `(tactic| with_reducible first
  | refine o_eqI ?_ | refine o_neI ?_ | refine o_isNon ?_ | refine o_isInt ?_ | refine o_isNotNon ?_ | refine o_isNotInt ?_ | refine p_kandT ?_ | refine p_kandF ?_ | refine p_korT ?_ | refine p_korF ?_ | refine p_nt ?_ | refine p_nf ?_)
local macro_rules | `(tactic| walk_at "pq") => `(tactic| repeat (first | walk_at "pq1" | walk_at "pq2" | walk_at "pq3"))
/-! ### where the lantern goes out -/
theorem walk_le {c : Int} {L : List (Int × Int)} {x : Int} : ∀ {n : Nat} {y : Int}, walk c L x n = some y → y ≤ x + gains L n
  | 0, y, h => by
    have := Option.some.inj h
    show y ≤ x + 0
    omega
  | n + 1, y, h => by
    have h : (walk c L x n).bind (Oil.step c (nth L n)) = some y := h
    cases e : walk c L x n with
    | none => rw [e] at h; exact absurd h (by simp)
    | some z =>
      rw [e] at h
      have h : Oil.step c (nth L n) z = some y := h
      have := walk_le e
      unfold Oil.step at h
      show y ≤ x + (gains L n + ((nth L n).1 - (nth L n).2))
      split at h
      · exact absurd h (by simp)
      · have := Option.some.inj h
        omega
theorem gains_mul {L : List (Int × Int)} : ∀ k : Nat, gains L (L.length * k) = (k : Int) * surp L
  | 0 => by
    rw [Nat.mul_zero]
    show (0 : Int) = ((0 : Nat) : Int) * _
    rw [Int.natCast_zero, Int.zero_mul]
  | k + 1 => by
    rw [Nat.mul_succ, gains_per, gains_mul k, Int.natCast_add, Int.add_mul]
    omega
theorem surp_rot {rs : List (Int × Int)} {i : Nat} (hi : i < rs.length) : surp (rot rs i) = surp rs := by
  have e := gains_all (rs := rot rs i)
  rw [rot_len (by omega), gains_rot hi, gains_per] at e
  omega
/-- a lantern that is not endless goes out within so many rounds -/
theorem out_by {c : Int} {rs : List (Int × Int)} {i : Nat} {x : Int} (hi : i < rs.length) (c1 : 1 ≤ c) (x0 : 0 ≤ x) (x1 : x ≤ c) (h : endl c rs i x = false) {B : Nat} (hB : (B : Int) = (c + 1) * (rs.length : Int)) : walk c (rot rs i) x B = none := by
  have hl := rot_len (rs := rs) (i := i) (by omega)
  obtain ⟨m, rfl⟩ := Int.eq_ofNat_of_zero_le (show 0 ≤ c by omega)
  have eB : B = rs.length * (m + 1) := by
    have : (B : Int) = ((rs.length * (m + 1) : Nat) : Int) := by
      rw [hB, Int.natCast_mul, Int.natCast_add, Int.mul_comm]
      rfl
    exact Int.ofNat.inj this
  subst eB
  unfold endl at h
  by_cases hs : 0 ≤ surp rs
  · rw [decide_eq_true hs] at h
    cases e : walk (m : Int) (rot rs i) x (2 * rs.length) with
    | some y => rw [e] at h; exact absurd h (by simp)
    | none =>
      have hm : 2 * rs.length ≤ rs.length * (m + 1) := by
        rw [Nat.mul_comm]
        exact Nat.mul_le_mul_left _ (by omega)
      have := walk_none e (rs.length * (m + 1) - 2 * rs.length)
      rwa [show 2 * rs.length + (rs.length * (m + 1) - 2 * rs.length) = rs.length * (m + 1) by omega] at this
  · cases e : walk (m : Int) (rot rs i) x (rs.length * (m + 1)) with
    | none => rfl
    | some y =>
      exfalso
      have h0 := walk_nonneg x0 e
      have h1 := walk_le e
      rw [← hl, gains_mul, surp_rot hi] at h1
      have h2 : ((m + 1 : Nat) : Int) * surp rs ≤ ((m + 1 : Nat) : Int) * (-1) := Int.mul_le_mul_of_nonneg_left (by omega) (by omega)
      omega
section
variable {Q : QD} {E : QR} {p a b c x : Int} {rs : List (Int × Int)} {r : Int × Int} {i n : Nat} {s t : Str3}
theorem n_getitem (hi : i < rs.length) (h : Q (dP (nth rs i))) : S_Way_getitem [dW c rs, .int (i : Int)] Q E := by
  refine ⟨rfl, ?_⟩
  show b_Way_getitem [.val (dW c rs), .val (.int (i : Int))] _
  unfold b_Way_getitem dW
  walk_at "pq"
  refine n_check_post (by omega) (by rw [List.length_map]; omega) ?_
  walk_at "pq"
  refine o_ixT (k := i) (x := dP (nth rs i)) (ixD_nat (by rw [List.length_map]; exact hi)) ?_ h
  rw [nth_lt hi, List.getElem?_map, List.getElem?_eq_getElem hi]
  rfl
theorem n_taken (hi : i < rs.length) (h : Q (.int (min c (x + (nth rs i).1)))) : S_taken [dW c rs, .int (i : Int), .int x] Q E := by
  refine ⟨rfl, ?_⟩
  show b_taken [.val (dW c rs), .val (.int (i : Int)), .val (.int x)] _
  unfold b_taken
  walk_at "pq"
  refine ⟨rfl, n_capacity ?_⟩
  walk_at "pq"
  refine ⟨rfl, n_getitem hi ?_⟩
  unfold dP
  walk_at "pq"
  refine o_ixT (k := 0) rfl rfl ?_
  walk_at "pq"
  exact h
theorem n_goes_out (hv : WV c rs) (hi : i < rs.length) (x0 : 0 ≤ x) (x1 : x ≤ c) (h1 : endl c rs i x = true → Q .non)
    (h2 : endl c rs i x = false → ∀ n y, walk c (rot rs i) x n = some y → walk c (rot rs i) x (n + 1) = none → Q (.tup [.int ((n : Nat) : Int), .int (min c (y + (nth (rot rs i) n).1))])) : S_goes_out [dW c rs, .int (i : Int), .int x] Q E := by
  have l1 := hv.l1
  have l2 := hv.l2
  have c1 := hv.c1
  have c2 := hv.c2
  refine ⟨rfl, ?_⟩
  show b_goes_out [.val (dW c rs), .val (.int (i : Int)), .val (.int x), .un, .un, .un, .un] _
  unfold b_goes_out
  walk_at "pq"
  refine n_is_endless hv hi x0 x1 ?_
  walk_at "pq"
  cases e : endl c rs i x with
  | true =>
    walk_at "pq"
    exact h1 e
  | false =>
    have h2 := h2 e
    walk_at "pq"
    refine ⟨rfl, n_capacity ?_⟩
    walk_at "pq"
    refine ⟨rfl, n_len (p_klenI (by omega) ?_)⟩
    obtain ⟨m, hm⟩ := Int.eq_ofNat_of_zero_le (show 0 ≤ c by omega)
    have hB : (((m + 1) * rs.length : Nat) : Int) = (c + 1) * (rs.length : Int) := by rw [hm, Int.natCast_mul, Int.natCast_add]; rfl
    have hBl : (m + 1) * rs.length ≤ (m + 1) * 12 := Nat.mul_le_mul_left _ l2
    have hBg : (m + 1) * 1 ≤ (m + 1) * rs.length := Nat.mul_le_mul_left _ l1
    have hout := out_by hi c1 x0 x1 e hB
    refine o_mul (big_of (by omega)) (big_of (by omega)) ?_
    rw [← hB]
    walk_at "pq"
    dsimp only [List.set]
    refine ⟨fun M env => ∃ (lo up : Nat) (d5 : Sl), M = up - lo ∧ lo < up ∧ up ≤ (m + 1) * rs.length ∧ (walk c (rot rs i) x lo).isSome = true ∧ walk c (rot rs i) x up = none ∧
      env = [.val (dW c rs), .val (.int (i : Int)), .val (.int x), .val (.int (lo : Int)), .val (.int (up : Int)), d5, .un], ⟨_, 0, (m + 1) * rs.length, _, rfl, by omega, Nat.le_refl _, rfl, hout, rfl⟩, fun M env hI => ?_⟩
    obtain ⟨lo, up, d5, rfl, hlt, hup, hlo, hno, rfl⟩ := hI
    walk_at "pq"
    refine p_dec (fun z => ?_) (fun z => ?_)
    · walk_at "pq"
      refine o_div (by decide) (big_of (by decide)) ?_
      have em : ((lo : Int) + (up : Int)) / 2 = (((lo + up) / 2 : Nat) : Int) := by omega
      rw [em]
      walk_at "pq"
      refine n_oil_after hv hi x0 x1 (by omega) ?_
      walk_at "pq"
      cases e2 : walk c (rot rs i) x ((lo + up) / 2) with
      | none =>
        show oIs .non .non _
        walk_at "pq"
        exact ⟨(lo + up) / 2 - lo, by omega, lo, (lo + up) / 2, _, rfl, by omega, by omega, hlo, e2, rfl⟩
      | some y =>
        show oIs (.int y) .non _
        walk_at "pq"
        exact ⟨up - (lo + up) / 2, by omega, (lo + up) / 2, up, _, rfl, by omega, by omega, by rw [e2]; rfl, hno, rfl⟩
    · have eu : up = lo + 1 := by omega
      subst eu
      walk_at "pq"
      refine ⟨rfl, n_len (p_klenI (by omega) ?_)⟩
      refine o_mod (by omega) ?_
      rw [Int.fmod_eq_emod_of_nonneg _ (by omega), show (i : Int) + (lo : Int) = ((i + lo : Nat) : Int) by omega, ← Int.natCast_emod]
      walk_at "pq"
      refine n_oil_after hv hi x0 x1 (by omega) ?_
      walk_at "pq"
      have hm2 := Nat.mod_lt (i + lo) (show rs.length > 0 by omega)
      cases e2 : walk c (rot rs i) x lo with
      | none => rw [e2] at hlo; exact absurd hlo (by decide)
      | some y =>
        refine n_taken hm2 ?_
        walk_at "pq"
        refine ⟨by show 2 ≤ LIM; decide, ?_⟩
        have := h2 lo y e2 hno
        rw [nth_rot hi] at this
        unfold nth
        unfold nth at this
        rw [Nat.mod_mod]
        exact this
/-! settled -/
theorem add_gain {s t : Str3} (hs : (s.add t).need.isSome = true) : (s.add t).gain = s.gain + t.gain ∧ s.need.isSome = true ∧ t.need.isSome = true := by
  obtain ⟨n, g, tp⟩ := s
  obtain ⟨n', g', tp'⟩ := t
  cases n with
  | none => rw [Str3.add_none (.inl rfl)] at hs; exact absurd hs (by decide)
  | some n =>
    cases n' with
    | none => rw [Str3.add_none (.inr rfl)] at hs; exact absurd hs (by decide)
    | some m =>
      rw [Str3.add_some] at hs ⊢
      by_cases h : tp < m
      · rw [if_pos h] at hs; exact absurd hs (by decide)
      · rw [if_neg h]; exact ⟨rfl, rfl, rfl⟩
theorem leg_gain {c : Int} {r : Int × Int} (hs : (legS c r).need.isSome = true) : (legS c r).gain = r.1 - r.2 := by
  unfold legS at hs ⊢
  by_cases h : c < r.2
  · rw [if_pos h] at hs; exact absurd hs (by decide)
  · rw [if_neg h]
theorem tS_gain {c : Int} {L : List (Int × Int)} : ∀ n, (tS c (nth L) n).need.isSome = true → (tS c (nth L) n).gain = gains L (n + 1)
  | 0, h => by
    rw [show tS c (nth L) 0 = legS c (nth L 0) from rfl] at h ⊢
    rw [leg_gain h]
    show (nth L 0).1 - (nth L 0).2 = (0 : Int) + ((nth L 0).1 - (nth L 0).2)
    omega
  | n + 1, h => by
    rw [show tS c (nth L) (n + 1) = (tS c (nth L) n).add (legS c (nth L (n + 1))) from rfl] at h ⊢
    obtain ⟨h1, h2, h3⟩ := add_gain h
    rw [h1, tS_gain n h2, leg_gain h3]
    rfl
theorem app_need {s : Str3} {x : Int} (h : (s.app x).isSome = true) : s.need.isSome = true := by
  obtain ⟨n, g, tp⟩ := s
  cases n with
  | none => exact absurd h (by simp [Str3.app])
  | some n => rfl
/-- one round's stretch where the lantern never goes out -/
theorem round_gain {c : Int} {rs : List (Int × Int)} {i : Nat} {x : Int} (hv : ∀ r ∈ rs, 0 ≤ r.1) (hi : i < rs.length) (x0 : 0 ≤ x) (h : endl c rs i x = true) : 0 ≤ surp rs ∧ (stW c rs i rs.length).gain = surp rs := by
  unfold endl at h
  rw [Bool.and_eq_true] at h
  refine ⟨of_decide_eq_true h.1, ?_⟩
  have hl := rot_len (rs := rs) (i := i) (by omega)
  have h1 : ((stW c rs i rs.length).app x).isSome = true := by
    rw [stW_app x0 hv hi (by omega)]
    cases e : walk c (rot rs i) x rs.length with
    | some y => rfl
    | none =>
      have := walk_none e rs.length
      rw [show rs.length + rs.length = 2 * rs.length by omega] at this
      rw [this] at h
      exact absurd h.2 (by decide)
  have h2 := app_need h1
  rw [stW_tS hi (by omega)] at h2 ⊢
  rw [tS_gain _ h2, show rs.length - 1 + 1 = (rot rs i).length by omega, gains_all, surp_rot hi]
/-- after how many rounds, and with how much oil -/
def setD (c : Int) (rs : List (Int × Int)) (i : Nat) (x : Int) : D :=
  if endl c rs i x = false then .non
  else if (stW c rs i rs.length).top < x then .tup [.int 1, .int (stW c rs i rs.length).top]
  else if (stW c rs i rs.length).gain = 0 then .tup [.int 0, .int x]
  else .tup [.int (((stW c rs i rs.length).top - x + (stW c rs i rs.length).gain - 1) / (stW c rs i rs.length).gain), .int (stW c rs i rs.length).top]
theorem surp_big : ∀ rs : List (Int × Int), (∀ r ∈ rs, PV r) → surp rs ≤ 1000000000 * (rs.length : Int)
  | [], _ => by simp [surp]
  | r :: rs, h => by
    have h1 := surp_big rs fun r hr => h r (by simp [hr])
    have h2 := h r (by simp)
    unfold PV at h2
    unfold surp at h1 ⊢
    simp only [List.map_cons, List.sum_cons, List.length_cons]
    omega
theorem n_settled (hv : WV c rs) (hi : i < rs.length) (x0 : 0 ≤ x) (x1 : x ≤ c) (h : Q (setD c rs i x)) : S_settled [dW c rs, .int (i : Int), .int x] Q E := by
  have l1 := hv.l1
  have l2 := hv.l2
  refine ⟨rfl, ?_⟩
  show b_settled [.val (dW c rs), .val (.int (i : Int)), .val (.int x), .un, .un] _
  unfold b_settled
  walk_at "pq"
  refine n_is_endless hv hi x0 x1 ?_
  walk_at "pq"
  unfold setD at h
  cases e : endl c rs i x with
  | false =>
    rw [if_pos e] at h
    walk_at "pq"
    exact h
  | true =>
    rw [if_neg (by rw [e]; decide)] at h
    obtain ⟨s0, sg⟩ := round_gain (fun r hr => (hv.pv r hr).1.1) hi x0 e
    have sb := surp_big rs hv.pv
    walk_at "pq"
    refine ⟨rfl, by decide, ?_⟩
    walk_at "pq"
    refine ⟨rfl, n_len (p_klenI (by omega) ?_)⟩
    walk_at "pq"
    refine n_stretch hv hi (by omega) (by omega) ?_
    walk_at "pq"
    refine ⟨rfl, n_top ?_⟩
    walk_at "pq"
    refine p_dec (fun z => ?_) (fun z => ?_)
    · rw [if_pos z] at h
      walk_at "pq"
      refine ⟨rfl, n_top ?_⟩
      walk_at "pq"
      exact ⟨by show 2 ≤ LIM; decide, h⟩
    · rw [if_neg z] at h
      walk_at "pq"
      refine ⟨rfl, n_gain ?_⟩
      walk_at "pq"
      refine p_dec (fun z2 => ?_) (fun z2 => ?_)
      · rw [if_pos z2] at h
        walk_at "pq"
        exact ⟨by show 2 ≤ LIM; decide, h⟩
      · rw [if_neg z2] at h
        walk_at "pq"
        refine ⟨rfl, n_top ?_⟩
        walk_at "pq"
        refine ⟨rfl, n_gain ?_⟩
        walk_at "pq"
        refine ⟨rfl, n_gain ?_⟩
        refine o_div (by omega) (big_of (by omega)) ?_
        walk_at "pq"
        refine ⟨rfl, n_top ?_⟩
        walk_at "pq"
        exact ⟨by show 2 ≤ LIM; decide, h⟩
end
end Oil
namespace Oil
open PySem PySem.Spec PyProof.Rows L2
local macro_rules | `(tactic| walk_at "pq1") => `(tactic| with_reducible first
  | refine p_seq ?_ | refine p_skip ?_ | refine p_set ?_ | refine p_setO ?_ | refine p_kown ?_ | refine p_unp ?_ | refine p_put rfl ?_ | refine p_put1 ?_
  | refine p_par ?_ | refine p_pnil ?_ | refine p_pval ?_ | refine p_pown ?_ | refine p_kpown ?_ | refine p_expr ?_ | refine p_ret ?_ | refine p_retN ?_ | refine p_ifS ?_
  | refine p_for ?_ | refine p_raise ?_ | refine p_c ?_ | refine p_op ?_ | refine p_neg ?_ | refine p_kneg ?_ | refine p_chain ?_ | refine p_and ?_ | refine p_or ?_ | refine p_not ?_ | refine p_knot ?_
  | refine p_if ?_ | refine p_nil ?_ | refine p_cons ?_ | refine p_star ?_ | refine p_kstarT ?_ | refine p_kstarL ?_ | refine p_tup ?_ | refine p_lst ?_ | refine p_call ?_ | refine p_cb ?_ | refine p_val ?_ | refine p_kval ?_
  | refine p_ttru ?_ | refine p_ktruN ?_ | refine p_ktruB ?_ | refine p_ktruI ?_ | refine p_ktruL ?_ | refine p_ktruT ?_ | refine p_tnot ?_ | refine p_tand ?_ | refine p_tor ?_
  | refine p_nopart ?_ | refine p_part ?_ | refine p_kpart ?_ | refine p_slice ?_ | refine p_ksliceL ?_ | refine p_ksliceT ?_ | refine p_fld ?_ | refine p_meth ?_ | refine p_clo ?_ | refine p_kclo rfl ?_ | refine p_prop ?_ | refine p_kprop rfl ?_
  | refine p_inv ?_ | refine p_kinv rfl ?_ | refine p_lenO ?_ | refine p_klenO rfl ?_ | refine p_get ?_ | refine p_kget rfl ?_ | refine p_cmeth ?_ | refine p_kcmeth rfl ?_ | refine p_opC ?_ | refine p_kopC rfl rfl ?_ | refine p_opF ?_ | refine p_kopF rfl rfl ?_
  | refine p_eqO ?_ | refine p_keqO rfl rfl ?_ | refine p_iter ?_ | refine p_kiterL ?_ | refine p_kiterT ?_ | refine p_rg1 ?_ | refine p_rg2 ?_ | refine p_enum ?_ | refine p_kenum ?_ | refine p_lc ?_ | refine p_yes ?_
  | refine p_tt ?_ | refine p_ff ?_
  | refine o_add ?_ | refine o_sub ?_ | refine o_lt ?_ | refine o_le ?_ | refine o_gt ?_ | refine o_ge ?_
  | refine b_lenL ?_ | refine b_lenT ?_ | refine b_int ?_ | refine b_tupL ?_ | refine b_tupT ?_ | refine b_listL ?_ | refine b_listT ?_ | refine b_max2 ?_ | refine b_min2 ?_)
local macro_rules | `(tactic| walk_at "pq2") => `(tactic| with_reducible first
  | refine p_name (by with_unfolding_all rfl) ?_ | refine p_ownV (by with_unfolding_all rfl) ?_ | refine p_own (by with_unfolding_all rfl) ?_ | refine p_app (by with_unfolding_all rfl) ?_ | refine p_putI (by with_unfolding_all rfl) ?_
  | refine p_frz (by with_unfolding_all rfl) ?_ | refine p_frzV (by with_unfolding_all rfl) ?_ | refine p_kfld (by with_unfolding_all rfl) (by with_unfolding_all rfl) ?_ | refine p_kmeth (by with_unfolding_all rfl) (by decide) ?_ | refine p_makL (by with_unfolding_all rfl) (by with_unfolding_all rfl) ?_
  | refine p_self (by with_unfolding_all rfl) (by decide) (by with_unfolding_all rfl) (by decide) ?_)
local macro_rules | `(tactic| walk_at "pq3") => `(tactic| with_reducible first
  | refine o_eqI ?_ | refine o_neI ?_ | refine o_isNon ?_ | refine o_isInt ?_ | refine o_isNotNon ?_ | refine o_isNotInt ?_ | refine p_kandT ?_ | refine p_kandF ?_ | refine p_korT ?_ | refine p_korF ?_ | refine p_nt ?_ | refine p_nf ?_)
local macro_rules | `(tactic| walk_at "pq") => `(tactic| repeat (first | walk_at "pq1" | walk_at "pq2" | walk_at "pq3"))
/-! ### greatest numbers -/
theorem max_ex : ∀ l : List Int, l ≠ [] → ∃ m, m ∈ l ∧ ∀ y, y ∈ l → y ≤ m
  | [], h => absurd rfl h
  | [a], _ => ⟨a, by simp, fun y hy => by simp at hy; omega⟩
  | a :: b :: l, _ => by
    obtain ⟨m, h1, h2⟩ := max_ex (b :: l) (by simp)
    by_cases h : a ≤ m
    · exact ⟨m, List.mem_cons_of_mem _ h1, fun y hy => by
        rcases List.mem_cons.mp hy with e | e
        · subst e; exact h
        · exact h2 y e⟩
    · exact ⟨a, List.mem_cons_self, fun y hy => by
        rcases List.mem_cons.mp hy with e | e
        · subst e; exact Int.le_refl _
        · have := h2 y e
          omega⟩
/-- all lacks of at most a round -/
def allL (rs : List (Int × Int)) : List Int := (List.range rs.length).flatMap fun j => (List.range rs.length).map fun k => lackR (rot rs j) 0 (k + 1)
theorem mem_allL {rs : List (Int × Int)} {y : Int} : y ∈ allL rs ↔ ∃ j k, j < rs.length ∧ 1 ≤ k ∧ k ≤ rs.length ∧ y = lackR (rot rs j) 0 k := by
  unfold allL
  rw [List.mem_flatMap]
  constructor
  · rintro ⟨j, hj, h⟩
    obtain ⟨k, hk, e⟩ := List.mem_map.mp h
    exact ⟨j, k + 1, List.mem_range.mp hj, by omega, List.mem_range.mp hk, e.symm⟩
  · rintro ⟨j, k, hj, k1, k2, e⟩
    exact ⟨j, List.mem_range.mpr hj, List.mem_map.mpr ⟨k - 1, List.mem_range.mpr (by omega), by rw [Nat.sub_add_cancel k1, e]⟩⟩
open Classical in
/-- the greatest lack -/
noncomputable def gl (rs : List (Int × Int)) : Int := if h : ∃ m, m ∈ allL rs ∧ ∀ y, y ∈ allL rs → y ≤ m then h.choose else 0
theorem gl_spec {rs : List (Int × Int)} (h : 1 ≤ rs.length) : gl rs ∈ allL rs ∧ ∀ y, y ∈ allL rs → y ≤ gl rs := by
  have he : ∃ m, m ∈ allL rs ∧ ∀ y, y ∈ allL rs → y ≤ m := max_ex _ fun e => by
    have : lackR (rot rs 0) 0 1 ∈ allL rs := mem_allL.mpr ⟨0, 1, by omega, by omega, h, rfl⟩
    rw [e] at this
    simp at this
  unfold gl
  rw [dif_pos he]
  exact he.choose_spec
theorem Worst.gl {rs : List (Int × Int)} {i l : Nat} {w : Int} (h : Worst rs i l w) : w = Oil.gl rs := by
  have hs := gl_spec (rs := rs) (by have := h.hi; omega)
  have a := hs.2 w (mem_allL.mpr ⟨i, l, h.hi, h.l1, h.l2, h.e⟩)
  obtain ⟨j, k, hj, k1, k2, e⟩ := mem_allL.mp hs.1
  have b := h.le j k hj k1 k2
  omega
/-- the same lacks, length by length -/
structure SameL (a b : List (Int × Int)) : Prop where
  len : a.length = b.length
  lr : ∀ j k, j < a.length → 1 ≤ k → k ≤ a.length → ∃ j', j' < b.length ∧ lackR (rot a j) 0 k = lackR (rot b j') 0 k
  rl : ∀ j k, j < b.length → 1 ≤ k → k ≤ b.length → ∃ j', j' < a.length ∧ lackR (rot b j) 0 k = lackR (rot a j') 0 k
theorem SameL.gl {a b : List (Int × Int)} (s : SameL a b) (h : 1 ≤ a.length) : Oil.gl a = Oil.gl b := by
  have ha := gl_spec h
  have hb := gl_spec (rs := b) (by rw [← s.len]; exact h)
  obtain ⟨j, k, hj, k1, k2, e⟩ := mem_allL.mp ha.1
  obtain ⟨j', hj', e'⟩ := s.lr j k hj k1 k2
  have x1 := hb.2 _ (mem_allL.mpr ⟨j', k, hj', k1, by rw [← s.len]; exact k2, rfl⟩)
  obtain ⟨i, l, hi, l1, l2, f⟩ := mem_allL.mp hb.1
  obtain ⟨i', hi', f'⟩ := s.rl i l hi l1 l2
  have x2 := ha.2 _ (mem_allL.mpr ⟨i', l, hi', l1, by rw [s.len]; exact l2, rfl⟩)
  omega
theorem SameL.worst {a b : List (Int × Int)} (s : SameL a b) {i l i' l' : Nat} {w w' : Int} (h : Worst a i l w) (h' : Worst b i' l' w') : l = l' ∧ w = w' := by
  have e0 : w = w' := by rw [h.gl, h'.gl, s.gl (by have := h.hi; omega)]
  refine ⟨?_, e0⟩
  obtain ⟨j, hj, e⟩ := s.lr i l h.hi h.l1 h.l2
  obtain ⟨j', hj', e'⟩ := s.rl i' l' h'.hi h'.l1 h'.l2
  have he := h.e
  have he' := h'.e
  by_cases c1 : l < l'
  · have := h'.lt j l hj h.l1 c1
    omega
  · by_cases c2 : l' < l
    · have := h.lt j' l' hj' h'.l1 c2
      omega
    · omega
/-! ### ways told from another post on -/
theorem rot_get {rs : List (Int × Int)} {i m : Nat} (hi : i < rs.length) (hm : m < rs.length) : (rot rs i)[m]? = some (nth rs (i + m)) := by
  have h : m < (rot rs i).length := by rw [rot_len (by omega)]; exact hm
  rw [List.getElem?_eq_getElem h, ← nth_lt h, nth_rot hi]
theorem ext_nth {a b : List (Int × Int)} (hl : a.length = b.length) (h : ∀ m, m < a.length → nth a m = nth b m) : a = b := by
  refine List.ext_getElem? fun m => ?_
  by_cases hm : m < a.length
  · rw [List.getElem?_eq_getElem hm, List.getElem?_eq_getElem (by omega), ← nth_lt hm, ← nth_lt (by omega), h m hm]
  · rw [List.getElem?_eq_none (by omega), List.getElem?_eq_none (by omega)]
theorem nth_mod {rs : List (Int × Int)} (k m : Nat) : nth rs (k % rs.length + m) = nth rs (k + m) := by
  unfold nth
  rw [Nat.mod_add_mod]
theorem rot_rot {rs : List (Int × Int)} {k j : Nat} (hk : k < rs.length) (hj : j < rs.length) : rot (rot rs k) j = rot rs ((k + j) % rs.length) := by
  have hl := rot_len (rs := rs) (i := k) (by omega)
  have hm := Nat.mod_lt (k + j) (show rs.length > 0 by omega)
  refine ext_nth (by rw [rot_len (by omega), hl, rot_len (by omega)]) fun m _ => ?_
  rw [nth_rot (by omega), nth_rot hk, nth_rot hm, nth_mod, Nat.add_assoc]
theorem rot_zero (rs : List (Int × Int)) : rot rs 0 = rs := by
  unfold rot
  rw [List.drop_zero, List.take_zero, List.append_nil]
theorem same_rot {rs : List (Int × Int)} {k : Nat} (hk : k < rs.length) : SameL (rot rs k) rs := by
  have hl := rot_len (rs := rs) (i := k) (by omega)
  refine ⟨hl, fun j l hj l1 l2 => ⟨(k + j) % rs.length, Nat.mod_lt _ (by omega), by rw [rot_rot hk (by omega)]⟩, fun j l hj l1 l2 => ?_⟩
  refine ⟨(rs.length - k + j) % rs.length, by rw [hl]; exact Nat.mod_lt _ (by omega), ?_⟩
  rw [rot_rot hk (Nat.mod_lt _ (by omega)), Nat.add_mod_mod, show k + (rs.length - k + j) = j + rs.length by omega, Nat.add_mod_right, Nat.mod_eq_of_lt hj]
/-! ### ways walked back -/
def revW (rs : List (Int × Int)) : List (Int × Int) := (List.range rs.length).map fun j => ((nth rs (rs.length - j)).1, (nth rs (rs.length - 1 - j)).2)
theorem revW_len (rs : List (Int × Int)) : (revW rs).length = rs.length := by simp [revW]
theorem nth_rev {rs : List (Int × Int)} {t : Nat} (ht : t < 2 * rs.length) : nth (revW rs) t = ((nth rs (2 * rs.length - t)).1, (nth rs (2 * rs.length - 1 - t)).2) := by
  have key : ∀ t, t < rs.length → nth (revW rs) t = ((nth rs (rs.length - t)).1, (nth rs (rs.length - 1 - t)).2) := fun t ht => by
    rw [nth_lt (by rw [revW_len]; exact ht)]
    unfold revW
    rw [List.getElem_map, List.getElem_range]
  by_cases h : t < rs.length
  · rw [key t h, ← nth_per (rs.length - t), ← nth_per (rs.length - 1 - t), show rs.length - t + rs.length = 2 * rs.length - t by omega, show rs.length - 1 - t + rs.length = 2 * rs.length - 1 - t by omega]
  · have e := nth_per (rs := revW rs) (t - rs.length)
    rw [revW_len, Nat.sub_add_cancel (by omega)] at e
    rw [e, key _ (by omega), show rs.length - (t - rs.length) = 2 * rs.length - t by omega, show rs.length - 1 - (t - rs.length) = 2 * rs.length - 1 - t by omega]
theorem revW_revW (rs : List (Int × Int)) : revW (revW rs) = rs := by
  refine ext_nth (by rw [revW_len, revW_len]) fun m hm => ?_
  rw [revW_len, revW_len] at hm
  have e1 : nth (revW rs) (2 * rs.length - 1 - m) = ((nth rs (2 * rs.length - (2 * rs.length - 1 - m))).1, (nth rs (2 * rs.length - 1 - (2 * rs.length - 1 - m))).2) := nth_rev (by omega)
  have e2 : nth (revW rs) (rs.length - m) = ((nth rs (2 * rs.length - (rs.length - m))).1, (nth rs (2 * rs.length - 1 - (rs.length - m))).2) := nth_rev (by omega)
  have e3 := nth_per (rs := revW rs) (rs.length - m)
  rw [revW_len, show rs.length - m + rs.length = 2 * rs.length - m by omega] at e3
  rw [nth_rev (by rw [revW_len]; omega), revW_len, e1, e3, e2]
  rw [show 2 * rs.length - (rs.length - m) = m + rs.length by omega, nth_per, show 2 * rs.length - 1 - (2 * rs.length - 1 - m) = m by omega]
theorem lack_rev {rs : List (Int × Int)} {j : Nat} : ∀ l : Nat, j + l + 1 ≤ 2 * rs.length → lackR (revW rs) j (j + l + 1) = lackR rs (2 * rs.length - (j + l + 1)) (2 * rs.length - j)
  | 0, h => by
    rw [Nat.add_zero, lack_step, nth_rev (by omega)]
    have e := lack_step rs (2 * rs.length - (j + 1)) (2 * rs.length - (j + 1))
    rw [show 2 * rs.length - (j + 1) + 1 = 2 * rs.length - j by omega] at e
    rw [e, show 2 * rs.length - 1 - j = 2 * rs.length - (j + 1) by omega]
    unfold lackR
    rw [nth_rev (by omega)]
    show (nth rs (2 * rs.length - j)).1 + gains (revW rs) j - gains (revW rs) j - (nth rs (2 * rs.length - j)).1 + _ = _
    omega
  | l + 1, h => by
    rw [show j + (l + 1) + 1 = (j + l + 1) + 1 by omega, lack_step, lack_rev l (by omega), nth_rev (by omega)]
    have e : gains rs (2 * rs.length - (j + l + 1)) = gains rs (2 * rs.length - (j + l + 1 + 1)) + ((nth rs (2 * rs.length - (j + l + 1 + 1))).1 - (nth rs (2 * rs.length - (j + l + 1 + 1))).2) := by
      rw [show 2 * rs.length - (j + l + 1) = 2 * rs.length - (j + l + 1 + 1) + 1 by omega]
      rfl
    rw [show 2 * rs.length - 1 - (j + l + 1) = 2 * rs.length - (j + l + 1 + 1) by omega]
    unfold lackR
    rw [e]
    omega
theorem lack_mod {rs : List (Int × Int)} (F l : Nat) (h : 1 ≤ rs.length) : lackR (rot rs (F % rs.length)) 0 l = lackR rs F (F + l) := by
  have hm := Nat.mod_lt F (show rs.length > 0 by omega)
  rw [lack_rot hm, Nat.add_zero]
  have key : ∀ q : Nat, lackR rs (F % rs.length + rs.length * q) (F % rs.length + rs.length * q + l) = lackR rs (F % rs.length) (F % rs.length + l) := fun q => by
    induction q with
    | zero => rw [Nat.mul_zero, Nat.add_zero]
    | succ q ih =>
      rw [← ih, Nat.mul_succ, show F % rs.length + (rs.length * q + rs.length) = F % rs.length + rs.length * q + rs.length by omega,
        show F % rs.length + rs.length * q + rs.length + l = F % rs.length + rs.length * q + l + rs.length by omega]
      unfold lackR
      rw [gains_per, gains_per, nth_per]
      omega
  have := key (F / rs.length)
  rw [Nat.mod_add_div] at this
  exact this.symm
theorem half_rev (rs : List (Int × Int)) : ∀ j k, j < rs.length → 1 ≤ k → k ≤ rs.length → ∃ j', j' < rs.length ∧ lackR (rot (revW rs) j) 0 k = lackR (rot rs j') 0 k := fun j k hj k1 k2 => by
  refine ⟨(2 * rs.length - (j + k)) % rs.length, Nat.mod_lt _ (by omega), ?_⟩
  rw [lack_mod _ _ (by omega), lack_rot (by rw [revW_len]; exact hj), Nat.add_zero]
  obtain ⟨l, rfl⟩ : ∃ l, k = l + 1 := ⟨k - 1, by omega⟩
  have := lack_rev (rs := rs) (j := j) l (by omega)
  rw [show j + (l + 1) = j + l + 1 by omega, this, show 2 * rs.length - (j + l + 1) + (l + 1) = 2 * rs.length - j by omega]
theorem same_rev (rs : List (Int × Int)) : SameL (revW rs) rs := ⟨revW_len rs, fun j k hj k1 k2 => by
    rw [revW_len] at hj k2
    exact half_rev rs j k hj k1 k2, fun j k hj k1 k2 => by
    obtain ⟨j', h1, h2⟩ := half_rev (revW rs) j k (by rw [revW_len]; exact hj) k1 (by rw [revW_len]; exact k2)
    rw [revW_revW] at h2
    exact ⟨j', h1, h2⟩⟩
theorem surp_rev {rs : List (Int × Int)} (h : 1 ≤ rs.length) : surp (revW rs) = surp rs := by
  have e := lack_rev (rs := rs) (j := 0) (rs.length - 1) (by omega)
  rw [show 0 + (rs.length - 1) + 1 = rs.length by omega, Nat.sub_zero, show 2 * rs.length - rs.length = 0 + rs.length by omega, show 2 * rs.length = rs.length + rs.length by omega] at e
  have g := gains_all (rs := revW rs)
  rw [revW_len] at g
  unfold lackR at e
  rw [nth_rev (by omega), gains_per, gains_per rs.length, gains_all, nth_per, g, show 2 * rs.length - 0 = 0 + rs.length + rs.length by omega, nth_per, nth_per] at e
  have e0 : gains rs 0 = 0 := rfl
  have e1 : gains (revW rs) 0 = 0 := rfl
  rw [e0, e1] at e
  have e : (nth rs 0).1 + 0 - surp (revW rs) = (nth rs 0).1 + (0 + surp rs) - (surp rs + surp rs) := e
  omega
/-! ### one more unit at a post -/
def up (rs : List (Int × Int)) (j : Nat) : List (Int × Int) := rs.set j ((nth rs j).1 + 1, (nth rs j).2)
theorem up_len (rs : List (Int × Int)) (j : Nat) : (up rs j).length = rs.length := by simp [up]
theorem nth_up {rs : List (Int × Int)} {j m : Nat} (hj : j < rs.length) : nth (up rs j) m = if m % rs.length = j then ((nth rs m).1 + 1, (nth rs m).2) else nth rs m := by
  have hm := Nat.mod_lt m (show rs.length > 0 by omega)
  have e0 : ∀ r : Int × Int, (some r).getD (0, 1) = r := fun _ => rfl
  split
  · rename_i h
    subst h
    unfold up nth
    rw [List.length_set, List.getElem?_set_self hm, Nat.mod_mod]
    rfl
  · rename_i h
    unfold up nth
    rw [List.length_set, List.getElem?_set_ne (fun e => h e.symm)]
theorem up_rot {rs : List (Int × Int)} {k j : Nat} (hk : k < rs.length) (hj : j < rs.length) : up (rot rs k) j = rot (up rs ((k + j) % rs.length)) k := by
  have hl := rot_len (rs := rs) (i := k) (by omega)
  have hm := Nat.mod_lt (k + j) (show rs.length > 0 by omega)
  refine ext_nth (by rw [up_len, hl, rot_len (by rw [up_len]; omega), up_len]) fun m h => ?_
  rw [up_len, hl] at h
  rw [nth_up (by omega), hl, nth_rot hk, nth_rot (by rw [up_len]; exact hk), nth_up hm, Nat.mod_eq_of_lt h]
  by_cases e : m = j
  · subst e; rw [if_pos rfl, if_pos rfl]
  · rw [if_neg e, if_neg (fun z => e ?_)]
    have a : k + m < 2 * rs.length := by omega
    have b : k + j < 2 * rs.length := by omega
    have md : ∀ t, t < 2 * rs.length → t % rs.length = if t < rs.length then t else t - rs.length := fun t ht => by
      split
      · exact Nat.mod_eq_of_lt (by assumption)
      · rw [Nat.mod_eq_sub_mod (by omega), Nat.mod_eq_of_lt (by omega)]
    rw [md _ a, md _ b] at z
    split at z <;> split at z <;> omega
theorem up_rev {rs : List (Int × Int)} {j : Nat} (hj : j < rs.length) : up (revW rs) j = revW (up rs ((rs.length - j) % rs.length)) := by
  have hm := Nat.mod_lt (rs.length - j) (show rs.length > 0 by omega)
  refine ext_nth (by rw [up_len, revW_len, revW_len, up_len]) fun m h => ?_
  rw [up_len, revW_len] at h
  rw [nth_up (by rw [revW_len]; exact hj), revW_len, nth_rev (by omega), nth_rev (by rw [up_len]; omega), up_len, Nat.mod_eq_of_lt h, nth_up hm, nth_up hm]
  have md : ∀ t, t ≤ 2 * rs.length → 0 < t → t % rs.length = if t < rs.length then t else if t < 2 * rs.length then t - rs.length else 0 := fun t ht t0 => by
    split
    · exact Nat.mod_eq_of_lt (by assumption)
    · rw [Nat.mod_eq_sub_mod (by omega)]
      split
      · exact Nat.mod_eq_of_lt (by omega)
      · rw [show t - rs.length = rs.length by omega, Nat.mod_self]
  have a := md (2 * rs.length - m) (by omega) (by omega)
  have b := md (rs.length - j) (by omega) (by omega)
  have e2 : ∀ (p : Prop) [Decidable p] (r : Int × Int), (if p then (r.1 + 1, r.2) else r).2 = r.2 := fun p _ r => by split <;> rfl
  have e1 : ∀ (p : Prop) [Decidable p] (r : Int × Int), (if p then (r.1 + 1, r.2) else r).1 = if p then r.1 + 1 else r.1 := fun p _ r => by split <;> rfl
  rw [e2, e1]
  by_cases e : m = j
  · subst e
    rw [if_pos rfl, if_pos (by
      rw [a, b]
      repeat' split
      all_goals omega)]
  · rw [if_neg e, if_neg (fun z => e (by
      rw [a, b] at z
      by_cases x1 : 2 * rs.length - m < rs.length
      · rw [if_pos x1] at z; omega
      · rw [if_neg x1] at z
        by_cases x2 : 2 * rs.length - m < 2 * rs.length
        · rw [if_pos x2] at z
          by_cases x3 : rs.length - j < rs.length
          · rw [if_pos x3] at z; omega
          · rw [if_neg x3] at z; split at z <;> omega
        · rw [if_neg x2] at z
          by_cases x3 : rs.length - j < rs.length
          · rw [if_pos x3] at z; omega
          · rw [if_neg x3] at z; split at z <;> omega))]
end Oil
namespace Oil
open PySem PySem.Spec PyProof.Rows L2
local macro_rules | `(tactic| walk_at "pq1") => `(tactic| with_reducible first
  | refine p_seq ?_ | refine p_skip ?_ | refine p_set ?_ | refine p_setO ?_ | refine p_kown ?_ | refine p_unp ?_ | refine p_put rfl ?_ | refine p_put1 ?_
  | refine p_par ?_ | refine p_pnil ?_ | refine p_pval ?_ | refine p_pown ?_ | refine p_kpown ?_ | refine p_expr ?_ | refine p_ret ?_ | refine p_retN ?_ | refine p_ifS ?_
  | refine p_for ?_ | refine p_raise ?_ | refine p_c ?_ | refine p_op ?_ | refine p_neg ?_ | refine p_kneg ?_ | refine p_chain ?_ | refine p_and ?_ | refine p_or ?_ | refine p_not ?_ | refine p_knot ?_
  | refine p_if ?_ | refine p_nil ?_ | refine p_cons ?_ | refine p_star ?_ | refine p_kstarT ?_ | refine p_kstarL ?_ | refine p_tup ?_ | refine p_lst ?_ | refine p_call ?_ | refine p_cb ?_ | refine p_val ?_ | refine p_kval ?_
  | refine p_ttru ?_ | refine p_ktruN ?_ | refine p_ktruB ?_ | refine p_ktruI ?_ | refine p_ktruL ?_ | refine p_ktruT ?_ | refine p_tnot ?_ | refine p_tand ?_ | refine p_tor ?_
  | refine p_nopart ?_ | refine p_part ?_ | refine p_kpart ?_ | refine p_slice ?_ | refine p_ksliceL ?_ | refine p_ksliceT ?_ | refine p_fld ?_ | refine p_meth ?_ | refine p_clo ?_ | refine p_kclo rfl ?_ | refine p_prop ?_ | refine p_kprop rfl ?_
  | refine p_inv ?_ | refine p_kinv rfl ?_ | refine p_lenO ?_ | refine p_klenO rfl ?_ | refine p_get ?_ | refine p_kget rfl ?_ | refine p_cmeth ?_ | refine p_kcmeth rfl ?_ | refine p_opC ?_ | refine p_kopC rfl rfl ?_ | refine p_opF ?_ | refine p_kopF rfl rfl ?_
  | refine p_eqO ?_ | refine p_keqO rfl rfl ?_ | refine p_iter ?_ | refine p_kiterL ?_ | refine p_kiterT ?_ | refine p_rg1 ?_ | refine p_rg2 ?_ | refine p_enum ?_ | refine p_kenum ?_ | refine p_lc ?_ | refine p_yes ?_
  | refine p_tt ?_ | refine p_ff ?_
  | refine o_add ?_ | refine o_sub ?_ | refine o_lt ?_ | refine o_le ?_ | refine o_gt ?_ | refine o_ge ?_
  | refine b_lenL ?_ | refine b_lenT ?_ | refine b_int ?_ | refine b_tupL ?_ | refine b_tupT ?_ | refine b_listL ?_ | refine b_listT ?_ | refine b_max2 ?_ | refine b_min2 ?_)
local macro_rules | `(tactic| walk_at "pq2") => `(tactic| with_reducible first
  | refine p_name (by with_unfolding_all rfl) ?_ | refine p_ownV (by with_unfolding_all rfl) ?_ | refine p_own (by with_unfolding_all rfl) ?_ | refine p_app (by with_unfolding_all rfl) ?_ | refine p_putI (by with_unfolding_all rfl) ?_
  | refine p_frz (by with_unfolding_all rfl) ?_ | refine p_frzV (by with_unfolding_all rfl) ?_ | refine p_kfld (by with_unfolding_all rfl) (by with_unfolding_all rfl) ?_ | refine p_kmeth (by with_unfolding_all rfl) (by decide) ?_ | refine p_makL (by with_unfolding_all rfl) (by with_unfolding_all rfl) ?_
  | refine p_self (by with_unfolding_all rfl) (by decide) (by with_unfolding_all rfl) (by decide) ?_)
local macro_rules | `(tactic| walk_at "pq3") => `(tactic| with_reducible first
  | refine o_eqI ?_ | refine o_neI ?_ | refine o_isNon ?_ | refine o_isInt ?_ | refine o_isNotNon ?_ | refine o_isNotInt ?_ | refine p_kandT ?_ | refine p_kandF ?_ | refine p_korT ?_ | refine p_korF ?_ | refine p_nt ?_ | refine p_nf ?_)
local macro_rules | `(tactic| walk_at "pq") => `(tactic| repeat (first | walk_at "pq1" | walk_at "pq2" | walk_at "pq3"))
/-! ### turned and walked back, by data -/
def kBack (Q : QD) : QD
  | .lst xs => Q (.lst xs.reverse)
  | .tup xs => Q (.tup xs.reverse)
  | _ => False
theorem p_back {a : WE} {env : Ev} {Q : QD} {E : QR} (h : a env (kBack Q) E) : wBack a env Q E := h
theorem p_kbackT {Q : QD} {xs : List D} (h : Q (.tup xs.reverse)) : kBack Q (.tup xs) := h
theorem p_zip {a b : WE} {env : Ev} {Q : List D → Prop} {E : QR} (h : a env (fun x => b env (fun y => kZip Q x y) E) E) : wZip a b env Q E := h
theorem p_kzipT {Q : List D → Prop} {xs ys : List D} (h : Q ((xs.zip ys).map fun p => .tup [p.1, p.2])) : kZip Q (.tup xs) (.tup ys) := h
theorem cutD_last (xs : List D) (h : 1 ≤ xs.length) : cutD xs (some (-1)) none = xs.drop (xs.length - 1) := by
  unfold cutD
  rw [HT.sIx_none, show HT.sIx xs.length 0 (some (-1)) = xs.length - 1 by
    show (if (-1 : Int) < 0 then (-1 + (xs.length : Int)).toNat else min (-1 : Int).toNat xs.length) = _
    rw [if_pos (by decide)]
    omega]
  exact List.take_of_length_le (by simp)
theorem cutD_but (xs : List D) (h : 1 ≤ xs.length) : cutD xs none (some (-1)) = xs.take (xs.length - 1) := by
  unfold cutD
  rw [HT.sIx_none, show HT.sIx xs.length xs.length (some (-1)) = xs.length - 1 by
    show (if (-1 : Int) < 0 then (-1 + (xs.length : Int)).toNat else min (-1 : Int).toNat xs.length) = _
    rw [if_pos (by decide)]
    omega]
  rfl
theorem get_nth {rs : List (Int × Int)} {k : Nat} (h : k < rs.length) : rs[k]? = some (nth rs k) := by rw [nth_lt h, List.getElem?_eq_getElem h]
theorem zip_rev {rs : List (Int × Int)} (h : 1 ≤ rs.length) : (((rs.reverse.drop (rs.length - 1)) ++ rs.reverse.take (rs.length - 1)).zip rs.reverse).map (fun p => (p.1.1, p.2.2)) = revW rs := by
  have hrev : ∀ j, j < rs.length → rs.reverse[j]? = some (nth rs (rs.length - 1 - j)) := fun j hj => by
    rw [List.getElem?_reverse hj, get_nth (by omega)]
  refine List.ext_getElem? fun j => ?_
  by_cases hj : j < rs.length
  · have h1 : ((rs.reverse.drop (rs.length - 1)) ++ rs.reverse.take (rs.length - 1))[j]? = some (nth rs (rs.length - j)) := by
      by_cases z : j = 0
      · subst z
        rw [List.getElem?_append_left (by rw [List.length_drop, List.length_reverse]; omega), List.getElem?_drop, Nat.add_zero, hrev _ (by omega), show rs.length - 1 - (rs.length - 1) = 0 by omega, Nat.sub_zero,
          show nth rs rs.length = nth rs (0 + rs.length) by rw [Nat.zero_add], nth_per]
      · rw [List.getElem?_append_right (by rw [List.length_drop, List.length_reverse]; omega), List.length_drop, List.length_reverse, List.getElem?_take_of_lt (by omega), hrev _ (by omega)]
        congr 2
        omega
    have h2 := hrev j hj
    rw [List.getElem?_map, (List.getElem?_zip_eq_some (z := (nth rs (rs.length - j), nth rs (rs.length - 1 - j)))).mpr ⟨h1, h2⟩]
    unfold revW
    rw [List.getElem?_map, List.getElem?_range hj]
    rfl
  · rw [List.getElem?_eq_none (by simp; omega), List.getElem?_eq_none (by rw [revW_len]; omega)]
theorem WV.rot {c : Int} {rs : List (Int × Int)} {i : Nat} (hv : WV c rs) (hi : i < rs.length) : WV c (Oil.rot rs i) :=
  ⟨hv.c1, hv.c2, by rw [rot_len (by omega)]; exact hv.l1, by rw [rot_len (by omega)]; exact hv.l2, fun r hr => hv.pv r (rot_mem hr)⟩
theorem WV.rev {c : Int} {rs : List (Int × Int)} (hv : WV c rs) : WV c (revW rs) :=
  ⟨hv.c1, hv.c2, by rw [revW_len]; exact hv.l1, by rw [revW_len]; exact hv.l2, fun r hr => by
    obtain ⟨j, _, e⟩ := List.mem_map.mp hr
    have l1 := hv.l1
    have a := hv.pv _ (nth_mem (L := rs) (k := rs.length - j) (by omega))
    have b := hv.pv _ (nth_mem (L := rs) (k := rs.length - 1 - j) (by omega))
    rw [← e]
    exact ⟨a.1, b.2⟩⟩
/-! equality of ways -/
def pP (r : Int × Int) : PyData := .tuple [.int r.1, .int r.2]
theorem pds_P : ∀ rs : List (Int × Int), D.pds (rs.map dP) = some (rs.map pP)
  | [] => rfl
  | r :: rs => by
    show (match D.pd (dP r), D.pds (rs.map dP) with
      | some a, some b => some (a :: b)
      | _, _ => none) = _
    rw [pds_P rs]
    rfl
theorem canLay_P : ∀ rs : List (Int × Int), PyData.canLayAll0 (rs.map pP) = true
  | [] => by simp [PyData.canLayAll0]
  | r :: rs => by
    rw [List.map_cons]
    simp [PyData.canLayAll0, pP, PyData.canLay0, canLay_P rs]
theorem depth_P : ∀ rs : List (Int × Int), PyData.depthAll (rs.map pP) ≤ 1
  | [] => by simp [PyData.depthAll]
  | r :: rs => by
    have := depth_P rs
    rw [List.map_cons]
    simp [PyData.depthAll, pP, PyData.depth]
    omega
theorem shaped_PT (rs : List (Int × Int)) : SeqAt.shaped (.tuple (rs.map pP)) = true := by
  have := depth_P rs
  simp [SeqAt.shaped, PyData.canLay0, canLay_P, PyData.depth]
  omega
theorem shaped_PL (rs : List (Int × Int)) : SeqAt.shaped (.list (rs.map pP)) = true := by
  have := depth_P rs
  simp [SeqAt.shaped, PyData.canLay0, canLay_P, PyData.depth]
  omega
theorem eqvAll_P : ∀ a b : List (Int × Int), PyData.eqvAll (a.map pP) (b.map pP) = decide (a = b)
  | [], [] => by simp [PyData.eqvAll]
  | [], _ :: _ => by simp [PyData.eqvAll]
  | _ :: _, [] => by simp [PyData.eqvAll]
  | x :: xs, y :: ys => by
    have e : PyData.eqv (pP x) (pP y) = decide (x = y) := by
      obtain ⟨p, q⟩ := x
      obtain ⟨p', q'⟩ := y
      unfold pP
      simp [PyData.eqv, PyData.eqvAll]
      rfl
    rw [List.map_cons, List.map_cons, show PyData.eqvAll (pP x :: xs.map pP) (pP y :: ys.map pP) = (PyData.eqv (pP x) (pP y) && PyData.eqvAll (xs.map pP) (ys.map pP)) by simp [PyData.eqvAll], e, eqvAll_P xs ys]
    simp only [List.cons.injEq, Bool.decide_and]
section
variable {Q : QD} {E : QR} {p q c c' x : Int} {rs rs' : List (Int × Int)} {r : Int × Int} {i n : Nat}
theorem o_eqPT (h : Q (.bl (decide (rs = rs')))) : oEq (.tup (rs.map dP)) (.tup (rs'.map dP)) Q :=
  ⟨.tuple (rs.map pP), .tuple (rs'.map pP), by show (D.pds _).map _ = _; rw [pds_P]; rfl, by show (D.pds _).map _ = _; rw [pds_P]; rfl, shaped_PT _, shaped_PT _, by
    rw [show PyData.eqv (.tuple (rs.map pP)) (.tuple (rs'.map pP)) = PyData.eqvAll (rs.map pP) (rs'.map pP) by simp [PyData.eqv], eqvAll_P]
    exact h⟩
theorem o_nePL (h : Q (.bl (!decide (rs = rs')))) : oNe (.lst (rs.map dP)) (.lst (rs'.map dP)) Q :=
  ⟨.list (rs.map pP), .list (rs'.map pP), by show (D.pds _).map _ = _; rw [pds_P]; rfl, by show (D.pds _).map _ = _; rw [pds_P]; rfl, shaped_PL _, shaped_PL _, by
    rw [show PyData.eqv (.list (rs.map pP)) (.list (rs'.map pP)) = PyData.eqvAll (rs.map pP) (rs'.map pP) by simp [PyData.eqv], eqvAll_P]
    exact h⟩
theorem n_Way_eq (h : Q (.bl (decide (c = c' ∧ rs = rs')))) : S_Way_eq [dW c rs, dW c' rs'] Q E := by
  refine ⟨rfl, ?_⟩
  show b_Way_eq [.val (dW c rs), .val (dW c' rs')] _
  unfold b_Way_eq dW
  walk_at "pq"
  refine ⟨by simp, rfl, ?_⟩
  walk_at "pq"
  refine p_kand (fun z => ?_) (fun z => ?_)
  · walk_at "pq"
    have z := of_decide_eq_true z
    refine o_eqPT ?_
    rw [show decide (rs = rs') = decide (c = c' ∧ rs = rs') by simp [z]]
    exact h
  · have z := of_decide_eq_false z
    rw [show decide (c = c' ∧ rs = rs') = false by simp [z]] at h
    exact h
theorem n_rshift (hv : WV c rs) (hi : i < rs.length) (h : Q (dW c (rot rs i))) : S_Way_rshift [dW c rs, .int (i : Int)] Q E := by
  refine ⟨rfl, ?_⟩
  show b_Way_rshift [.val (dW c rs), .val (.int (i : Int)), .un] _
  unfold b_Way_rshift dW
  walk_at "pq"
  refine n_check_within (by omega) (by rw [List.length_map]; omega) ?_
  walk_at "pq"
  refine n_posts_from hv.l2 hi ?_
  walk_at "pq"
  rw [List.append_nil]
  exact n_Way_init (hv.rot hi) h
theorem n_invert (hv : WV c rs) (h : Q (dW c (revW rs))) : S_Way_invert [dW c rs] Q E := by
  have l1 := hv.l1
  have l2 := hv.l2
  refine ⟨rfl, ?_⟩
  show b_Way_invert [.val (dW c rs), .un, .un, .un, .un, .un] _
  unfold b_Way_invert dW
  walk_at "pq"
  refine p_back ?_
  walk_at "pq"
  refine p_kbackT ?_
  walk_at "pq"
  have hl : (rs.map dP).reverse.length = rs.length := by simp
  rw [cutD_last _ (by omega), cutD_but _ (by omega), hl]
  refine o_addT (by simp [LIM]; omega) ?_
  walk_at "pq"
  refine p_zip ?_
  walk_at "pq"
  refine p_kzipT ?_
  refine ⟨by simp [LIM]; omega, ?_⟩
  have e : ((((rs.map dP).reverse.drop (rs.length - 1) ++ (rs.map dP).reverse.take (rs.length - 1)).zip (rs.map dP).reverse).map fun p => D.tup [p.1, p.2]) =
      (((rs.reverse.drop (rs.length - 1)) ++ rs.reverse.take (rs.length - 1)).zip rs.reverse).map fun p => D.tup [dP p.1, dP p.2] := by
    rw [← List.map_reverse, ← List.map_drop, ← List.map_take, ← List.map_append, List.zip_map, List.map_map]
    rfl
  rw [e]
  refine lc_mapT (fun p : (Int × Int) × (Int × Int) => D.tup [dP p.1, dP p.2]) (fun p => dP (p.1.1, p.2.2)) _ [] ?_ ?_
  · intro p hp A hA
    refine p_put rfl ?_
    dsimp only [wipeE, List.set, setMany]
    unfold dP
    walk_at "pq"
    refine o_ixT (k := 0) rfl rfl ?_
    walk_at "pq"
    refine o_ixT (k := 1) rfl rfl ?_
    exact ⟨by show 2 ≤ LIM; decide, hA⟩
  rw [List.nil_append]
  have e2 : ((((rs.reverse.drop (rs.length - 1)) ++ rs.reverse.take (rs.length - 1)).zip rs.reverse).map fun p => dP (p.1.1, p.2.2)) = (revW rs).map dP := by
    rw [← zip_rev l1, List.map_map]
    rfl
  rw [e2]
  walk_at "pq"
  rw [List.append_nil]
  exact n_Way_init hv.rev h
theorem n_worst_stretch (l1 : 1 ≤ rs.length) (l2 : rs.length ≤ 12) (h : ∀ i l w, Worst rs i l w → Q (dW3 i l w)) : S_worst_stretch [dW c rs] Q E := by
  refine ⟨rfl, ?_⟩
  show b_worst_stretch [.val (dW c rs)] _
  unfold b_worst_stretch
  walk_at "pq"
  refine ⟨rfl, n_posts ?_⟩
  walk_at "pq"
  exact n_worst l1 l2 h
theorem n_with_one_more (l2 : rs.length ≤ 12) (hi : i < rs.length) (h : Q (.tup ((up rs i).map dP))) : S_with_one_more [.tup (rs.map dP), .int (i : Int)] Q E := by
  refine ⟨rfl, ?_⟩
  show b_with_one_more [.val (.tup (rs.map dP)), .val (.int (i : Int)), .un, .un] _
  unfold b_with_one_more
  walk_at "pq"
  refine o_ixT (k := i) (x := dP (nth rs i)) (ixD_nat (by rw [List.length_map]; exact hi)) (by rw [List.getElem?_map, get_nth hi]; rfl) ?_
  unfold dP
  refine p_put rfl ?_
  dsimp only [List.set, setMany]
  walk_at "pq"
  refine ⟨by show 2 ≤ LIM; decide, ?_⟩
  walk_at "pq"
  refine ⟨by show 1 ≤ LIM; decide, ?_⟩
  rw [cutD_to _ _ (by simp; omega)]
  refine o_addT (by simp [LIM]; omega) ?_
  walk_at "pq"
  rw [show (i : Int) + 1 = ((i + 1 : Nat) : Int) by omega, cutD_from _ _ (by simp; omega)]
  refine o_addT (by simp [LIM]; omega) ?_
  have e : (up rs i).map dP = ((rs.map dP).take i ++ [dP ((nth rs i).1 + 1, (nth rs i).2)]) ++ (rs.map dP).drop (i + 1) := by
    unfold up
    rw [List.set_eq_take_append_cons_drop, if_pos hi, List.map_append, List.map_cons, List.map_take, List.map_drop, List.append_assoc]
    rfl
  rw [e] at h
  exact h
/-- the posts at which one more unit helps -/
noncomputable def helpL (rs : List (Int × Int)) : List Nat := (List.range rs.length).filter fun k => decide (gl (up rs k) < gl rs)
theorem n_helpful (hv : WV c rs) (h1 : surp rs < 0 → Q (.lst [])) (h2 : 0 ≤ surp rs → Q (.lst ((helpL rs).map fun (k : Nat) => .int (k : Int)))) : S_helpful_posts [dW c rs] Q E := by
  have l1 := hv.l1
  have l2 := hv.l2
  refine ⟨rfl, ?_⟩
  show b_helpful_posts [.val (dW c rs), .un, .un, .un] _
  unfold b_helpful_posts
  walk_at "pq"
  refine ⟨rfl, n_surplus l2 ?_⟩
  walk_at "pq"
  refine p_dec (fun z => ?_) (fun z => ?_)
  · walk_at "pq"
    exact ⟨by show 0 ≤ LIM; decide, h1 z⟩
  · walk_at "pq"
    refine ⟨rfl, n_posts ?_⟩
    walk_at "pq"
    refine n_greatest_lack l1 l2 fun i l w hw => ?_
    walk_at "pq"
    refine p_krg1 (by rw [List.length_map]; omega) ?_
    rw [Int.toNat_natCast, List.length_map, intD_zero]
    refine ⟨by simp [LIM]; omega, ?_⟩
    refine lc_filtT (fun (k : Nat) => D.int (k : Int)) (fun (k : Nat) => D.int (k : Int)) (fun k => decide (gl (up rs k) < gl rs)) _ [] ?_ ?_
    · intro k hk A B hA hB
      have hk := List.mem_range.mp hk
      refine p_put1 ?_
      dsimp only [wipeE, List.set, setMany]
      walk_at "pq"
      refine n_with_one_more l2 hk ?_
      walk_at "pq"
      refine n_greatest_lack (by rw [up_len]; exact l1) (by rw [up_len]; exact l2) fun i' l' w' hw' => ?_
      walk_at "pq"
      rw [hw.gl, hw'.gl]
      refine p_dec (fun z => ?_) (fun z => ?_)
      · walk_at "pq"
        exact hA (decide_eq_true z)
      · exact hB (decide_eq_false z)
    · exact h2 (by omega)
end
/-! ### sorted -/
theorem sorted_eq : ∀ (a b : List Int), a.Perm b → a.Pairwise (· ≤ ·) → b.Pairwise (· ≤ ·) → a = b
  | [], b, h, _, _ => (List.Perm.nil_eq h)
  | x :: a, [], h, _, _ => absurd h.length_eq (by simp)
  | x :: a, y :: b, h, ha, hb => by
    obtain ⟨h1, h2⟩ := List.pairwise_cons.mp ha
    obtain ⟨h3, h4⟩ := List.pairwise_cons.mp hb
    have e : x = y := by
      have m1 : x ∈ y :: b := h.mem_iff.mp (by simp)
      have m2 : y ∈ x :: a := h.mem_iff.mpr (by simp)
      rcases List.mem_cons.mp m1 with e | e
      · exact e
      · rcases List.mem_cons.mp m2 with e2 | e2
        · exact e2.symm
        · have := h3 x e
          have := h1 y e2
          omega
    subst e
    rw [sorted_eq a b (List.Perm.cons_inv h) h2 h4]
theorem b_sorted {Q : QD} {xs ys : List Int} (hp : xs.Perm ys) (hs : ys.Pairwise (· ≤ ·)) (hl : xs.length < 64) (h : Q (.lst (ys.map .int))) : bSorted [.lst (xs.map .int)] Q :=
  ⟨xs, intsOf_map xs, hl, fun ns p s => by
    rw [sorted_eq ns ys (p.trans hp) s hs]
    exact h⟩
end Oil
namespace Oil
open PySem PySem.Spec PyProof.Rows L2
local macro_rules | `(tactic| walk_at "pq1") => `(tactic| with_reducible first
  | refine p_seq ?_ | refine p_skip ?_ | refine p_set ?_ | refine p_setO ?_ | refine p_kown ?_ | refine p_unp ?_ | refine p_put rfl ?_ | refine p_put1 ?_
  | refine p_par ?_ | refine p_pnil ?_ | refine p_pval ?_ | refine p_pown ?_ | refine p_kpown ?_ | refine p_expr ?_ | refine p_ret ?_ | refine p_retN ?_ | refine p_ifS ?_
  | refine p_for ?_ | refine p_raise ?_ | refine p_c ?_ | refine p_op ?_ | refine p_neg ?_ | refine p_kneg ?_ | refine p_chain ?_ | refine p_and ?_ | refine p_or ?_ | refine p_not ?_ | refine p_knot ?_
  | refine p_if ?_ | refine p_nil ?_ | refine p_cons ?_ | refine p_star ?_ | refine p_kstarT ?_ | refine p_kstarL ?_ | refine p_tup ?_ | refine p_lst ?_ | refine p_call ?_ | refine p_cb ?_ | refine p_val ?_ | refine p_kval ?_
  | refine p_ttru ?_ | refine p_ktruN ?_ | refine p_ktruB ?_ | refine p_ktruI ?_ | refine p_ktruL ?_ | refine p_ktruT ?_ | refine p_tnot ?_ | refine p_tand ?_ | refine p_tor ?_
  | refine p_nopart ?_ | refine p_part ?_ | refine p_kpart ?_ | refine p_slice ?_ | refine p_ksliceL ?_ | refine p_ksliceT ?_ | refine p_fld ?_ | refine p_meth ?_ | refine p_clo ?_ | refine p_kclo rfl ?_ | refine p_prop ?_ | refine p_kprop rfl ?_
  | refine p_inv ?_ | refine p_kinv rfl ?_ | refine p_lenO ?_ | refine p_klenO rfl ?_ | refine p_get ?_ | refine p_kget rfl ?_ | refine p_cmeth ?_ | refine p_kcmeth rfl ?_ | refine p_opC ?_ | refine p_kopC rfl rfl ?_ | refine p_opF ?_ | refine p_kopF rfl rfl ?_
  | refine p_eqO ?_ | refine p_keqO rfl rfl ?_ | refine p_iter ?_ | refine p_kiterL ?_ | refine p_kiterT ?_ | refine p_rg1 ?_ | refine p_rg2 ?_ | refine p_enum ?_ | refine p_kenum ?_ | refine p_lc ?_ | refine p_yes ?_
  | refine p_tt ?_ | refine p_ff ?_
  | refine o_add ?_ | refine o_sub ?_ | refine o_lt ?_ | refine o_le ?_ | refine o_gt ?_ | refine o_ge ?_
  | refine b_lenL ?_ | refine b_lenT ?_ | refine b_int ?_ | refine b_tupL ?_ | refine b_tupT ?_ | refine b_listL ?_ | refine b_listT ?_ | refine b_max2 ?_ | refine b_min2 ?_)
local macro_rules | `(tactic| walk_at "pq2") => `(tactic| with_reducible first
  | refine p_name (by with_unfolding_all rfl) ?_ | refine p_ownV (by with_unfolding_all rfl) ?_ | refine p_own (by with_unfolding_all rfl) ?_ | refine p_app (by with_unfolding_all rfl) ?_ | refine p_putI (by with_unfolding_all rfl) ?_
  | refine p_frz (by with_unfolding_all rfl) ?_ | refine p_frzV (by with_unfolding_all rfl) ?_ | refine p_kfld (by with_unfolding_all rfl) (by with_unfolding_all rfl) ?_ | refine p_kmeth (by with_unfolding_all rfl) (by decide) ?_ | refine p_makL (by with_unfolding_all rfl) (by with_unfolding_all rfl) ?_
  | refine p_self (by with_unfolding_all rfl) (by decide) (by with_unfolding_all rfl) (by decide) ?_)
local macro_rules | `(tactic| walk_at "pq3") => `(tactic| with_reducible first
  | refine o_eqI ?_ | refine o_neI ?_ | refine o_isNon ?_ | refine o_isInt ?_ | refine o_isNotNon ?_ | refine o_isNotInt ?_ | refine p_kandT ?_ | refine p_kandF ?_ | refine p_korT ?_ | refine p_korF ?_ | refine p_nt ?_ | refine p_nf ?_)
local macro_rules | `(tactic| walk_at "pq") => `(tactic| repeat (first | walk_at "pq1" | walk_at "pq2" | walk_at "pq3"))
/-! like(x, x): the same data -/
def D.dep : Nat → D → Prop
  | 0, _ => False
  | _ + 1, .non => True
  | _ + 1, .bl _ => True
  | _ + 1, .int _ => True
  | _ + 1, .str s => SeqAt.shaped (.str s) = true
  | n + 1, .tup xs => xs.length ≤ 1000 ∧ ∀ x ∈ xs, D.dep n x
  | n + 1, .lst xs => xs.length ≤ 1000 ∧ ∀ x ∈ xs, D.dep n x
  | _ + 1, _ => False
def S_like (n : Nat) : PSpec := fun ds Q _ => ∃ x, ds = [x, x] ∧ D.dep n x ∧ Q (.bl true)
abbrev S_like8 : PSpec := S_like 8
def b_law_like (S : PSpec) : WS := (wSeq (wIfS (wtOr (wtVal (wCB (bIsiC []) (wCons (wName 1) (wCons (wC (.ty "tuple")) wNil)))) (wtVal (wCB (bIsiC []) (wCons (wName 1) (wCons (wC (.ty "list")) wNil)))))
    (wSeq (wIfS (wtVal (wOp oNe (wCB (bIsiC []) (wCons (wName 0) (wCons (wC (.ty "tuple")) wNil))) (wCB (bIsiC []) (wCons (wName 1) (wCons (wC (.ty "tuple")) wNil)))))
    (wRet (wC (.bl false)))
    wSkip)
    (wSeq (wIfS (wtOr (wtVal (wOp oNe (wCB (bIsiC []) (wCons (wName 0) (wCons (wC (.ty "list")) wNil))) (wCB (bIsiC []) (wCons (wName 1) (wCons (wC (.ty "list")) wNil))))) (wtVal (wOp oNe (wCB bLen (wCons (wName 0) wNil)) (wCB bLen (wCons (wName 1) wNil)))))
    (wRet (wC (.bl false)))
    wSkip)
    (wRet (wOp oEq (wLc (wRange1 (wCB bLen (wCons (wName 1) wNil))) (.nm 2) (wtNot (wtVal (wCall S (wCons (wOp oIx (wName 0) (wName 2)) (wCons (wOp oIx (wName 1) (wName 2)) wNil))))) (wName 2) [2]) (wLst wNil)))))
    wSkip)
    (wSeq (wIfS (wtVal (wOp oNe (wCB (bIsiC []) (wCons (wName 0) (wCons (wC (.ty "bool")) wNil))) (wCB (bIsiC []) (wCons (wName 1) (wCons (wC (.ty "bool")) wNil)))))
    (wRet (wC (.bl false)))
    wSkip)
    (wSeq (wIfS (wtOr (wtVal (wOp oNe (wCB (bIsiC []) (wCons (wName 0) (wCons (wC (.ty "int")) wNil))) (wCB (bIsiC []) (wCons (wName 1) (wCons (wC (.ty "int")) wNil))))) (wtVal (wOp oNe (wCB (bIsiC []) (wCons (wName 0) (wCons (wC (.ty "str")) wNil))) (wCB (bIsiC []) (wCons (wName 1) (wCons (wC (.ty "str")) wNil))))))
    (wRet (wC (.bl false)))
    wSkip)
    (wRet (wOp oEq (wName 0) (wName 1))))))
theorem o_neBk {a b : Bool} {Q : QD} (h : Q (.bl !(a == b))) : oNe (.bl a) (.bl b) Q := by
  refine ⟨.bool a, .bool b, rfl, rfl, by cases a <;> decide +kernel, by cases b <;> decide +kernel, ?_⟩
  have : PyData.eqv (.bool a) (.bool b) = (a == b) := by cases a <;> cases b <;> decide +kernel
  rw [this]
  exact h
theorem b_isi {x : D} {T c : String} {b : Bool} {Q : QD} (h1 : x.kind = some T) (h2 : kitB T c = some b) (h : Q (.bl b)) : bIsiC [] [x, .ty c] Q := ⟨fun c hc => (by simp at hc; subst hc; cases h1), T, b, h1, h2, h⟩
theorem like_flat {n : Nat} {x : D} {T : String} {a : PyData} {Q : QD} {E : QR} (hk : x.kind = some T) (h1 : kitB T "tuple" = some false) (h2 : kitB T "list" = some false) {b3 b4 b5 : Bool} (h3 : kitB T "bool" = some b3) (h4 : kitB T "int" = some b4) (h5 : kitB T "str" = some b5) (hp : x.pd = some a) (hs : SeqAt.shaped a = true) (he : PyData.eqv a a = true) (q : Q (.bl true)) : specOf 2 3 (b_law_like (S_like n)) [x, x] Q E := by
  refine ⟨rfl, ?_⟩
  show b_law_like (S_like n) [.val x, .val x, .un] _
  unfold b_law_like
  walk_at "pq"
  refine b_isi hk h1 ?_
  walk_at "pq"
  refine b_isi hk h2 ?_
  walk_at "pq"
  refine b_isi hk h3 ?_
  walk_at "pq"
  refine b_isi hk h3 ?_
  refine o_neBk ?_
  rw [beq_self_eq_true]
  walk_at "pq"
  refine b_isi hk h4 ?_
  walk_at "pq"
  refine b_isi hk h4 ?_
  refine o_neBk ?_
  rw [beq_self_eq_true]
  walk_at "pq"
  refine b_isi hk h5 ?_
  walk_at "pq"
  refine b_isi hk h5 ?_
  refine o_neBk ?_
  rw [beq_self_eq_true]
  walk_at "pq"
  exact ⟨a, a, hp, hp, hs, hs, by rw [he]; exact q⟩

theorem like_go {n : Nat} {x : D} {xs : List D} {Q : List D → Prop} {s2 : Sl} (hx : x = .tup xs ∨ x = .lst xs) (hd : ∀ y ∈ xs, D.dep n y) (q : Q []) : ∀ ys : List D, (∀ y ∈ ys, ∃ j : Nat, j < xs.length ∧ y = .int (j : Int)) →
    wLcGo (.nm 2) (wtNot (wtVal (wCall (S_like n) (wCons (wOp oIx (wName 0) (wName 2)) (wCons (wOp oIx (wName 1) (wName 2)) wNil))))) (wName 2) [.val x, .val x, s2] ys [] Q
  | [], _ => q
  | y :: ys, h => by
    obtain ⟨j, hj, rfl⟩ := h y (List.mem_cons_self ..)
    have e : xs[j]? = some xs[j] := List.getElem?_eq_getElem hj
    unfold wLcGo
    refine p_put1 ?_
    show wtNot _ [.val x, .val x, .val (.int (j : Int))] _ _
    walk_at "pq"
    have ix : ∀ {R : QD}, R xs[j] → oIx x (.int (j : Int)) R := fun h => by
      rcases hx with rfl | rfl
      · exact o_ixT (ixD_nat hj) e h
      · exact o_ixL (ixD_nat hj) e h
    refine ix ?_
    walk_at "pq"
    refine ix ?_
    walk_at "pq"
    refine ⟨xs[j], rfl, hd _ (List.getElem_mem hj), ?_⟩
    walk_at "pq"
    exact like_go hx hd q ys fun y hy => h y (List.mem_cons_of_mem _ hy)
theorem like_seq {n : Nat} {x : D} {xs : List D} {Q : QD} {E : QR} (hx : x = .tup xs ∨ x = .lst xs) (hl : xs.length ≤ 1000) (hd : ∀ y ∈ xs, D.dep n y) (q : Q (.bl true)) : specOf 2 3 (b_law_like (S_like n)) [x, x] Q E := by
  refine ⟨rfl, ?_⟩
  show b_law_like (S_like n) [.val x, .val x, .un] _
  have hk : ∃ T b1 b2, x.kind = some T ∧ kitB T "tuple" = some b1 ∧ kitB T "list" = some b2 ∧ (b1 || b2) = true := by
    rcases hx with rfl | rfl
    · exact ⟨"tuple", true, false, rfl, by decide +kernel, by decide +kernel, rfl⟩
    · exact ⟨"list", false, true, rfl, by decide +kernel, by decide +kernel, rfl⟩
  obtain ⟨T, b1, b2, hk, h1, h2, h3⟩ := hk
  have ln : ∀ {R : QD}, R (.int xs.length) → bLen [x] R := fun h => by
    rcases hx with rfl | rfl
    · exact b_lenT h
    · exact b_lenL h
  have rest : ∀ K' : KN, (∀ e, K'.rt (.bl true) e) → wSeq (wIfS (wtVal (wOp oNe (wCB (bIsiC []) (wCons (wName 0) (wCons (wC (.ty "tuple")) wNil))) (wCB (bIsiC []) (wCons (wName 1) (wCons (wC (.ty "tuple")) wNil)))))
    (wRet (wC (.bl false)))
    wSkip)
    (wSeq (wIfS (wtOr (wtVal (wOp oNe (wCB (bIsiC []) (wCons (wName 0) (wCons (wC (.ty "list")) wNil))) (wCB (bIsiC []) (wCons (wName 1) (wCons (wC (.ty "list")) wNil))))) (wtVal (wOp oNe (wCB bLen (wCons (wName 0) wNil)) (wCB bLen (wCons (wName 1) wNil)))))
    (wRet (wC (.bl false)))
    wSkip)
    (wRet (wOp oEq (wLc (wRange1 (wCB bLen (wCons (wName 1) wNil))) (.nm 2) (wtNot (wtVal (wCall (S_like n) (wCons (wOp oIx (wName 0) (wName 2)) (wCons (wOp oIx (wName 1) (wName 2)) wNil))))) (wName 2) [2]) (wLst wNil)))) [.val x, .val x, .un] K' := fun ⟨n1, r1, k1, c1, e1⟩ hq => by
    walk_at "pq"
    refine b_isi hk h1 ?_
    walk_at "pq"
    refine b_isi hk h1 ?_
    refine o_neBk ?_
    rw [beq_self_eq_true]
    walk_at "pq"
    refine b_isi hk h2 ?_
    walk_at "pq"
    refine b_isi hk h2 ?_
    refine o_neBk ?_
    rw [beq_self_eq_true]
    walk_at "pq"
    refine ln ?_
    walk_at "pq"
    refine ln ?_
    walk_at "pq"
    rw [show (!decide ((xs.length : Int) = (xs.length : Int))) = false by simp]
    walk_at "pq"
    refine ln ?_
    refine p_krg1 (by omega) ?_
    refine ⟨by rw [intD_len]; unfold LIM; omega, ?_⟩
    refine like_go hx hd ?_ _ fun y hy => ?_
    · walk_at "pq"
      refine ⟨by decide, ?_⟩
      exact ⟨.list [], .list [], rfl, rfl, by decide +kernel, by decide +kernel, by rw [show PyData.eqv (.list []) (.list []) = true by decide +kernel]; exact hq _⟩
    · obtain ⟨i, hi⟩ := List.mem_iff_getElem?.mp hy
      obtain ⟨h4, h5⟩ := intD_get hi
      exact ⟨i, by omega, by rw [h5]; simp⟩
  unfold b_law_like
  walk_at "pq"
  refine b_isi hk h1 ?_
  cases b1 with
  | true =>
    walk_at "pq"
    exact rest _ fun _ => q
  | false =>
    walk_at "pq"
    refine b_isi hk h2 ?_
    cases b2 with
    | true =>
      walk_at "pq"
      exact rest _ fun _ => q
    | false => cases h3
theorem like_step (n : Nat) (ds : List D) (Q : QD) (E : QR) (h : S_like (n + 1) ds Q E) : specOf 2 3 (b_law_like (S_like n)) ds Q E := by
  obtain ⟨x, rfl, hd, q⟩ := h
  cases x with
  | non => exact like_flat (T := "NoneType") rfl (by decide +kernel) (by decide +kernel) (b3 := false) (by decide +kernel) (b4 := false) (by decide +kernel) (b5 := false) (by decide +kernel) rfl rfl (by simp [PyData.eqv]) q
  | bl b => exact like_flat (T := "bool") rfl (by decide +kernel) (by decide +kernel) (b3 := true) (by decide +kernel) (b4 := true) (by decide +kernel) (b5 := false) (by decide +kernel) rfl rfl (by simp [PyData.eqv]) q
  | int i => exact like_flat (T := "int") rfl (by decide +kernel) (by decide +kernel) (b3 := false) (by decide +kernel) (b4 := true) (by decide +kernel) (b5 := false) (by decide +kernel) rfl rfl (by simp [PyData.eqv]) q
  | str s => exact like_flat (T := "str") rfl (by decide +kernel) (by decide +kernel) (b3 := false) (by decide +kernel) (b4 := false) (by decide +kernel) (b5 := true) (by decide +kernel) rfl hd (by simp [PyData.eqv]) q
  | tup xs => exact like_seq (.inl rfl) hd.1 hd.2 q
  | lst xs => exact like_seq (.inr rfl) hd.1 hd.2 q
  | _ => exact hd.elim
end Oil
namespace Oil
open PySem PySem.Spec PyProof.Rows L2
local macro_rules | `(tactic| walk_at "pq1") => `(tactic| with_reducible first
  | refine p_seq ?_ | refine p_skip ?_ | refine p_set ?_ | refine p_setO ?_ | refine p_kown ?_ | refine p_unp ?_ | refine p_put rfl ?_ | refine p_put1 ?_
  | refine p_par ?_ | refine p_pnil ?_ | refine p_pval ?_ | refine p_pown ?_ | refine p_kpown ?_ | refine p_expr ?_ | refine p_ret ?_ | refine p_retN ?_ | refine p_ifS ?_
  | refine p_for ?_ | refine p_raise ?_ | refine p_c ?_ | refine p_op ?_ | refine p_neg ?_ | refine p_kneg ?_ | refine p_chain ?_ | refine p_and ?_ | refine p_or ?_ | refine p_not ?_ | refine p_knot ?_
  | refine p_if ?_ | refine p_nil ?_ | refine p_cons ?_ | refine p_star ?_ | refine p_kstarT ?_ | refine p_kstarL ?_ | refine p_tup ?_ | refine p_lst ?_ | refine p_call ?_ | refine p_cb ?_ | refine p_val ?_ | refine p_kval ?_
  | refine p_ttru ?_ | refine p_ktruN ?_ | refine p_ktruB ?_ | refine p_ktruI ?_ | refine p_ktruL ?_ | refine p_ktruT ?_ | refine p_tnot ?_ | refine p_tand ?_ | refine p_tor ?_
  | refine p_nopart ?_ | refine p_part ?_ | refine p_kpart ?_ | refine p_slice ?_ | refine p_ksliceL ?_ | refine p_ksliceT ?_ | refine p_fld ?_ | refine p_meth ?_ | refine p_clo ?_ | refine p_kclo rfl ?_ | refine p_prop ?_ | refine p_kprop rfl ?_
  | refine p_inv ?_ | refine p_kinv rfl ?_ | refine p_lenO ?_ | refine p_klenO rfl ?_ | refine p_get ?_ | refine p_kget rfl ?_ | refine p_cmeth ?_ | refine p_kcmeth rfl ?_ | refine p_opC ?_ | refine p_kopC rfl rfl ?_ | refine p_opF ?_ | refine p_kopF rfl rfl ?_
  | refine p_eqO ?_ | refine p_keqO rfl rfl ?_ | refine p_iter ?_ | refine p_kiterL ?_ | refine p_kiterT ?_ | refine p_rg1 ?_ | refine p_rg2 ?_ | refine p_enum ?_ | refine p_kenum ?_ | refine p_lc ?_ | refine p_yes ?_
  | refine p_tt ?_ | refine p_ff ?_
  | refine o_add ?_ | refine o_sub ?_ | refine o_lt ?_ | refine o_le ?_ | refine o_gt ?_ | refine o_ge ?_
  | refine b_lenL ?_ | refine b_lenT ?_ | refine b_int ?_ | refine b_tupL ?_ | refine b_tupT ?_ | refine b_listL ?_ | refine b_listT ?_ | refine b_max2 ?_ | refine b_min2 ?_)
local macro_rules | `(tactic| walk_at "pq2") => `(tactic| with_reducible first
  | refine p_name (by with_unfolding_all rfl) ?_ | refine p_ownV (by with_unfolding_all rfl) ?_ | refine p_own (by with_unfolding_all rfl) ?_ | refine p_app (by with_unfolding_all rfl) ?_ | refine p_putI (by with_unfolding_all rfl) ?_
  | refine p_frz (by with_unfolding_all rfl) ?_ | refine p_frzV (by with_unfolding_all rfl) ?_ | refine p_kfld (by with_unfolding_all rfl) (by with_unfolding_all rfl) ?_ | refine p_kmeth (by with_unfolding_all rfl) (by decide) ?_ | refine p_makL (by with_unfolding_all rfl) (by with_unfolding_all rfl) ?_
  | refine p_self (by with_unfolding_all rfl) (by decide) (by with_unfolding_all rfl) (by decide) ?_)
local macro_rules | `(tactic| walk_at "pq3") => `(tactic| with_reducible first
  | refine o_eqI ?_ | refine o_neI ?_ | refine o_isNon ?_ | refine o_isInt ?_ | refine o_isNotNon ?_ | refine o_isNotInt ?_ | refine p_kandT ?_ | refine p_kandF ?_ | refine p_korT ?_ | refine p_korF ?_ | refine p_nt ?_ | refine p_nf ?_)
local macro_rules | `(tactic| walk_at "pq") => `(tactic| repeat (first | walk_at "pq1" | walk_at "pq2" | walk_at "pq3"))
/-! what the laws k01 to k11 have in common: draws, rows, plain walks -/
def lo (c : Int) (rs : List (Int × Int)) (k : Nat) : Option Int := if surp rs < 0 then none else (stW c rs k (2 * rs.length)).need
def goodL (c : Int) (rs : List (Int × Int)) : List Nat := (List.range rs.length).filter fun k => decide (lo c rs k = some 0)
section
variable {Q : QD} {E : QR} {c : Int} {rs : List (Int × Int)}
theorem n_least {i : Nat} (hv : WV c rs) (hi : i < rs.length) (h : Q (dN (lo c rs i))) : S_least_oil [dW c rs, .int (i : Int)] Q E := by
  refine n_least_oil hv hi ?_
  unfold lo at h
  by_cases z : surp rs < 0
  · rw [if_pos z] at h ⊢
    exact h
  · rw [if_neg z] at h ⊢
    exact h
theorem n_good_posts (hv : WV c rs) (h : Q (.lst ((goodL c rs).map fun (k : Nat) => .int (k : Int)))) : S_good_posts [dW c rs] Q E := by
  have l2 := hv.l2
  refine ⟨rfl, ?_⟩
  show b_good_posts [.val (dW c rs), .un] _
  unfold b_good_posts
  walk_at "pq"
  refine ⟨rfl, n_len (p_klenI (by omega) ?_)⟩
  refine p_krg1 (by omega) ?_
  rw [Int.toNat_natCast, intD_zero]
  refine ⟨by rw [List.length_map, List.length_range]; unfold LIM; omega, ?_⟩
  refine lc_filtT (fun (k : Nat) => D.int (k : Int)) (fun (k : Nat) => D.int (k : Int)) (fun k => decide (lo c rs k = some 0)) _ [] ?_ h
  intro k hk A B hA hB
  have hk := List.mem_range.mp hk
  refine p_put1 ?_
  dsimp only [wipeE, List.set, setMany]
  walk_at "pq"
  refine n_least hv hk ?_
  walk_at "pq"
  refine o_eqN (b := some 0) ?_
  walk_at "pq"
  refine p_dec (fun z => ?_) (fun z => ?_)
  · walk_at "pq"
    exact hA (decide_eq_true z)
  · exact hB (decide_eq_false z)
theorem n_law_pick {xs : List D} (h0 : 0 < xs.length) (h1 : xs.length ≤ 1000) (h : ∀ x ∈ xs, Q x) : S_law_pick [.dice, .lst xs] Q E := by
  refine ⟨rfl, ?_⟩
  show b_law_pick [.val .dice, .val (.lst xs)] _
  unfold b_law_pick
  walk_at "pq"
  refine n_next (by omega) (by omega) fun r r0 r1 => ?_
  have hr : r.toNat < xs.length := by omega
  exact o_ixL (ixD_of r0 r1) (List.getElem?_eq_getElem hr) (h _ (List.getElem_mem hr))
/-- the rows that are drawn -/
structure RP (rs : List (Int × Int)) : Prop where
  l1 : 1 ≤ rs.length
  l2 : rs.length ≤ 5
  pv : ∀ r ∈ rs, (0 ≤ r.1 ∧ r.1 ≤ 100) ∧ 1 ≤ r.2 ∧ r.2 ≤ 5
theorem RP.wv (h : RP rs) (h1 : 1 ≤ c) (h2 : c ≤ 1000000000) : WV c rs := ⟨h1, h2, h.l1, by have := h.l2; omega, fun r hr => by
  have q := h.pv r hr
  exact ⟨⟨q.1.1, by omega⟩, q.2.1, by omega⟩⟩
theorem sum5 : ∀ rs : List (Int × Int), (∀ r ∈ rs, (0 ≤ r.1 ∧ r.1 ≤ 5) ∧ 1 ≤ r.2 ∧ r.2 ≤ 5) → (rs.map fun r => r.2 - r.1).sum ≤ 5 * (rs.length : Int)
  | [], _ => by simp
  | r :: rs, h => by
    have h1 := h r (by simp)
    have h2 := sum5 rs fun x hx => h x (by simp [hx])
    simp only [List.map_cons, List.sum_cons, List.length_cons]
    omega
theorem n_law_rows (h : ∀ (c : Int) (rs : List (Int × Int)), 2 ≤ c → c ≤ 10 → RP rs → Q (.tup [.int c, .tup (rs.map dP)])) : S_law_rows [.dice] Q E := by
  refine ⟨rfl, ?_⟩
  show b_law_rows [.val .dice, .un, .un, .un, .un, .un] _
  unfold b_law_rows
  walk_at "pq"
  refine n_next (by decide) (by decide) fun r h0 h1 => ?_
  walk_at "pq"
  refine p_krg1 (by omega) ?_
  refine ⟨by rw [intD_len]; unfold LIM; omega, ?_⟩
  refine lc_draw (W := fun r : Int × Int => (0 ≤ r.1 ∧ r.1 ≤ 5) ∧ 1 ≤ r.2 ∧ r.2 ≤ 5) dP _ _ ?_ ?_
  · intro y hy A hA
    refine p_put1 ?_
    dsimp only [wipeE, List.set]
    walk_at "pq"
    refine n_next (by omega) (by omega) fun a a0 a1 => ?_
    walk_at "pq"
    refine ⟨by show 2 ≤ LIM; decide, ?_⟩
    walk_at "pq"
    refine n_law_pick (by simp) (by simp) fun x hx => ?_
    have hx : x = .int 3 ∨ x = .int 5 := by simpa using hx
    have go : ∀ n : Int, 3 ≤ n → n ≤ 5 → S_next [.dice, .int n] (fun b => oAdd (.int 1) b fun x => ([.int a, x] : List D).length ≤ LIM ∧ A (.tup [.int a, x])) (fun _ => False) := fun n n3 n5 => by
      refine n_next (by omega) (by omega) fun b b0 b1 => ?_
      walk_at "pq"
      exact ⟨by show 2 ≤ LIM; decide, hA (a, 1 + b) ⟨⟨by omega, by omega⟩, by omega, by omega⟩⟩
    rcases hx with rfl | rfl
    · exact go 3 (by decide) (by decide)
    · exact go 5 (by decide) (by decide)
  · intro rs hl hrs
    rw [intD_len] at hl
    have hl1 : 1 ≤ rs.length := by omega
    have hl2 : rs.length ≤ 5 := by omega
    rw [List.nil_append]
    walk_at "pq"
    refine n_next (by decide) (by decide) fun b b0 b1 => ?_
    walk_at "pq"
    have fin : ∀ (e : Ev) (ws : List (Int × Int)), RP ws → e[0]? = some (.val .dice) → e[1]? = some (.own (ws.map dP)) → wRet (wTup (wCons (wOp oAdd (wC (.int 2)) (wCall S_next (wCons (wName 0) (wCons (wC (.int 9)) wNil)))) (wCons (wCB bTuple (wCons (wOwn 1) wNil)) wNil))) e ⟨fun _ => Q .non, fun d _ => Q d, fun _ => False, fun _ => False, fun x _ => E x⟩ := fun e ws hw e0 e1 => by
      refine p_ret (p_tup (p_cons (p_op (p_c (p_call (p_cons (p_name e0 (p_cons (p_c (p_nil ?_))))))))))
      refine n_next (by decide) (by decide) fun q q0 q1 => ?_
      refine o_add (p_cons (p_cb (p_cons (p_own e1 (p_nil (b_tupL (p_nil ⟨by show 2 ≤ LIM; decide, ?_⟩)))))))
      exact h (2 + q) ws (by omega) (by omega) hw
    refine p_dec (fun z => ?_) (fun z => ?_)
    · walk_at "pq"
      refine ⟨by simp [LIM]; omega, ?_⟩
      refine lc_mapT dP (fun r => .int (r.2 - r.1)) rs [] ?_ ?_
      · intro r hr A hA
        refine p_put rfl ?_
        dsimp only [wipeE, List.set, setMany]
        walk_at "pq"
        exact hA
      rw [List.nil_append]
      have e1 : (rs.map fun r => D.int (r.2 - r.1)) = (rs.map fun r => r.2 - r.1).map .int := by simp
      rw [e1]
      walk_at "pq"
      refine b_sum ?_
      have hS := sum5 rs hrs
      generalize hs : (rs.map fun r => r.2 - r.1).sum = S at hS ⊢
      cases rs with
      | nil => simp at hl1
      | cons r rs =>
        have hr := hrs r (by simp)
        walk_at "pq"
        refine o_ixL (k := 0) (ixD_nat (i := 0) (by simp)) rfl ?_
        walk_at "pq"
        refine o_ixT (k := 0) rfl rfl ?_
        walk_at "pq"
        refine o_ixL (k := 0) (ixD_nat (i := 0) (by simp)) rfl ?_
        walk_at "pq"
        refine o_ixT (k := 1) rfl rfl ?_
        walk_at "pq"
        refine ⟨by show 2 ≤ LIM; decide, ?_⟩
        walk_at "pq"
        refine p_kput (k := 0) (ixD_nat (i := 0) (by simp)) ?_
        refine fin _ ((r.1 + max 0 S, r.2) :: rs) ⟨by simp, hl2, fun r' hr' => ?_⟩ rfl rfl
        rcases List.mem_cons.mp hr' with e | e
        · subst e
          simp only [List.length_cons] at hS hl2
          have : max 0 S ≤ 25 := by omega
          refine ⟨⟨?_, ?_⟩, hr.2⟩
          · show 0 ≤ r.1 + max 0 S
            omega
          · show r.1 + max 0 S ≤ 100
            omega
        · have q := hrs r' (by simp [e])
          exact ⟨⟨q.1.1, by omega⟩, q.2⟩
    · walk_at "pq"
      exact fin [.val .dice, .own (rs.map dP), .un, .un, .un, .un] rs ⟨hl1, hl2, fun r' hr' => by
        have q := hrs r' hr'
        exact ⟨⟨q.1.1, by omega⟩, q.2⟩⟩ rfl rfl
theorem lm_go (c : Int) (rs : List (Int × Int)) (hv : WV c rs) (K : KN) (e0 : Sl) (hK : ∀ e3, K.nx [e0, .val (.tup (rs.map dP)), .val (dW c rs), e3]) : ∀ (m k : Nat) (ws : List (Int × Int)) (e3 : Sl), k + m = rs.length → ws.length = rs.length → WV c ws → (∀ j, j < k → ws[j]? = rs[j]?) →
    wForGo (.nm 3) (wSet 2 (wMeth 13 "with_post" S_Way_with_post (wName 2) (wCons (wName 3) (wCons (wOp oIx (wOp oIx (wName 1) (wName 3)) (wC (.int 0))) (wCons (wOp oIx (wOp oIx (wName 1) (wName 3)) (wC (.int 1))) wNil))))) K ((List.range' k m).map fun (k : Nat) => D.int (k : Int)) [e0, .val (.tup (rs.map dP)), .val (dW c ws), e3]
  | 0, k, ws, e3, hk, hl, hw, he => by
    have : ws = rs := List.ext_getElem? fun j => by
      by_cases hj : j < k
      · exact he j hj
      · rw [List.getElem?_eq_none (by omega), List.getElem?_eq_none (by omega)]
    subst this
    exact hK e3
  | m + 1, k, ws, e3, hk, hl, hw, he => by
    rw [List.range'_succ, List.map_cons]
    refine p_put1 ?_
    dsimp only [List.set]
    have hkl : k < rs.length := by omega
    have hg : (rs.map dP)[k]? = some (dP rs[k]) := by rw [List.getElem?_map, List.getElem?_eq_getElem hkl]; rfl
    unfold dW
    walk_at "pq"
    refine o_ixT (ixD_nat (by rw [List.length_map]; exact hkl)) hg ?_
    unfold dP
    walk_at "pq"
    refine o_ixT (k := 0) rfl rfl ?_
    walk_at "pq"
    refine o_ixT (ixD_nat (by rw [List.length_map]; exact hkl)) hg ?_
    unfold dP
    walk_at "pq"
    refine o_ixT (k := 1) rfl rfl ?_
    walk_at "pq"
    have hp := hv.pv rs[k] (List.getElem_mem hkl)
    refine n_with_post (rs := ws) (r := rs[k]) hw (by omega) hp ?_
    dsimp only [List.set]
    refine lm_go c rs hv K e0 hK m (k + 1) (ws.set k rs[k]) _ (by omega) (by rw [List.length_set]; exact hl) ⟨hw.c1, hw.c2, by rw [List.length_set]; exact hw.l1, by rw [List.length_set]; exact hw.l2, fun r' hr' => ?_⟩ ?_
    · rcases List.mem_or_eq_of_mem_set hr' with e | e
      · exact hw.pv r' e
      · rw [e]; exact hp
    · intro j hj
      by_cases e : j = k
      · subst e
        rw [List.getElem?_set_self (by omega), List.getElem?_eq_getElem hkl]
      · rw [List.getElem?_set_ne (by omega)]
        exact he j (by omega)
theorem n_law_made (hv : WV c rs) (h : Q (dW c rs)) : S_law_made [.int c, .tup (rs.map dP)] Q E := by
  refine ⟨rfl, ?_⟩
  show b_law_made [.val (.int c), .val (.tup (rs.map dP)), .un, .un] _
  have l1 := hv.l1
  have l2 := hv.l2
  unfold b_law_made
  walk_at "pq"
  rw [List.length_map]
  have hp : PV (0, 1) := ⟨⟨by decide, by decide⟩, by decide, by decide⟩
  refine n_Way_even hv.l1 hv.l2 ⟨hv.c1, hv.c2⟩ hp ?_
  walk_at "pq"
  rw [List.length_map]
  refine p_krg1 (by omega) ?_
  rw [Int.toNat_natCast, intD_zero, List.range_eq_range']
  dsimp only [List.set]
  refine lm_go c rs hv _ _ (fun e3 => ?_) rs.length 0 _ _ (by omega) (by simp) ⟨hv.c1, hv.c2, by simpa using l1, by simpa using l2, fun r hr' => by rw [(List.mem_replicate.mp hr').2]; exact hp⟩ (fun j hj => by omega)
  walk_at "pq"
  exact h
end
/-! plain walks -/
def legI (c : Int) (r : Int × Int) (x : Int) : Int := if r.2 ≤ min c (x + r.1) then min c (x + r.1) - r.2 else 0 - 1 - min c (x + r.1)
def wlast (c : Int) (L : List (Int × Int)) (x : Int) : Nat → Int
  | 0 => x
  | n + 1 => if 0 ≤ wlast c L x n then legI c (nth L n) (wlast c L x n) else wlast c L x n
def wlk (c : Int) (L : List (Int × Int)) (x : Int) : Nat → List Int
  | 0 => [x]
  | n + 1 => if 0 ≤ wlast c L x n then wlk c L x n ++ [legI c (nth L n) (wlast c L x n)] else wlk c L x n
theorem wlast_succ (c : Int) (L : List (Int × Int)) (x : Int) (n : Nat) : wlast c L x (n + 1) = if 0 ≤ wlast c L x n then legI c (nth L n) (wlast c L x n) else wlast c L x n := rfl
theorem wlk_succ (c : Int) (L : List (Int × Int)) (x : Int) (n : Nat) : wlk c L x (n + 1) = if 0 ≤ wlast c L x n then wlk c L x n ++ [legI c (nth L n) (wlast c L x n)] else wlk c L x n := rfl
theorem wlk_last {c x : Int} {L : List (Int × Int)} : ∀ n : Nat, ∃ m, (wlk c L x n).length = m + 1 ∧ m ≤ n ∧ (wlk c L x n)[m]? = some (wlast c L x n)
  | 0 => ⟨0, rfl, Nat.le_refl _, rfl⟩
  | n + 1 => by
    obtain ⟨m, h1, h2, h3⟩ := wlk_last (c := c) (x := x) (L := L) n
    rw [wlk_succ, wlast_succ]
    by_cases z : 0 ≤ wlast c L x n
    · rw [if_pos z, if_pos z]
      refine ⟨m + 1, by simp [h1], by omega, ?_⟩
      rw [List.getElem?_append_right (by omega), h1]
      simp
    · rw [if_neg z, if_neg z]
      exact ⟨m, h1, by omega, h3⟩
theorem walk_wlast {c x : Int} {L : List (Int × Int)} (x0 : 0 ≤ x) (hL : ∀ k, 0 ≤ (nth L k).1) (hc : 0 ≤ c) : ∀ n : Nat, walk c L x n = if 0 ≤ wlast c L x n then some (wlast c L x n) else none
  | 0 => by
    show some x = if 0 ≤ x then some x else none
    rw [if_pos x0]
  | n + 1 => by
    have ih := walk_wlast (c := c) x0 hL hc n
    rw [wlast_succ]
    show ((walk c L x n).bind fun y => step c (nth L n) y) = _
    rw [ih]
    by_cases z : 0 ≤ wlast c L x n
    · rw [if_pos z, if_pos z]
      show step c (nth L n) (wlast c L x n) = _
      unfold step legI
      have h1 := hL n
      by_cases y : (nth L n).2 ≤ min c (wlast c L x n + (nth L n).1)
      · rw [if_neg (by omega), if_pos y, if_pos (by omega)]
      · rw [if_pos (by omega), if_neg y, if_neg (by omega)]
    · rw [if_neg z, if_neg z, if_neg z]
      rfl
section
variable {Q : QD} {E : QR} {c x : Int} {rs : List (Int × Int)} {r : Int × Int}
theorem n_law_leg (h : Q (.int (legI c r x))) : S_law_leg [.int c, dP r, .int x] Q E := by
  refine ⟨rfl, ?_⟩
  show b_law_leg [.val (.int c), .val (dP r), .val (.int x), .un, .un, .un] _
  unfold b_law_leg dP
  walk_at "pq"
  unfold legI at h
  refine p_dec (fun z => ?_) (fun z => ?_)
  · rw [if_pos z] at h
    walk_at "pq"
    exact h
  · rw [if_neg z] at h
    walk_at "pq"
    exact h
theorem wl_go (K : KN) (hi : i < rs.length) (n : Nat) (hn : n ≤ 2000) : ∀ (m k : Nat) (d6 : Sl), k + m = n → (∀ d6, K.nx [.val (.int c), .val (.tup (rs.map dP)), .val (.int (i : Int)), .val (.int x), .val (.int (n : Int)), .own ((wlk c (rot rs i) x n).map .int), d6]) →
    wForGo (.nm 6) (wIfS (wtVal (wOp oGe (wOp oIx (wOwn 5) (wNeg (wC (.int 1)))) (wC (.int 0))))
    (wApp 5 (wCall S_law_leg (wCons (wName 0) (wCons (wOp oIx (wName 1) (wOp oMod (wCB bInt (wCons (wOp oAdd (wName 2) (wName 6)) wNil)) (wCB bLen (wCons (wName 1) wNil)))) (wCons (wOp oIx (wOwn 5) (wNeg (wC (.int 1)))) wNil)))))
    wSkip) K ((List.range' k m).map fun (k : Nat) => D.int (k : Int)) [.val (.int c), .val (.tup (rs.map dP)), .val (.int (i : Int)), .val (.int x), .val (.int (n : Int)), .own ((wlk c (rot rs i) x k).map .int), d6]
  | 0, k, d6, hk, h => by
    have : k = n := by omega
    subst this
    exact h d6
  | m + 1, k, d6, hk, h => by
    rw [List.range'_succ, List.map_cons]
    refine p_put1 ?_
    dsimp only [List.set]
    obtain ⟨j, h1, h2, h3⟩ := wlk_last (c := c) (x := x) (L := rot rs i) k
    have ixl : ∀ {R : QD}, R (.int (wlast c (rot rs i) x k)) → oIx (.lst ((wlk c (rot rs i) x k).map .int)) (.int (-1)) R := fun q => by
      refine o_ixL (k := j) ?_ (by rw [List.getElem?_map, h3]; rfl) q
      unfold ixD ixN
      rw [List.length_map, h1, if_neg (by decide), if_pos (by omega)]
      congr 1
      omega
    have wl : wlk c (rot rs i) x (k + 1) = if 0 ≤ wlast c (rot rs i) x k then wlk c (rot rs i) x k ++ [legI c (nth (rot rs i) k) (wlast c (rot rs i) x k)] else wlk c (rot rs i) x k := rfl
    walk_at "pq"
    refine ixl ?_
    walk_at "pq"
    refine p_dec (fun z => ?_) (fun z => ?_)
    · rw [if_pos z] at wl
      walk_at "pq"
      rw [List.length_map]
      refine o_mod (by omega) ?_
      have e : ((i : Int) + (k : Int)).fmod (rs.length : Int) = (((i + k) % rs.length : Nat) : Int) := by
        rw [Int.fmod_eq_emod_of_nonneg _ (by omega), ← Int.natCast_add]
        rfl
      rw [e]
      have hm := Nat.mod_lt (i + k) (show rs.length > 0 by omega)
      refine o_ixT (ixD_nat (by rw [List.length_map]; exact hm)) (by rw [List.getElem?_map, List.getElem?_eq_getElem hm]; rfl) ?_
      walk_at "pq"
      refine ixl ?_
      walk_at "pq"
      have en : rs[(i + k) % rs.length] = nth (rot rs i) k := by
        rw [nth_rot hi]
        unfold nth
        rw [List.getElem?_eq_getElem hm]
        rfl
      rw [en]
      refine n_law_leg ⟨by rw [List.length_map, h1]; unfold LIM; omega, ?_⟩
      have := wl_go K hi n hn m (k + 1) (.val (.int (k : Int))) (by omega) h
      rw [wl, List.map_append] at this
      exact this
    · rw [if_neg z] at wl
      walk_at "pq"
      have := wl_go K hi n hn m (k + 1) (.val (.int (k : Int))) (by omega) h
      rw [wl] at this
      exact this
theorem n_law_walk {n : Nat} (hi : i < rs.length) (hn : n ≤ 2000) (h : Q (.lst ((wlk c (rot rs i) x n).map .int))) : S_law_walk [.int c, .tup (rs.map dP), .int (i : Int), .int x, .int (n : Int)] Q E := by
  refine ⟨rfl, ?_⟩
  show b_law_walk [.val (.int c), .val (.tup (rs.map dP)), .val (.int (i : Int)), .val (.int x), .val (.int (n : Int)), .un, .un] _
  unfold b_law_walk
  walk_at "pq"
  refine ⟨by show 1 ≤ LIM; decide, ?_⟩
  walk_at "pq"
  refine p_krg1 (by omega) ?_
  rw [Int.toNat_natCast, intD_zero, List.range_eq_range']
  dsimp only [List.set]
  refine wl_go _ hi n hn n 0 _ (by omega) fun d6 => ?_
  walk_at "pq"
  exact h
end
end Oil
namespace Oil
open PySem PySem.Spec PyProof.Rows L2
local macro_rules | `(tactic| walk_at "pq1") => `(tactic| with_reducible first
  | refine p_seq ?_ | refine p_skip ?_ | refine p_set ?_ | refine p_setO ?_ | refine p_kown ?_ | refine p_unp ?_ | refine p_put rfl ?_ | refine p_put1 ?_
  | refine p_par ?_ | refine p_pnil ?_ | refine p_pval ?_ | refine p_pown ?_ | refine p_kpown ?_ | refine p_expr ?_ | refine p_ret ?_ | refine p_retN ?_ | refine p_ifS ?_
  | refine p_for ?_ | refine p_raise ?_ | refine p_c ?_ | refine p_op ?_ | refine p_neg ?_ | refine p_kneg ?_ | refine p_chain ?_ | refine p_and ?_ | refine p_or ?_ | refine p_not ?_ | refine p_knot ?_
  | refine p_if ?_ | refine p_nil ?_ | refine p_cons ?_ | refine p_star ?_ | refine p_kstarT ?_ | refine p_kstarL ?_ | refine p_tup ?_ | refine p_lst ?_ | refine p_call ?_ | refine p_cb ?_ | refine p_val ?_ | refine p_kval ?_
  | refine p_ttru ?_ | refine p_ktruN ?_ | refine p_ktruB ?_ | refine p_ktruI ?_ | refine p_ktruL ?_ | refine p_ktruT ?_ | refine p_tnot ?_ | refine p_tand ?_ | refine p_tor ?_
  | refine p_nopart ?_ | refine p_part ?_ | refine p_kpart ?_ | refine p_slice ?_ | refine p_ksliceL ?_ | refine p_ksliceT ?_ | refine p_fld ?_ | refine p_meth ?_ | refine p_clo ?_ | refine p_kclo rfl ?_ | refine p_prop ?_ | refine p_kprop rfl ?_
  | refine p_inv ?_ | refine p_kinv rfl ?_ | refine p_lenO ?_ | refine p_klenO rfl ?_ | refine p_get ?_ | refine p_kget rfl ?_ | refine p_cmeth ?_ | refine p_kcmeth rfl ?_ | refine p_opC ?_ | refine p_kopC rfl rfl ?_ | refine p_opF ?_ | refine p_kopF rfl rfl ?_
  | refine p_eqO ?_ | refine p_keqO rfl rfl ?_ | refine p_iter ?_ | refine p_kiterL ?_ | refine p_kiterT ?_ | refine p_rg1 ?_ | refine p_rg2 ?_ | refine p_enum ?_ | refine p_kenum ?_ | refine p_lc ?_ | refine p_yes ?_
  | refine p_tt ?_ | refine p_ff ?_
  | refine o_add ?_ | refine o_sub ?_ | refine o_lt ?_ | refine o_le ?_ | refine o_gt ?_ | refine o_ge ?_
  | refine b_lenL ?_ | refine b_lenT ?_ | refine b_int ?_ | refine b_tupL ?_ | refine b_tupT ?_ | refine b_listL ?_ | refine b_listT ?_ | refine b_max2 ?_ | refine b_min2 ?_)
local macro_rules | `(tactic| walk_at "pq2") => `(tactic| with_reducible first
  | refine p_name (by with_unfolding_all rfl) ?_ | refine p_ownV (by with_unfolding_all rfl) ?_ | refine p_own (by with_unfolding_all rfl) ?_ | refine p_app (by with_unfolding_all rfl) ?_ | refine p_putI (by with_unfolding_all rfl) ?_
  | refine p_frz (by with_unfolding_all rfl) ?_ | refine p_frzV (by with_unfolding_all rfl) ?_ | refine p_kfld (by with_unfolding_all rfl) (by with_unfolding_all rfl) ?_ | refine p_kmeth (by with_unfolding_all rfl) (by decide) ?_ | refine p_makL (by with_unfolding_all rfl) (by with_unfolding_all rfl) ?_
  | refine p_self (by with_unfolding_all rfl) (by decide) (by with_unfolding_all rfl) (by decide) ?_)
local macro_rules | `(tactic| walk_at "pq3") => `(tactic| with_reducible first
  | refine o_eqI ?_ | refine o_neI ?_ | refine o_isNon ?_ | refine o_isInt ?_ | refine o_isNotNon ?_ | refine o_isNotInt ?_ | refine p_kandT ?_ | refine p_kandF ?_ | refine p_korT ?_ | refine p_korF ?_ | refine p_nt ?_ | refine p_nf ?_)
local macro_rules | `(tactic| walk_at "pq") => `(tactic| repeat (first | walk_at "pq1" | walk_at "pq2" | walk_at "pq3"))
/-! errors told; wrong numbers -/
def b_told : WS := (wSeq (wSetO 2 (wLst (wCons (wErrIs [1, 4, 2, 3] 1 1) (wCons (wErrIs [1, 4, 2, 3] 1 4) (wCons (wErrIs [1, 4, 2, 3] 1 2) wNil)))))
    (wSeq (wApp 2 (wErrIs [1, 4, 2, 3] 1 3))
    (wSeq (wFrz 2 (wSet 3 (wIf (wtAnd (wtVal (wOp oQI (wLM bCnt (wOwn 2) (wC (.bl true))) (wC (.int 1)))) (wtVal (wErrVE [1, 4, 2, 3] 1))) (wLM bIdx (wOwn 2) (wC (.bl true))) (wC (.int 4)))))
    (wSeq (wIfS (wtVal (wOp oQI (wName 3) (wC (.int 0))))
    (wRet (wTup (wCons (wC (.str "error")) (wCons (wC (.str "InvalidWay")) (wCons (wLst (wCons (wErrFld 1 1 "part") (wCons (wErrFld 1 1 "index") wNil))) wNil)))))
    wSkip)
    (wSeq (wIfS (wtVal (wOp oQI (wName 3) (wC (.int 1))))
    (wRet (wTup (wCons (wC (.str "error")) (wCons (wC (.str "InvalidStretch")) (wCons (wLst (wCons (wErrFld 1 4 "part") wNil)) wNil)))))
    wSkip)
    (wRet (wTup (wCons (wC (.str "error")) (wCons (wOp oIx (wLst (wCons (wC (.str "UnknownPost")) (wCons (wC (.str "InvalidNumber")) (wCons (wC (.str "other")) wNil)))) (wOp oSub (wName 3) (wC (.int 2)))) wNil)))))))))
def kLM (r : List D → D → QD → Prop) (b : WE) (env : Ev) (Q : QD) (E : QR) : QD
  | .lst xs => b env (fun y => r xs y Q) E
  | _ => False
section
variable {Q : QD} {E : QR} {env : Ev} {er : Er} {cs : List Nat} {c : Nat} {f : Str} {d : D}
theorem p_errIs (i : Nat) (e : env[i]? = some (.err er)) (hc : er.c ∈ cs) (h : Q (.bl (er.c == c))) : wErrIs cs i c env Q E := by
  unfold wErrIs
  rw [e]
  exact ⟨hc, h⟩
theorem p_errVE (i : Nat) (e : env[i]? = some (.err er)) (hc : er.c ∈ cs) (h : Q (.bl true)) : wErrVE cs i env Q E := by
  unfold wErrVE
  rw [e]
  exact ⟨hc, h⟩
theorem p_errFld (i : Nat) (e : env[i]? = some (.err er)) (hc : er.c = c) (hf : (er.ns.zip er.fs).lookup f = some d) (h : Q d) : wErrFld i c f env Q E := by
  unfold wErrFld
  rw [e]
  exact ⟨hc, d, hf, h⟩
theorem p_lm {r : List D → D → QD → Prop} {a b : WE} (h : a env (kLM r b env Q E) E) : wLM r a b env Q E := h
theorem p_klm {r : List D → D → QD → Prop} {b : WE} {xs : List D} (h : b env (fun y => r xs y Q) E) : kLM r b env Q E (.lst xs) := h
theorem o_qi {p q : Int} {Q : QD} (h : Q (.bl (decide (p = q)))) : oQI (.int p) (.int q) Q := h
theorem o_ni {p q : Int} {Q : QD} (h : Q (.bl !decide (p = q))) : oNI (.int p) (.int q) Q := h
/-- the handler: four tests, then the class's answer -/
theorem told_at {k : Nat} (er : Er) (hc : er.c ∈ [1, 4, 2, 3]) (b1 b2 b3 b4 : Bool) (h1 : (er.c == 1) = b1) (h2 : (er.c == 4) = b2) (h3 : (er.c == 2) = b3) (h4 : (er.c == 3) = b4)
    (hcnt : ([D.bl b1, .bl b2, .bl b3, .bl b4].countP fun x => D.sc x (.bl true)) = 1)
    (hk : k < 4) (hx : ∃ x, [D.bl b1, .bl b2, .bl b3, .bl b4][k]? = some x ∧ D.sc x (.bl true) = true) (hno : ∀ (m : Nat) (x' : D), m < k → [D.bl b1, .bl b2, .bl b3, .bl b4][m]? = some x' → D.sc x' (.bl true) = false)
    (q : wSeq (wIfS (wtVal (wOp oQI (wName 3) (wC (.int 0))))
    (wRet (wTup (wCons (wC (.str "error")) (wCons (wC (.str "InvalidWay")) (wCons (wLst (wCons (wErrFld 1 1 "part") (wCons (wErrFld 1 1 "index") wNil))) wNil)))))
    wSkip)
    (wSeq (wIfS (wtVal (wOp oQI (wName 3) (wC (.int 1))))
    (wRet (wTup (wCons (wC (.str "error")) (wCons (wC (.str "InvalidStretch")) (wCons (wLst (wCons (wErrFld 1 4 "part") wNil)) wNil)))))
    wSkip)
    (wRet (wTup (wCons (wC (.str "error")) (wCons (wOp oIx (wLst (wCons (wC (.str "UnknownPost")) (wCons (wC (.str "InvalidNumber")) (wCons (wC (.str "other")) wNil)))) (wOp oSub (wName 3) (wC (.int 2)))) wNil))))) [.un, .err er, .val (.lst [.bl b1, .bl b2, .bl b3, .bl b4]), .val (.int (k : Int))] ⟨fun _ => False, fun d _ => Q d, fun _ => False, fun _ => False, fun _ _ => False⟩) : tellC [1, 4, 2, 3] (tellOf 4 1 b_told) er Q := by
  refine ⟨hc, ?_⟩
  show b_told [.un, .err er, .un, .un] _
  unfold b_told
  walk_at "pq"
  refine p_errIs 1 rfl hc ?_
  walk_at "pq"
  refine p_errIs 1 rfl hc ?_
  walk_at "pq"
  refine p_errIs 1 rfl hc ?_
  walk_at "pq"
  refine ⟨by show 3 ≤ LIM; decide, ?_⟩
  walk_at "pq"
  refine p_errIs 1 rfl hc ?_
  refine ⟨by show 3 < LIM; decide, ?_⟩
  rw [h1, h2, h3, h4]
  walk_at "pq"
  refine p_lm ?_
  walk_at "pq"
  refine p_klm ?_
  walk_at "pq"
  show bCnt [.bl b1, .bl b2, .bl b3, .bl b4] (.bl true) _
  refine ⟨rfl, rfl, ?_⟩
  rw [hcnt]
  walk_at "pq"
  refine o_qi ?_
  walk_at "pq"
  rw [show decide ((((1 : Nat) : Int)) = (1 : Int)) = true from rfl]
  walk_at "pq"
  refine p_errVE (er := er) 1 rfl hc ?_
  walk_at "pq"
  refine p_lm ?_
  walk_at "pq"
  refine p_klm ?_
  walk_at "pq"
  show bIdx [.bl b1, .bl b2, .bl b3, .bl b4] (.bl true) _
  obtain ⟨x, x1, x2⟩ := hx
  refine ⟨rfl, rfl, k, x, x1, x2, hno, ?_⟩
  walk_at "pq"
  exact q
/-- what the handler makes of the four errors -/
theorem told_b {b : Bool} : D.sc (.bl b) (.bl true) = b := by cases b <;> decide +kernel
theorem n_tellU (h : Q (.tup [.str "error", .str "UnknownPost"])) : tellC [1, 4, 2, 3] (tellOf 4 1 b_told) ⟨2, [], []⟩ Q := by
  refine told_at (k := 2) ⟨2, [], []⟩ (by decide) false false true false rfl rfl rfl rfl (by decide +kernel) (by decide) ⟨_, rfl, told_b⟩ (fun m x' hm e => ?_) ?_
  · have : m = 0 ∨ m = 1 := by omega
    rcases this with rfl | rfl <;> (injection e with e; subst e; exact told_b)
  · walk_at "pq"
    refine o_qi ?_
    rw [show decide (((2 : Nat) : Int) = 0) = false from rfl]
    walk_at "pq"
    refine o_qi ?_
    rw [show decide (((2 : Nat) : Int) = 1) = false from rfl]
    walk_at "pq"
    refine ⟨by show 3 ≤ LIM; decide, ?_⟩
    walk_at "pq"
    refine o_ixL (k := 0) rfl rfl ?_
    walk_at "pq"
    exact ⟨by show 2 ≤ LIM; decide, h⟩
theorem n_tellN (h : Q (.tup [.str "error", .str "InvalidNumber"])) : tellC [1, 4, 2, 3] (tellOf 4 1 b_told) ⟨3, [], []⟩ Q := by
  refine told_at (k := 3) ⟨3, [], []⟩ (by decide) false false false true rfl rfl rfl rfl (by decide +kernel) (by decide) ⟨_, rfl, told_b⟩ (fun m x' hm e => ?_) ?_
  · have : m = 0 ∨ m = 1 ∨ m = 2 := by omega
    rcases this with rfl | rfl | rfl <;> (injection e with e; subst e; exact told_b)
  · walk_at "pq"
    refine o_qi ?_
    rw [show decide (((3 : Nat) : Int) = 0) = false from rfl]
    walk_at "pq"
    refine o_qi ?_
    rw [show decide (((3 : Nat) : Int) = 1) = false from rfl]
    walk_at "pq"
    refine ⟨by show 3 ≤ LIM; decide, ?_⟩
    walk_at "pq"
    refine o_ixL (k := 1) rfl rfl ?_
    walk_at "pq"
    exact ⟨by show 2 ≤ LIM; decide, h⟩
theorem n_tellW {i : Int} {s : Str} (h : Q (.tup [.str "error", .str "InvalidWay", .lst [.str s, .int i]])) : tellC [1, 4, 2, 3] (tellOf 4 1 b_told) ⟨1, ["index", "part"], [.int i, .str s]⟩ Q := by
  refine told_at (k := 0) ⟨1, ["index", "part"], [.int i, .str s]⟩ (by show (1 : Nat) ∈ _; decide) true false false false rfl rfl rfl rfl (by decide +kernel) (by decide) ⟨_, rfl, told_b⟩ (fun m x' hm e => by omega) ?_
  walk_at "pq"
  refine o_qi ?_
  rw [show decide (((0 : Nat) : Int) = 0) = true from rfl]
  walk_at "pq"
  refine p_errFld (er := ⟨1, ["index", "part"], [.int i, .str s]⟩) (d := .str s) 1 rfl rfl rfl ?_
  walk_at "pq"
  refine p_errFld (er := ⟨1, ["index", "part"], [.int i, .str s]⟩) (d := .int i) 1 rfl rfl rfl ?_
  walk_at "pq"
  refine ⟨by show 2 ≤ LIM; decide, ?_⟩
  walk_at "pq"
  exact ⟨by show 3 ≤ LIM; decide, h⟩
theorem n_tellS {s : Str} (h : Q (.tup [.str "error", .str "InvalidStretch", .lst [.str s]])) : tellC [1, 4, 2, 3] (tellOf 4 1 b_told) ⟨4, ["part"], [.str s]⟩ Q := by
  refine told_at (k := 1) ⟨4, ["part"], [.str s]⟩ (by show (4 : Nat) ∈ _; decide) false true false false rfl rfl rfl rfl (by decide +kernel) (by decide) ⟨_, rfl, told_b⟩ (fun m x' hm e => ?_) ?_
  · have : m = 0 := by omega
    subst this
    injection e with e; subst e; exact told_b
  · walk_at "pq"
    refine o_qi ?_
    rw [show decide (((1 : Nat) : Int) = 0) = false from rfl]
    walk_at "pq"
    refine o_qi ?_
    rw [show decide (((1 : Nat) : Int) = 1) = true from rfl]
    walk_at "pq"
    refine p_errFld (er := ⟨4, ["part"], [.str s]⟩) (d := .str s) 1 rfl rfl rfl ?_
    walk_at "pq"
    refine ⟨by show 1 ≤ LIM; decide, ?_⟩
    walk_at "pq"
    exact ⟨by show 3 ≤ LIM; decide, h⟩
end
/-! what is no number in a range -/
/-- a value whose kind is known -/
def KindOk (d : D) (b1 b2 : Bool) : Prop := ∃ T, d.kind = some T ∧ kitB T "int" = some b1 ∧ kitB T "bool" = some b2
/-- no number from a to b -/
inductive BadN (a b : Int) : D → Prop
  | non : BadN a b .non
  | bl (x) : BadN a b (.bl x)
  | str (s) : BadN a b (.str s)
  | tup (xs) : BadN a b (.tup xs)
  | lst (xs) : BadN a b (.lst xs)
  | int (p : Int) (h : ¬ (a ≤ p ∧ p ≤ b)) : BadN a b (.int p)
section
variable {Q : QD} {E : QR} {a b c x : Int} {rs : List (Int × Int)} {d e : D} {b1 b2 : Bool} {i n : Nat}
theorem n_isnum (hk : KindOk d b1 b2) (h : Q (.bl (b1 && !b2))) : S_is_number [d] Q E := by
  obtain ⟨T, h1, h2, h3⟩ := hk
  refine ⟨rfl, ?_⟩
  show b_is_number [.val d] _
  unfold b_is_number
  walk_at "pq"
  refine b_isi h1 h2 ?_
  cases b1 with
  | true =>
    walk_at "pq"
    refine b_isi h1 h3 ?_
    cases b2 with
    | true =>
      walk_at "pq"
      exact h
    | false =>
      walk_at "pq"
      exact h
  | false =>
    walk_at "pq"
    exact h
theorem BadN.isnum (h : BadN a b d) (hi : ∀ p, d ≠ .int p) (q : Q (.bl false)) : S_is_number [d] Q E := by
  cases h with
  | non => exact n_isnum (b1 := false) (b2 := false) ⟨"NoneType", rfl, by decide +kernel, by decide +kernel⟩ q
  | bl x => exact n_isnum (b1 := true) (b2 := true) ⟨"bool", rfl, by decide +kernel, by decide +kernel⟩ q
  | str x => exact n_isnum (b1 := false) (b2 := false) ⟨"str", rfl, by decide +kernel, by decide +kernel⟩ q
  | tup x => exact n_isnum (b1 := false) (b2 := false) ⟨"tuple", rfl, by decide +kernel, by decide +kernel⟩ q
  | lst x => exact n_isnum (b1 := false) (b2 := false) ⟨"list", rfl, by decide +kernel, by decide +kernel⟩ q
  | int p h => exact (hi p rfl).elim
theorem n_within_bad (h : BadN a b d) (q : Q (.bl false)) : S_is_number_within [d, .int a, .int b] Q E := by
  by_cases z : ∃ p, d = .int p
  · obtain ⟨p, rfl⟩ := z
    cases h with
    | int p h => exact n_within (by rw [decide_eq_false h]; exact q)
  · refine ⟨rfl, ?_⟩
    show b_is_number_within [.val d, .val (.int a), .val (.int b)] _
    unfold b_is_number_within
    walk_at "pq"
    refine h.isnum (fun p e => z ⟨p, e⟩) ?_
    walk_at "pq"
    exact q
theorem n_check_within_bad (h : BadN a b d) (q : E ⟨3, [], []⟩) : S_check_number_within [d, .int a, .int b] Q E := by
  refine ⟨rfl, ?_⟩
  show b_check_number_within [.val d, .val (.int a), .val (.int b)] _
  unfold b_check_number_within
  walk_at "pq"
  refine n_within_bad h ?_
  walk_at "pq"
  exact q
theorem n_check_post_bad (h : BadN 0 (a - 1) d) (q : E ⟨2, [], []⟩) : S_check_post [d, .int a] Q E := by
  refine ⟨rfl, ?_⟩
  show b_check_post [.val d, .val (.int a)] _
  unfold b_check_post
  walk_at "pq"
  refine n_within_bad h ?_
  walk_at "pq"
  exact q
theorem n_stretch_badP (h : BadN 0 ((rs.length : Int) - 1) d) (q : E ⟨2, [], []⟩) : S_Way_stretch [dW c rs, d, e] Q E := by
  refine ⟨rfl, ?_⟩
  show b_Way_stretch [.val (dW c rs), .val d, .val e, .un, .un, .un, .un, .un] _
  unfold b_Way_stretch dW
  walk_at "pq"
  rw [List.length_map]
  exact n_check_post_bad h q
theorem n_stretch_badN (hi : i < rs.length) (h : BadN 1 1000000000000000000 e) (q : E ⟨3, [], []⟩) : S_Way_stretch [dW c rs, .int (i : Int), e] Q E := by
  refine ⟨rfl, ?_⟩
  show b_Way_stretch [.val (dW c rs), .val (.int (i : Int)), .val e, .un, .un, .un, .un, .un] _
  unfold b_Way_stretch dW
  walk_at "pq"
  rw [List.length_map]
  refine n_check_post (by omega) (by omega) ?_
  walk_at "pq"
  exact n_check_within_bad h q
theorem n_least_oil_bad (hv : WV c rs) (h : BadN 0 ((rs.length : Int) - 1) d) (q : E ⟨2, [], []⟩) : S_least_oil [dW c rs, d] Q E := by
  refine ⟨rfl, ?_⟩
  show b_least_oil [.val (dW c rs), .val d, .un] _
  unfold b_least_oil
  walk_at "pq"
  refine p_kmeth rfl (by decide) ?_
  walk_at "pq"
  have l2 := hv.l2
  refine p_klenO rfl (n_len (p_klenI (by omega) ?_))
  refine o_mul (big_of (by decide)) (big_of (by omega)) ?_
  walk_at "pq"
  exact n_stretch_badP h q
theorem n_check_start_badP (hv : WV c rs) (h : BadN 0 ((rs.length : Int) - 1) d) (q : E ⟨2, [], []⟩) : S_check_start [dW c rs, d, e] Q E := by
  refine ⟨rfl, ?_⟩
  show b_check_start [.val (dW c rs), .val d, .val e] _
  have l2 := hv.l2
  unfold b_check_start
  walk_at "pq"
  refine p_klenO rfl (n_len (p_klenI (by omega) ?_))
  walk_at "pq"
  exact n_check_post_bad h q
theorem n_check_start_badX (hv : WV c rs) (hi : i < rs.length) (h : BadN 0 c e) (q : E ⟨3, [], []⟩) : S_check_start [dW c rs, .int (i : Int), e] Q E := by
  refine ⟨rfl, ?_⟩
  show b_check_start [.val (dW c rs), .val (.int (i : Int)), .val e] _
  have l2 := hv.l2
  unfold b_check_start
  walk_at "pq"
  refine p_klenO rfl (n_len (p_klenI (by omega) ?_))
  walk_at "pq"
  refine n_check_post (by omega) (by omega) ?_
  walk_at "pq"
  refine p_kprop rfl (n_capacity ?_)
  walk_at "pq"
  exact n_check_within_bad h q
end
end Oil
namespace Oil
open PySem PySem.Spec PyProof.Rows L2
local macro_rules | `(tactic| walk_at "pq1") => `(tactic| with_reducible first
  | refine p_seq ?_ | refine p_skip ?_ | refine p_set ?_ | refine p_setO ?_ | refine p_kown ?_ | refine p_unp ?_ | refine p_put rfl ?_ | refine p_put1 ?_
  | refine p_par ?_ | refine p_pnil ?_ | refine p_pval ?_ | refine p_pown ?_ | refine p_kpown ?_ | refine p_expr ?_ | refine p_ret ?_ | refine p_retN ?_ | refine p_ifS ?_
  | refine p_for ?_ | refine p_raise ?_ | refine p_c ?_ | refine p_op ?_ | refine p_neg ?_ | refine p_kneg ?_ | refine p_chain ?_ | refine p_and ?_ | refine p_or ?_ | refine p_not ?_ | refine p_knot ?_
  | refine p_if ?_ | refine p_nil ?_ | refine p_cons ?_ | refine p_star ?_ | refine p_kstarT ?_ | refine p_kstarL ?_ | refine p_tup ?_ | refine p_lst ?_ | refine p_call ?_ | refine p_cb ?_ | refine p_val ?_ | refine p_kval ?_
  | refine p_ttru ?_ | refine p_ktruN ?_ | refine p_ktruB ?_ | refine p_ktruI ?_ | refine p_ktruL ?_ | refine p_ktruT ?_ | refine p_tnot ?_ | refine p_tand ?_ | refine p_tor ?_
  | refine p_nopart ?_ | refine p_part ?_ | refine p_kpart ?_ | refine p_slice ?_ | refine p_ksliceL ?_ | refine p_ksliceT ?_ | refine p_fld ?_ | refine p_meth ?_ | refine p_clo ?_ | refine p_kclo rfl ?_ | refine p_prop ?_ | refine p_kprop rfl ?_
  | refine p_inv ?_ | refine p_kinv rfl ?_ | refine p_lenO ?_ | refine p_klenO rfl ?_ | refine p_get ?_ | refine p_kget rfl ?_ | refine p_cmeth ?_ | refine p_kcmeth rfl ?_ | refine p_opC ?_ | refine p_kopC rfl rfl ?_ | refine p_opF ?_ | refine p_kopF rfl rfl ?_
  | refine p_eqO ?_ | refine p_keqO rfl rfl ?_ | refine p_iter ?_ | refine p_kiterL ?_ | refine p_kiterT ?_ | refine p_rg1 ?_ | refine p_rg2 ?_ | refine p_enum ?_ | refine p_kenum ?_ | refine p_lc ?_ | refine p_yes ?_
  | refine p_tt ?_ | refine p_ff ?_
  | refine o_add ?_ | refine o_sub ?_ | refine o_lt ?_ | refine o_le ?_ | refine o_gt ?_ | refine o_ge ?_
  | refine b_lenL ?_ | refine b_lenT ?_ | refine b_int ?_ | refine b_tupL ?_ | refine b_tupT ?_ | refine b_listL ?_ | refine b_listT ?_ | refine b_max2 ?_ | refine b_min2 ?_)
local macro_rules | `(tactic| walk_at "pq2") => `(tactic| with_reducible first
  | refine p_name (by with_unfolding_all rfl) ?_ | refine p_ownV (by with_unfolding_all rfl) ?_ | refine p_own (by with_unfolding_all rfl) ?_ | refine p_app (by with_unfolding_all rfl) ?_ | refine p_putI (by with_unfolding_all rfl) ?_
  | refine p_frz (by with_unfolding_all rfl) ?_ | refine p_frzV (by with_unfolding_all rfl) ?_ | refine p_kfld (by with_unfolding_all rfl) (by with_unfolding_all rfl) ?_ | refine p_kmeth (by with_unfolding_all rfl) (by decide) ?_ | refine p_makL (by with_unfolding_all rfl) (by with_unfolding_all rfl) ?_
  | refine p_self (by with_unfolding_all rfl) (by decide) (by with_unfolding_all rfl) (by decide) ?_)
local macro_rules | `(tactic| walk_at "pq3") => `(tactic| with_reducible first
  | refine o_eqI ?_ | refine o_neI ?_ | refine o_isNon ?_ | refine o_isInt ?_ | refine o_isNotNon ?_ | refine o_isNotInt ?_ | refine p_kandT ?_ | refine p_kandF ?_ | refine p_korT ?_ | refine p_korF ?_ | refine p_nt ?_ | refine p_nf ?_)
local macro_rules | `(tactic| walk_at "pq") => `(tactic| repeat (first | walk_at "pq1" | walk_at "pq2" | walk_at "pq3"))
/-! least oil, walks without an end, data compared -/
theorem p_told {t : Er → QD → Prop} {w : WE} {env : Ev} {Q : QD} {E : QR} (h : w env Q (fun er => t er Q)) : wTold t w env Q E := h
theorem o_ne_self {d : D} {a : PyData} {Q : QD} (hp : d.pd = some a) (hs : SeqAt.shaped a = true) (he : PyData.eqv a a = true) (h : Q (.bl false)) : oNe d d Q := ⟨a, a, hp, hp, hs, hs, by rw [he]; exact h⟩
theorem o_eq_self {d : D} {a : PyData} {Q : QD} (hp : d.pd = some a) (hs : SeqAt.shaped a = true) (he : PyData.eqv a a = true) (h : Q (.bl true)) : oEq d d Q := ⟨a, a, hp, hp, hs, hs, by rw [he]; exact h⟩
theorem pds_map {α : Type} {f : α → D} {g : α → PyData} : ∀ l : List α, (∀ a ∈ l, (f a).pd = some (g a)) → D.pds (l.map f) = some (l.map g)
  | [], _ => rfl
  | a :: l, h => by
    show (match D.pd (f a), D.pds (l.map f) with
      | some a, some b => some (a :: b)
      | _, _ => none) = _
    rw [h a (by simp), pds_map l fun x hx => h x (by simp [hx])]
    rfl
theorem canLay_map {α : Type} {g : α → PyData} : ∀ l : List α, (∀ a ∈ l, (g a).canLay0 = true) → PyData.canLayAll0 (l.map g) = true
  | [], _ => by simp [PyData.canLayAll0]
  | a :: l, h => by
    simp only [List.map_cons, PyData.canLayAll0, Bool.and_eq_true]
    exact ⟨h a (by simp), canLay_map l fun x hx => h x (by simp [hx])⟩
theorem depth_map {α : Type} {g : α → PyData} {b : Nat} : ∀ l : List α, (∀ a ∈ l, (g a).depth ≤ b) → PyData.depthAll (l.map g) ≤ b
  | [], _ => by simp [PyData.depthAll]
  | a :: l, h => by
    have h1 := h a (by simp)
    have h2 := depth_map (b := b) l fun x hx => h x (by simp [hx])
    simp only [List.map_cons, PyData.depthAll]
    omega
theorem shaped_list {α : Type} {g : α → PyData} {l : List α} (h1 : ∀ a ∈ l, (g a).canLay0 = true) (h2 : ∀ a ∈ l, (g a).depth ≤ 60) : SeqAt.shaped (.list (l.map g)) = true := by
  have := depth_map l h2
  simp only [SeqAt.shaped, PyData.canLay0, canLay_map l h1, PyData.depth, Bool.true_and]
  exact decide_eq_true (by omega)
theorem shaped_tuple {α : Type} {g : α → PyData} {l : List α} (h1 : ∀ a ∈ l, (g a).canLay0 = true) (h2 : ∀ a ∈ l, (g a).depth ≤ 60) : SeqAt.shaped (.tuple (l.map g)) = true := by
  have := depth_map l h2
  simp only [SeqAt.shaped, PyData.canLay0, canLay_map l h1, PyData.depth, Bool.true_and]
  exact decide_eq_true (by omega)
theorem sh_parts {a : PyData} (h : SeqAt.shaped a = true) : a.canLay0 = true ∧ a.depth ≤ 64 := by
  have h : (a.canLay0 && decide (a.depth ≤ 64)) = true := h
  rw [Bool.and_eq_true] at h
  exact ⟨h.1, of_decide_eq_true h.2⟩
section
variable {c : Int} {rs : List (Int × Int)} {i : Nat} {x m : Int}
theorem endl_lo (hv : ∀ r ∈ rs, 0 ≤ r.1) (hi : i < rs.length) (x0 : 0 ≤ x) : endl c rs i x = match lo c rs i with | none => false | some m => decide (m ≤ x) := by
  unfold endl lo
  rw [← stW_app x0 hv hi (by omega)]
  by_cases z : surp rs < 0
  · rw [if_pos z, decide_eq_false (by omega)]
    rfl
  · rw [if_neg z, decide_eq_true (by omega), Bool.true_and]
    generalize stW c rs i (2 * rs.length) = s
    obtain ⟨nd, g, tp⟩ := s
    cases nd with
    | none => rfl
    | some m =>
      show (if x < m then none else some (min tp (x + g)) : Option Int).isSome = decide (m ≤ x)
      by_cases z2 : m ≤ x
      · rw [if_neg (by omega), decide_eq_true z2]; rfl
      · rw [if_pos (by omega), decide_eq_false z2]; rfl
theorem nth_nn {L : List (Int × Int)} (hv : ∀ r ∈ L, 0 ≤ r.1) (k : Nat) : 0 ≤ (nth L k).1 := by
  by_cases h : 0 < L.length
  · exact hv _ (nth_mem h)
  · have : L = [] := List.length_eq_zero_iff.mp (by omega)
    subst this
    show (0 : Int) ≤ 0
    decide
theorem walk_cap {L : List (Int × Int)} (hx : c ≤ x) (hL : ∀ k, 0 ≤ (nth L k).1) : ∀ n : Nat, walk c L x (n + 1) = walk c L c (n + 1)
  | 0 => by
    show step c (nth L 0) x = step c (nth L 0) c
    have := hL 0
    unfold step
    rw [show min c (x + (nth L 0).1) = min c (c + (nth L 0).1) by omega]
  | n + 1 => by
    show (walk c L x (n + 1)).bind _ = (walk c L c (n + 1)).bind _
    rw [walk_cap hx hL n]
theorem lo_le (hv : ∀ r ∈ rs, 0 ≤ r.1) (hi : i < rs.length) (c0 : 0 ≤ c) (h : lo c rs i = some m) : m ≤ c := by
  by_cases z : m ≤ c
  · exact z
  · have h1 := endl_lo (c := c) (x := m) hv hi (by omega)
    have h2 := endl_lo (c := c) (x := c) hv hi c0
    rw [h] at h1 h2
    have h1 : endl c rs i m = decide (m ≤ m) := h1
    have h2 : endl c rs i c = decide (m ≤ c) := h2
    rw [decide_eq_true (Int.le_refl m)] at h1
    have e : endl c rs i m = endl c rs i c := by
      unfold endl
      rw [show 2 * rs.length = (2 * rs.length - 1) + 1 by omega, walk_cap (by omega) (nth_nn fun r hr => hv r (rot_mem hr))]
    rw [e, h2] at h1
    exact of_decide_eq_true h1
theorem lo_ge (h : lo c rs i = some m) : 0 ≤ m := by
  unfold lo at h
  split at h
  · cases h
  · have ok := stW_ok (c := c) (rs := rs) (i := i) (n := 2 * rs.length)
    generalize stW c rs i (2 * rs.length) = s at h ok
    obtain ⟨nd, g, tp⟩ := s
    subst h
    exact ok.1
theorem endl_ever (hv : ∀ r ∈ rs, 0 ≤ r.1) (hi : i < rs.length) (x0 : 0 ≤ x) (h : endl c rs i x = true) (N : Nat) : (walk c (rot rs i) x N).isSome = true := by
  obtain ⟨hs, hg⟩ := round_gain hv hi x0 h
  have hl := rot_len (rs := rs) (i := i) (by omega)
  unfold endl at h
  rw [decide_eq_true hs, Bool.true_and] at h
  cases e : walk c (rot rs i) x (2 * rs.length) with
  | none => rw [e] at h; exact absurd h (by simp)
  | some y2 =>
    have w1 : walk c (rot rs i) x (rs.length * 1 + rs.length) = (walk c (rot rs i) x (rs.length * 1)).bind fun y => walk c (rot rs i) y rs.length := by
      rw [← hl]
      exact walk_add
    rw [Nat.mul_one, show rs.length + rs.length = 2 * rs.length by omega, e] at w1
    cases e1 : walk c (rot rs i) x rs.length with
    | none => rw [e1] at w1; exact absurd w1 (by simp)
    | some y1 =>
      rw [e1] at w1
      have w1 : some y2 = walk c (rot rs i) y1 rs.length := w1
      have y10 : 0 ≤ y1 := walk_nonneg x0 e1
      have a1 := stW_app (c := c) (n := rs.length) x0 hv hi (by omega)
      have a2 := stW_app (c := c) (n := rs.length) y10 hv hi (by omega)
      rw [e1] at a1
      rw [← w1] at a2
      have hle : y1 ≤ y2 := by
        generalize stW c rs i rs.length = s at a1 a2 hg
        obtain ⟨nd, g, tp⟩ := s
        cases nd with
        | none => exact absurd a1 (by unfold Str3.app; simp)
        | some m =>
          have hg : g = surp rs := hg
          have a1 : (if x < m then none else some (min tp (x + g))) = some y1 := a1
          have a2 : (if y1 < m then none else some (min tp (y1 + g))) = some y2 := a2
          split at a1
          · exact absurd a1 (by simp)
          · split at a2
            · exact absurd a2 (by simp)
            · have := Option.some.inj a1
              have := Option.some.inj a2
              omega
      have go : ∀ q : Nat, ∃ y, walk c (rot rs i) x (rs.length * (q + 1)) = some y ∧ y1 ≤ y := by
        intro q
        induction q with
        | zero => exact ⟨y1, by rw [Nat.mul_one]; exact e1, Int.le_refl _⟩
        | succ q ih =>
          obtain ⟨y, e3, h3⟩ := ih
          obtain ⟨y', e4, h4⟩ := walk_mono (Int.le_refl c) h3 w1.symm
          refine ⟨y', ?_, by omega⟩
          have w2 : walk c (rot rs i) x (rs.length * (q + 1) + rs.length) = (walk c (rot rs i) x (rs.length * (q + 1))).bind fun y => walk c (rot rs i) y rs.length := by
            rw [← hl]
            exact walk_add
          rw [Nat.mul_succ, w2, e3]
          exact e4
      cases eN : walk c (rot rs i) x N with
      | some _ => rfl
      | none =>
        exfalso
        obtain ⟨y, e5, _⟩ := go N
        have hb : N ≤ rs.length * (N + 1) := Nat.le_trans (Nat.le_succ N) (Nat.le_mul_of_pos_left _ (by omega))
        have := walk_none eN (rs.length * (N + 1) - N)
        rw [show N + (rs.length * (N + 1) - N) = rs.length * (N + 1) by omega, e5] at this
        cases this
/-- after so many legs the lantern still burns: there is a least oil, and it is not more -/
theorem wlast_lo {N : Nat} (hv : WV c rs) (hi : i < rs.length) (x0 : 0 ≤ x) (x1 : x ≤ c) (hN : (c + 1) * (rs.length : Int) ≤ (N : Int)) : 0 ≤ wlast c (rot rs i) x N ↔ ∃ m, lo c rs i = some m ∧ m ≤ x := by
  have h0 : ∀ r ∈ rs, 0 ≤ r.1 := fun r hr => (hv.pv r hr).1.1
  have c1 := hv.c1
  have hw := walk_wlast (c := c) (x := x) (L := rot rs i) x0 (nth_nn fun r hr => h0 r (rot_mem hr)) (by omega) N
  have hl := endl_lo (c := c) (i := i) h0 hi x0
  constructor
  · intro h
    cases e : lo c rs i with
    | none =>
      exfalso
      rw [e] at hl
      have hl : endl c rs i x = false := hl
      obtain ⟨B, hB⟩ := Int.eq_ofNat_of_zero_le (show 0 ≤ (c + 1) * (rs.length : Int) from Int.mul_nonneg (by omega) (by omega))
      have := out_by hi c1 x0 x1 hl hB.symm
      have := walk_none this (N - B)
      rw [show B + (N - B) = N by omega, hw, if_pos h] at this
      cases this
    | some m =>
      rw [e] at hl
      have hl : endl c rs i x = decide (m ≤ x) := hl
      by_cases z : m ≤ x
      · exact ⟨m, rfl, z⟩
      · exfalso
        rw [decide_eq_false z] at hl
        obtain ⟨B, hB⟩ := Int.eq_ofNat_of_zero_le (show 0 ≤ (c + 1) * (rs.length : Int) from Int.mul_nonneg (by omega) (by omega))
        have := out_by hi c1 x0 x1 hl hB.symm
        have := walk_none this (N - B)
        rw [show B + (N - B) = N by omega, hw, if_pos h] at this
        cases this
  · rintro ⟨m, e, hm⟩
    rw [e] at hl
    have hl : endl c rs i x = decide (m ≤ x) := hl
    rw [decide_eq_true hm] at hl
    have := endl_ever h0 hi x0 hl N
    rw [hw] at this
    by_cases z : 0 ≤ wlast c (rot rs i) x N
    · exact z
    · rw [if_neg z] at this
      cases this
end
end Oil
namespace Oil
open PySem PySem.Spec PyProof.Rows L2
local macro_rules | `(tactic| walk_at "pq1") => `(tactic| with_reducible first
  | refine p_seq ?_ | refine p_skip ?_ | refine p_set ?_ | refine p_setO ?_ | refine p_kown ?_ | refine p_unp ?_ | refine p_put rfl ?_ | refine p_put1 ?_
  | refine p_par ?_ | refine p_pnil ?_ | refine p_pval ?_ | refine p_pown ?_ | refine p_kpown ?_ | refine p_expr ?_ | refine p_ret ?_ | refine p_retN ?_ | refine p_ifS ?_
  | refine p_for ?_ | refine p_raise ?_ | refine p_c ?_ | refine p_op ?_ | refine p_neg ?_ | refine p_kneg ?_ | refine p_chain ?_ | refine p_and ?_ | refine p_or ?_ | refine p_not ?_ | refine p_knot ?_
  | refine p_if ?_ | refine p_nil ?_ | refine p_cons ?_ | refine p_star ?_ | refine p_kstarT ?_ | refine p_kstarL ?_ | refine p_tup ?_ | refine p_lst ?_ | refine p_call ?_ | refine p_cb ?_ | refine p_val ?_ | refine p_kval ?_
  | refine p_ttru ?_ | refine p_ktruN ?_ | refine p_ktruB ?_ | refine p_ktruI ?_ | refine p_ktruL ?_ | refine p_ktruT ?_ | refine p_tnot ?_ | refine p_tand ?_ | refine p_tor ?_
  | refine p_nopart ?_ | refine p_part ?_ | refine p_kpart ?_ | refine p_slice ?_ | refine p_ksliceL ?_ | refine p_ksliceT ?_ | refine p_fld ?_ | refine p_meth ?_ | refine p_clo ?_ | refine p_kclo rfl ?_ | refine p_prop ?_ | refine p_kprop rfl ?_
  | refine p_inv ?_ | refine p_kinv rfl ?_ | refine p_lenO ?_ | refine p_klenO rfl ?_ | refine p_get ?_ | refine p_kget rfl ?_ | refine p_cmeth ?_ | refine p_kcmeth rfl ?_ | refine p_opC ?_ | refine p_kopC rfl rfl ?_ | refine p_opF ?_ | refine p_kopF rfl rfl ?_
  | refine p_eqO ?_ | refine p_keqO rfl rfl ?_ | refine p_iter ?_ | refine p_kiterL ?_ | refine p_kiterT ?_ | refine p_rg1 ?_ | refine p_rg2 ?_ | refine p_enum ?_ | refine p_kenum ?_ | refine p_lc ?_ | refine p_yes ?_
  | refine p_tt ?_ | refine p_ff ?_
  | refine o_add ?_ | refine o_sub ?_ | refine o_lt ?_ | refine o_le ?_ | refine o_gt ?_ | refine o_ge ?_
  | refine b_lenL ?_ | refine b_lenT ?_ | refine b_int ?_ | refine b_tupL ?_ | refine b_tupT ?_ | refine b_listL ?_ | refine b_listT ?_ | refine b_max2 ?_ | refine b_min2 ?_)
local macro_rules | `(tactic| walk_at "pq2") => `(tactic| with_reducible first
  | refine p_name (by with_unfolding_all rfl) ?_ | refine p_ownV (by with_unfolding_all rfl) ?_ | refine p_own (by with_unfolding_all rfl) ?_ | refine p_app (by with_unfolding_all rfl) ?_ | refine p_putI (by with_unfolding_all rfl) ?_
  | refine p_frz (by with_unfolding_all rfl) ?_ | refine p_frzV (by with_unfolding_all rfl) ?_ | refine p_kfld (by with_unfolding_all rfl) (by with_unfolding_all rfl) ?_ | refine p_kmeth (by with_unfolding_all rfl) (by decide) ?_ | refine p_makL (by with_unfolding_all rfl) (by with_unfolding_all rfl) ?_
  | refine p_self (by with_unfolding_all rfl) (by decide) (by with_unfolding_all rfl) (by decide) ?_)
local macro_rules | `(tactic| walk_at "pq3") => `(tactic| with_reducible first
  | refine o_eqI ?_ | refine o_neI ?_ | refine o_isNon ?_ | refine o_isInt ?_ | refine o_isNotNon ?_ | refine o_isNotInt ?_ | refine p_kandT ?_ | refine p_kandF ?_ | refine p_korT ?_ | refine p_korF ?_ | refine p_nt ?_ | refine p_nf ?_)
local macro_rules | `(tactic| walk_at "pq") => `(tactic| repeat (first | walk_at "pq1" | walk_at "pq2" | walk_at "pq3"))
/-! ways made greater; walks read leg by leg; lists of works told -/
def b_great3 : WS := (wSeq (wSet 3 (wCall S_law_pick (wCons (wName 0) (wCons (wLst (wCons (wC (.int 1)) (wCons (wC (.int 1)) (wCons (wOp oAdd (wC (.int 1)) (wCall S_next (wCons (wName 0) (wCons (wOp oPow (wC (.int 10)) (wC (.int 7))) wNil)))) wNil)))) wNil))))
    (wRet (wTup (wCons (wOp oMul (wName 1) (wName 3)) (wCons (wCB bTuple (wCons (wLc (wIter (wName 2)) (.tp [4, 5]) wYes (wTup (wCons (wOp oMul (wName 4) (wName 3)) (wCons (wOp oMul (wName 5) (wName 3)) wNil))) [4, 5]) wNil)) (wCons (wName 3) wNil))))))
def scl (f : Int) (rs : List (Int × Int)) : List (Int × Int) := rs.map fun r => (r.1 * f, r.2 * f)
/-- a way, at most five posts, its numbers small enough -/
structure GV (c : Int) (rs : List (Int × Int)) : Prop where
  wv : WV c rs
  c2 : 2 ≤ c
  c8 : c ≤ 100000000
  l5 : rs.length ≤ 5
  s8 : ∀ r ∈ rs, r.2 ≤ 50000000
theorem n_great3 {Q : QD} {E : QR} {c : Int} {rs : List (Int × Int)} (c2 : 2 ≤ c) (c10 : c ≤ 10) (hr : RP rs) (h : ∀ (f : Int) c' rs', 1 ≤ f → f ≤ 10000000 → c' = c * f → rs' = scl f rs → GV c' rs' → Q (.tup [.int c', .tup (rs'.map dP), .int f])) : specOf 3 6 b_great3 [.dice, .int c, .tup (rs.map dP)] Q E := by
  refine ⟨rfl, ?_⟩
  show b_great3 [.val .dice, .val (.int c), .val (.tup (rs.map dP)), .un, .un, .un] _
  unfold b_great3
  walk_at "pq"
  refine o_pow (by decide) ?_
  walk_at "pq"
  rw [show (10 : Int) ^ (7 : Int).toNat = 10000000 from rfl]
  refine n_next (by decide) (by decide) fun r r0 r1 => ?_
  walk_at "pq"
  refine ⟨by show 3 ≤ LIM; decide, ?_⟩
  walk_at "pq"
  refine n_law_pick (by simp) (by simp) fun x hx => ?_
  have hx : ∃ f : Int, x = .int f ∧ 1 ≤ f ∧ f ≤ 10000000 := by
    have hx : x = .int 1 ∨ x = .int (1 + r) := by simpa using hx
    rcases hx with rfl | rfl
    · exact ⟨1, rfl, by decide, by decide⟩
    · exact ⟨1 + r, rfl, by omega, by omega⟩
  obtain ⟨f, rfl, f1, f2⟩ := hx
  walk_at "pq"
  have hb : ∀ p : Int, 0 ≤ p → p ≤ 100 → Big p := fun p p0 p1 => big_of (by omega)
  refine o_mul (hb _ (by omega) (by omega)) (big_of (by omega)) ?_
  walk_at "pq"
  refine ⟨by rw [List.length_map]; have := hr.l2; unfold LIM; omega, ?_⟩
  refine lc_mapT dP (fun r => dP (r.1 * f, r.2 * f)) rs [] ?_ ?_
  · intro r hr' A hA
    have hp := hr.pv r hr'
    refine p_put rfl ?_
    dsimp only [wipeE, List.set, setMany]
    walk_at "pq"
    refine o_mul (hb _ (by omega) (by omega)) (big_of (by omega)) ?_
    walk_at "pq"
    refine o_mul (hb _ (by omega) (by omega)) (big_of (by omega)) ?_
    walk_at "pq"
    exact ⟨by show 2 ≤ LIM; decide, hA⟩
  rw [List.nil_append]
  walk_at "pq"
  refine ⟨by show 3 ≤ LIM; decide, ?_⟩
  have le : ∀ a b : Int, 0 ≤ a → a ≤ b → a * f ≤ b * 10000000 := fun a b a0 ab => Int.mul_le_mul ab f2 (by omega) (by omega)
  have ge : ∀ a : Int, 0 ≤ a → 0 ≤ a * f := fun a a0 => Int.mul_nonneg a0 (by omega)
  have ge1 : ∀ a : Int, 1 ≤ a → a ≤ a * f := fun a a1 => by
    have := Int.mul_le_mul_of_nonneg_left f1 (show 0 ≤ a by omega)
    rw [Int.mul_one] at this
    exact this
  have h1 := le c 10 (by omega) c10
  have h2 := ge1 c (by omega)
  have hsl : (scl f rs).length = rs.length := by simp [scl]
  have := h f (c * f) (scl f rs) f1 f2 rfl rfl ⟨⟨by omega, by omega, by rw [hsl]; exact hr.l1, by rw [hsl]; have := hr.l2; omega, fun r hr' => by
    obtain ⟨q, hq, rfl⟩ := List.mem_map.mp hr'
    have hp := hr.pv q hq
    have a1 := le q.1 100 (by omega) (by omega)
    have a2 := ge q.1 (by omega)
    have a3 := le q.2 5 (by omega) (by omega)
    have a4 := ge1 q.2 (by omega)
    exact ⟨⟨a2, by show q.1 * f ≤ _; omega⟩, by show 1 ≤ q.2 * f; omega, by show q.2 * f ≤ _; omega⟩⟩, by omega, by omega, by rw [hsl]; exact hr.l2, fun r hr' => by
    obtain ⟨q, hq, rfl⟩ := List.mem_map.mp hr'
    have hp := hr.pv q hq
    have a3 := le q.2 5 (by omega) (by omega)
    show q.2 * f ≤ _
    omega⟩
  unfold scl at this
  rw [List.map_map] at this
  exact this
/-! ### walks read leg by leg -/
section
variable {c x : Int} {L : List (Int × Int)}
theorem wlk_full : ∀ n : Nat, 0 ≤ wlast c L x n → (wlk c L x n).length = n + 1
  | 0, _ => rfl
  | n + 1, h => by
    rw [wlast_succ] at h
    rw [wlk_succ]
    by_cases z : 0 ≤ wlast c L x n
    · rw [if_pos z, List.length_append, wlk_full n z]
      rfl
    · rw [if_neg z] at h
      exact absurd h z
theorem wlk_get : ∀ n m : Nat, m < (wlk c L x n).length → (wlk c L x n)[m]? = some (wlast c L x m)
  | 0, m, h => by
    have : m = 0 := by
      have h : m < 1 := h
      omega
    subst this
    rfl
  | n + 1, m, h => by
    rw [wlk_succ] at h ⊢
    by_cases z : 0 ≤ wlast c L x n
    · rw [if_pos z] at h ⊢
      have e := wlk_full n z
      by_cases hm : m < n + 1
      · rw [List.getElem?_append_left (by omega)]
        exact wlk_get n m (by omega)
      · rw [List.length_append, e] at h
        have h : m < n + 1 + 1 := h
        have : m = n + 1 := by omega
        subst this
        rw [List.getElem?_append_right (by omega), e, Nat.sub_self, wlast_succ, if_pos z]
        rfl
    · rw [if_neg z] at h ⊢
      exact wlk_get n m h
theorem wlk_grow : ∀ n d : Nat, (wlk c L x n).length ≤ (wlk c L x (n + d)).length
  | n, 0 => Nat.le_refl _
  | n, d + 1 => by
    refine Nat.le_trans (wlk_grow n d) ?_
    rw [show n + (d + 1) = n + d + 1 by omega, wlk_succ]
    split
    · simp
    · exact Nat.le_refl _
theorem wlk_in {n m : Nat} (h : 0 ≤ wlast c L x m) (hm : m ≤ n) : m < (wlk c L x n).length := by
  have h1 := wlk_full m h
  have h2 := wlk_grow (c := c) (L := L) (x := x) m (n - m)
  rw [show m + (n - m) = n by omega] at h2
  omega
/-- walked[k] if k < len(walked) and walked[k] >= 0 else None -/
theorem due_leg {Q : QD} {E : QR} {env : Ev} {i j n m : Nat} (hw : ∀ k, walk c L x k = if 0 ≤ wlast c L x k then some (wlast c L x k) else none) (hm : m ≤ n) (ei : env[i]? = some (.val (.lst ((wlk c L x n).map .int)))) (ej : env[j]? = some (.val (.int (m : Int)))) (h : Q (dN (walk c L x m))) :
    wIf (wtAnd (wtVal (wOp oLt (wName j) (wCB bLen (wCons (wName i) wNil)))) (wtVal (wOp oGe (wOp oIx (wName i) (wName j)) (wC (.int 0))))) (wOp oIx (wName i) (wName j)) (wC .non) env Q E := by
  rw [hw] at h
  refine p_if (p_tand (p_val (p_op (p_name ej (p_cb (p_cons (p_name ei (p_nil (b_lenL (o_lt (p_kval (p_dec (fun z => ?_) (fun z => ?_)))))))))))))
  · rw [List.length_map] at z
    have g := wlk_get (c := c) (L := L) (x := x) n m (by omega)
    have ix : ∀ {R : QD}, R (.int (wlast c L x m)) → oIx (.lst ((wlk c L x n).map .int)) (.int (m : Int)) R := fun q =>
      o_ixL (ixD_nat (by rw [List.length_map]; omega)) (by rw [List.getElem?_map, g]; rfl) q
    refine p_val (p_op (p_op (p_name ei (p_name ej (ix (p_c (o_ge (p_kval (p_dec (fun z => ?_) (fun z => ?_))))))))))
    · rw [if_pos z] at h
      exact p_op (p_name ei (p_name ej (ix h)))
    · rw [if_neg z] at h
      exact p_c h
  · rw [List.length_map] at z
    rw [if_neg fun h0 => by have := wlk_in h0 hm; omega] at h
    exact h
theorem walk_top {y : Int} {n : Nat} (hL : ∀ k, 1 ≤ (nth L k).2) (h : walk c L x (n + 1) = some y) : y < c := by
  have h : (walk c L x n).bind (fun y => step c (nth L n) y) = some y := h
  cases e : walk c L x n with
  | none => rw [e] at h; cases h
  | some z =>
    rw [e] at h
    have h : step c (nth L n) z = some y := h
    have := hL n
    unfold step at h
    split at h
    · cases h
    · cases h
      omega
end
/-! ### lists of works told -/
theorem p_toldL {t : Er → QD → Prop} {ws : List WE} {env : Ev} {Q : QD} {E : QR} {i : Nat} {ks : List Nat} (e : env[i]? = some (.lams ks)) (hl : ks.length ≤ 1000) (h : toldGo (fun k Q => ∃ w, ws[k]? = some w ∧ w env Q (fun er => t er Q)) ks [] fun ds => Q (.lst ds)) : wToldL i t ws env Q E := by
  unfold wToldL
  rw [e]
  exact ⟨hl, h⟩
theorem p_toldC {t : Er → QD → Prop} {ws : List WE} {w : WE} {env : Ev} {k : Nat} {ks : List Nat} {acc : List D} {Q : List D → Prop} (e : ws[k]? = some w) (h : w env (fun d => toldGo (fun k Q => ∃ w, ws[k]? = some w ∧ w env Q (fun er => t er Q)) ks (acc ++ [d]) Q) (fun er => t er (fun d => toldGo (fun k Q => ∃ w, ws[k]? = some w ∧ w env Q (fun er => t er Q)) ks (acc ++ [d]) Q))) : toldGo (fun k Q => ∃ w, ws[k]? = some w ∧ w env Q (fun er => t er Q)) (k :: ks) acc Q := ⟨w, e, h⟩
theorem p_toldN {f : Nat → QD → Prop} {acc : List D} {Q : List D → Prop} (h : Q acc) : toldGo f [] acc Q := h
def eU : D := .tup [.str "error", .str "UnknownPost"]
def eN : D := .tup [.str "error", .str "InvalidNumber"]
theorem bad4 {a b : Int} {x : D} {p q : Int} (hp : ¬ (a ≤ p ∧ p ≤ b)) (hq : ¬ (a ≤ q ∧ q ≤ b)) (hx : x ∈ [D.int p, .int q, .non, .bl true]) : BadN a b x := by
  have hx : x = .int p ∨ x = .int q ∨ x = .non ∨ x = .bl true := by simpa using hx
  rcases hx with rfl | rfl | rfl | rfl
  · exact .int _ hp
  · exact .int _ hq
  · exact .non
  · exact .bl _
section
variable {Q : QD} {E : QR} {c x : Int} {rs : List (Int × Int)} {i : Nat} {d d2 d3 : D}
theorem n_oil_after_badP (hv : WV c rs) (h : BadN 0 ((rs.length : Int) - 1) d) (q : E ⟨2, [], []⟩) : S_oil_after [dW c rs, d, d2, d3] Q E := by
  refine ⟨rfl, ?_⟩
  show b_oil_after [.val (dW c rs), .val d, .val d2, .val d3, .un] _
  unfold b_oil_after
  walk_at "pq"
  exact n_check_start_badP hv h q
theorem n_oil_after_badX (hv : WV c rs) (hi : i < rs.length) (h : BadN 0 c d2) (q : E ⟨3, [], []⟩) : S_oil_after [dW c rs, .int (i : Int), d2, d3] Q E := by
  refine ⟨rfl, ?_⟩
  show b_oil_after [.val (dW c rs), .val (.int (i : Int)), .val d2, .val d3, .un] _
  unfold b_oil_after
  walk_at "pq"
  exact n_check_start_badX hv hi h q
theorem n_oil_after_badN (hv : WV c rs) (hi : i < rs.length) (x0 : 0 ≤ x) (x1 : x ≤ c) (h : BadN 0 1000000000000000000 d3) (q : E ⟨3, [], []⟩) : S_oil_after [dW c rs, .int (i : Int), .int x, d3] Q E := by
  refine ⟨rfl, ?_⟩
  show b_oil_after [.val (dW c rs), .val (.int (i : Int)), .val (.int x), .val d3, .un] _
  unfold b_oil_after
  walk_at "pq"
  refine n_check_start hv hi x0 x1 ?_
  walk_at "pq"
  exact n_check_within_bad h q
end
theorem p_lams {n : Ev → Prop} {rt : D → Ev → Prop} {bk ct : Ev → Prop} {er : Er → Ev → Prop} {env : Ev} {i : Nat} {ks : List Nat} (hl : ks.length ≤ 1000) (h : n (env.set i (.lams ks))) : wLams i ks env ⟨n, rt, bk, ct, er⟩ := ⟨hl, h⟩
theorem p_lamsA {n : Ev → Prop} {rt : D → Ev → Prop} {bk ct : Ev → Prop} {er : Er → Ev → Prop} {env : Ev} {i : Nat} {ks ks0 : List Nat} (e : env[i]? = some (.lams ks0)) (hl : ks0.length + ks.length ≤ 1000) (h : n (env.set i (.lams (ks0 ++ ks)))) : wLamsA i ks env ⟨n, rt, bk, ct, er⟩ := by
  unfold wLamsA
  rw [e]
  exact ⟨hl, h⟩
end Oil
namespace Oil
open PySem PySem.Spec PyProof.Rows L2
local macro_rules | `(tactic| walk_at "pq1") => `(tactic| with_reducible first
  | refine p_seq ?_ | refine p_skip ?_ | refine p_set ?_ | refine p_setO ?_ | refine p_kown ?_ | refine p_unp ?_ | refine p_put rfl ?_ | refine p_put1 ?_
  | refine p_par ?_ | refine p_pnil ?_ | refine p_pval ?_ | refine p_pown ?_ | refine p_kpown ?_ | refine p_expr ?_ | refine p_ret ?_ | refine p_retN ?_ | refine p_ifS ?_
  | refine p_for ?_ | refine p_raise ?_ | refine p_c ?_ | refine p_op ?_ | refine p_neg ?_ | refine p_kneg ?_ | refine p_chain ?_ | refine p_and ?_ | refine p_or ?_ | refine p_not ?_ | refine p_knot ?_
  | refine p_if ?_ | refine p_nil ?_ | refine p_cons ?_ | refine p_star ?_ | refine p_kstarT ?_ | refine p_kstarL ?_ | refine p_tup ?_ | refine p_lst ?_ | refine p_call ?_ | refine p_cb ?_ | refine p_val ?_ | refine p_kval ?_
  | refine p_ttru ?_ | refine p_ktruN ?_ | refine p_ktruB ?_ | refine p_ktruI ?_ | refine p_ktruL ?_ | refine p_ktruT ?_ | refine p_tnot ?_ | refine p_tand ?_ | refine p_tor ?_
  | refine p_nopart ?_ | refine p_part ?_ | refine p_kpart ?_ | refine p_slice ?_ | refine p_ksliceL ?_ | refine p_ksliceT ?_ | refine p_fld ?_ | refine p_meth ?_ | refine p_clo ?_ | refine p_kclo rfl ?_ | refine p_prop ?_ | refine p_kprop rfl ?_
  | refine p_inv ?_ | refine p_kinv rfl ?_ | refine p_lenO ?_ | refine p_klenO rfl ?_ | refine p_get ?_ | refine p_kget rfl ?_ | refine p_cmeth ?_ | refine p_kcmeth rfl ?_ | refine p_opC ?_ | refine p_kopC rfl rfl ?_ | refine p_opF ?_ | refine p_kopF rfl rfl ?_
  | refine p_eqO ?_ | refine p_keqO rfl rfl ?_ | refine p_iter ?_ | refine p_kiterL ?_ | refine p_kiterT ?_ | refine p_rg1 ?_ | refine p_rg2 ?_ | refine p_enum ?_ | refine p_kenum ?_ | refine p_lc ?_ | refine p_yes ?_
  | refine p_tt ?_ | refine p_ff ?_
  | refine o_add ?_ | refine o_sub ?_ | refine o_lt ?_ | refine o_le ?_ | refine o_gt ?_ | refine o_ge ?_
  | refine b_lenL ?_ | refine b_lenT ?_ | refine b_int ?_ | refine b_tupL ?_ | refine b_tupT ?_ | refine b_listL ?_ | refine b_listT ?_ | refine b_max2 ?_ | refine b_min2 ?_)
local macro_rules | `(tactic| walk_at "pq2") => `(tactic| with_reducible first
  | refine p_name (by with_unfolding_all rfl) ?_ | refine p_ownV (by with_unfolding_all rfl) ?_ | refine p_own (by with_unfolding_all rfl) ?_ | refine p_app (by with_unfolding_all rfl) ?_ | refine p_putI (by with_unfolding_all rfl) ?_
  | refine p_frz (by with_unfolding_all rfl) ?_ | refine p_frzV (by with_unfolding_all rfl) ?_ | refine p_kfld (by with_unfolding_all rfl) (by with_unfolding_all rfl) ?_ | refine p_kmeth (by with_unfolding_all rfl) (by decide) ?_ | refine p_makL (by with_unfolding_all rfl) (by with_unfolding_all rfl) ?_
  | refine p_self (by with_unfolding_all rfl) (by decide) (by with_unfolding_all rfl) (by decide) ?_)
local macro_rules | `(tactic| walk_at "pq3") => `(tactic| with_reducible first
  | refine o_eqI ?_ | refine o_neI ?_ | refine o_isNon ?_ | refine o_isInt ?_ | refine o_isNotNon ?_ | refine o_isNotInt ?_ | refine p_kandT ?_ | refine p_kandF ?_ | refine p_korT ?_ | refine p_korF ?_ | refine p_nt ?_ | refine p_nf ?_)
local macro_rules | `(tactic| walk_at "pq") => `(tactic| repeat (first | walk_at "pq1" | walk_at "pq2" | walk_at "pq3"))
/-! all numbers made so many times as great; rounds till the oil stays the same -/
section
variable {a b f : Int}
theorem mulf_le (f1 : 1 ≤ f) : a * f ≤ b * f ↔ a ≤ b := ⟨fun h => Int.le_of_mul_le_mul_right h (by omega), fun h => Int.mul_le_mul_of_nonneg_right h (by omega)⟩
theorem mulf_lt (f1 : 1 ≤ f) : a * f < b * f ↔ a < b := by
  have h1 := mulf_le (a := b) (b := a) f1
  constructor
  · intro h
    by_cases z : b ≤ a
    · have := h1.mpr z
      omega
    · omega
  · intro h
    by_cases z : b * f ≤ a * f
    · have := h1.mp z
      omega
    · omega
theorem min_f (f1 : 1 ≤ f) : min (a * f) (b * f) = min a b * f := by
  by_cases z : a ≤ b
  · have := (mulf_le f1).mpr z
    rw [show min a b = a by omega]
    omega
  · have := (mulf_le (a := b) (b := a) f1).mpr (by omega)
    rw [show min a b = b by omega]
    omega
theorem max_f (f1 : 1 ≤ f) : max (a * f) (b * f) = max a b * f := by
  by_cases z : a ≤ b
  · have := (mulf_le f1).mpr z
    rw [show max a b = b by omega]
    omega
  · have := (mulf_le (a := b) (b := a) f1).mpr (by omega)
    rw [show max a b = a by omega]
    omega
end
def Str3.scl (f : Int) (s : Str3) : Str3 := ⟨s.need.map (· * f), s.gain * f, s.top * f⟩
theorem scl_barred {f : Int} : Str3.barred.scl f = Str3.barred := by
  unfold Str3.scl Str3.barred
  simp
theorem scl_add {f : Int} (f1 : 1 ≤ f) (a b : Str3) : (a.scl f).add (b.scl f) = (a.add b).scl f := by
  obtain ⟨na, ga, ta⟩ := a
  obtain ⟨nb, gb, tb⟩ := b
  cases na with
  | none => rw [Str3.add_none (.inl rfl), Str3.add_none (a := ⟨none, ga, ta⟩) (.inl rfl), scl_barred]
  | some n =>
    cases nb with
    | none => rw [Str3.add_none (.inr rfl), Str3.add_none (b := ⟨none, gb, tb⟩) (.inr rfl), scl_barred]
    | some m =>
      show (Str3.mk (some (n * f)) (ga * f) (ta * f)).add ⟨some (m * f), gb * f, tb * f⟩ = _
      rw [Str3.add_some, Str3.add_some]
      have h1 := mulf_lt (a := ta) (b := m) f1
      by_cases z : ta < m
      · rw [if_pos z, if_pos (h1.mpr z), scl_barred]
      · rw [if_neg z, if_neg fun q => z (h1.mp q)]
        show _ = Str3.mk (some (max n (m - ga) * f)) ((ga + gb) * f) (min (ta + gb) tb * f)
        rw [← Int.sub_mul, max_f f1, ← Int.add_mul, ← Int.add_mul, min_f f1]
theorem scl_leg {f c : Int} {r : Int × Int} (f1 : 1 ≤ f) : legS (c * f) (r.1 * f, r.2 * f) = (legS c r).scl f := by
  unfold legS
  have h1 := mulf_lt (a := c) (b := r.2) f1
  by_cases z : c < r.2
  · rw [if_pos z, if_pos (h1.mpr z), scl_barred]
  · rw [if_neg z, if_neg fun q => z (h1.mp q)]
    show Str3.mk (some (max 0 (r.2 * f - r.1 * f))) (r.1 * f - r.2 * f) (c * f - r.2 * f) = Str3.mk (some (max 0 (r.2 - r.1) * f)) ((r.1 - r.2) * f) ((c - r.2) * f)
    have := max_f (a := 0) (b := r.2 - r.1) f1
    rw [Int.zero_mul] at this
    rw [← this, ← Int.sub_mul, ← Int.sub_mul, ← Int.sub_mul]
theorem scl_tS {f c : Int} (f1 : 1 ≤ f) (h : Nat → Int × Int) : ∀ n, tS (c * f) (fun k => ((h k).1 * f, (h k).2 * f)) n = (tS c h n).scl f
  | 0 => scl_leg f1
  | n + 1 => by
    show (tS (c * f) _ n).add (legS (c * f) ((h (n + 1)).1 * f, (h (n + 1)).2 * f)) = ((tS c h n).add (legS c (h (n + 1)))).scl f
    rw [scl_tS f1 h n, scl_leg f1, scl_add f1]
theorem scl_len {f : Int} (L : List (Int × Int)) : (scl f L).length = L.length := by simp [scl]
theorem scl_nth {f : Int} {L : List (Int × Int)} (h : 0 < L.length) (k : Nat) : nth (scl f L) k = ((nth L k).1 * f, (nth L k).2 * f) := by
  have hm := Nat.mod_lt k h
  unfold nth
  rw [scl_len]
  unfold scl
  rw [List.getElem?_map, List.getElem?_eq_getElem hm]
  rfl
theorem scl_rot {f : Int} {rs : List (Int × Int)} {i : Nat} : rot (scl f rs) i = scl f (rot rs i) := by
  unfold rot scl
  rw [List.map_append, List.map_drop, List.map_take]
section
variable {f c x : Int} {rs L : List (Int × Int)} {i n : Nat}
theorem scl_stW (f1 : 1 ≤ f) (hi : i < rs.length) (n1 : 1 ≤ n) : stW (c * f) (scl f rs) i n = (stW c rs i n).scl f := by
  rw [stW_tS (by rw [scl_len]; exact hi) n1, stW_tS hi n1, scl_rot, ← scl_tS f1]
  congr 1
  funext k
  exact scl_nth (by rw [rot_len (by omega)]; omega) k
theorem scl_step (f1 : 1 ≤ f) {r : Int × Int} : step (c * f) (r.1 * f, r.2 * f) (x * f) = (step c r x).map (· * f) := by
  unfold step
  show (if min (c * f) (x * f + r.1 * f) < r.2 * f then none else some (min (c * f) (x * f + r.1 * f) - r.2 * f)) = _
  rw [← Int.add_mul, min_f f1]
  have h1 := mulf_lt (a := min c (x + r.1)) (b := r.2) f1
  by_cases z : min c (x + r.1) < r.2
  · rw [if_pos z, if_pos (h1.mpr z)]
    rfl
  · rw [if_neg z, if_neg fun q => z (h1.mp q), ← Int.sub_mul]
    rfl
theorem scl_walk (f1 : 1 ≤ f) (h : 0 < L.length) : ∀ n, walk (c * f) (scl f L) (x * f) n = (walk c L x n).map (· * f)
  | 0 => rfl
  | n + 1 => by
    show (walk (c * f) (scl f L) (x * f) n).bind _ = ((walk c L x n).bind _).map _
    rw [scl_walk f1 h n]
    cases walk c L x n with
    | none => rfl
    | some y =>
      show step (c * f) (nth (scl f L) n) (y * f) = (step c (nth L n) y).map _
      rw [scl_nth h, scl_step f1]
theorem scl_surp : ∀ rs : List (Int × Int), surp (scl f rs) = surp rs * f
  | [] => by simp [surp, scl]
  | r :: rs => by
    have := scl_surp rs
    unfold surp scl at this ⊢
    simp only [List.map_cons, List.sum_cons, Int.add_mul] at this ⊢
    rw [this, Int.sub_mul]
theorem scl_endl (f1 : 1 ≤ f) (hi : i < rs.length) : endl (c * f) (scl f rs) i (x * f) = endl c rs i x := by
  unfold endl
  rw [scl_surp, scl_rot, scl_len, scl_walk f1 (by rw [rot_len (by omega)]; omega)]
  have h1 := mulf_le (a := 0) (b := surp rs) f1
  rw [Int.zero_mul] at h1
  congr 1
  · exact decide_eq_decide.mpr h1
  · cases walk c (rot rs i) x (2 * rs.length) <;> rfl
/-! rounds -/
def yk (t g x : Int) : Nat → Int
  | 0 => x
  | k + 1 => min t (yk t g x k + g)
/-- endless: round by round -/
theorem rounds (hv : ∀ r ∈ rs, 0 ≤ r.1) (hi : i < rs.length) (x0 : 0 ≤ x) (h : endl c rs i x = true) : ∀ k, walk c (rot rs i) x (rs.length * k) = some (yk (stW c rs i rs.length).top (surp rs) x k) ∧ walk c (rot rs i) (yk (stW c rs i rs.length).top (surp rs) x k) rs.length = some (yk (stW c rs i rs.length).top (surp rs) x (k + 1)) := by
  obtain ⟨hs, hg⟩ := round_gain hv hi x0 h
  have hl := rot_len (rs := rs) (i := i) (by omega)
  intro k
  have key : ∀ k y, walk c (rot rs i) x (rs.length * k) = some y → walk c (rot rs i) y rs.length = some (min (stW c rs i rs.length).top (y + surp rs)) ∧ walk c (rot rs i) x (rs.length * (k + 1)) = some (min (stW c rs i rs.length).top (y + surp rs)) := fun k y e => by
    have y0 : 0 ≤ y := walk_nonneg x0 e
    have w2 : walk c (rot rs i) x (rs.length * k + rs.length) = (walk c (rot rs i) x (rs.length * k)).bind fun y => walk c (rot rs i) y rs.length := by
      rw [← hl]
      exact walk_add
    rw [e] at w2
    have w2 : walk c (rot rs i) x (rs.length * k + rs.length) = walk c (rot rs i) y rs.length := w2
    have ev := endl_ever hv hi x0 h (rs.length * k + rs.length)
    have a2 := stW_app (c := c) (n := rs.length) y0 hv hi (by omega)
    have : walk c (rot rs i) y rs.length = some (min (stW c rs i rs.length).top (y + surp rs)) := by
      rw [← a2]
      rw [w2, ← a2] at ev
      generalize stW c rs i rs.length = s at ev hg ⊢
      obtain ⟨nd, g, tp⟩ := s
      cases nd with
      | none => exact absurd ev (by unfold Str3.app; simp)
      | some m =>
        have hg : g = surp rs := hg
        subst hg
        have ev : (if y < m then none else some (min tp (y + surp rs)) : Option Int).isSome = true := ev
        show (if y < m then none else some (min tp (y + surp rs)) : Option Int) = some (min tp (y + surp rs))
        split at ev
        · cases ev
        · rename_i z
          rw [if_neg z]
    exact ⟨this, by rw [Nat.mul_succ, w2]; exact this⟩
  have all : ∀ k, walk c (rot rs i) x (rs.length * k) = some (yk (stW c rs i rs.length).top (surp rs) x k) := fun k => by
    induction k with
    | zero => rfl
    | succ k ih => exact (key k _ ih).2
  exact ⟨all k, (key k _ (all k)).1⟩
theorem yk_gt {t g : Int} (g0 : 0 ≤ g) (h : x ≤ t) : ∀ k, yk t g x k = min t (x + (k : Int) * g)
  | 0 => by
    show x = _
    rw [show ((0 : Nat) : Int) * g = 0 by simp]
    omega
  | k + 1 => by
    show min t (yk t g x k + g) = _
    rw [yk_gt g0 h k, Int.natCast_add, Int.add_mul]
    have : 0 ≤ (k : Int) * g := Int.mul_nonneg (by omega) g0
    omega
/-- the first round after which the oil stays the same: as the great numbers say -/
theorem set_small (f1 : 1 ≤ f) (hv : ∀ r ∈ rs, 0 ≤ r.1) (hi : i < rs.length) (x0 : 0 ≤ x) (h : endl c rs i x = true) {k : Nat} (hk : yk (stW c rs i rs.length).top (surp rs) x (k + 1) = yk (stW c rs i rs.length).top (surp rs) x k) (hno : ∀ j, j < k → yk (stW c rs i rs.length).top (surp rs) x (j + 1) ≠ yk (stW c rs i rs.length).top (surp rs) x j) :
    setD (c * f) (scl f rs) i (x * f) = .tup [.int (k : Int), .int (yk (stW c rs i rs.length).top (surp rs) x k * f)] := by
  obtain ⟨hs, hg⟩ := round_gain hv hi x0 h
  unfold setD
  rw [scl_endl f1 hi, h, if_neg (by simp), scl_len, scl_stW f1 hi (by omega)]
  rw [show ((stW c rs i rs.length).scl f).top = (stW c rs i rs.length).top * f from rfl, show ((stW c rs i rs.length).scl f).gain = (stW c rs i rs.length).gain * f from rfl, hg]
  generalize (stW c rs i rs.length).top = t at hk hno ⊢
  generalize surp rs = g at hs hk hno ⊢
  by_cases z : t < x
  · rw [if_pos ((mulf_lt f1).mpr z)]
    have y1 : yk t g x 1 = t := by show min t (x + g) = t; omega
    have y2 : yk t g x 2 = t := by show min t (min t (x + g) + g) = t; omega
    have : k = 1 := by
      by_cases k0 : k = 0
      · subst k0
        have : yk t g x 1 = x := hk
        omega
      · by_cases k1 : k = 1
        · exact k1
        · exact absurd (by rw [y1]; exact y2) (hno 1 (by omega))
    subst this
    rw [y1]
    rfl
  · rw [if_neg fun q => z ((mulf_lt f1).mp q)]
    by_cases z2 : g = 0
    · subst z2
      rw [if_pos (by simp)]
      have : k = 0 := by
        by_cases k0 : k = 0
        · exact k0
        · exact absurd (by show min t (x + 0) = x; omega) (hno 0 (by omega))
      subst this
      rfl
    · have gp : 1 ≤ g := by omega
      have gf : g * f ≠ 0 := Int.mul_ne_zero z2 (by omega)
      rw [if_neg gf]
      have e := yk_gt hs (show x ≤ t by omega)
      have hk' : t ≤ x + (k : Int) * g := by
        rw [e, e, Int.natCast_add, Int.add_mul] at hk
        omega
      have yt : yk t g x k = t := by rw [e]; omega
      have hlow : ((k : Int) - 1) * g < t - x := by
        by_cases k0 : k = 0
        · subst k0
          have : (((0 : Nat) : Int) - 1) * g = - g := by simp
          omega
        · obtain ⟨j, rfl⟩ : ∃ j, k = j + 1 := ⟨k - 1, by omega⟩
          have := hno j (by omega)
          rw [yt, e] at this
          have h2 : (((j + 1 : Nat) : Int) - 1) * g = (j : Int) * g := by
            congr 1
            omega
          rw [h2]
          omega
      rw [yt]
      congr 3
      have gpos : 0 < g * f := Int.mul_pos (by omega) (by omega)
      have u1 : (k : Int) * (g * f) ≤ t * f - x * f + g * f - 1 := by
        have h3 : (((k : Int) - 1) * g) * f < (t - x) * f := (mulf_lt f1).mpr hlow
        rw [Int.sub_mul t x f, Int.sub_mul (k : Int) 1 g, Int.one_mul, Int.sub_mul, Int.mul_assoc] at h3
        omega
      have u2 : t * f - x * f + g * f - 1 < ((k : Int) + 1) * (g * f) := by
        have h3 : (t - x) * f ≤ ((k : Int) * g) * f := (mulf_le f1).mpr (by omega)
        rw [Int.sub_mul t x f, Int.mul_assoc] at h3
        rw [Int.add_mul, Int.one_mul]
        omega
      refine Int.le_antisymm ?_ ?_
      · have := (Int.ediv_lt_iff_lt_mul gpos).mpr u2
        omega
      · exact (Int.le_ediv_iff_mul_le gpos).mpr u1
end
end Oil
namespace Oil
open PySem PySem.Spec PyProof.Rows L2
local macro_rules | `(tactic| walk_at "pq1") => `(tactic| with_reducible first
  | refine p_seq ?_ | refine p_skip ?_ | refine p_set ?_ | refine p_setO ?_ | refine p_kown ?_ | refine p_unp ?_ | refine p_put rfl ?_ | refine p_put1 ?_
  | refine p_par ?_ | refine p_pnil ?_ | refine p_pval ?_ | refine p_pown ?_ | refine p_kpown ?_ | refine p_expr ?_ | refine p_ret ?_ | refine p_retN ?_ | refine p_ifS ?_
  | refine p_for ?_ | refine p_raise ?_ | refine p_c ?_ | refine p_op ?_ | refine p_neg ?_ | refine p_kneg ?_ | refine p_chain ?_ | refine p_and ?_ | refine p_or ?_ | refine p_not ?_ | refine p_knot ?_
  | refine p_if ?_ | refine p_nil ?_ | refine p_cons ?_ | refine p_star ?_ | refine p_kstarT ?_ | refine p_kstarL ?_ | refine p_tup ?_ | refine p_lst ?_ | refine p_call ?_ | refine p_cb ?_ | refine p_val ?_ | refine p_kval ?_
  | refine p_ttru ?_ | refine p_ktruN ?_ | refine p_ktruB ?_ | refine p_ktruI ?_ | refine p_ktruL ?_ | refine p_ktruT ?_ | refine p_tnot ?_ | refine p_tand ?_ | refine p_tor ?_
  | refine p_nopart ?_ | refine p_part ?_ | refine p_kpart ?_ | refine p_slice ?_ | refine p_ksliceL ?_ | refine p_ksliceT ?_ | refine p_fld ?_ | refine p_meth ?_ | refine p_clo ?_ | refine p_kclo rfl ?_ | refine p_prop ?_ | refine p_kprop rfl ?_
  | refine p_inv ?_ | refine p_kinv rfl ?_ | refine p_lenO ?_ | refine p_klenO rfl ?_ | refine p_get ?_ | refine p_kget rfl ?_ | refine p_cmeth ?_ | refine p_kcmeth rfl ?_ | refine p_opC ?_ | refine p_kopC rfl rfl ?_ | refine p_opF ?_ | refine p_kopF rfl rfl ?_
  | refine p_eqO ?_ | refine p_keqO rfl rfl ?_ | refine p_iter ?_ | refine p_kiterL ?_ | refine p_kiterT ?_ | refine p_rg1 ?_ | refine p_rg2 ?_ | refine p_enum ?_ | refine p_kenum ?_ | refine p_lc ?_ | refine p_yes ?_
  | refine p_tt ?_ | refine p_ff ?_
  | refine o_add ?_ | refine o_sub ?_ | refine o_lt ?_ | refine o_le ?_ | refine o_gt ?_ | refine o_ge ?_
  | refine b_lenL ?_ | refine b_lenT ?_ | refine b_int ?_ | refine b_tupL ?_ | refine b_tupT ?_ | refine b_listL ?_ | refine b_listT ?_ | refine b_max2 ?_ | refine b_min2 ?_)
local macro_rules | `(tactic| walk_at "pq2") => `(tactic| with_reducible first
  | refine p_name (by with_unfolding_all rfl) ?_ | refine p_ownV (by with_unfolding_all rfl) ?_ | refine p_own (by with_unfolding_all rfl) ?_ | refine p_app (by with_unfolding_all rfl) ?_ | refine p_putI (by with_unfolding_all rfl) ?_
  | refine p_frz (by with_unfolding_all rfl) ?_ | refine p_frzV (by with_unfolding_all rfl) ?_ | refine p_kfld (by with_unfolding_all rfl) (by with_unfolding_all rfl) ?_ | refine p_kmeth (by with_unfolding_all rfl) (by decide) ?_ | refine p_makL (by with_unfolding_all rfl) (by with_unfolding_all rfl) ?_
  | refine p_self (by with_unfolding_all rfl) (by decide) (by with_unfolding_all rfl) (by decide) ?_)
local macro_rules | `(tactic| walk_at "pq3") => `(tactic| with_reducible first
  | refine o_eqI ?_ | refine o_neI ?_ | refine o_isNon ?_ | refine o_isInt ?_ | refine o_isNotNon ?_ | refine o_isNotInt ?_ | refine p_kandT ?_ | refine p_kandF ?_ | refine p_korT ?_ | refine p_korF ?_ | refine p_nt ?_ | refine p_nf ?_)
local macro_rules | `(tactic| walk_at "pq") => `(tactic| repeat (first | walk_at "pq1" | walk_at "pq2" | walk_at "pq3"))
/-! ways made of what is no way: which error -/
theorem p_raiseX {t : WA} {c : Nat} {ns : List Str} {env : Ev} {n : Ev → Prop} {rt : D → Ev → Prop} {bk ct : Ev → Prop} {er : Er → Ev → Prop} (h : t env (fun ds => ds.length = ns.length ∧ (∀ d ∈ ds, D.short d) ∧ er ⟨c, ns.reverse, ds.reverse⟩ env) (fun x => er x env)) : wRaiseX c ns t env ⟨n, rt, bk, ct, er⟩ := h
def eW (s : Str) (i : Int) : D := .tup [.str "error", .str "InvalidWay", .lst [.str s, .int i]]
def eS (s : Str) : D := .tup [.str "error", .str "InvalidStretch", .lst [.str s]]
/-- is_post says no -/
def NoPost (d : D) : Prop := ∀ (Q : QD) (E : QR), Q (.bl false) → S_is_post [d] Q E
section
variable {Q : QD} {E : QR} {c : Int} {rs : List (Int × Int)} {d : D}
theorem noPost_kind {T : String} (hk : d.kind = some T) (ht : kitB T "tuple" = some false) : NoPost d := fun Q E q => by
  refine ⟨rfl, ?_⟩
  show b_is_post [.val d] _
  unfold b_is_post
  walk_at "pq"
  refine b_isi hk ht ?_
  walk_at "pq"
  exact q
theorem noPost_len {xs : List D} (h : xs.length ≠ 2) (hb : xs.length ≤ 100) : NoPost (.tup xs) := fun Q E q => by
  refine ⟨rfl, ?_⟩
  show b_is_post [.val (.tup xs)] _
  unfold b_is_post
  walk_at "pq"
  refine bsi_tup ?_
  walk_at "pq"
  rw [decide_eq_false (by omega)]
  walk_at "pq"
  exact q
theorem noPost_oil {a b : D} (h : BadN 0 1000000000 a) : NoPost (.tup [a, b]) := fun Q E q => by
  refine ⟨rfl, ?_⟩
  show b_is_post [.val (.tup [a, b])] _
  unfold b_is_post
  walk_at "pq"
  refine bsi_tup ?_
  walk_at "pq"
  refine o_ixT (k := 0) rfl rfl ?_
  walk_at "pq"
  refine n_within_bad h ?_
  walk_at "pq"
  exact q
theorem noPost_steps {p : Int} {b : D} (hp : 0 ≤ p ∧ p ≤ 1000000000) (h : BadN 1 1000000000 b) : NoPost (.tup [.int p, b]) := fun Q E q => by
  refine ⟨rfl, ?_⟩
  show b_is_post [.val (.tup [.int p, b])] _
  unfold b_is_post
  walk_at "pq"
  refine bsi_tup ?_
  walk_at "pq"
  refine o_ixT (k := 0) rfl rfl ?_
  walk_at "pq"
  refine n_within ?_
  rw [decide_eq_true hp]
  walk_at "pq"
  refine o_ixT (k := 1) rfl rfl ?_
  walk_at "pq"
  exact n_within_bad h q
theorem fwb_go (K : KN) (rest : List D) (hd : NoPost d) : ∀ (xs : List (Int × Int)) (k : Nat) (env0 env1 env2 : Sl), (∀ r ∈ xs, PV r) → k + xs.length ≤ 11 → (∀ e, K.rt (.int ((k + xs.length : Nat) : Int)) e) →
    wForGo (.tp [1, 2]) (wIfS (wtOr (wtVal (wOp oEq (wName 1) (wC (.int 12)))) (wtNot (wtVal (wCall S_is_post (wCons (wName 2) wNil)))))
    (wRet (wName 1))
    wSkip) K (((xs.map dP ++ d :: rest).zipIdx k).map fun p => .tup [.int (p.2 : Nat), p.1]) [env0, env1, env2]
  | [], k, e0, e1, e2, _, hl, h => by
    refine p_put rfl ?_
    show wIfS _ _ _ [e0, .val (.int (k : Nat)), .val d] _
    simp only [List.length_nil] at hl
    walk_at "pq"
    have hk : decide ((k : Int) = 12) = false := decide_eq_false (by omega)
    refine p_bF hk ?_
    walk_at "pq"
    refine hd _ _ ?_
    walk_at "pq"
    exact h _
  | r :: xs, k, e0, e1, e2, hv, hl, h => by
    refine p_put rfl ?_
    show wIfS _ _ _ [e0, .val (.int (k : Nat)), .val (dP r)] _
    simp only [List.length_cons] at hl
    walk_at "pq"
    have hk : decide ((k : Int) = 12) = false := decide_eq_false (by omega)
    refine p_bF hk ?_
    walk_at "pq"
    refine n_is_post (hv r (by simp)) ?_
    walk_at "pq"
    refine fwb_go K rest hd xs (k + 1) e0 _ _ (fun r hr => hv r (by simp [hr])) (by omega) fun e => ?_
    have := h e
    rw [List.length_cons, show k + (xs.length + 1) = k + 1 + xs.length by omega] at this
    exact this
theorem n_first_bad {rest : List D} (hd : NoPost d) (hv : ∀ r ∈ rs, PV r) (hl : rs.length ≤ 11) (h : Q (.int (rs.length : Int))) : S_first_wrong [.tup (rs.map dP ++ d :: rest)] Q E := by
  refine ⟨rfl, ?_⟩
  show b_first_wrong [.val (.tup (rs.map dP ++ d :: rest)), .un, .un] _
  unfold b_first_wrong
  walk_at "pq"
  refine fwb_go _ rest hd rs 0 _ _ _ hv (by omega) fun e => ?_
  rw [Nat.zero_add]
  exact h
theorem wfor_nil {gt : Tgt} {s : WS} {K : KN} {env : Ev} (h : K.nx env) : wForGo gt s K [] env := h
theorem n_first_none (h : Q (.int 0)) : S_first_wrong [.tup []] Q E := by
  refine ⟨rfl, ?_⟩
  show b_first_wrong [.val (.tup []), .un, .un] _
  unfold b_first_wrong
  walk_at "pq"
  refine wfor_nil ?_
  walk_at "pq"
  refine p_bF rfl ?_
  walk_at "pq"
  exact h
theorem n_Way_badC {ds : List D} (hb : BadN 1 1000000000 d) (hl : ds.length ≤ 100) (q : E ⟨1, ["index", "part"], [.int 0, .str "capacity"]⟩) : S_Way_init (d :: ds) Q E := by
  refine ⟨by simp, by simp; omega, ?_⟩
  show b_Way_init [.obj 13 [] [], .val d, .val (.tup ds), .un] _
  unfold b_Way_init
  walk_at "pq"
  refine n_within_bad hb ?_
  walk_at "pq"
  refine p_raiseX ?_
  walk_at "pq"
  refine ⟨rfl, fun x hx => ?_, q⟩
  have hx : x = .str "capacity" ∨ x = .int 0 := by simpa using hx
  rcases hx with rfl | rfl
  · show Str.length "capacity" ≤ 1000
    decide +kernel
  · exact big_of (by decide)
theorem n_Way_badP {rest : List D} (c1 : 1 ≤ c) (c2 : c ≤ 1000000000) (hd : NoPost d) (hv : ∀ r ∈ rs, PV r) (hl : rs.length ≤ 11) (hr : rest.length ≤ 100) (q : E ⟨1, ["index", "part"], [.int (rs.length : Int), .str "posts"]⟩) : S_Way_init (.int c :: (rs.map dP ++ d :: rest)) Q E := by
  refine ⟨by simp, by simp; omega, ?_⟩
  show b_Way_init [.obj 13 [] [], .val (.int c), .val (.tup (rs.map dP ++ d :: rest)), .un] _
  unfold b_Way_init
  walk_at "pq"
  refine n_within ?_
  rw [decide_eq_true ⟨c1, c2⟩]
  walk_at "pq"
  refine n_first_bad hd hv hl ?_
  walk_at "pq"
  refine p_raiseX ?_
  walk_at "pq"
  refine ⟨rfl, fun x hx => ?_, q⟩
  have hx : x = .str "posts" ∨ x = .int (rs.length : Int) := by simpa using hx
  rcases hx with rfl | rfl
  · show Str.length "posts" ≤ 1000
    decide +kernel
  · exact big_of (by omega)
end
section
variable {Q : QD} {E : QR} {c : Int} {rs : List (Int × Int)} {d p q : D} {n i : Nat}
theorem n_Way_bad0 (c1 : 1 ≤ c) (c2 : c ≤ 1000000000) (q : E ⟨1, ["index", "part"], [.int 0, .str "posts"]⟩) : S_Way_init [.int c] Q E := by
  refine ⟨by simp, by simp, ?_⟩
  show b_Way_init [.obj 13 [] [], .val (.int c), .val (.tup []), .un] _
  unfold b_Way_init
  walk_at "pq"
  refine n_within ?_
  rw [decide_eq_true ⟨c1, c2⟩]
  walk_at "pq"
  refine n_first_none ?_
  walk_at "pq"
  refine p_raiseX ?_
  walk_at "pq"
  refine ⟨rfl, fun x hx => ?_, q⟩
  have hx : x = .str "posts" ∨ x = .int 0 := by simpa using hx
  rcases hx with rfl | rfl
  · show Str.length "posts" ≤ 1000
    decide +kernel
  · exact big_of (by decide)
theorem n_even_badN {a b : D} (h : BadN 1 12 d) (e : E ⟨3, [], []⟩) : S_Way_even [.cls 13, p, d, a, b] Q E := by
  refine ⟨rfl, ?_⟩
  show b_Way_even [.val (.cls 13), .val p, .val d, .val a, .val b, .un, .un] _
  unfold b_Way_even
  walk_at "pq"
  exact n_check_within_bad h e
theorem n_even_badP {a b : D} (h1 : 1 ≤ n) (h2 : n ≤ 12) (c1 : 1 ≤ c) (c2 : c ≤ 1000000000) (h : NoPost (.tup [a, b])) (e : E ⟨1, ["index", "part"], [.int 0, .str "posts"]⟩) : S_Way_even [.cls 13, .int c, .int (n : Int), a, b] Q E := by
  refine ⟨rfl, ?_⟩
  show b_Way_even [.val (.cls 13), .val (.int c), .val (.int (n : Int)), .val a, .val b, .un, .un] _
  unfold b_Way_even
  walk_at "pq"
  refine n_check_within (by omega) (by omega) ?_
  walk_at "pq"
  refine p_krg1 (by omega) ?_
  rw [Int.toNat_natCast, intD_zero]
  refine ⟨by simp [LIM]; omega, ?_⟩
  refine lc_mapT (fun (k : Nat) => D.int (k : Int)) (fun _ => .tup [a, b]) _ [] ?_ ?_
  · intro k hk A hA
    refine p_put1 ?_
    dsimp only [wipeE, List.set]
    walk_at "pq"
    exact ⟨by show 2 ≤ LIM; decide, hA⟩
  have e1 : ((List.range n).map fun _ => D.tup [a, b]) = ([] : List (Int × Int)).map dP ++ D.tup [a, b] :: List.replicate (n - 1) (D.tup [a, b]) := by
    rw [List.map_const', List.length_range]
    obtain ⟨m, rfl⟩ : ∃ m, n = m + 1 := ⟨n - 1, by omega⟩
    rfl
  rw [List.nil_append, e1]
  walk_at "pq"
  rw [List.append_nil]
  exact n_Way_badP (rs := []) c1 c2 h (by simp) (by simp) (by simp; omega) e
theorem n_with_post_bad (hv : WV c rs) (hi : i < rs.length) (h : NoPost (.tup [p, q])) (e : E ⟨1, ["index", "part"], [.int (i : Int), .str "posts"]⟩) : S_Way_with_post [dW c rs, .int (i : Int), p, q] Q E := by
  have l2 := hv.l2
  refine ⟨rfl, ?_⟩
  show b_Way_with_post [.val (dW c rs), .val (.int (i : Int)), .val p, .val q, .un] _
  unfold b_Way_with_post dW
  walk_at "pq"
  refine n_check_post (by omega) (by rw [List.length_map]; omega) ?_
  walk_at "pq"
  refine ⟨by show 2 ≤ LIM; decide, ?_⟩
  walk_at "pq"
  refine p_kput (k := i) (ixD_nat (by rw [List.length_map]; exact hi)) ?_
  walk_at "pq"
  have e1 : (rs.map dP).set i (.tup [p, q]) = (rs.take i).map dP ++ D.tup [p, q] :: (rs.drop (i + 1)).map dP := by
    rw [List.set_eq_take_append_cons_drop, if_pos (by rw [List.length_map]; exact hi), List.map_take, List.map_drop]
  rw [List.append_nil, e1]
  have hl : (rs.take i).length = i := by rw [List.length_take]; omega
  refine n_Way_badP hv.c1 hv.c2 h (fun r hr => hv.pv r (List.mem_of_mem_take hr)) (by omega) (by simp; omega) ?_
  rw [hl]
  exact e
theorem n_with_post_badI (hv : WV c rs) {a b : D} (h : BadN 0 ((rs.length : Int) - 1) d) (e : E ⟨2, [], []⟩) : S_Way_with_post [dW c rs, d, a, b] Q E := by
  refine ⟨rfl, ?_⟩
  show b_Way_with_post [.val (dW c rs), .val d, .val a, .val b, .un] _
  unfold b_Way_with_post dW
  walk_at "pq"
  rw [List.length_map]
  exact n_check_post_bad h e
theorem n_with_capacity_bad (hv : WV c rs) (h : BadN 1 1000000000 d) (e : E ⟨1, ["index", "part"], [.int 0, .str "capacity"]⟩) : S_Way_with_capacity [dW c rs, d] Q E := by
  have l2 := hv.l2
  refine ⟨rfl, ?_⟩
  show b_Way_with_capacity [.val (dW c rs), .val d] _
  unfold b_Way_with_capacity dW
  walk_at "pq"
  rw [List.append_nil]
  exact n_Way_badC h (by rw [List.length_map]; omega) e
theorem n_getitem_bad (h : BadN 0 ((rs.length : Int) - 1) d) (e : E ⟨2, [], []⟩) : S_Way_getitem [dW c rs, d] Q E := by
  refine ⟨rfl, ?_⟩
  show b_Way_getitem [.val (dW c rs), .val d] _
  unfold b_Way_getitem dW
  walk_at "pq"
  rw [List.length_map]
  exact n_check_post_bad h e
theorem n_rshift_bad (h : BadN 0 ((rs.length : Int) - 1) d) (e : E ⟨3, [], []⟩) : S_Way_rshift [dW c rs, d] Q E := by
  refine ⟨rfl, ?_⟩
  show b_Way_rshift [.val (dW c rs), .val d, .un] _
  unfold b_Way_rshift dW
  walk_at "pq"
  rw [List.length_map]
  walk_at "pq"
  exact n_check_within_bad h e
end
end Oil
namespace Oil
open PySem PySem.Spec PyProof.Rows L2
local macro_rules | `(tactic| walk_at "pq1") => `(tactic| with_reducible first
  | refine p_seq ?_ | refine p_skip ?_ | refine p_set ?_ | refine p_setO ?_ | refine p_kown ?_ | refine p_unp ?_ | refine p_put rfl ?_ | refine p_put1 ?_
  | refine p_par ?_ | refine p_pnil ?_ | refine p_pval ?_ | refine p_pown ?_ | refine p_kpown ?_ | refine p_expr ?_ | refine p_ret ?_ | refine p_retN ?_ | refine p_ifS ?_
  | refine p_for ?_ | refine p_raise ?_ | refine p_c ?_ | refine p_op ?_ | refine p_neg ?_ | refine p_kneg ?_ | refine p_chain ?_ | refine p_and ?_ | refine p_or ?_ | refine p_not ?_ | refine p_knot ?_
  | refine p_if ?_ | refine p_nil ?_ | refine p_cons ?_ | refine p_star ?_ | refine p_kstarT ?_ | refine p_kstarL ?_ | refine p_tup ?_ | refine p_lst ?_ | refine p_call ?_ | refine p_cb ?_ | refine p_val ?_ | refine p_kval ?_
  | refine p_ttru ?_ | refine p_ktruN ?_ | refine p_ktruB ?_ | refine p_ktruI ?_ | refine p_ktruL ?_ | refine p_ktruT ?_ | refine p_tnot ?_ | refine p_tand ?_ | refine p_tor ?_
  | refine p_nopart ?_ | refine p_part ?_ | refine p_kpart ?_ | refine p_slice ?_ | refine p_ksliceL ?_ | refine p_ksliceT ?_ | refine p_fld ?_ | refine p_meth ?_ | refine p_clo ?_ | refine p_kclo rfl ?_ | refine p_prop ?_ | refine p_kprop rfl ?_
  | refine p_inv ?_ | refine p_kinv rfl ?_ | refine p_lenO ?_ | refine p_klenO rfl ?_ | refine p_get ?_ | refine p_kget rfl ?_ | refine p_cmeth ?_ | refine p_kcmeth rfl ?_ | refine p_opC ?_ | refine p_kopC rfl rfl ?_ | refine p_opF ?_ | refine p_kopF rfl rfl ?_
  | refine p_eqO ?_ | refine p_keqO rfl rfl ?_ | refine p_iter ?_ | refine p_kiterL ?_ | refine p_kiterT ?_ | refine p_rg1 ?_ | refine p_rg2 ?_ | refine p_enum ?_ | refine p_kenum ?_ | refine p_lc ?_ | refine p_yes ?_
  | refine p_tt ?_ | refine p_ff ?_
  | refine o_add ?_ | refine o_sub ?_ | refine o_lt ?_ | refine o_le ?_ | refine o_gt ?_ | refine o_ge ?_
  | refine b_lenL ?_ | refine b_lenT ?_ | refine b_int ?_ | refine b_tupL ?_ | refine b_tupT ?_ | refine b_listL ?_ | refine b_listT ?_ | refine b_max2 ?_ | refine b_min2 ?_)
local macro_rules | `(tactic| walk_at "pq2") => `(tactic| with_reducible first
  | refine p_name (by with_unfolding_all rfl) ?_ | refine p_ownV (by with_unfolding_all rfl) ?_ | refine p_own (by with_unfolding_all rfl) ?_ | refine p_app (by with_unfolding_all rfl) ?_ | refine p_putI (by with_unfolding_all rfl) ?_
  | refine p_frz (by with_unfolding_all rfl) ?_ | refine p_frzV (by with_unfolding_all rfl) ?_ | refine p_kfld (by with_unfolding_all rfl) (by with_unfolding_all rfl) ?_ | refine p_kmeth (by with_unfolding_all rfl) (by decide) ?_ | refine p_makL (by with_unfolding_all rfl) (by with_unfolding_all rfl) ?_
  | refine p_self (by with_unfolding_all rfl) (by decide) (by with_unfolding_all rfl) (by decide) ?_)
local macro_rules | `(tactic| walk_at "pq3") => `(tactic| with_reducible first
  | refine o_eqI ?_ | refine o_neI ?_ | refine o_isNon ?_ | refine o_isInt ?_ | refine o_isNotNon ?_ | refine o_isNotInt ?_ | refine p_kandT ?_ | refine p_kandF ?_ | refine p_korT ?_ | refine p_korF ?_ | refine p_nt ?_ | refine p_nf ?_)
local macro_rules | `(tactic| walk_at "pq") => `(tactic| repeat (first | walk_at "pq1" | walk_at "pq2" | walk_at "pq3"))
/-! stretches made of what is no stretch; a stretch asked with what is no number -/
section
variable {Q : QD} {E : QR} {a n g t : Int} {d e f : D} {s : Str3}
theorem n_from_bad (h : ∀ b, BadN a b d) (q : Q (.bl false)) : S_is_number_from [d, .int a] Q E := by
  by_cases z : ∃ p, d = .int p
  · obtain ⟨p, rfl⟩ := z
    cases h p with
    | int p h => exact n_from (by rw [decide_eq_false (by omega)]; exact q)
  · refine ⟨rfl, ?_⟩
    show b_is_number_from [.val d, .val (.int a)] _
    unfold b_is_number_from
    walk_at "pq"
    refine (h 0).isnum (fun p e => z ⟨p, e⟩) ?_
    walk_at "pq"
    exact q
theorem n_check_from_bad (h : ∀ b, BadN a b d) (q : E ⟨3, [], []⟩) : S_check_number_from [d, .int a] Q E := by
  refine ⟨rfl, ?_⟩
  show b_check_number_from [.val d, .val (.int a)] _
  unfold b_check_number_from
  walk_at "pq"
  refine n_from_bad h ?_
  walk_at "pq"
  exact q
theorem n_call_bad (h : ∀ b, BadN 0 b d) (q : E ⟨3, [], []⟩) : S_Stretch_call [dSt s, d] Q E := by
  refine ⟨rfl, ?_⟩
  show b_Stretch_call [.val (dSt s), .val d] _
  unfold b_Stretch_call
  walk_at "pq"
  exact n_check_from_bad h q
theorem n_St_noneG (ht : 0 ≤ t) (h : Q (dSt Str3.barred)) : S_Stretch_init [.non, .int g, .int t] Q E := by
  refine ⟨rfl, ?_⟩
  show b_Stretch_init [.obj 12 [] [], .val .non, .val (.int g), .val (.int t)] _
  unfold b_Stretch_init
  walk_at "pq"
  refine n_is_number ?_
  walk_at "pq"
  refine n_from ?_
  rw [decide_eq_true ht]
  walk_at "pq"
  exact ⟨rfl, h⟩
theorem n_St_badNeed (h : ∀ b, BadN 0 b d) (hn : d.isNon = false) (q : E ⟨4, ["part"], [.str "need"]⟩) : S_Stretch_init [d, e, f] Q E := by
  refine ⟨rfl, ?_⟩
  show b_Stretch_init [.obj 12 [] [], .val d, .val e, .val f] _
  unfold b_Stretch_init
  walk_at "pq"
  refine o_isNot ?_
  rw [hn]
  walk_at "pq"
  refine n_from_bad h ?_
  walk_at "pq"
  refine p_raiseX ?_
  walk_at "pq"
  refine ⟨rfl, fun x hx => ?_, q⟩
  have hx : x = .str "need" := by simpa using hx
  subst hx
  show Str.length "need" ≤ 1000
  decide +kernel
theorem n_St_badGainK {a b : Int} (hn : d = .non ∨ ∃ n, d = .int n ∧ 0 ≤ n) (h : BadN a b e) (hi : ∀ p, e ≠ .int p) (q : E ⟨4, ["part"], [.str "gain"]⟩) : S_Stretch_init [d, e, f] Q E := by
  refine ⟨rfl, ?_⟩
  show b_Stretch_init [.obj 12 [] [], .val d, .val e, .val f] _
  unfold b_Stretch_init
  rcases hn with rfl | ⟨n, rfl, n0⟩
  · walk_at "pq"
    refine h.isnum hi ?_
    walk_at "pq"
    refine p_raiseX ?_
    walk_at "pq"
    refine ⟨rfl, fun x hx => ?_, q⟩
    have hx : x = .str "gain" := by simpa using hx
    subst hx
    show Str.length "gain" ≤ 1000
    decide +kernel
  · walk_at "pq"
    refine n_from ?_
    rw [decide_eq_true n0]
    walk_at "pq"
    refine h.isnum hi ?_
    walk_at "pq"
    refine p_raiseX ?_
    walk_at "pq"
    refine ⟨rfl, fun x hx => ?_, q⟩
    have hx : x = .str "gain" := by simpa using hx
    subst hx
    show Str.length "gain" ≤ 1000
    decide +kernel
theorem n_St_badGainL (n0 : 0 ≤ n) (hg : n + g < 0) (q : E ⟨4, ["part"], [.str "gain"]⟩) : S_Stretch_init [.int n, .int g, f] Q E := by
  refine ⟨rfl, ?_⟩
  show b_Stretch_init [.obj 12 [] [], .val (.int n), .val (.int g), .val f] _
  unfold b_Stretch_init
  walk_at "pq"
  refine n_from ?_
  rw [decide_eq_true n0]
  walk_at "pq"
  refine n_is_number ?_
  walk_at "pq"
  refine p_bT (decide_eq_true hg) ?_
  walk_at "pq"
  refine p_raiseX ?_
  walk_at "pq"
  refine ⟨rfl, fun x hx => ?_, q⟩
  have hx : x = .str "gain" := by simpa using hx
  subst hx
  show Str.length "gain" ≤ 1000
  decide +kernel
theorem n_St_badTop (hn : d = .non ∨ ∃ n, d = .int n ∧ 0 ≤ n ∧ 0 ≤ n + g) (h : ∀ b, BadN 0 b f) (q : E ⟨4, ["part"], [.str "top"]⟩) : S_Stretch_init [d, .int g, f] Q E := by
  refine ⟨rfl, ?_⟩
  show b_Stretch_init [.obj 12 [] [], .val d, .val (.int g), .val f] _
  unfold b_Stretch_init
  rcases hn with rfl | ⟨n, rfl, n0, n1⟩
  · walk_at "pq"
    refine n_is_number ?_
    walk_at "pq"
    refine n_from_bad h ?_
    walk_at "pq"
    refine p_raiseX ?_
    walk_at "pq"
    refine ⟨rfl, fun x hx => ?_, q⟩
    have hx : x = .str "top" := by simpa using hx
    subst hx
    show Str.length "top" ≤ 1000
    decide +kernel
  · walk_at "pq"
    refine n_from ?_
    rw [decide_eq_true n0]
    walk_at "pq"
    refine n_is_number ?_
    walk_at "pq"
    refine p_bF (decide_eq_false (by omega)) ?_
    walk_at "pq"
    refine n_from_bad h ?_
    walk_at "pq"
    refine p_raiseX ?_
    walk_at "pq"
    refine ⟨rfl, fun x hx => ?_, q⟩
    have hx : x = .str "top" := by simpa using hx
    subst hx
    show Str.length "top" ≤ 1000
    decide +kernel
theorem n_St_eqF {c : D} (hk : c.kind.isSome = true) (hc : ∀ k ns fs, c ≠ .ins k ns fs) (h : Q (.bl false)) : S_Stretch_eq [dSt s, c] Q E := by
  refine ⟨rfl, ?_⟩
  show b_Stretch_eq [.val (dSt s), .val c] _
  unfold b_Stretch_eq dSt
  walk_at "pq"
  refine ⟨fun k hk => ?_, ?_⟩
  · have : D.cls k = c ∨ k = 12 := by simpa using hk
    rcases this with e | e
    · subst e
      simp [D.kind] at *
    · simp [e]
  · cases c with
    | ins k ns fs => exact (hc k ns fs rfl).elim
    | _ => exact ⟨hk, by first | exact h | (walk_at "pq"; exact h)⟩
end
/-! what a stretch of legs may be -/
def Within (c : Int) (s : Str3) : Prop := match s.need with
  | none => s.gain = 0 ∧ s.top = 0
  | some n => 0 ≤ n ∧ n ≤ c ∧ 0 ≤ n + s.gain ∧ 0 ≤ s.top ∧ s.top ≤ c ∧ s.top ≤ c + s.gain
theorem leg_within {c : Int} {r : Int × Int} (h1 : 0 ≤ r.1) (h2 : 0 ≤ r.2) : Within c (legS c r) := by
  unfold legS
  by_cases z : c < r.2
  · rw [if_pos z]
    exact ⟨rfl, rfl⟩
  · rw [if_neg z]
    show 0 ≤ max 0 (r.2 - r.1) ∧ max 0 (r.2 - r.1) ≤ c ∧ 0 ≤ max 0 (r.2 - r.1) + (r.1 - r.2) ∧ 0 ≤ c - r.2 ∧ c - r.2 ≤ c ∧ c - r.2 ≤ c + (r.1 - r.2)
    omega
theorem add_within {c : Int} {s t : Str3} (hs : Within c s) (ht : Within c t) : Within c (s.add t) := by
  obtain ⟨n, g, tp⟩ := s
  obtain ⟨m, g', tp'⟩ := t
  cases n with
  | none => rw [Str3.add_none (.inl rfl)]; exact ⟨rfl, rfl⟩
  | some n =>
    cases m with
    | none => rw [Str3.add_none (.inr rfl)]; exact ⟨rfl, rfl⟩
    | some m =>
      rw [Str3.add_some]
      have hs : 0 ≤ n ∧ n ≤ c ∧ 0 ≤ n + g ∧ 0 ≤ tp ∧ tp ≤ c ∧ tp ≤ c + g := hs
      have ht : 0 ≤ m ∧ m ≤ c ∧ 0 ≤ m + g' ∧ 0 ≤ tp' ∧ tp' ≤ c ∧ tp' ≤ c + g' := ht
      by_cases z : tp < m
      · rw [if_pos z]
        exact ⟨rfl, rfl⟩
      · rw [if_neg z]
        show 0 ≤ max n (m - g) ∧ max n (m - g) ≤ c ∧ 0 ≤ max n (m - g) + (g + g') ∧ 0 ≤ min (tp + g') tp' ∧ min (tp + g') tp' ≤ c ∧ min (tp + g') tp' ≤ c + (g + g')
        omega
theorem tS_within {c : Int} {f : Nat → Int × Int} (h : ∀ k, 0 ≤ (f k).1 ∧ 0 ≤ (f k).2) : ∀ n, Within c (tS c f n)
  | 0 => leg_within (h 0).1 (h 0).2
  | n + 1 => add_within (tS_within h n) (leg_within (h (n + 1)).1 (h (n + 1)).2)
theorem Within.ok {c : Int} {s : Str3} (h : Within c s) : s.Ok := by
  obtain ⟨n, g, tp⟩ := s
  cases n with
  | none => exact h
  | some n => exact ⟨h.1, h.2.2.1, h.2.2.2.1⟩
theorem gains_sum (L : List (Int × Int)) : ∀ n : Nat, (((List.range n).map fun k => nth L k).map fun r => r.1 - r.2).sum = gains L n
  | 0 => rfl
  | n + 1 => by
    rw [List.range_succ, List.map_append, List.map_append, List.sum_append, gains_sum L n]
    show gains L n + ((nth L n).1 - (nth L n).2 + 0) = gains L n + _
    omega
end Oil
/-! Two targets of one value, by data. -/
namespace Oil
open PySem PySem.Spec PyProof.Rows L2
/-- t1 = t2 = a -/
def wUnp2 (g1 g2 : Tgt) (a : WE) : WS := fun env K => a env (fun d => g1.put env d fun e1 => g2.put e1 d K.nx) (fun x => K.er x env)
section
variable {Z : ZM} {X : Cx} {E : XK} {e : Expr} {w : WE} {pos : Pos}
theorem qs_unp2 {t1 t2 : Expr} (g1 g2 : Tgt) (he : QE Z X E e w) (h1 : PG X t1 (g1.raw X.K)) (h2 : PG X t2 (g2.raw X.K)) (ha : (assignEach [t1, t2] X.env).map (·.2) = [assign t1 X.env, assign t2 X.env] := by rfl) (hw : swappedStores [t1, t2] e X.env = pure none := by rfl) :
    QS Z X E (.Assign [t1, t2] e pos) (wUnp2 g1 g2 w) :=
  (ps_asg2 he h1 h2 ha hw).wk fun D σ H ⟨fr, ow, env, Kn, A, hw, P⟩ =>
  ⟨fr, ow, env, _, _, A, hw, fun d v H' n r q => Tgt.ok (A.g.mv n) r q fun σ' env' G _ k => Tgt.ok G r k fun σ2 env2 G2 _ k2 => P.nx _ _ _ _ G2 k2⟩
theorem p_unp2 {g1 g2 : Tgt} {a : WE} {env : Ev} {n bk ct : Ev → Prop} {rt : D → Ev → Prop} {er : Er → Ev → Prop} (h : a env (fun d => g1.put env d fun e1 => g2.put e1 d n) (fun x => er x env)) : wUnp2 g1 g2 a env ⟨n, rt, bk, ct, er⟩ := h
end
end Oil
namespace K07
open PySem PySem.Spec PyProof.Rows L2 Oil
def b_law_told : WS := (wSeq (wSetO 2 (wLst (wCons (wErrIs [1, 4, 2, 3] 1 1) (wCons (wErrIs [1, 4, 2, 3] 1 4) (wCons (wErrIs [1, 4, 2, 3] 1 2) wNil)))))
    (wSeq (wApp 2 (wErrIs [1, 4, 2, 3] 1 3))
    (wSeq (wFrz 2 (wSet 3 (wIf (wtAnd (wtVal (wOp oQI (wLM bCnt (wOwn 2) (wC (.bl true))) (wC (.int 1)))) (wtVal (wErrVE [1, 4, 2, 3] 1))) (wLM bIdx (wOwn 2) (wC (.bl true))) (wC (.int 4)))))
    (wSeq (wIfS (wtVal (wOp oQI (wName 3) (wC (.int 0))))
    (wRet (wTup (wCons (wC (.str "error")) (wCons (wC (.str "InvalidWay")) (wCons (wLst (wCons (wErrFld 1 1 "part") (wCons (wErrFld 1 1 "index") wNil))) wNil)))))
    wSkip)
    (wSeq (wIfS (wtVal (wOp oQI (wName 3) (wC (.int 1))))
    (wRet (wTup (wCons (wC (.str "error")) (wCons (wC (.str "InvalidStretch")) (wCons (wLst (wCons (wErrFld 1 4 "part") wNil)) wNil)))))
    wSkip)
    (wRet (wTup (wCons (wC (.str "error")) (wCons (wOp oIx (wLst (wCons (wC (.str "UnknownPost")) (wCons (wC (.str "InvalidNumber")) (wCons (wC (.str "other")) wNil)))) (wOp oSub (wName 3) (wC (.int 2)))) wNil)))))))))
def tell_law_told : Er → QD → Prop := tellC [1, 4, 2, 3] (tellOf 4 1 b_law_told)
def b_after_leg : WS := (wSeq (wSet 3 (wCall S_taken (wCons (wName 0) (wCons (wName 1) (wCons (wName 2) wNil)))))
    (wSeq (wSet 4 (wOp oIx (wGet 13 S_Way_getitem (wName 0) (wName 1)) (wC (.int 1))))
    (wRet (wIf (wtVal (wOp oLt (wName 3) (wName 4))) (wC .non) (wOp oSub (wName 3) (wName 4))))))
def S_after_leg : PSpec := specOf 3 5 b_after_leg
def b_first_unlike : WS := (wSeq (wExpr (wCall S_check_start (wCons (wName 0) (wCons (wName 2) (wCons (wName 3) wNil)))))
    (wSeq (wExpr (wCall S_check_start (wCons (wName 1) (wCons (wName 2) (wCons (wName 3) wNil)))))
    (wSeq (wUnp2 (.nm 4) (.nm 5) (wName 2))
    (wSeq (wUnp2 (.nm 6) (.nm 7) (wName 3))
    (wSeq (wFor (wRange1 (wC (.int 2000))) (.nm 8)
    (wSeq (wSet 6 (wCall S_after_leg (wCons (wName 0) (wCons (wName 4) (wCons (wName 6) wNil)))))
    (wSeq (wSet 7 (wCall S_after_leg (wCons (wName 1) (wCons (wName 5) (wCons (wName 7) wNil)))))
    (wSeq (wIfS (wtVal (wOp oNe (wName 6) (wName 7)))
    (wRet (wOp oAdd (wName 8) (wC (.int 1))))
    wSkip)
    (wSeq (wIfS (wtVal (wOp oIs (wName 6) (wC .non)))
    (wRet (wC .non))
    wSkip)
    (wSeq (wSet 4 (wOp oMod (wCB bInt (wCons (wOp oAdd (wName 4) (wC (.int 1))) wNil)) (wLenO 13 S_Way_len (wName 0))))
    (wSet 5 (wOp oMod (wCB bInt (wCons (wOp oAdd (wName 5) (wC (.int 1))) wNil)) (wLenO 13 S_Way_len (wName 1))))))))))
    (wRet (wC .non)))))))
def S_first_unlike : PSpec := specOf 4 9 b_first_unlike
def b_law : WS := (wSeq (wFor (wRange1 (wC (.int 4))) (.nm 2)
    (wSeq (wUnp (.tp [15, 3]) (wCall S_law_rows (wCons (wName 1) wNil)))
    (wSeq (wUnp (.tp [16, 4]) (wTup (wCons (wName 15) (wCons (wName 3) wNil))))
    (wSeq (wParN (wpVal 5 (wCall S_next (wCons (wName 1) (wCons (wCB bLen (wCons (wName 3) wNil)) wNil))) (wpVal 6 (wCall S_next (wCons (wName 1) (wCons (wC (.int 4)) wNil))) wpNil)))
    (wSeq (wIfS (wtVal (wOp oEq (wName 6) (wC (.int 0))))
    (wSet 4 (wOp oAdd (wOp oAdd (wSlice (wName 3) wNoPart (wPart (wName 5))) (wTup (wCons (wTup (wCons (wOp oAdd (wOp oIx (wOp oIx (wName 3) (wName 5)) (wC (.int 0))) (wC (.int 1))) (wCons (wOp oIx (wOp oIx (wName 3) (wName 5)) (wC (.int 1))) wNil))) wNil))) (wSlice (wName 3) (wPart (wOp oAdd (wName 5) (wC (.int 1)))) wNoPart)))
    (wIfS (wtVal (wOp oEq (wName 6) (wC (.int 1))))
    (wSet 16 (wOp oAdd (wOp oAdd (wName 15) (wC (.int 1))) (wCall S_next (wCons (wName 1) (wCons (wC (.int 3)) wNil)))))
    (wIfS (wtVal (wOp oEq (wName 6) (wC (.int 2))))
    (wUnp (.tp [16, 4]) (wCall S_law_rows (wCons (wName 1) wNil)))
    wSkip)))
    (wSeq (wParN (wpVal 7 (wCall S_next (wCons (wName 1) (wCons (wCB bMin2 (wCons (wCB bLen (wCons (wName 3) wNil)) (wCons (wCB bLen (wCons (wName 4) wNil)) wNil))) wNil))) (wpVal 8 (wCall S_next (wCons (wName 1) (wCons (wOp oAdd (wCB bMin2 (wCons (wName 15) (wCons (wName 16) wNil))) (wC (.int 1))) wNil))) wpNil)))
    (wSeq (wParN (wpVal 9 (wCall S_law_walk (wCons (wName 15) (wCons (wName 3) (wCons (wName 7) (wCons (wName 8) (wCons (wC (.int 2000)) wNil)))))) (wpVal 10 (wCall S_law_walk (wCons (wName 16) (wCons (wName 4) (wCons (wName 7) (wCons (wName 8) (wCons (wC (.int 2000)) wNil)))))) wpNil)))
    (wSeq (wUnp (.tp [11, 12]) (wTup (wCons (wC .non) (wCons (wC (.int 0)) wNil))))
    (wSeq (wWhile (wtAnd (wtVal (wOp oIs (wName 11) (wC .non))) (wtAnd (wtVal (wOp oLt (wName 12) (wC (.int 2000)))) (wtVal (wOp oLt (wName 12) (wOp oSub (wCB bMin2 (wCons (wCB bLen (wCons (wName 9) wNil)) (wCons (wCB bLen (wCons (wName 10) wNil)) wNil))) (wC (.int 1)))))))
    (wSeq (wSet 12 (wOp oAdd (wName 12) (wC (.int 1))))
    (wSet 11 (wIf (wtVal (wOp oNe (wCB bMax2 (wCons (wNeg (wC (.int 1))) (wCons (wOp oIx (wName 9) (wName 12)) wNil))) (wCB bMax2 (wCons (wNeg (wC (.int 1))) (wCons (wOp oIx (wName 10) (wName 12)) wNil))))) (wName 12) (wC .non)))))
    (wSeq (wUnp (.tp [17, 13]) (wTup (wCons (wCall S_law_made (wCons (wName 15) (wCons (wName 3) wNil))) (wCons (wCall S_law_made (wCons (wName 16) (wCons (wName 4) wNil))) wNil))))
    (wSeq (wIfS (wtNot (wtVal (wCall S_like8 (wCons (wCall S_first_unlike (wCons (wName 17) (wCons (wName 13) (wCons (wName 7) (wCons (wName 8) wNil))))) (wCons (wName 11) wNil)))))
    (wRet (wC (.bl false)))
    wSkip)
    (wSeq (wSet 14 (wCall S_law_pick (wCons (wName 1) (wCons (wLst (wCons (wNeg (wC (.int 1))) (wCons (wC (.int 12)) (wCons (wC .non) (wCons (wC (.bl true)) wNil))))) wNil))))
    (wSeq (wIfS (wtVal (wOp oNe (wTold tell_law_told (wCall S_first_unlike (wCons (wName 17) (wCons (wName 13) (wCons (wName 14) (wCons (wNeg (wC (.int 1))) wNil)))))) (wTup (wCons (wC (.str "error")) (wCons (wC (.str "UnknownPost")) wNil)))))
    (wRet (wC (.bl false)))
    wSkip)
    (wIfS (wtVal (wOp oNe (wTold tell_law_told (wCall S_first_unlike (wCons (wName 17) (wCons (wName 13) (wCons (wC (.int 0)) (wCons (wOp oAdd (wCB bMax2 (wCons (wName 15) (wCons (wName 16) wNil))) (wC (.int 1))) wNil)))))) (wTup (wCons (wC (.str "error")) (wCons (wC (.str "InvalidNumber")) wNil)))))
    (wRet (wC (.bl false)))
    wSkip))))))))))))))
    (wRet (wC (.bl true))))
end K07
namespace K07
open PySem PySem.Spec PyProof.Rows L2 Oil
local macro_rules | `(tactic| walk_at "pq1") => `(tactic| with_reducible first
  | refine p_seq ?_ | refine p_skip ?_ | refine p_set ?_ | refine p_setO ?_ | refine p_kown ?_ | refine p_unp ?_ | refine p_put rfl ?_ | refine p_put1 ?_
  | refine p_par ?_ | refine p_pnil ?_ | refine p_pval ?_ | refine p_pown ?_ | refine p_kpown ?_ | refine p_expr ?_ | refine p_ret ?_ | refine p_retN ?_ | refine p_ifS ?_
  | refine p_for ?_ | refine p_raise ?_ | refine p_c ?_ | refine p_op ?_ | refine p_neg ?_ | refine p_kneg ?_ | refine p_chain ?_ | refine p_and ?_ | refine p_or ?_ | refine p_not ?_ | refine p_knot ?_
  | refine p_if ?_ | refine p_nil ?_ | refine p_cons ?_ | refine p_star ?_ | refine p_kstarT ?_ | refine p_kstarL ?_ | refine p_tup ?_ | refine p_lst ?_ | refine p_call ?_ | refine p_cb ?_ | refine p_val ?_ | refine p_kval ?_
  | refine p_ttru ?_ | refine p_ktruN ?_ | refine p_ktruB ?_ | refine p_ktruI ?_ | refine p_ktruL ?_ | refine p_ktruT ?_ | refine p_tnot ?_ | refine p_tand ?_ | refine p_tor ?_
  | refine p_nopart ?_ | refine p_part ?_ | refine p_kpart ?_ | refine p_slice ?_ | refine p_ksliceL ?_ | refine p_ksliceT ?_ | refine p_fld ?_ | refine p_meth ?_ | refine p_clo ?_ | refine p_kclo rfl ?_ | refine p_prop ?_ | refine p_kprop rfl ?_
  | refine p_inv ?_ | refine p_kinv rfl ?_ | refine p_lenO ?_ | refine p_klenO rfl ?_ | refine p_get ?_ | refine p_kget rfl ?_ | refine p_cmeth ?_ | refine p_kcmeth rfl ?_ | refine p_opC ?_ | refine p_kopC rfl rfl ?_ | refine p_opF ?_ | refine p_kopF rfl rfl ?_
  | refine p_eqO ?_ | refine p_keqO rfl rfl ?_ | refine p_iter ?_ | refine p_kiterL ?_ | refine p_kiterT ?_ | refine p_rg1 ?_ | refine p_rg2 ?_ | refine p_enum ?_ | refine p_kenum ?_ | refine p_lc ?_ | refine p_yes ?_
  | refine p_tt ?_ | refine p_ff ?_
  | refine o_add ?_ | refine o_sub ?_ | refine o_lt ?_ | refine o_le ?_ | refine o_gt ?_ | refine o_ge ?_
  | refine b_lenL ?_ | refine b_lenT ?_ | refine b_int ?_ | refine b_tupL ?_ | refine b_tupT ?_ | refine b_listL ?_ | refine b_listT ?_ | refine b_max2 ?_ | refine b_min2 ?_)
local macro_rules | `(tactic| walk_at "pq2") => `(tactic| with_reducible first
  | refine p_name (by with_unfolding_all rfl) ?_ | refine p_ownV (by with_unfolding_all rfl) ?_ | refine p_own (by with_unfolding_all rfl) ?_ | refine p_app (by with_unfolding_all rfl) ?_ | refine p_putI (by with_unfolding_all rfl) ?_
  | refine p_frz (by with_unfolding_all rfl) ?_ | refine p_frzV (by with_unfolding_all rfl) ?_ | refine p_kfld (by with_unfolding_all rfl) (by with_unfolding_all rfl) ?_ | refine p_kmeth (by with_unfolding_all rfl) (by decide) ?_ | refine p_makL (by with_unfolding_all rfl) (by with_unfolding_all rfl) ?_
  | refine p_self (by with_unfolding_all rfl) (by decide) (by with_unfolding_all rfl) (by decide) ?_)
local macro_rules | `(tactic| walk_at "pq3") => `(tactic| with_reducible first
  | refine o_eqI ?_ | refine o_neI ?_ | refine o_isNon ?_ | refine o_isInt ?_ | refine o_isNotNon ?_ | refine o_isNotInt ?_ | refine p_kandT ?_ | refine p_kandF ?_ | refine p_korT ?_ | refine p_korF ?_ | refine p_nt ?_ | refine p_nf ?_)
local macro_rules | `(tactic| walk_at "pq") => `(tactic| repeat (first | walk_at "pq1" | walk_at "pq2" | walk_at "pq3"))
open Oil
local macro_rules | `(tactic| walk_at "lim") => `(tactic| first | (show 0 ≤ LIM; decide) | (show 1 ≤ LIM; decide) | (show 2 ≤ LIM; decide) | (show 3 ≤ LIM; decide) | (show 4 ≤ LIM; decide) | (show 5 ≤ LIM; decide) | (show 6 ≤ LIM; decide) | (show 8 ≤ LIM; decide))
local macro_rules | `(tactic| walk_at "wk") => `(tactic| repeat (first | walk_at "pq1" | walk_at "pq2" | walk_at "pq3" | refine p_unp2 ?_ | refine ⟨(by walk_at "lim"), ?_⟩))
def b_end : WS := (wSeq (wUnp (.tp [17, 13]) (wTup (wCons (wCall S_law_made (wCons (wName 15) (wCons (wName 3) wNil))) (wCons (wCall S_law_made (wCons (wName 16) (wCons (wName 4) wNil))) wNil))))
    (wSeq (wIfS (wtNot (wtVal (wCall S_like8 (wCons (wCall S_first_unlike (wCons (wName 17) (wCons (wName 13) (wCons (wName 7) (wCons (wName 8) wNil))))) (wCons (wName 11) wNil)))))
    (wRet (wC (.bl false)))
    wSkip)
    (wSeq (wSet 14 (wCall S_law_pick (wCons (wName 1) (wCons (wLst (wCons (wNeg (wC (.int 1))) (wCons (wC (.int 12)) (wCons (wC .non) (wCons (wC (.bl true)) wNil))))) wNil))))
    (wSeq (wIfS (wtVal (wOp oNe (wTold tell_law_told (wCall S_first_unlike (wCons (wName 17) (wCons (wName 13) (wCons (wName 14) (wCons (wNeg (wC (.int 1))) wNil)))))) (wTup (wCons (wC (.str "error")) (wCons (wC (.str "UnknownPost")) wNil)))))
    (wRet (wC (.bl false)))
    wSkip)
    (wIfS (wtVal (wOp oNe (wTold tell_law_told (wCall S_first_unlike (wCons (wName 17) (wCons (wName 13) (wCons (wC (.int 0)) (wCons (wOp oAdd (wCB bMax2 (wCons (wName 15) (wCons (wName 16) wNil))) (wC (.int 1))) wNil)))))) (wTup (wCons (wC (.str "error")) (wCons (wC (.str "InvalidNumber")) wNil)))))
    (wRet (wC (.bl false)))
    wSkip)))))
def b_wh : WS := (wWhile (wtAnd (wtVal (wOp oIs (wName 11) (wC .non))) (wtAnd (wtVal (wOp oLt (wName 12) (wC (.int 2000)))) (wtVal (wOp oLt (wName 12) (wOp oSub (wCB bMin2 (wCons (wCB bLen (wCons (wName 9) wNil)) (wCons (wCB bLen (wCons (wName 10) wNil)) wNil))) (wC (.int 1)))))))
    (wSeq (wSet 12 (wOp oAdd (wName 12) (wC (.int 1))))
    (wSet 11 (wIf (wtVal (wOp oNe (wCB bMax2 (wCons (wNeg (wC (.int 1))) (wCons (wOp oIx (wName 9) (wName 12)) wNil))) (wCB bMax2 (wCons (wNeg (wC (.int 1))) (wCons (wOp oIx (wName 10) (wName 12)) wNil))))) (wName 12) (wC .non)))))
def b_mid (R : WS) : WS := (wSeq (wParN (wpVal 7 (wCall S_next (wCons (wName 1) (wCons (wCB bMin2 (wCons (wCB bLen (wCons (wName 3) wNil)) (wCons (wCB bLen (wCons (wName 4) wNil)) wNil))) wNil))) (wpVal 8 (wCall S_next (wCons (wName 1) (wCons (wOp oAdd (wCB bMin2 (wCons (wName 15) (wCons (wName 16) wNil))) (wC (.int 1))) wNil))) wpNil)))
    (wSeq (wParN (wpVal 9 (wCall S_law_walk (wCons (wName 15) (wCons (wName 3) (wCons (wName 7) (wCons (wName 8) (wCons (wC (.int 2000)) wNil)))))) (wpVal 10 (wCall S_law_walk (wCons (wName 16) (wCons (wName 4) (wCons (wName 7) (wCons (wName 8) (wCons (wC (.int 2000)) wNil)))))) wpNil)))
    (wSeq (wUnp (.tp [11, 12]) (wTup (wCons (wC .non) (wCons (wC (.int 0)) wNil)))) (wSeq b_wh R))))
def b_if : WS := (wIfS (wtVal (wOp oEq (wName 6) (wC (.int 0))))
    (wSet 4 (wOp oAdd (wOp oAdd (wSlice (wName 3) wNoPart (wPart (wName 5))) (wTup (wCons (wTup (wCons (wOp oAdd (wOp oIx (wOp oIx (wName 3) (wName 5)) (wC (.int 0))) (wC (.int 1))) (wCons (wOp oIx (wOp oIx (wName 3) (wName 5)) (wC (.int 1))) wNil))) wNil))) (wSlice (wName 3) (wPart (wOp oAdd (wName 5) (wC (.int 1)))) wNoPart)))
    (wIfS (wtVal (wOp oEq (wName 6) (wC (.int 1))))
    (wSet 16 (wOp oAdd (wOp oAdd (wName 15) (wC (.int 1))) (wCall S_next (wCons (wName 1) (wCons (wC (.int 3)) wNil)))))
    (wIfS (wtVal (wOp oEq (wName 6) (wC (.int 2))))
    (wUnp (.tp [16, 4]) (wCall S_law_rows (wCons (wName 1) wNil)))
    wSkip)))
def b_turn : WS := (wSeq (wUnp (.tp [15, 3]) (wCall S_law_rows (wCons (wName 1) wNil)))
    (wSeq (wUnp (.tp [16, 4]) (wTup (wCons (wName 15) (wCons (wName 3) wNil))))
    (wSeq (wParN (wpVal 5 (wCall S_next (wCons (wName 1) (wCons (wCB bLen (wCons (wName 3) wNil)) wNil))) (wpVal 6 (wCall S_next (wCons (wName 1) (wCons (wC (.int 4)) wNil))) wpNil))) (wSeq b_if (b_mid b_end)))))
def b_fu : WS := (wSeq (wSet 6 (wCall S_after_leg (wCons (wName 0) (wCons (wName 4) (wCons (wName 6) wNil)))))
    (wSeq (wSet 7 (wCall S_after_leg (wCons (wName 1) (wCons (wName 5) (wCons (wName 7) wNil)))))
    (wSeq (wIfS (wtVal (wOp oNe (wName 6) (wName 7)))
    (wRet (wOp oAdd (wName 8) (wC (.int 1))))
    wSkip)
    (wSeq (wIfS (wtVal (wOp oIs (wName 6) (wC .non)))
    (wRet (wC .non))
    wSkip)
    (wSeq (wSet 4 (wOp oMod (wCB bInt (wCons (wOp oAdd (wName 4) (wC (.int 1))) wNil)) (wLenO 13 S_Way_len (wName 0))))
    (wSet 5 (wOp oMod (wCB bInt (wCons (wOp oAdd (wName 5) (wC (.int 1))) wNil)) (wLenO 13 S_Way_len (wName 1)))))))))
section
variable {Q : QD} {E : QR} {c : Int} {rs : List (Int × Int)} {i : Nat} {x : Int}
theorem v_after_leg (hi : i < rs.length) (h : Q (dN (Oil.step c (nth rs i) x))) : S_after_leg [dW c rs, .int (i : Int), .int x] Q E := by
  refine ⟨rfl, ?_⟩
  show b_after_leg [.val (dW c rs), .val (.int (i : Int)), .val (.int x), .un, .un] _
  unfold b_after_leg
  walk_at "pq"
  refine n_taken hi ?_
  walk_at "pq"
  refine ⟨rfl, n_getitem hi ?_⟩
  unfold dP
  walk_at "pq"
  refine o_ixT (k := 1) rfl rfl ?_
  walk_at "pq"
  unfold Oil.step at h
  refine p_dec (fun z => ?_) (fun z => ?_)
  · rw [if_pos z] at h
    walk_at "pq"
    exact h
  · rw [if_neg z] at h
    walk_at "pq"
    exact h
end
/-- the first number at which f and g differ, to N -/
def Due (N : Nat) (f g : Nat → Option Int) (d : Option Int) : Prop := (d = none ∧ ∀ m, m ≤ N → f m = g m) ∨ ∃ m : Nat, d = some (m : Int) ∧ m ≤ N ∧ f m ≠ g m ∧ ∀ j, j < m → f j = g j
theorem Due.uniq {N : Nat} {f g : Nat → Option Int} {d d' : Option Int} (h : Due N f g d) (h' : Due N f g d') : d = d' := by
  rcases h with ⟨rfl, h⟩ | ⟨m, rfl, h1, h2, h3⟩
  · rcases h' with ⟨rfl, _⟩ | ⟨m, rfl, k1, k2, k3⟩
    · rfl
    · exact absurd (h m k1) k2
  · rcases h' with ⟨rfl, k⟩ | ⟨n, rfl, k1, k2, k3⟩
    · exact absurd (k m h1) h2
    · by_cases a : m < n
      · exact absurd (k3 m a) h2
      · by_cases b : n < m
        · exact absurd (h3 n b) k2
        · rw [show m = n by omega]
section
variable {c c' x : Int} {rs rs' : List (Int × Int)} {p : Nat}
theorem next_at {n k : Nat} (hn : 1 ≤ n) : ((((p + k) % n : Nat) : Int) + 1).fmod (n : Int) = (((p + (k + 1)) % n : Nat) : Int) := by
  rw [Int.fmod_eq_emod_of_nonneg _ (by omega), show (((p + k) % n : Nat) : Int) + 1 = (((p + k) % n + 1 : Nat) : Int) by omega, ← Int.natCast_emod]
  congr 1
  rw [Nat.mod_add_mod]
  rfl
theorem nth_at {k : Nat} (hp : p < rs.length) : nth rs ((p + k) % rs.length) = nth (rot rs p) k := by
  rw [nth_rot hp]
  unfold nth
  rw [Nat.mod_mod]
theorem fu_go (K : KN) (N : Nat) (hi : p < rs.length) (hi' : p < rs'.length) (l2 : rs.length ≤ 12) (l2' : rs'.length ≤ 12)
    (hr : ∀ d e, Due N (walk c (rot rs p) x) (walk c' (rot rs' p) x) d → K.rt (dN d) e) (hn : (∀ m, m ≤ N → walk c (rot rs p) x m = walk c' (rot rs' p) x m) → ∀ e, K.nx e) :
    ∀ (m k : Nat) (y : Int) (d8 : Sl), k + m = N → walk c (rot rs p) x k = some y → walk c' (rot rs' p) x k = some y → (∀ j, j ≤ k → walk c (rot rs p) x j = walk c' (rot rs' p) x j) →
    wForGo (.nm 8) b_fu K ((List.range' k m).map fun (k : Nat) => D.int (k : Int)) [.val (dW c rs), .val (dW c' rs'), .val (.int (p : Int)), .val (.int x), .val (.int (((p + k) % rs.length : Nat) : Int)), .val (.int (((p + k) % rs'.length : Nat) : Int)), .val (.int y), .val (.int y), d8]
  | 0, k, y, d8, hk, e1, e2, he => hn (fun m hm => he m (by omega)) _
  | m + 1, k, y, d8, hk, e1, e2, he => by
    rw [List.range'_succ, List.map_cons]
    refine p_put1 ?_
    dsimp only [List.set]
    unfold b_fu
    walk_at "pq"
    refine v_after_leg (Nat.mod_lt _ (by omega)) ?_
    rw [nth_at hi]
    walk_at "pq"
    refine v_after_leg (Nat.mod_lt _ (by omega)) ?_
    rw [nth_at hi']
    have f1 : walk c (rot rs p) x (k + 1) = Oil.step c (nth (rot rs p) k) y := by
      show (walk c (rot rs p) x k).bind _ = _
      rw [e1]
      rfl
    have f2 : walk c' (rot rs' p) x (k + 1) = Oil.step c' (nth (rot rs' p) k) y := by
      show (walk c' (rot rs' p) x k).bind _ = _
      rw [e2]
      rfl
    rw [← f1, ← f2]
    dsimp only [List.set]
    walk_at "pq"
    refine o_neN ?_
    walk_at "pq"
    refine p_ndec (fun z => ?_) (fun z => ?_)
    · walk_at "pq"
      exact hr (some ((k + 1 : Nat) : Int)) _ (.inr ⟨k + 1, rfl, by omega, z, fun j hj => he j (by omega)⟩)
    · walk_at "pq"
      refine o_isN ?_
      have he2 : ∀ j, j ≤ k + 1 → walk c (rot rs p) x j = walk c' (rot rs' p) x j := fun j hj => by
        by_cases a : j ≤ k
        · exact he j a
        · rw [show j = k + 1 by omega]
          exact z
      cases e3 : walk c (rot rs p) x (k + 1) with
      | none =>
        rw [e3] at z
        dsimp only [Option.isSome]
        walk_at "pq"
        refine hr none _ (.inl ⟨rfl, fun j _ => ?_⟩)
        by_cases a : j ≤ k + 1
        · exact he2 j a
        · have q1 := walk_none e3 (j - (k + 1))
          have q2 := walk_none z.symm (j - (k + 1))
          rw [show k + 1 + (j - (k + 1)) = j by omega] at q1 q2
          rw [q1, q2]
      | some y' =>
        rw [e3] at z
        dsimp only [Option.isSome]
        walk_at "pq"
        refine ⟨rfl, n_len (p_klenI (by omega) ?_)⟩
        refine o_mod (by omega) ?_
        rw [next_at (by omega)]
        walk_at "pq"
        refine ⟨rfl, n_len (p_klenI (by omega) ?_)⟩
        refine o_mod (by omega) ?_
        rw [next_at (by omega), ← z]
        exact fu_go K N hi hi' l2 l2' hr hn m (k + 1) y' _ (by omega) e3 z.symm he2
theorem v_first_unlike {Q : QD} {E : QR} (hv : WV c rs) (hv' : WV c' rs') (hi : p < rs.length) (hi' : p < rs'.length) (x0 : 0 ≤ x) (x1 : x ≤ c) (x2 : x ≤ c') (N : Nat) (hN : N = 2000)
    (h : ∀ d, Due N (walk c (rot rs p) x) (walk c' (rot rs' p) x) d → Q (dN d)) : S_first_unlike [dW c rs, dW c' rs', .int (p : Int), .int x] Q E := by
  refine ⟨rfl, ?_⟩
  show b_first_unlike [.val (dW c rs), .val (dW c' rs'), .val (.int (p : Int)), .val (.int x), .un, .un, .un, .un, .un] _
  have eN : (2000 : Int) = (N : Int) := by omega
  unfold b_first_unlike
  rw [eN]
  walk_at "pq"
  refine n_check_start hv hi x0 x1 ?_
  walk_at "pq"
  refine n_check_start hv' hi' x0 x2 ?_
  walk_at "wk"
  dsimp only [List.set]
  refine p_krg1 (by omega) ?_
  rw [Int.toNat_natCast, intD_zero, List.range_eq_range']
  have := fu_go (c := c) (c' := c') (x := x) (rs := rs) (rs' := rs') (p := p) ⟨fun env => wRet (wC .non) env ⟨fun _ => Q .non, fun d _ => Q d, fun _ => False, fun _ => False, fun x _ => E x⟩, fun d _ => Q d, fun _ => False, fun _ => False, fun x _ => E x⟩ N hi hi' hv.l2 hv'.l2
    (fun d _ hd => h d hd) (fun ha _ => h none (.inl ⟨rfl, ha⟩)) N 0 x .un (by omega) rfl rfl (fun j hj => by
      rw [show j = 0 by omega]
      rfl)
  rw [Nat.add_zero, Nat.mod_eq_of_lt hi, Nat.mod_eq_of_lt hi'] at this
  exact this
/-- the way and its other one, small -/
structure CW (c : Int) (rs : List (Int × Int)) : Prop where
  wv : WV c rs
  c2 : 2 ≤ c
  c13 : c ≤ 13
  l5 : rs.length ≤ 5
theorem short_none {L : List (Int × Int)} {N m : Nat} (h : (wlk c L x N).length ≤ m + 1) (hm : m < N) : ¬ 0 ≤ wlast c L x m := fun z => by
  have e1 := wlk_full (c := c) (L := L) (x := x) m z
  have e2 : (wlk c L x (m + 1)).length = m + 2 := by
    rw [wlk_succ, if_pos z, List.length_append, e1]
    rfl
  have e3 := wlk_grow (c := c) (L := L) (x := x) (m + 1) (N - (m + 1))
  rw [show m + 1 + (N - (m + 1)) = N by omega] at e3
  omega
theorem max_unlike {L L' : List (Int × Int)} {m : Nat} (h1 : walk c L x m = if 0 ≤ wlast c L x m then some (wlast c L x m) else none) (h2 : walk c' L' x m = if 0 ≤ wlast c' L' x m then some (wlast c' L' x m) else none) :
    max (-1) (wlast c L x m) = max (-1) (wlast c' L' x m) ↔ walk c L x m = walk c' L' x m := by
  rw [h1, h2]
  by_cases a : 0 ≤ wlast c L x m
  · rw [if_pos a]
    by_cases b : 0 ≤ wlast c' L' x m
    · rw [if_pos b]
      constructor
      · intro h
        rw [show wlast c L x m = wlast c' L' x m by omega]
      · intro h
        injection h with h
        rw [h]
    · rw [if_neg b]
      constructor
      · intro h
        omega
      · intro h
        cases h
  · rw [if_neg a]
    by_cases b : 0 ≤ wlast c' L' x m
    · rw [if_pos b]
      constructor
      · intro h
        omega
      · intro h
        cases h
    · rw [if_neg b]
      exact ⟨fun _ => rfl, fun _ => by omega⟩
end
section
variable {c c' : Int} {rs rs' : List (Int × Int)} {p x N : Nat}
theorem dep_N (a : Option Int) : D.dep 8 (dN a) := by
  cases a <;> exact True.intro
theorem wh_ok (K : KN) (hv : WV c rs) (hv' : WV c' rs') (hi : p < rs.length) (hi' : p < rs'.length) (N2 : N = 2000) (d0 d2 d5 d6 d13 d14 d17 : Sl)
    (hR : ∀ (d : Option Int) (m : Nat), Due N (walk c (rot rs p) (x : Int)) (walk c' (rot rs' p) (x : Int)) d → K.nx [d0, .val .dice, d2, .val (.tup (rs.map dP)), .val (.tup (rs'.map dP)), d5, d6, .val (.int (p : Int)), .val (.int (x : Int)), .val (.lst ((wlk c (rot rs p) (x : Int) N).map .int)), .val (.lst ((wlk c' (rot rs' p) (x : Int) N).map .int)), .val (dN d), .val (.int (m : Int)), d13, d14, .val (.int c), .val (.int c'), d17]) : b_wh [d0, .val .dice, d2, .val (.tup (rs.map dP)), .val (.tup (rs'.map dP)), d5, d6, .val (.int (p : Int)), .val (.int (x : Int)), .val (.lst ((wlk c (rot rs p) (x : Int) N).map .int)), .val (.lst ((wlk c' (rot rs' p) (x : Int) N).map .int)), .val .non, .val (.int 0), d13, d14, .val (.int c), .val (.int c'), d17] K := by
  have eN : (2000 : Int) = (N : Int) := by omega
  have hL : ∀ k, 0 ≤ (nth (rot rs p) k).1 := fun k => (hv.pv _ (rot_mem (nth_mem (L := rot rs p) (k := k) (by rw [rot_len (by omega)]; omega)))).1.1
  have hL' : ∀ k, 0 ≤ (nth (rot rs' p) k).1 := fun k => (hv'.pv _ (rot_mem (nth_mem (L := rot rs' p) (k := k) (by rw [rot_len (by omega)]; omega)))).1.1
  have w1 := walk_wlast (c := c) (x := (x : Int)) (L := rot rs p) (by omega) hL (by have := hv.c1; omega)
  have w2 := walk_wlast (c := c') (x := (x : Int)) (L := rot rs' p) (by omega) hL' (by have := hv'.c1; omega)
  unfold b_wh
  rw [eN]
  refine ⟨fun M env => ∃ (d : Option Int) (m : Nat), M = N - m ∧ m ≤ N ∧ ((d = none ∧ ∀ j, j ≤ m → walk c (rot rs p) (x : Int) j = walk c' (rot rs' p) (x : Int) j) ∨ (d = some (m : Int) ∧ walk c (rot rs p) (x : Int) m ≠ walk c' (rot rs' p) (x : Int) m ∧ ∀ j, j < m → walk c (rot rs p) (x : Int) j = walk c' (rot rs' p) (x : Int) j)) ∧ env = [d0, .val .dice, d2, .val (.tup (rs.map dP)), .val (.tup (rs'.map dP)), d5, d6, .val (.int (p : Int)), .val (.int (x : Int)), .val (.lst ((wlk c (rot rs p) (x : Int) N).map .int)), .val (.lst ((wlk c' (rot rs' p) (x : Int) N).map .int)), .val (dN d), .val (.int (m : Int)), d13, d14, .val (.int c), .val (.int c'), d17], ⟨_, none, 0, rfl, by omega, .inl ⟨rfl, fun j hj => by
    rw [show j = 0 by omega]
    rfl⟩, rfl⟩, fun M env hI => ?_⟩
  obtain ⟨d, m, rfl, hm, hd, rfl⟩ := hI
  rcases hd with ⟨rfl, he⟩ | ⟨rfl, hne, he⟩
  · dsimp only [dN]
    walk_at "pq"
    refine p_dec (fun z => ?_) (fun z => ?_)
    · walk_at "pq"
      rw [List.length_map, List.length_map]
      refine p_dec (fun z2 => ?_) (fun z2 => ?_)
      · have z3 : m + 1 < (wlk c (rot rs p) (x : Int) N).length := by omega
        have z4 : m + 1 < (wlk c' (rot rs' p) (x : Int) N).length := by omega
        have ix1 : ∀ {R : QD}, R (.int (wlast c (rot rs p) (x : Int) (m + 1))) → oIx (.lst ((wlk c (rot rs p) (x : Int) N).map .int)) (.int ((m + 1 : Nat) : Int)) R := fun q => o_ixL (ixD_nat (by rw [List.length_map]; exact z3)) (by rw [List.getElem?_map, wlk_get N (m + 1) z3]; rfl) q
        have ix2 : ∀ {R : QD}, R (.int (wlast c' (rot rs' p) (x : Int) (m + 1))) → oIx (.lst ((wlk c' (rot rs' p) (x : Int) N).map .int)) (.int ((m + 1 : Nat) : Int)) R := fun q => o_ixL (ixD_nat (by rw [List.length_map]; exact z4)) (by rw [List.getElem?_map, wlk_get N (m + 1) z4]; rfl) q
        walk_at "pq"
        rw [show (m : Int) + 1 = ((m + 1 : Nat) : Int) by omega]
        dsimp only [List.set]
        walk_at "pq"
        refine ix1 ?_
        walk_at "pq"
        refine ix2 ?_
        walk_at "pq"
        have mu := max_unlike (w1 (m + 1)) (w2 (m + 1))
        refine p_ndec (fun z5 => ?_) (fun z5 => ?_)
        · walk_at "pq"
          exact ⟨N - (m + 1), by omega, some ((m + 1 : Nat) : Int), m + 1, rfl, by omega, .inr ⟨rfl, fun q => z5 (mu.mpr q), fun j hj => he j (by omega)⟩, rfl⟩
        · walk_at "pq"
          refine ⟨N - (m + 1), by omega, none, m + 1, rfl, by omega, .inl ⟨rfl, fun j hj => ?_⟩, rfl⟩
          by_cases a : j ≤ m
          · exact he j a
          · rw [show j = m + 1 by omega]
            exact mu.mp z5
      · refine hR none m (.inl ⟨rfl, fun j hj => ?_⟩)
        by_cases a : j ≤ m
        · exact he j a
        · have hmN : m < N := by omega
          have two : walk c (rot rs p) (x : Int) m = none ∧ walk c' (rot rs' p) (x : Int) m = none := by
            have h0 := he m (Nat.le_refl _)
            by_cases b : (wlk c (rot rs p) (x : Int) N).length ≤ m + 1
            · have q := w1 m
              rw [if_neg (short_none b hmN)] at q
              exact ⟨q, by rw [← h0]; exact q⟩
            · have q := w2 m
              rw [if_neg (short_none (by omega) hmN)] at q
              exact ⟨by rw [h0]; exact q, q⟩
          have q1 := walk_none two.1 (j - m)
          have q2 := walk_none two.2 (j - m)
          rw [show m + (j - m) = j by omega] at q1 q2
          rw [q1, q2]
    · exact hR none m (.inl ⟨rfl, fun j hj => he j (by omega)⟩)
  · dsimp only [dN]
    walk_at "pq"
    exact hR (some (m : Int)) m (.inr ⟨m, rfl, hm, hne, he⟩)
theorem ne_unk {Q : QD} (h : Q (.bl false)) : oNe (.tup [.str "error", .str "UnknownPost"]) (.tup [.str "error", .str "UnknownPost"]) Q :=
  o_ne_self (a := .tuple [.str "error", .str "UnknownPost"]) rfl (by decide +kernel) (by simp [PyData.eqv, PyData.eqvAll]) h
theorem ne_num {Q : QD} (h : Q (.bl false)) : oNe (.tup [.str "error", .str "InvalidNumber"]) (.tup [.str "error", .str "InvalidNumber"]) Q :=
  o_ne_self (a := .tuple [.str "error", .str "InvalidNumber"]) rfl (by decide +kernel) (by simp [PyData.eqv, PyData.eqvAll]) h
theorem n_fu_badP {Q : QD} {E : QR} {b e : D} (hv : WV c rs) (hb : BadN 0 ((rs.length : Int) - 1) b) (q : E ⟨2, [], []⟩) : S_first_unlike [dW c rs, dW c' rs', b, e] Q E := by
  refine ⟨rfl, ?_⟩
  show b_first_unlike [.val (dW c rs), .val (dW c' rs'), .val b, .val e, .un, .un, .un, .un, .un] _
  unfold b_first_unlike
  walk_at "pq"
  exact n_check_start_badP hv hb q
theorem n_fu_badX {Q : QD} {E : QR} {e : D} (hv : WV c rs) (hi : p < rs.length) (hb : BadN 0 c e) (q : E ⟨3, [], []⟩) : S_first_unlike [dW c rs, dW c' rs', .int (p : Int), e] Q E := by
  refine ⟨rfl, ?_⟩
  show b_first_unlike [.val (dW c rs), .val (dW c' rs'), .val (.int (p : Int)), .val e, .un, .un, .un, .un, .un] _
  unfold b_first_unlike
  walk_at "pq"
  exact n_check_start_badX hv hi hb q
theorem end_ok (K : KN) (d0 : Sl) (hK : ∀ d2 d3 d4 d5 d6 d7 d8 d9 d10 d11 d12 d13 d14 d15 d16 d17, K.nx [d0, .val .dice, d2, d3, d4, d5, d6, d7, d8, d9, d10, d11, d12, d13, d14, d15, d16, d17]) (hv : CW c rs) (hv' : CW c' rs') (hi : p < rs.length) (hi' : p < rs'.length) (x1 : (x : Int) ≤ c) (x2 : (x : Int) ≤ c') (N2 : N = 2000) {d : Option Int}
    (hd : Due N (walk c (rot rs p) (x : Int)) (walk c' (rot rs' p) (x : Int)) d) (d2 d5 d6 d9 d10 d12 d13 d14 d17 : Sl) : b_end [d0, .val .dice, d2, .val (.tup (rs.map dP)), .val (.tup (rs'.map dP)), d5, d6, .val (.int (p : Int)), .val (.int (x : Int)), d9, d10, .val (dN d), d12, d13, d14, .val (.int c), .val (.int c'), d17] K := by
  have l1 := hv.wv.l1
  have l5 := hv.l5
  unfold b_end
  walk_at "pq"
  refine n_law_made hv.wv ?_
  walk_at "pq"
  refine n_law_made hv'.wv ?_
  walk_at "wk"
  refine v_first_unlike hv.wv hv'.wv hi hi' (by omega) x1 x2 N N2 fun d' hd' => ?_
  rw [hd'.uniq hd]
  walk_at "pq"
  refine ⟨_, rfl, dep_N _, ?_⟩
  walk_at "wk"
  refine n_law_pick (by simp) (by simp) fun b hb => ?_
  have hb : BadN 0 ((rs.length : Int) - 1) b := by
    have hb : b = .int (-1) ∨ b = .int 12 ∨ b = .non ∨ b = .bl true := by simpa using hb
    rcases hb with rfl | rfl | rfl | rfl
    · exact .int _ (by omega)
    · exact .int _ (by omega)
    · exact .non
    · exact .bl _
  walk_at "pq"
  refine p_told ?_
  walk_at "pq"
  refine n_fu_badP hv.wv hb ?_
  refine n_tellU ?_
  walk_at "wk"
  refine ne_unk ?_
  walk_at "pq"
  refine p_told ?_
  walk_at "pq"
  refine n_fu_badX (p := 0) hv.wv (by omega) (.int _ (by omega)) ?_
  refine n_tellN ?_
  walk_at "wk"
  refine ne_num ?_
  walk_at "pq"
  exact hK _ _ _ _ _ _ _ _ _ _ _ _ _ _ _ _
theorem mid_ok (K : KN) (d0 : Sl) (hK : ∀ d2 d3 d4 d5 d6 d7 d8 d9 d10 d11 d12 d13 d14 d15 d16 d17, K.nx [d0, .val .dice, d2, d3, d4, d5, d6, d7, d8, d9, d10, d11, d12, d13, d14, d15, d16, d17]) (hv : CW c rs) (hv' : CW c' rs') (d2 d5 d6 d7 d8 d9 d10 d11 d12 d13 d14 d17 : Sl) : b_mid b_end [d0, .val .dice, d2, .val (.tup (rs.map dP)), .val (.tup (rs'.map dP)), d5, d6, d7, d8, d9, d10, d11, d12, d13, d14, .val (.int c), .val (.int c'), d17] K := by
  have l1 := hv.wv.l1
  have l5 := hv.l5
  have l1' := hv'.wv.l1
  have l5' := hv'.l5
  have c2 := hv.c2
  have c3 := hv.c13
  have c2' := hv'.c2
  have c3' := hv'.c13
  obtain ⟨N, N2⟩ : ∃ N : Nat, N = 2000 := ⟨_, rfl⟩
  have eN : (2000 : Int) = (N : Int) := by omega
  unfold b_mid
  rw [eN]
  walk_at "pq"
  rw [List.length_map, List.length_map]
  refine n_next (by omega) (by omega) fun p0 p1 p2 => ?_
  obtain ⟨p, rfl⟩ : ∃ p : Nat, p0 = (p : Int) := ⟨p0.toNat, by omega⟩
  have hi : p < rs.length := by omega
  have hi' : p < rs'.length := by omega
  walk_at "pq"
  refine n_next (by omega) (by omega) fun x0 x1 x2 => ?_
  obtain ⟨x, rfl⟩ : ∃ x : Nat, x0 = (x : Int) := ⟨x0.toNat, by omega⟩
  walk_at "pq"
  refine n_law_walk hi (by omega) ?_
  walk_at "pq"
  refine n_law_walk hi' (by omega) ?_
  walk_at "wk"
  dsimp only [List.set, setMany]
  refine wh_ok _ hv.wv hv'.wv hi hi' N2 _ _ _ _ _ _ _ fun d m hd => ?_
  exact end_ok K _ hK hv hv' hi hi' (by omega) (by omega) N2 hd _ _ _ _ _ _ _ _ _
end
section
variable {c : Int} {rs : List (Int × Int)} {k j : Nat}
theorem rp_cw (hr : RP rs) (c2 : 2 ≤ c) (c13 : c ≤ 13) : CW c rs := ⟨hr.wv (by omega) (by omega), c2, c13, hr.l2⟩
theorem if_ok (K : KN) (hr : RP rs) (c2 : 2 ≤ c) (c10 : c ≤ 10) (hk : k < rs.length) (d0 d2 d7 d8 d9 d10 d11 d12 d13 d14 d17 : Sl)
    (hR : ∀ c' rs' d5 d6, CW c' rs' → K.nx [d0, .val .dice, d2, .val (.tup (rs.map dP)), .val (.tup (rs'.map dP)), d5, d6, d7, d8, d9, d10, d11, d12, d13, d14, .val (.int c), .val (.int c'), d17]) : b_if [d0, .val .dice, d2, .val (.tup (rs.map dP)), .val (.tup (rs.map dP)), .val (.int (k : Int)), .val (.int (j : Int)), d7, d8, d9, d10, d11, d12, d13, d14, .val (.int c), .val (.int c), d17] K := by
  have hv := rp_cw (c := c) hr c2 (by omega)
  have l1 := hr.l1
  have l2 := hr.l2
  have hpk := hr.pv _ (nth_mem (L := rs) (k := k) (by omega))
  unfold b_if
  walk_at "pq"
  refine p_dec (fun z => ?_) (fun z => ?_)
  · walk_at "wk"
    rw [cutD_to _ _ (by rw [List.length_map]; omega)]
    refine o_ixT (ixD_nat (by rw [List.length_map]; exact hk)) (by rw [List.getElem?_map, get_nth hk]; rfl) ?_
    unfold dP
    walk_at "pq"
    refine o_ixT (k := 0) rfl rfl ?_
    walk_at "pq"
    refine o_ixT (ixD_nat (by rw [List.length_map]; exact hk)) (by rw [List.getElem?_map, get_nth hk]; rfl) ?_
    walk_at "pq"
    refine o_ixT (k := 1) rfl rfl ?_
    walk_at "wk"
    refine o_addT (by rw [List.length_take, List.length_map]; unfold LIM; simp; omega) ?_
    walk_at "wk"
    rw [show (k : Int) + 1 = ((k + 1 : Nat) : Int) by omega, cutD_from _ _ (by rw [List.length_map]; omega)]
    refine o_addT (by rw [List.length_append, List.length_take, List.length_drop, List.length_map]; unfold LIM; simp; omega) ?_
    have e1 : (rs.map dP).take k ++ [D.tup [.int ((nth rs k).1 + 1), .int (nth rs k).2]] ++ (rs.map dP).drop (k + 1) = (rs.set k ((nth rs k).1 + 1, (nth rs k).2)).map dP := by
      rw [List.map_set, List.set_eq_take_append_cons_drop, if_pos (by rw [List.length_map]; exact hk), List.append_assoc]
      rfl
    have hcw : CW c (rs.set k ((nth rs k).1 + 1, (nth rs k).2)) := by
      refine ⟨⟨by omega, by omega, by rw [List.length_set]; omega, by rw [List.length_set]; omega, fun r hr2 => ?_⟩, c2, by omega, by rw [List.length_set]; omega⟩
      rcases List.mem_or_eq_of_mem_set hr2 with h | h
      · exact hv.wv.pv r h
      · rw [h]
        exact ⟨⟨by show 0 ≤ (nth rs k).1 + 1; omega, by show (nth rs k).1 + 1 ≤ _; omega⟩, hpk.2.1, by show (nth rs k).2 ≤ _; omega⟩
    have := hR c _ (.val (.int (k : Int))) (.val (.int (j : Int))) hcw
    rw [← e1] at this
    exact this
  · walk_at "pq"
    refine p_dec (fun z2 => ?_) (fun z2 => ?_)
    · walk_at "pq"
      refine n_next (by decide) (by decide) fun q q1 q2 => ?_
      walk_at "pq"
      exact hR _ _ _ _ (rp_cw hr (by omega) (by omega))
    · walk_at "pq"
      refine p_dec (fun z3 => ?_) (fun z3 => ?_)
      · walk_at "pq"
        refine n_law_rows fun c1 rs1 c21 c101 hr1 => ?_
        walk_at "pq"
        exact hR _ _ _ _ (rp_cw hr1 c21 (by omega))
      · walk_at "pq"
        exact hR _ _ _ _ hv
end
theorem turn_ok (K : KN) (d0 : Sl) (hK : ∀ d2 d3 d4 d5 d6 d7 d8 d9 d10 d11 d12 d13 d14 d15 d16 d17, K.nx [d0, .val .dice, d2, d3, d4, d5, d6, d7, d8, d9, d10, d11, d12, d13, d14, d15, d16, d17]) (d2 d3 d4 d5 d6 d7 d8 d9 d10 d11 d12 d13 d14 d15 d16 d17 : Sl) : b_turn [d0, .val .dice, d2, d3, d4, d5, d6, d7, d8, d9, d10, d11, d12, d13, d14, d15, d16, d17] K := by
  unfold b_turn
  walk_at "pq"
  refine n_law_rows fun c rs c2 c10 hr => ?_
  have l1 := hr.l1
  have l2 := hr.l2
  walk_at "wk"
  rw [List.length_map]
  refine n_next (by omega) (by omega) fun k0 k1 k2 => ?_
  obtain ⟨k, rfl⟩ : ∃ k : Nat, k0 = (k : Int) := ⟨k0.toNat, by omega⟩
  walk_at "pq"
  refine n_next (by decide) (by decide) fun j0 j1 j2 => ?_
  obtain ⟨j, rfl⟩ : ∃ j : Nat, j0 = (j : Int) := ⟨j0.toNat, by omega⟩
  walk_at "pq"
  refine if_ok _ hr c2 c10 (by omega) _ _ _ _ _ _ _ _ _ _ _ fun c' rs' d5 d6 hv' => ?_
  exact mid_ok K _ hK (rp_cw hr c2 (by omega)) hv' _ _ _ _ _ _ _ _ _ _ _ _
theorem turns (K : KN) (d0 : Sl) (hK : ∀ d2 d3 d4 d5 d6 d7 d8 d9 d10 d11 d12 d13 d14 d15 d16 d17, K.nx [d0, .val .dice, d2, d3, d4, d5, d6, d7, d8, d9, d10, d11, d12, d13, d14, d15, d16, d17]) : ∀ (xs : List D) (d2 d3 d4 d5 d6 d7 d8 d9 d10 d11 d12 d13 d14 d15 d16 d17 : Sl), wForGo (.nm 2) b_turn K xs [d0, .val .dice, d2, d3, d4, d5, d6, d7, d8, d9, d10, d11, d12, d13, d14, d15, d16, d17]
  | [], _, _, _, _, _, _, _, _, _, _, _, _, _, _, _, _ => hK _ _ _ _ _ _ _ _ _ _ _ _ _ _ _ _
  | x :: xs, d2, d3, d4, d5, d6, d7, d8, d9, d10, d11, d12, d13, d14, d15, d16, d17 => by
    refine p_put1 ?_
    exact turn_ok _ d0 (fun d2 d3 d4 d5 d6 d7 d8 d9 d10 d11 d12 d13 d14 d15 d16 d17 => turns K d0 hK xs d2 d3 d4 d5 d6 d7 d8 d9 d10 d11 d12 d13 d14 d15 d16 d17) _ _ _ _ _ _ _ _ _ _ _ _ _ _ _ _
theorem holds : b_law ((List.replicate 18 Sl.un).set 1 (.val .dice)) LawEnd := by
  show b_law [.un, .val .dice, .un, .un, .un, .un, .un, .un, .un, .un, .un, .un, .un, .un, .un, .un, .un, .un] LawEnd
  unfold b_law
  walk_at "pq"
  refine p_krg1 (by omega) ?_
  refine turns _ .un (fun d2 d3 d4 d5 d6 d7 d8 d9 d10 d11 d12 d13 d14 d15 d16 d17 => ?_) _ _ _ _ _ _ _ _ _ _ _ _ _ _ _ _ _
  walk_at "pq"
  rfl
end K07
namespace K07
open PySem PySem.Spec PyProof.Rows L2 Oil

def top (i : Nat) : Stmt := PySem.Challenge.pw_oilwalk_k07_ways_that_part.main.body.getD i (.Pass ⟨0, 0, 0, 0⟩)
abbrev s_law_dice : Stmt := (top 33)
def n_law_dice : List Str := ["_law_script", "_law_mixed", "_law_cell"]
theorem sc_law_dice : FnScope n_law_dice ["_law_script"] (defScope s_law_dice) := ⟨rfl, rfl, rfl, by decide +kernel, rfl, by decide +kernel, by decide +kernel⟩
abbrev s_law_like : Stmt := (top 35)
def n_law_like : List Str := ["_law_found", "_law_due", "_law_k"]
theorem sc_law_like : FnScope n_law_like ["_law_found", "_law_due"] (defScope s_law_like) := ⟨rfl, rfl, rfl, by decide +kernel, rfl, by decide +kernel, by decide +kernel⟩
abbrev s_is_number : Stmt := (top 10)
def n_is_number : List Str := ["value"]
theorem sc_is_number : FnScope n_is_number ["value"] (defScope s_is_number) := ⟨rfl, rfl, rfl, by decide +kernel, rfl, by decide +kernel, by decide +kernel⟩
abbrev s_is_number_within : Stmt := (top 12)
def n_is_number_within : List Str := ["value", "least", "most"]
theorem sc_is_number_within : FnScope n_is_number_within ["value", "least", "most"] (defScope s_is_number_within) := ⟨rfl, rfl, rfl, by decide +kernel, rfl, by decide +kernel, by decide +kernel⟩
abbrev s_check_number_within : Stmt := (top 14)
def n_check_number_within : List Str := ["value", "least", "most"]
theorem sc_check_number_within : FnScope n_check_number_within ["value", "least", "most"] (defScope s_check_number_within) := ⟨rfl, rfl, rfl, by decide +kernel, rfl, by decide +kernel, by decide +kernel⟩
abbrev s_is_post : Stmt := (top 28)
def n_is_post : List Str := ["value"]
theorem sc_is_post : FnScope n_is_post ["value"] (defScope s_is_post) := ⟨rfl, rfl, rfl, by decide +kernel, rfl, by decide +kernel, by decide +kernel⟩
abbrev s_first_wrong : Stmt := (top 29)
def n_first_wrong : List Str := ["posts", "index", "post"]
theorem sc_first_wrong : FnScope n_first_wrong ["posts"] (defScope s_first_wrong) := ⟨rfl, rfl, rfl, by decide +kernel, rfl, by decide +kernel, by decide +kernel⟩
abbrev s_InvalidWay_init : Stmt := (inClass (top 3) 0)
def n_InvalidWay_init : List Str := ["self", "part", "index", "__class__"]
abbrev s_Way_init : Stmt := (inClass (top 27) 0)
def n_Way_init : List Str := ["self", "capacity", "posts", "wrong"]
theorem sc_Way_init : FnScope n_Way_init ["self", "capacity", "posts"] (defScope s_Way_init) := ⟨rfl, rfl, rfl, by decide +kernel, rfl, by decide +kernel, by decide +kernel⟩
abbrev s_Way_even : Stmt := (inClass (top 27) 1)
def n_Way_even : List Str := ["cls", "capacity", "count", "oil", "steps", "posts", "_"]
theorem sc_Way_even : FnScope n_Way_even ["cls", "capacity", "count", "oil", "steps"] (defScope s_Way_even) := ⟨rfl, rfl, rfl, by decide +kernel, rfl, by decide +kernel, by decide +kernel⟩
abbrev s_check_post : Stmt := (top 15)
def n_check_post : List Str := ["value", "many"]
theorem sc_check_post : FnScope n_check_post ["value", "many"] (defScope s_check_post) := ⟨rfl, rfl, rfl, by decide +kernel, rfl, by decide +kernel, by decide +kernel⟩
abbrev s_Way_with_post : Stmt := (inClass (top 27) 11)
def n_Way_with_post : List Str := ["self", "post", "oil", "steps", "posts"]
theorem sc_Way_with_post : FnScope n_Way_with_post ["self", "post", "oil", "steps"] (defScope s_Way_with_post) := ⟨rfl, rfl, rfl, by decide +kernel, rfl, by decide +kernel, by decide +kernel⟩
abbrev s_law_made : Stmt := (top 41)
def n_law_made : List Str := ["_law_capacity", "_law_rows_here", "_law_way", "_law_k"]
theorem sc_law_made : FnScope n_law_made ["_law_capacity", "_law_rows_here"] (defScope s_law_made) := ⟨rfl, rfl, rfl, by decide +kernel, rfl, by decide +kernel, by decide +kernel⟩
abbrev s_law_next : Stmt := (top 34)
def n_law_next : List Str := ["_law_dice_here", "_law_many", "_law_found", "_law_cell"]
theorem sc_law_next : FnScope n_law_next ["_law_dice_here", "_law_many"] (defScope s_law_next) := ⟨rfl, rfl, rfl, by decide +kernel, rfl, by decide +kernel, by decide +kernel⟩
abbrev s_law_pick : Stmt := (top 36)
def n_law_pick : List Str := ["_law_d", "_law_some"]
theorem sc_law_pick : FnScope n_law_pick ["_law_d", "_law_some"] (defScope s_law_pick) := ⟨rfl, rfl, rfl, by decide +kernel, rfl, by decide +kernel, by decide +kernel⟩
abbrev s_law_rows : Stmt := (top 38)
def n_law_rows : List Str := ["_law_d", "_law_rows_here", "_law_short", "_law_k", "_law_oil", "_law_steps"]
theorem sc_law_rows : FnScope n_law_rows ["_law_d"] (defScope s_law_rows) := ⟨rfl, rfl, rfl, by decide +kernel, rfl, by decide +kernel, by decide +kernel⟩
abbrev s_law_leg : Stmt := (top 39)
def n_law_leg : List Str := ["_law_capacity", "_law_post", "_law_oil", "_law_there", "_law_steps", "_law_full"]
theorem sc_law_leg : FnScope n_law_leg ["_law_capacity", "_law_post", "_law_oil"] (defScope s_law_leg) := ⟨rfl, rfl, rfl, by decide +kernel, rfl, by decide +kernel, by decide +kernel⟩
abbrev s_law_walk : Stmt := (top 40)
def n_law_walk : List Str := ["_law_capacity", "_law_rows_here", "_law_post", "_law_oil", "_law_legs", "_law_found", "_law_k"]
theorem sc_law_walk : FnScope n_law_walk ["_law_capacity", "_law_rows_here", "_law_post", "_law_oil", "_law_legs"] (defScope s_law_walk) := ⟨rfl, rfl, rfl, by decide +kernel, rfl, by decide +kernel, by decide +kernel⟩
abbrev s_Way_getitem : Stmt := (inClass (top 27) 6)
def n_Way_getitem : List Str := ["self", "at"]
theorem sc_Way_getitem : FnScope n_Way_getitem ["self", "at"] (defScope s_Way_getitem) := ⟨rfl, rfl, rfl, by decide +kernel, rfl, by decide +kernel, by decide +kernel⟩
abbrev s_Way_capacity : Stmt := (inClass (top 27) 2)
def n_Way_capacity : List Str := ["self"]
theorem sc_Way_capacity : FnScope n_Way_capacity ["self"] (defScope s_Way_capacity) := ⟨rfl, rfl, rfl, by decide +kernel, rfl, by decide +kernel, by decide +kernel⟩
abbrev s_taken : Stmt := (top 19)
def n_taken : List Str := ["way", "post", "oil"]
theorem sc_taken : FnScope n_taken ["way", "post", "oil"] (defScope s_taken) := ⟨rfl, rfl, rfl, by decide +kernel, rfl, by decide +kernel, by decide +kernel⟩
abbrev s_after_leg : Stmt := (top 20)
def n_after_leg : List Str := ["way", "post", "oil", "held", "steps"]
theorem sc_after_leg : FnScope n_after_leg ["way", "post", "oil"] (defScope s_after_leg) := ⟨rfl, rfl, rfl, by decide +kernel, rfl, by decide +kernel, by decide +kernel⟩
abbrev s_Way_len : Stmt := (inClass (top 27) 5)
def n_Way_len : List Str := ["self"]
theorem sc_Way_len : FnScope n_Way_len ["self"] (defScope s_Way_len) := ⟨rfl, rfl, rfl, by decide +kernel, rfl, by decide +kernel, by decide +kernel⟩
abbrev s_check_start : Stmt := (top 16)
def n_check_start : List Str := ["way", "post", "oil"]
theorem sc_check_start : FnScope n_check_start ["way", "post", "oil"] (defScope s_check_start) := ⟨rfl, rfl, rfl, by decide +kernel, rfl, by decide +kernel, by decide +kernel⟩
abbrev s_first_unlike : Stmt := (top 21)
def n_first_unlike : List Str := ["way", "other", "post", "oil", "one_post", "other_post", "one_oil", "other_oil", "walked"]
theorem sc_first_unlike : FnScope n_first_unlike ["way", "other", "post", "oil"] (defScope s_first_unlike) := ⟨rfl, rfl, rfl, by decide +kernel, rfl, by decide +kernel, by decide +kernel⟩
abbrev s_law : Stmt := (top 42)
def n_law : List Str := ["_law_script", "_law_d", "_law_turn", "_law_rows_here", "_law_other", "_law_k", "_law_pick_here", "_law_post", "_law_oil", "_law_one", "_law_two", "_law_due", "_law_legs", "_law_away", "_law_bad", "_law_capacity", "_law_holds", "_law_way"]
theorem sc_law : FnScope n_law ["_law_script"] (defScope s_law) := ⟨rfl, rfl, rfl, by decide +kernel, rfl, by decide +kernel, by decide +kernel⟩
abbrev s_law_told : Stmt := (top 37)
def n_law_told : List Str := ["_law_work", "e", "_law_some", "_law_k"]
theorem sc_law_told : FnScope n_law_told ["_law_work"] (defScope s_law_told) := ⟨rfl, rfl, rfl, by decide +kernel, rfl, by decide +kernel, by decide +kernel⟩
structure Txt (K : PySem.W.Frag) (mg : Str → Option Value) (Z : ZG) : Prop where
  g_InvalidNumber : mg "InvalidNumber" = some (.ref (Z 3))
  g_InvalidStretch : mg "InvalidStretch" = some (.ref (Z 4))
  g_InvalidWay : mg "InvalidWay" = some (.ref (Z 1))
  g_UnknownPost : mg "UnknownPost" = some (.ref (Z 2))
  g_Way : mg "Way" = some (.ref (Z 13))
  g_MOST_LEGS_COMPARED : ∃ t, mg "MOST_LEGS_COMPARED" = some (.int 2000 t)
  g_MOST_POSTS : ∃ t, mg "MOST_POSTS" = some (.int 12 t)
  g_MOST_UNITS : ∃ t, mg "MOST_UNITS" = some (.int 1000000000 t)
  n_ValueError : mg "ValueError" = none
  n_bool : mg "bool" = none
  n_enumerate : mg "enumerate" = none
  n_int : mg "int" = none
  n_isinstance : mg "isinstance" = none
  n_len : mg "len" = none
  n_list : mg "list" = none
  n_max : mg "max" = none
  n_min : mg "min" = none
  n_range : mg "range" = none
  n_str : mg "str" = none
  n_sum : mg "sum" = none
  n_tuple : mg "tuple" = none
  o_Way : Oc K (Z 13)
  na_Way__capacity : NoAttr K (Z 13) "_capacity"
  na_Way__posts : NoAttr K (Z 13) "_posts"
  x_InvalidNumber : PySem.W.excIn K (Z 3) [.type "ValueError", .type "Exception", .type "BaseException", .type "object"] "ValueError.__new__" = true
  k_InvalidNumber : PySem.W.keepIn K (.ref (Z 3)) = true
  b_InvalidNumber : PySem.W.subIn K (.ref (Z 3)) (.type "BaseException") = some true
  t_InvalidNumber : PySem.W.typeIn K (.ref (Z 3)) = some (.type "type")
  x_UnknownPost : PySem.W.excIn K (Z 2) [.type "ValueError", .type "Exception", .type "BaseException", .type "object"] "ValueError.__new__" = true
  k_UnknownPost : PySem.W.keepIn K (.ref (Z 2)) = true
  b_UnknownPost : PySem.W.subIn K (.ref (Z 2)) (.type "BaseException") = some true
  t_UnknownPost : PySem.W.typeIn K (.ref (Z 2)) = some (.type "type")
  ec_law_told : ErC K Z [1, 4, 2, 3]
  g_WalkError : mg "WalkError" = some (.ref (Z 0))
  xf_InvalidStretch : XfC K (Z 4)
  xn_InvalidStretch_part : PySem.W.findIn K (.ref (Z 4)) "part" = some none
  xf_InvalidWay : XfC K (Z 1)
  xn_InvalidWay_index : PySem.W.findIn K (.ref (Z 1)) "index" = some none
  xn_InvalidWay_part : PySem.W.findIn K (.ref (Z 1)) "part" = some none
end K07
namespace K07
open PySem PySem.Spec PyProof.Rows L2 Oil
section
variable {P : Program} {w : World} {K : PySem.W.Frag} {mg : Str → Option Value} {base : Heap} {Z : ZG}
local macro_rules | `(tactic| walk_at "kn") => `(tactic| first | exact Kn.non | exact Kn.int _ | exact Kn.bl _ | exact Kn.str _ | exact Kn.tup (by assumption) | exact Kn.lst (by assumption) | assumption)
local macro_rules | `(tactic| walk_at "rd1") => `(tactic| with_reducible first
  | refine f_seq ?_ | refine f_next ?_ | refine f_drop ?_ | refine f_ret ?_ | refine f_retN ?_ | refine f_asg ?_ | refine f_par ?_
  | refine r_var rfl ?_ | refine r_c ?_ | refine r_nx ?_ | refine r_rt ?_ | refine r_ct ?_ | refine r_bk ?_ | refine r_cons ?_ | refine r_nil ?_ | refine r_seq ?_ | refine r_next ?_
  | refine r_op ?_ | refine r_I0 ?_ | refine r_asg ?_ | refine r_gname ?_ | refine r_ret ?_ | refine r_ifS ?_ | refine r_test ?_ | refine r_bl ?_ | refine r_blQ ?_ | refine r_B ?_
  | refine r_and ?_ | refine r_or ?_ | refine r_not ?_ | refine r_andV ?_ | refine r_orV ?_ | refine r_notV ?_ | refine r_if ?_ | refine r_chain ?_ | refine r_cb ?_
  | refine r_cal ?_ | refine r_mak ?_ | refine r_prp ?_ | refine r_mt ?_ | refine r_cmt ?_ | refine r_clo ?_ | refine r_fld ?_ | refine r_sfld ?_ | refine r_par ?_ | refine r_par2 ?_
  | refine r_tup ?_ | refine r_lst ?_ | refine r_un ?_ | refine r_drop ?_ | refine r_retN ?_ | refine r_isn ?_ | refine r_notn ?_ | refine r_U ?_
  | refine r_sp1 ?_ | refine r_sp2 ?_ | refine r_sp3 ?_ | refine r_sp4 ?_ | refine r_sp5 ?_ | refine r_eq rfl ?_ | refine r_ne rfl ?_ | refine r_makL rfl ?_ | refine r_odd ?_ | refine r_rfl ?_ | refine r_max2 ?_ | refine r_min2 ?_ | refine r_int1 ?_ | refine r_int1b ?_ | refine r_truI ?_ | refine r_truB ?_ | refine r_truN ?_ | refine r_tru ?_ | refine r_truR ?_ | refine r_for ?_ | refine r_ilist ?_ | refine r_itup ?_ | refine r_irng1 ?_ | refine r_irng2 ?_ | refine r_gsub ?_ | refine r_bm ?_ | refine r_lc ?_ | refine r_yes ?_)
local macro_rules | `(tactic| walk_at "rd2") => `(tactic| first | (with_reducible refine r_T rfl ?_) | (with_reducible refine r_F rfl ?_) | (with_reducible refine r_T ?_ ?_; (rfl)) | (with_reducible refine r_F ?_ ?_; (rfl)))
local macro_rules | `(tactic| walk_at "rd3") => `(tactic| first | ((with_reducible refine r_isiT (T := ?_) ?_ ?_ ?_); rotate_left; (walk_at "kn"); (decide +kernel)) | ((with_reducible refine r_isiF (T := ?_) ?_ ?_ ?_); rotate_left; (walk_at "kn"); (decide +kernel)))
local macro_rules | `(tactic| walk_at "rd") => `(tactic| repeat (first | walk_at "rd1" | walk_at "rd2" | walk_at "rd3" | walk_at "rdx"))

theorem ok_law_dice {f : Addr} {fd : FuncData} (F : Fun K "_law_dice" "_law_dice" s_law_dice f fd) (T : Txt K mg Z) : FnR P w K mg base (L2.CX P w) 2 f (Sp1 (q_dice K)) := by
  refine fnR_of (fd := fd) (ps := ["_law_script"]) (F.okX sc_law_dice (fun vs H Q E h => ?_) (fun cdv A outer s H vs Q E hr h => ?_)) (F.binds (ps := ["_law_script"]) fun _ _ _ _ _ _ us hl => match us, hl with | [_], _ => rfl)
  · obtain ⟨_, rfl, _⟩ := h
    rfl
  · obtain ⟨v0, rfl, h⟩ := h
    refine ⟨_, (pss_cons (ps_set (i := 1) sc_law_dice.nd rfl (Or.inl rfl) pe_int)
      (pss_cons (ps_for (passes_of rfl) rfl (pi_list (pv 0)) (pg_name (i := 2) sc_law_dice.nd rfl (Or.inl rfl)) (pss_one (ps_set (i := 1) sc_law_dice.nd rfl (Or.inl rfl) (pe_op op_modN (pe_callTy call_in (by rfl) T.n_int (by decide +kernel) (pa_cons (pe_op op_add (pe_op op_add (pe_op op_mulW (pv 1) pe_int) (pe_op op_mulW (pe_op op_modN (pe_callTy call_in (by rfl) T.n_int (by decide +kernel) (pa_cons (pv 2) pa_nil)) pe_int) pe_int)) pe_int) pa_nil)) pe_int))))
      (pss_one (ps_ret (pe_lst (pa_cons (pv 0) (pa_cons pe_int (pa_cons (pe_op op_mulW (pv 1) (pe_callTy call_in (by rfl) T.n_int (by decide +kernel) (pa_cons (pe_cmpR op_gt (pe_callB call_ln (by rfl) T.n_len (by decide +kernel) (pa_cons (pv 0) pa_nil)) pe_int (nomark _)) pa_nil))) (pa_cons pe_int pa_nil))))))))), ?_⟩
    obtain ⟨sa, ns, rfl, hS, hl, q⟩ := h
    walk_at "rd"
    refine r_qlst hS ?_
    refine w_list (xs := ns.map V.int) (fun i σ H' => ∃ (m : Int) (v : Option V), σ = [some (.ref sa), some (.int m), v] ∧ H' = H ∧ 0 ≤ m ∧ m < 2147483647) ⟨0, none, rfl, rfl, by decide, by decide⟩ (fun i σ H' _ h => ?_) ?_ ?_
    · obtain ⟨_, _, _, e, _⟩ := h
      rw [e]
      exact hS
    · rintro i x σ H' hx ⟨m, v, rfl, rfl, h1, h2⟩
      rw [List.getElem?_map] at hx
      obtain ⟨z, hz, rfl⟩ := Option.map_eq_some_iff.mp hx
      walk_at "rd"
      refine r_I (wide_mul (a := 32) (b := 20) (by omega) (by decide) (by decide) (by decide) (by decide)) ?_
      walk_at "rd"
      refine r_I (by decide) ?_
      walk_at "rd"
      have b1 := Int.fmod_eq_emod_of_nonneg z (show (0 : Int) ≤ 2147483647 by decide)
      have b2 : 0 ≤ z.fmod 2147483647 ∧ z.fmod 2147483647 < 2147483647 := by omega
      refine r_I (wide_mul (a := 32) (b := 20) (by omega) (by decide) (by decide) (by decide) (by decide)) ?_
      walk_at "rd"
      refine r_I (by decide) ?_
      walk_at "rd"
      refine ⟨_, some (.int z), rfl, rfl, ?_⟩
      generalize m * 48271 + z.fmod 2147483647 * 69621 + 11 = y
      have b3 := Int.fmod_eq_emod_of_nonneg y (show (0 : Int) ≤ 2147483647 by decide)
      omega
    · rintro σ H' ⟨m, v, rfl, rfl, h1, h2⟩
      walk_at "rd"
      refine ⟨sa, _, rfl, .inl hS, ?_⟩
      walk_at "rd"
      have hb : ∀ b : Bool, (0 : Int) ≤ m * (if b = true then 1 else 0) ∧ m * (if b = true then 1 else 0) < 2147483647 := fun b => by cases b <;> simp <;> omega
      refine r_I (wide_mul (a := 32) (b := 2) (by omega) (by split <;> decide) (by decide) (by decide) (by decide)) ?_
      walk_at "rd"
      refine ⟨by show 4 ≤ sizeLine; decide, fun d hd => ?_⟩
      exact q d _ hd (Same.new hd) (Dice.new hd (by decide) (hb _).1 (hb _).2 hl hS)
end
end K07
namespace K07
open PySem PySem.Spec PyProof.Rows L2 Oil
section
variable {P : Program} {w : World} {K : PySem.W.Frag} {mg : Str → Option Value} {base : Heap} {Z : ZG}
theorem rep_law_like {f : Addr} {fd : FuncData} {j n : Nat} (F : Fun K "_law_like" "_law_like" s_law_like f fd) (T : Txt K mg Z) (G_law_like : Cal P w K mg base j "_law_like" (SpD Z K (S_like n))) : FnR P w K mg base (L2.CX P w) (j + 1) f (SpD Z K (S_like (n + 1))) := by
  have R : FnR P w K mg base (L2.CX P w) (j + 1) f (SpD Z K (specOf 2 3 (b_law_like (S_like n)))) := by
    refine fnR_of (fd := fd) (ps := ["_law_found", "_law_due"]) (F.okX sc_law_like (fun vs H Q E h => def_len (Z := Z.m) (N := n_law_like) h) (fun cdv A outer s H vs Q E hr h => ⟨_, (show QSs Z.m _ _ _ _ from (qss_cons (qs_if (qt_w (qw_or (qt_val (qe_isi (cs := []) (cs0 _) (by rfl) T.n_isinstance (by decide +kernel) (qab_cons (qb_of (qe_name 1)) (qab_cons (qb_of (qe_c (v := .ty "tuple") (pe_bltn (by rfl) T.n_tuple (by decide +kernel) rfl) fun _ _ _ => .ty "tuple")) qab_nil)))) (qw_or1 (qt_val (qe_isi (cs := []) (cs0 _) (by rfl) T.n_isinstance (by decide +kernel) (qab_cons (qb_of (qe_name 1)) (qab_cons (qb_of (qe_c (v := .ty "list") (pe_bltn (by rfl) T.n_list (by decide +kernel) rfl) fun _ _ _ => .ty "list")) qab_nil))))))) (qss_cons (qs_if (qt_cmp (op_neD hr.units) ops_ne (qb_of (qe_isi (cs := []) (cs0 _) (by rfl) T.n_isinstance (by decide +kernel) (qab_cons (qb_of (qe_name 0)) (qab_cons (qb_of (qe_c (v := .ty "tuple") (pe_bltn (by rfl) T.n_tuple (by decide +kernel) rfl) fun _ _ _ => .ty "tuple")) qab_nil)))) (qb_of (qe_isi (cs := []) (cs0 _) (by rfl) T.n_isinstance (by decide +kernel) (qab_cons (qb_of (qe_name 1)) (qab_cons (qb_of (qe_c (v := .ty "tuple") (pe_bltn (by rfl) T.n_tuple (by decide +kernel) rfl) fun _ _ _ => .ty "tuple")) qab_nil))))) (qss_one (qs_ret (qe_c pe_bl fun _ _ _ => .bl _))) qss_nil)
      (qss_cons (qs_if (qt_w (qw_or (qt_cmp (op_neD hr.units) ops_ne (qb_of (qe_isi (cs := []) (cs0 _) (by rfl) T.n_isinstance (by decide +kernel) (qab_cons (qb_of (qe_name 0)) (qab_cons (qb_of (qe_c (v := .ty "list") (pe_bltn (by rfl) T.n_list (by decide +kernel) rfl) fun _ _ _ => .ty "list")) qab_nil)))) (qb_of (qe_isi (cs := []) (cs0 _) (by rfl) T.n_isinstance (by decide +kernel) (qab_cons (qb_of (qe_name 1)) (qab_cons (qb_of (qe_c (v := .ty "list") (pe_bltn (by rfl) T.n_list (by decide +kernel) rfl) fun _ _ _ => .ty "list")) qab_nil))))) (qw_or1 (qt_cmp (op_neD hr.units) ops_ne (qb_of (qe_cb call_ln cbs_len (by rfl) T.n_len (by decide +kernel) (qab_cons (qb_of (qe_name 0)) qab_nil))) (qb_of (qe_cb call_ln cbs_len (by rfl) T.n_len (by decide +kernel) (qab_cons (qb_of (qe_name 1)) qab_nil))))))) (qss_one (qs_ret (qe_c pe_bl fun _ _ _ => .bl _))) qss_nil)
      (qss_one (qs_ret (qe_cmp (op_eqD hr.units) ops_eq (qb_of (qe_new (qf_lc (own := [("_law_k", 2)]) (.nm 2) rfl sc_law_like.nd (qi_range1 (by rfl) T.n_range (qe_cb call_ln cbs_len (by rfl) T.n_len (by decide +kernel) (qab_cons (qb_of (qe_name 1)) qab_nil))) (blkOk_by (own := [("_law_k", 2)]) (N := n_law_like) (sc := defScope s_law_like) (by decide +kernel)) (fun _ _ _ _ _ => (pg_name (i := 2) sc_law_like.nd rfl (Or.inl rfl))) (fun _ _ _ _ _ => (qts_one (qt_not (qt_val (qe_call G_law_like hr (by omega) passL (qa_cons (qe_ix (ix_any rfl) ops_ix (qb_of (qe_name 0)) (qb_of (qe_name 2)) (fun _ _ => rfl)) (qa_cons (qe_ix (ix_any rfl) ops_ix (qb_of (qe_name 1)) (qb_of (qe_name 2)) (fun _ _ => rfl)) qa_nil))))))) (fun _ _ _ _ _ => (qe_name 2)) (by decide)))) (qb_of (qe_new (qf_lst qa_nil))) (nomark _)))))) qss_nil)
      (qss_cons (qs_if (qt_cmp (op_neD hr.units) ops_ne (qb_of (qe_isi (cs := []) (cs0 _) (by rfl) T.n_isinstance (by decide +kernel) (qab_cons (qb_of (qe_name 0)) (qab_cons (qb_of (qe_c (v := .ty "bool") (pe_bltn (by rfl) T.n_bool (by decide +kernel) rfl) fun _ _ _ => .ty "bool")) qab_nil)))) (qb_of (qe_isi (cs := []) (cs0 _) (by rfl) T.n_isinstance (by decide +kernel) (qab_cons (qb_of (qe_name 1)) (qab_cons (qb_of (qe_c (v := .ty "bool") (pe_bltn (by rfl) T.n_bool (by decide +kernel) rfl) fun _ _ _ => .ty "bool")) qab_nil))))) (qss_one (qs_ret (qe_c pe_bl fun _ _ _ => .bl _))) qss_nil)
      (qss_cons (qs_if (qt_w (qw_or (qt_cmp (op_neD hr.units) ops_ne (qb_of (qe_isi (cs := []) (cs0 _) (by rfl) T.n_isinstance (by decide +kernel) (qab_cons (qb_of (qe_name 0)) (qab_cons (qb_of (qe_c (v := .ty "int") (pe_bltn (by rfl) T.n_int (by decide +kernel) rfl) fun _ _ _ => .ty "int")) qab_nil)))) (qb_of (qe_isi (cs := []) (cs0 _) (by rfl) T.n_isinstance (by decide +kernel) (qab_cons (qb_of (qe_name 1)) (qab_cons (qb_of (qe_c (v := .ty "int") (pe_bltn (by rfl) T.n_int (by decide +kernel) rfl) fun _ _ _ => .ty "int")) qab_nil))))) (qw_or1 (qt_cmp (op_neD hr.units) ops_ne (qb_of (qe_isi (cs := []) (cs0 _) (by rfl) T.n_isinstance (by decide +kernel) (qab_cons (qb_of (qe_name 0)) (qab_cons (qb_of (qe_c (v := .ty "str") (pe_bltn (by rfl) T.n_str (by decide +kernel) rfl) fun _ _ _ => .ty "str")) qab_nil)))) (qb_of (qe_isi (cs := []) (cs0 _) (by rfl) T.n_isinstance (by decide +kernel) (qab_cons (qb_of (qe_name 1)) (qab_cons (qb_of (qe_c (v := .ty "str") (pe_bltn (by rfl) T.n_str (by decide +kernel) rfl) fun _ _ _ => .ty "str")) qab_nil)))))))) (qss_one (qs_ret (qe_c pe_bl fun _ _ _ => .bl _))) qss_nil)
      (qss_one (qs_ret (qe_cmp (op_eqD hr.units) ops_eq (qb_of (qe_name 0)) (qb_of (qe_name 1)) (nomark _)))))))), def_rd (Z := Z.m) (by decide) (by decide) h⟩)) (F.binds (ps := ["_law_found", "_law_due"]) fun _ _ _ _ _ _ us hl => match us, hl with | [_, _], _ => rfl)
  exact R.imp fun vs H Q E h => SpD.imp (Z := Z.m) (like_step n) h
end
end K07
namespace K07
open PySem PySem.Spec PyProof.Rows L2 Oil
section
variable {P : Program} {w : World} {K : PySem.W.Frag} {mg : Str → Option Value} {base : Heap} {Z : ZG}
theorem ok_is_number {f : Addr} {fd : FuncData} (F : Fun K "is_number" "is_number" s_is_number f fd) (T : Txt K mg Z) : FnR P w K mg base (L2.CX P w) 1 f (SpD Z K S_is_number) := by
  refine fnR_of (fd := fd) (ps := ["value"]) (F.okX sc_is_number (fun vs H Q E h => def_len (Z := Z.m) (N := n_is_number) h) (fun cdv A outer s H vs Q E hr h => ⟨_, (show QSs Z.m _ _ _ _ from (qss_one (qs_ret (qe_and (qe_isi (cs := []) (cs0 _) (by rfl) T.n_isinstance (by decide +kernel) (qab_cons (qb_of (qe_name 0)) (qab_cons (qb_of (qe_c (v := .ty "int") (pe_bltn (by rfl) T.n_int (by decide +kernel) rfl) fun _ _ _ => .ty "int")) qab_nil))) (qe_one (qe_not (qe_isi (cs := []) (cs0 _) (by rfl) T.n_isinstance (by decide +kernel) (qab_cons (qb_of (qe_name 0)) (qab_cons (qb_of (qe_c (v := .ty "bool") (pe_bltn (by rfl) T.n_bool (by decide +kernel) rfl) fun _ _ _ => .ty "bool")) qab_nil))))))))), def_rd (Z := Z.m) (by decide) (by decide) h⟩)) (F.binds (ps := ["value"]) fun _ _ _ _ _ _ us hl => match us, hl with | [_], _ => rfl)
end
end K07
namespace K07
open PySem PySem.Spec PyProof.Rows L2 Oil
section
variable {P : Program} {w : World} {K : PySem.W.Frag} {mg : Str → Option Value} {base : Heap} {Z : ZG}
theorem ok_is_number_within {f : Addr} {fd : FuncData} (F : Fun K "is_number_within" "is_number_within" s_is_number_within f fd) (T : Txt K mg Z) (G_is_number : Cal P w K mg base 1 "is_number" (SpD Z K S_is_number)) : FnR P w K mg base (L2.CX P w) 2 f (SpD Z K S_is_number_within) := by
  refine fnR_of (fd := fd) (ps := ["value", "least", "most"]) (F.okX sc_is_number_within (fun vs H Q E h => def_len (Z := Z.m) (N := n_is_number_within) h) (fun cdv A outer s H vs Q E hr h => ⟨_, (show QSs Z.m _ _ _ _ from (qss_one (qs_ret (qe_and (qe_call G_is_number hr (by omega) (passes_call (takes_of rfl rfl rfl rfl) (fun _ _ _ _ h => h)) (qa_cons (qe_name 0) qa_nil)) (qe_one (qe_chain op_le ops_le op_le ops_le (qb_of (qe_name 1)) (qb_of (qe_name 0)) (qb_of (qe_name 2)))))))), def_rd (Z := Z.m) (by decide) (by decide) h⟩)) (F.binds (ps := ["value", "least", "most"]) fun _ _ _ _ _ _ us hl => match us, hl with | [_, _, _], _ => rfl)
end
end K07
namespace K07
open PySem PySem.Spec PyProof.Rows L2 Oil
section
variable {P : Program} {w : World} {K : PySem.W.Frag} {mg : Str → Option Value} {base : Heap} {Z : ZG}
theorem ok_check_number_within {f : Addr} {fd : FuncData} (F : Fun K "check_number_within" "check_number_within" s_check_number_within f fd) (T : Txt K mg Z) (G_is_number_within : Cal P w K mg base 2 "is_number_within" (SpD Z K S_is_number_within)) : FnR P w K mg base (L2.CX P w) 3 f (SpD Z K S_check_number_within) := by
  refine fnR_of (fd := fd) (ps := ["value", "least", "most"]) (F.okX sc_check_number_within (fun vs H Q E h => def_len (Z := Z.m) (N := n_check_number_within) h) (fun cdv A outer s H vs Q E hr h => ⟨_, (show QSs Z.m _ _ _ _ from (qss_one (qs_if (qt_not (qt_val (qe_call G_is_number_within hr (by omega) (passes_call (takes_of rfl rfl rfl rfl) (fun _ _ _ _ h => h)) (qa_cons (qe_name 0) (qa_cons (qe_name 1) (qa_cons (qe_name 2) qa_nil)))))) (qss_one (qs_raise (c := 3) rfl (takes_of rfl rfl rfl rfl) (pmk_own PySem.F.excBase_ValueError T.x_InvalidNumber T.g_InvalidNumber T.k_InvalidNumber (raises_own T.b_InvalidNumber T.t_InvalidNumber) rfl))) qss_nil))), def_rd (Z := Z.m) (by decide) (by decide) h⟩)) (F.binds (ps := ["value", "least", "most"]) fun _ _ _ _ _ _ us hl => match us, hl with | [_, _, _], _ => rfl)
end
end K07
namespace K07
open PySem PySem.Spec PyProof.Rows L2 Oil
section
variable {P : Program} {w : World} {K : PySem.W.Frag} {mg : Str → Option Value} {base : Heap} {Z : ZG}
theorem ok_is_post {f : Addr} {fd : FuncData} (F : Fun K "_is_post" "_is_post" s_is_post f fd) (T : Txt K mg Z) (G_is_number_within : Cal P w K mg base 2 "is_number_within" (SpD Z K S_is_number_within)) : FnR P w K mg base (L2.CX P w) 3 f (SpD Z K S_is_post) := by
  refine fnR_of (fd := fd) (ps := ["value"]) (F.okX sc_is_post (fun vs H Q E h => def_len (Z := Z.m) (N := n_is_post) h) (fun cdv A outer s H vs Q E hr h => ⟨_, (show QSs Z.m _ _ _ _ from (qss_one (qs_ret (qe_and (qe_isi (cs := []) (cs0 _) (by rfl) T.n_isinstance (by decide +kernel) (qab_cons (qb_of (qe_name 0)) (qab_cons (qb_of (qe_c (v := .ty "tuple") (pe_bltn (by rfl) T.n_tuple (by decide +kernel) rfl) fun _ _ _ => .ty "tuple")) qab_nil))) (qe_and (qe_cmp (op_eqD hr.units) ops_eq (qb_of (qe_cb call_ln cbs_len (by rfl) T.n_len (by decide +kernel) (qab_cons (qb_of (qe_name 0)) qab_nil))) (qb_of (qe_c pe_int fun _ _ _ => .int _)) (nomark _)) (qe_and (qe_call G_is_number_within hr (by omega) (passes_call (takes_of rfl rfl rfl rfl) (fun _ _ _ _ h => h)) (qa_cons (qe_ix (ix_any rfl) ops_ix (qb_of (qe_name 0)) (qb_of (qe_c pe_int fun _ _ _ => .int _)) (fun _ _ => rfl)) (qa_cons (qe_c pe_int fun _ _ _ => .int _) (qa_cons (qe_c (v := .int 1000000000) (pe_glob (by rfl) T.g_MOST_UNITS.choose_spec ⟨_, rfl⟩) fun _ _ _ => .int 1000000000) qa_nil)))) (qe_one (qe_call G_is_number_within hr (by omega) (passes_call (takes_of rfl rfl rfl rfl) (fun _ _ _ _ h => h)) (qa_cons (qe_ix (ix_any rfl) ops_ix (qb_of (qe_name 0)) (qb_of (qe_c pe_int fun _ _ _ => .int _)) (fun _ _ => rfl)) (qa_cons (qe_c pe_int fun _ _ _ => .int _) (qa_cons (qe_c (v := .int 1000000000) (pe_glob (by rfl) T.g_MOST_UNITS.choose_spec ⟨_, rfl⟩) fun _ _ _ => .int 1000000000) qa_nil))))))))))), def_rd (Z := Z.m) (by decide) (by decide) h⟩)) (F.binds (ps := ["value"]) fun _ _ _ _ _ _ us hl => match us, hl with | [_], _ => rfl)
end
end K07
namespace K07
open PySem PySem.Spec PyProof.Rows L2 Oil
section
variable {P : Program} {w : World} {K : PySem.W.Frag} {mg : Str → Option Value} {base : Heap} {Z : ZG}
theorem ok_first_wrong {f : Addr} {fd : FuncData} (F : Fun K "_first_wrong" "_first_wrong" s_first_wrong f fd) (T : Txt K mg Z) (G_is_post : Cal P w K mg base 3 "_is_post" (SpD Z K S_is_post)) : FnR P w K mg base (L2.CX P w) 4 f (SpD Z K S_first_wrong) := by
  refine fnR_of (fd := fd) (ps := ["posts"]) (F.okX sc_first_wrong (fun vs H Q E h => def_len (Z := Z.m) (N := n_first_wrong) h) (fun cdv A outer s H vs Q E hr h => ⟨_, (show QSs Z.m _ _ _ _ from (qss_cons (qs_for (.tp [1, 2]) (passes_of rfl) rfl (qi_enum (by rfl) T.n_enumerate (qe_name 0)) (pg_tp (is := [1, 2]) rfl rfl (pgs_cons (pg_name (i := 1) sc_first_wrong.nd rfl (Or.inl rfl)) (pgs_cons (pg_name (i := 2) sc_first_wrong.nd rfl (Or.inl rfl)) pgs_nil))) (qss_one (qs_if (qt_w (qw_or (qt_cmp (op_eqD hr.units) ops_eq (qb_of (qe_name 1)) (qb_of (qe_c (v := .int 12) (pe_glob (by rfl) T.g_MOST_POSTS.choose_spec ⟨_, rfl⟩) fun _ _ _ => .int 12))) (qw_or1 (qt_not (qt_val (qe_call G_is_post hr (by omega) (passes_call (takes_of rfl rfl rfl rfl) (fun _ _ _ _ h => h)) (qa_cons (qe_name 2) qa_nil))))))) (qss_one (qs_ret (qe_name 1))) qss_nil)))
      (qss_one (qs_ret (qe_if (qt_tru (qb_of (qe_name 0))) (qe_c pe_non fun _ _ _ => .non) (qe_c pe_int fun _ _ _ => .int _)))))), def_rd (Z := Z.m) (by decide) (by decide) h⟩)) (F.binds (ps := ["posts"]) fun _ _ _ _ _ _ us hl => match us, hl with | [_], _ => rfl)
end
end K07
namespace K07
open PySem PySem.Spec PyProof.Rows L2 Oil
section
variable {P : Program} {w : World} {K : PySem.W.Frag} {mg : Str → Option Value} {base : Heap} {Z : ZG}
theorem scl_InvalidWay_init : ClScope n_InvalidWay_init ["self", "part", "index"] (defScope s_InvalidWay_init) := ⟨rfl, rfl, rfl, by decide +kernel, rfl, by decide +kernel, by decide +kernel, by decide +kernel⟩
theorem ok_InvalidWay_init {f cc cda C : Addr} {ot : Value} {od an : Option Addr} {osl : Array (Option Value)} {dV kV doc pm ct : Value}
    (lk : K.lookup f = some ⟨ot, od, .func (PySem.W.fnX "__init__" "InvalidWay.__init__" (defArgs s_InvalidWay_init) (defBody s_InvalidWay_init) (defScope s_InvalidWay_init) [("__class__", cc)] dV kV doc pm an (.ref cda) ct), osl⟩)
    (hcd : PySem.W.codeIn K (.ref cda) "InvalidWay.__init__" = true) (F : SupF P K mg C f cc cda "self") (h0 : PySem.W.findIn K (.ref C) "part" = some none) (h1 : PySem.W.findIn K (.ref C) "index" = some none) :
    FnOk P w K mg base (L2.CX P w) 2 f (PySem.W.fnX "__init__" "InvalidWay.__init__" (defArgs s_InvalidWay_init) (defBody s_InvalidWay_init) (defScope s_InvalidWay_init) [("__class__", cc)] dV kV doc pm an (.ref cda) ct) ["self", "part", "index"] (SpX C ["part", "index"]) := by
  refine fn_sup (N := n_InvalidWay_init) (me := "self") lk hcd scl_InvalidWay_init F rfl rfl rfl rfl (fun vs H Q E h => ?_) (fun _ => rfl) (fun _ => rfl) (fun _ => by rfl) (fun _ => rfl) (fun _ => rfl) (fun A outer s H vs Q E hr h => ?_)
  · obtain ⟨x, us, rfl, hl, _⟩ := h
    match us, hl with
    | [_, _], _ => rfl
  · obtain ⟨x, us, rfl, hl, hok, hx, q⟩ := h
    match us, hl with
    | [v1, v2], _ =>
    refine ⟨x, _, _, rfl, hx, pa_cons (pe_joined (.cons pe_str (.cons (pe_fmt (pv 1)) (.cons pe_str (.cons (pe_fmt (pv 2)) .nil))))) pa_nil, pss_cons (ps_ost (pv 0) (pv 1)) (pss_one (ps_ost (pv 0) (pv 2))), ?_⟩
    refine fstr2 (i := 1) (j := 2) rfl rfl (hok v1 (by simp)) (hok v2 (by simp)) (by decide +kernel) (by decide +kernel) fun o => ⟨(by show 1 ≤ 1000; decide), hx, v1, rfl, .ref x, rfl, x, C, rfl, F.oex, h0, .inl ⟨hx, fun dx hdx hne => ?_⟩⟩
    refine ⟨v2, rfl, .ref x, rfl, x, C, rfl, F.oex, h1, .inr ⟨dx, _, upd_same, by rw [upd_ne hne, upd_same], by show 1 ≤ 900; decide, ?_⟩⟩
    have e : upd (upd (upd H dx (exd dx [("part", v1)])) x (exo x C (some dx))) dx (exd dx [("index", v2), ("part", v1)]) = upd (upd H dx (exd dx [("index", v2), ("part", v1)])) x (exo x C (some dx)) := by
      funext b
      by_cases e1 : b = dx
      · rw [e1, upd_same, upd_ne hne, upd_same]
      · rw [upd_ne e1]
        by_cases e2 : b = x
        · rw [e2, upd_same, upd_same]
        · rw [upd_ne e2, upd_ne e2, upd_ne e1, upd_ne e1]
    rw [e]
    exact q dx hdx hne
end
end K07
namespace K07
open PySem PySem.Spec PyProof.Rows L2 Oil
section
variable {P : Program} {w : World} {K : PySem.W.Frag} {mg : Str → Option Value} {base : Heap} {Z : ZG}
theorem ok_Way_init {f : Addr} {fd : FuncData} (F : Fun K "__init__" "Way.__init__" s_Way_init f fd) (T : Txt K mg Z) (G_first_wrong : Cal P w K mg base 4 "_first_wrong" (SpD Z K S_first_wrong)) (G_is_number_within : Cal P w K mg base 2 "is_number_within" (SpD Z K S_is_number_within)) (X_InvalidWay : Exo P w K mg base 2 "InvalidWay" (Z 1) (SpX (Z 1) ["part", "index"])) : FnR P w K mg base (L2.CX P w) 5 f (SpI Z K 13 S_Way_init) := by
  obtain ⟨oc, od, kV, doc, pm, an, cdv, ct, osl, rfl, lk, hcd⟩ := F.ex
  have FS := StX.fn_star (P := P) (w := w) (mg := mg) (base := base) (ps := ["self", "capacity"]) (pv := "posts") (N := n_Way_init) (CX := L2.CX P w) (k := 4) (sp := SpT 2 (SpI Z K 13 S_Way_init)) lk hcd sc_Way_init StX.cxUp (StX.bind_star2 (B := fun xs => bindArgs (PySem.W.fnOf "__init__" "Way.__init__" (defArgs s_Way_init) (defBody s_Way_init) (defScope s_Way_init) .none kV doc pm an cdv ct) ⟨xs, []⟩) (fun a0 a1 => rfl) (fun a0 a1 r rs => rfl)) (fun A outer s H vs Q E hr h => ⟨_, (show QSs Z.m _ _ _ _ from (qss_cons (qs_if (qt_not (qt_val (qe_call G_is_number_within hr (by omega) (passes_call (takes_of rfl rfl rfl rfl) (fun _ _ _ _ h => h)) (qa_cons (qe_name 1) (qa_cons (qe_c pe_int fun _ _ _ => .int _) (qa_cons (qe_c (v := .int 1000000000) (pe_glob (by rfl) T.g_MOST_UNITS.choose_spec ⟨_, rfl⟩) fun _ _ _ => .int 1000000000) qa_nil)))))) (qss_one (qs_raiseX (c := 1) (X_InvalidWay) hr (by omega) rfl (takes_of rfl rfl rfl rfl) passL (qa_cons (qe_c pe_str fun _ _ _ => .str _) (qa_cons (qe_c pe_int fun _ _ _ => .int _) qa_nil)))) qss_nil)
      (qss_cons (qs_set 3 sc_Way_init.nd rfl (Or.inl rfl) (qe_call G_first_wrong hr (by omega) (passes_call (takes_of rfl rfl rfl rfl) (fun _ _ _ _ h => h)) (qa_cons (qe_name 2) qa_nil)))
      (qss_cons (qs_if (qt_cmp op_notN1 ops_isNot (qb_of (qe_name 3)) (qb_of (qe_c pe_non fun _ _ _ => .non))) (qss_one (qs_raiseX (c := 1) (X_InvalidWay) hr (by omega) rfl (takes_of rfl rfl rfl rfl) passL (qa_cons (qe_c pe_str fun _ _ _ => .str _) (qa_cons (qe_name 3) qa_nil)))) qss_nil)
      (qss_cons (qs_self 0 (c := 13) T.o_Way.cl T.na_Way__capacity rfl (Or.inl rfl) (qe_name 1))
      (qss_one (qs_self 0 (c := 13) T.o_Way.cl T.na_Way__posts rfl (Or.inl rfl) (qe_name 2)))))))), initS_rd (by decide) (by decide) h⟩)
  exact FS.imp fun vs H Q E h => spt_of (initS_len (Z := Z.m) (N := n_Way_init) h).1 (initS_len (Z := Z.m) (N := n_Way_init) h).2 h
end
end K07
namespace K07
open PySem PySem.Spec PyProof.Rows L2 Oil
section
variable {P : Program} {w : World} {K : PySem.W.Frag} {mg : Str → Option Value} {base : Heap} {Z : ZG}
theorem ok_Way_even {f : Addr} {fd : FuncData} (F : Fun K "even" "Way.even" s_Way_even f fd) (T : Txt K mg Z) (G_check_number_within : Cal P w K mg base 3 "check_number_within" (SpD Z K S_check_number_within)) (M_Way : Mak P w K mg base 5 "Way" (Z 13) (SpI Z K 13 S_Way_init)) : FnR P w K mg base (L2.CX P w) 7 f (SpD Z K S_Way_even) := by
  refine fnR_of (fd := fd) (ps := ["cls", "capacity", "count", "oil", "steps"]) (F.okX sc_Way_even (fun vs H Q E h => def_len (Z := Z.m) (N := n_Way_even) h) (fun cdv A outer s H vs Q E hr h => ⟨_, (show QSs Z.m _ _ _ _ from (qss_cons (qs_expr (qe_call G_check_number_within hr (by omega) (passes_call (takes_of rfl rfl rfl rfl) (fun _ _ _ _ h => h)) (qa_cons (qe_name 2) (qa_cons (qe_c pe_int fun _ _ _ => .int _) (qa_cons (qe_c (v := .int 12) (pe_glob (by rfl) T.g_MOST_POSTS.choose_spec ⟨_, rfl⟩) fun _ _ _ => .int 12) qa_nil)))))
      (qss_cons (qs_setLc (own := [("_", 6)]) 5 (.nm 6) rfl sc_Way_even.nd rfl rfl (sw_true rfl rfl rfl (by decide +kernel)) (qi_range1 (by rfl) T.n_range (qe_name 2)) (blkOk_by (own := [("_", 6)]) (N := n_Way_even) (sc := defScope s_Way_even) (by decide +kernel)) (fun _ _ _ _ _ => (pg_name (i := 6) sc_Way_even.nd rfl (Or.inl rfl))) (fun _ _ _ _ _ => qts_nil) (fun _ _ _ _ _ => (qe_tup (qa_cons (qe_name 3) (qa_cons (qe_name 4) qa_nil)))) (by decide))
      (qss_one (qs_ret (qe_makLS 0 M_Way hr (by omega) (passes_call (takes_of rfl rfl rfl rfl) (fun _ _ _ _ h => h)) (qa_cons (qe_name 1) (qa_star (qb_of (qe_name 5)) qa_nil)))))))), def_rd (Z := Z.m) (by decide) (by decide) h⟩)) (F.binds (ps := ["cls", "capacity", "count", "oil", "steps"]) fun _ _ _ _ _ _ us hl => match us, hl with | [_, _, _, _, _], _ => rfl)
end
end K07
namespace K07
open PySem PySem.Spec PyProof.Rows L2 Oil
section
variable {P : Program} {w : World} {K : PySem.W.Frag} {mg : Str → Option Value} {base : Heap} {Z : ZG}
theorem ok_check_post {f : Addr} {fd : FuncData} (F : Fun K "check_post" "check_post" s_check_post f fd) (T : Txt K mg Z) (G_is_number_within : Cal P w K mg base 2 "is_number_within" (SpD Z K S_is_number_within)) : FnR P w K mg base (L2.CX P w) 3 f (SpD Z K S_check_post) := by
  refine fnR_of (fd := fd) (ps := ["value", "many"]) (F.okX sc_check_post (fun vs H Q E h => def_len (Z := Z.m) (N := n_check_post) h) (fun cdv A outer s H vs Q E hr h => ⟨_, (show QSs Z.m _ _ _ _ from (qss_one (qs_if (qt_not (qt_val (qe_call G_is_number_within hr (by omega) (passes_call (takes_of rfl rfl rfl rfl) (fun _ _ _ _ h => h)) (qa_cons (qe_name 0) (qa_cons (qe_c pe_int fun _ _ _ => .int _) (qa_cons (qe_op op_sub ops_sub (qb_of (qe_name 1)) (qb_of (qe_c pe_int fun _ _ _ => .int _))) qa_nil)))))) (qss_one (qs_raise (c := 2) rfl (takes_of rfl rfl rfl rfl) (pmk_own PySem.F.excBase_ValueError T.x_UnknownPost T.g_UnknownPost T.k_UnknownPost (raises_own T.b_UnknownPost T.t_UnknownPost) rfl))) qss_nil))), def_rd (Z := Z.m) (by decide) (by decide) h⟩)) (F.binds (ps := ["value", "many"]) fun _ _ _ _ _ _ us hl => match us, hl with | [_, _], _ => rfl)
end
end K07
namespace K07
open PySem PySem.Spec PyProof.Rows L2 Oil
section
variable {P : Program} {w : World} {K : PySem.W.Frag} {mg : Str → Option Value} {base : Heap} {Z : ZG}
theorem ok_Way_with_post {f : Addr} {fd : FuncData} (F : Fun K "with_post" "Way.with_post" s_Way_with_post f fd) (T : Txt K mg Z) (G_check_post : Cal P w K mg base 3 "check_post" (SpD Z K S_check_post)) (M_Way : Mak P w K mg base 5 "Way" (Z 13) (SpI Z K 13 S_Way_init)) : FnR P w K mg base (L2.CX P w) 7 f (SpD Z K S_Way_with_post) := by
  refine fnR_of (fd := fd) (ps := ["self", "post", "oil", "steps"]) (F.okX sc_Way_with_post (fun vs H Q E h => def_len (Z := Z.m) (N := n_Way_with_post) h) (fun cdv A outer s H vs Q E hr h => ⟨_, (show QSs Z.m _ _ _ _ from (qss_cons (qs_expr (qe_call G_check_post hr (by omega) (passes_call (takes_of rfl rfl rfl rfl) (fun _ _ _ _ h => h)) (qa_cons (qe_name 1) (qa_cons (qe_cb call_ln cbs_len (by rfl) T.n_len (by decide +kernel) (qab_cons (qb_of (qe_fld (c := 13) T.o_Way.cl T.na_Way__posts (qe_name 0))) qab_nil)) qa_nil))))
      (qss_cons (qs_setO 4 sc_Way_with_post.nd rfl (Or.inl rfl) (qf_list (by rfl) T.n_list (by decide +kernel) (qab_cons (qb_of (qe_fld (c := 13) T.o_Way.cl T.na_Way__posts (qe_name 0))) qab_nil)))
      (qss_cons (qs_put 4 rfl (Or.inl rfl) (qe_name 1) (qe_tup (qa_cons (qe_name 2) (qa_cons (qe_name 3) qa_nil))))
      (qss_one (qs_ret (qe_makeS M_Way hr (by omega) (passes_call (takes_of rfl rfl rfl rfl) (fun _ _ _ _ h => h)) (qa_cons (qe_fld (c := 13) T.o_Way.cl T.na_Way__capacity (qe_name 0)) (qa_star (qb_own 4) qa_nil))))))))), def_rd (Z := Z.m) (by decide) (by decide) h⟩)) (F.binds (ps := ["self", "post", "oil", "steps"]) fun _ _ _ _ _ _ us hl => match us, hl with | [_, _, _, _], _ => rfl)
end
end K07
namespace K07
open PySem PySem.Spec PyProof.Rows L2 Oil
section
variable {P : Program} {w : World} {K : PySem.W.Frag} {mg : Str → Option Value} {base : Heap} {Z : ZG}
theorem ok_law_made {f : Addr} {fd : FuncData} (F : Fun K "_law_made" "_law_made" s_law_made f fd) (T : Txt K mg Z) (K_Way_even : Cmt P w K mg base 7 (Z 13) "even" (SpD Z K S_Way_even)) (D_Way_with_post : Met P w K mg base 7 (Z 13) "with_post" (SpD Z K S_Way_with_post)) : FnR P w K mg base (L2.CX P w) 8 f (SpD Z K S_law_made) := by
  refine fnR_of (fd := fd) (ps := ["_law_capacity", "_law_rows_here"]) (F.okX sc_law_made (fun vs H Q E h => def_len (Z := Z.m) (N := n_law_made) h) (fun cdv A outer s H vs Q E hr h => ⟨_, (show QSs Z.m _ _ _ _ from (qss_cons (qs_set 2 sc_law_made.nd rfl (Or.inl rfl) (qe_cmeth (qe_c (v := .ref (Z 13)) (pe_glob (by rfl) T.g_Way rfl) fun _ _ _ => .cls 13) K_Way_even hr (by omega) (passes_call (takes_of rfl rfl rfl rfl) (fun _ _ _ _ h => h)) (qa_cons (qe_name 0) (qa_cons (qe_cb call_ln cbs_len (by rfl) T.n_len (by decide +kernel) (qab_cons (qb_of (qe_name 1)) qab_nil)) (qa_cons (qe_c pe_int fun _ _ _ => .int _) (qa_cons (qe_c pe_int fun _ _ _ => .int _) qa_nil))))))
      (qss_cons (qs_for (.nm 3) (passes_of rfl) rfl (qi_range1 (by rfl) T.n_range (qe_cb call_ln cbs_len (by rfl) T.n_len (by decide +kernel) (qab_cons (qb_of (qe_name 1)) qab_nil))) (pg_name (i := 3) sc_law_made.nd rfl (Or.inl rfl)) (qss_one (qs_set 2 sc_law_made.nd rfl (Or.inl rfl) (qe_meth (qe_name 2) D_Way_with_post hr (by omega) (passes_call (takes_of rfl rfl rfl rfl) (fun _ _ _ _ h => h)) (qa_cons (qe_name 3) (qa_cons (qe_ix (ix_any rfl) ops_ix (qb_of (qe_ix (ix_any rfl) ops_ix (qb_of (qe_name 1)) (qb_of (qe_name 3)) (fun _ _ => rfl))) (qb_of (qe_c pe_int fun _ _ _ => .int _)) (fun _ _ => rfl)) (qa_cons (qe_ix (ix_any rfl) ops_ix (qb_of (qe_ix (ix_any rfl) ops_ix (qb_of (qe_name 1)) (qb_of (qe_name 3)) (fun _ _ => rfl))) (qb_of (qe_c pe_int fun _ _ _ => .int _)) (fun _ _ => rfl)) qa_nil)))))))
      (qss_one (qs_ret (qe_name 2)))))), def_rd (Z := Z.m) (by decide) (by decide) h⟩)) (F.binds (ps := ["_law_capacity", "_law_rows_here"]) fun _ _ _ _ _ _ us hl => match us, hl with | [_, _], _ => rfl)
end
end K07
namespace K07
open PySem PySem.Spec PyProof.Rows L2 Oil
section
variable {P : Program} {w : World} {K : PySem.W.Frag} {mg : Str → Option Value} {base : Heap} {Z : ZG}
local macro_rules | `(tactic| walk_at "kn") => `(tactic| first | exact Kn.non | exact Kn.int _ | exact Kn.bl _ | exact Kn.str _ | exact Kn.tup (by assumption) | exact Kn.lst (by assumption) | assumption)
local macro_rules | `(tactic| walk_at "rd1") => `(tactic| with_reducible first
  | refine f_seq ?_ | refine f_next ?_ | refine f_drop ?_ | refine f_ret ?_ | refine f_retN ?_ | refine f_asg ?_ | refine f_par ?_
  | refine r_var rfl ?_ | refine r_c ?_ | refine r_nx ?_ | refine r_rt ?_ | refine r_ct ?_ | refine r_bk ?_ | refine r_cons ?_ | refine r_nil ?_ | refine r_seq ?_ | refine r_next ?_
  | refine r_op ?_ | refine r_I0 ?_ | refine r_asg ?_ | refine r_gname ?_ | refine r_ret ?_ | refine r_ifS ?_ | refine r_test ?_ | refine r_bl ?_ | refine r_blQ ?_ | refine r_B ?_
  | refine r_and ?_ | refine r_or ?_ | refine r_not ?_ | refine r_andV ?_ | refine r_orV ?_ | refine r_notV ?_ | refine r_if ?_ | refine r_chain ?_ | refine r_cb ?_
  | refine r_cal ?_ | refine r_mak ?_ | refine r_prp ?_ | refine r_mt ?_ | refine r_cmt ?_ | refine r_clo ?_ | refine r_fld ?_ | refine r_sfld ?_ | refine r_par ?_ | refine r_par2 ?_
  | refine r_tup ?_ | refine r_lst ?_ | refine r_un ?_ | refine r_drop ?_ | refine r_retN ?_ | refine r_isn ?_ | refine r_notn ?_ | refine r_U ?_
  | refine r_sp1 ?_ | refine r_sp2 ?_ | refine r_sp3 ?_ | refine r_sp4 ?_ | refine r_sp5 ?_ | refine r_eq rfl ?_ | refine r_ne rfl ?_ | refine r_makL rfl ?_ | refine r_odd ?_ | refine r_rfl ?_ | refine r_max2 ?_ | refine r_min2 ?_ | refine r_int1 ?_ | refine r_int1b ?_ | refine r_truI ?_ | refine r_truB ?_ | refine r_truN ?_ | refine r_tru ?_ | refine r_truR ?_ | refine r_for ?_ | refine r_ilist ?_ | refine r_itup ?_ | refine r_irng1 ?_ | refine r_irng2 ?_ | refine r_gsub ?_ | refine r_bm ?_ | refine r_lc ?_ | refine r_yes ?_)
local macro_rules | `(tactic| walk_at "rd2") => `(tactic| first | (with_reducible refine r_T rfl ?_) | (with_reducible refine r_F rfl ?_) | (with_reducible refine r_T ?_ ?_; (rfl)) | (with_reducible refine r_F ?_ ?_; (rfl)))
local macro_rules | `(tactic| walk_at "rd3") => `(tactic| first | ((with_reducible refine r_isiT (T := ?_) ?_ ?_ ?_); rotate_left; (walk_at "kn"); (decide +kernel)) | ((with_reducible refine r_isiF (T := ?_) ?_ ?_ ?_); rotate_left; (walk_at "kn"); (decide +kernel)))
local macro_rules | `(tactic| walk_at "rd") => `(tactic| repeat (first | walk_at "rd1" | walk_at "rd2" | walk_at "rd3" | walk_at "rdx"))

theorem ok_law_next {f : Addr} {fd : FuncData} (F : Fun K "_law_next" "_law_next" s_law_next f fd) (T : Txt K mg Z) : FnR P w K mg base (L2.CX P w) 2 f (SpD Z K S_next) := by
  have R : FnR P w K mg base (L2.CX P w) 2 f (Sp2 (q_next K)) := by
    refine fnR_of (fd := fd) (ps := ["_law_dice_here", "_law_many"]) (F.okX sc_law_next (fun vs H Q E h => ?_) (fun cdv A outer s H vs Q E hr h => ?_)) (F.binds (ps := ["_law_dice_here", "_law_many"]) fun _ _ _ _ _ _ us hl => match us, hl with | [_, _], _ => rfl)
    · obtain ⟨_, _, rfl, _⟩ := h
      rfl
    · obtain ⟨v0, v1, rfl, h⟩ := h
      refine ⟨_, (pss_cons (ps_if (pt_cmpR op_gt (pe_ix ix_list (pv 0) pe_int (fun _ _ => rfl)) pe_int (nomark _)) (pss_cons (ps_set (i := 2) sc_law_next.nd rfl (Or.inl rfl) (pe_op op_modN (pe_callTy call_in (by rfl) T.n_int (by decide +kernel) (pa_cons (pe_ix ix_list (pv 0) pe_int (fun _ _ => rfl)) pa_nil)) (pv 1)))
      (pss_cons (ps_asg (pe_op op_fdivW (pe_ix ix_list (pv 0) pe_int (fun _ _ => rfl)) (pv 1)) (pg_sub (pv 0) pe_int set_list))
      (pss_one (ps_ret (pv 2))))) pss_nil)
      (pss_cons (ps_asg (pe_op op_add (pe_ix ix_list (pv 0) pe_int (fun _ _ => rfl)) pe_int) (pg_sub (pv 0) pe_int set_list))
      (pss_cons (ps_if (pt_cmpR op_le (pe_ix ix_list (pv 0) pe_int (fun _ _ => rfl)) (pe_callB call_ln (by rfl) T.n_len (by decide +kernel) (pa_cons (pe_ix ix_list (pv 0) pe_int (fun _ _ => rfl)) pa_nil)) (nomark _)) (pss_cons (ps_set (i := 3) sc_law_next.nd rfl (Or.inl rfl) (pe_ix ix_list (pe_ix ix_list (pv 0) pe_int (fun _ _ => rfl)) (pe_op op_sub (pe_ix ix_list (pv 0) pe_int (fun _ _ => rfl)) pe_int) (fun _ _ => rfl)))
      (pss_cons (ps_asg (pe_ifExp (pt_cmpR op_ge (pv 3) (pe_op op_pow pe_int pe_int) (nomark _)) (pe_op op_fdivW (pv 3) (pv 1)) pe_int) (pg_sub (pv 0) pe_int set_list))
      (pss_one (ps_ret (pe_op op_modN (pe_callTy call_in (by rfl) T.n_int (by decide +kernel) (pa_cons (pv 3) pa_nil)) (pv 1)))))) pss_nil)
      (pss_cons (ps_asg (pe_op op_modN (pe_callTy call_in (by rfl) T.n_int (by decide +kernel) (pa_cons (pe_op op_mulW (pe_ix ix_list (pv 0) pe_int (fun _ _ => rfl)) pe_int) pa_nil)) pe_int) (pg_sub (pv 0) pe_int set_list))
      (pss_one (ps_ret (pe_op op_modN (pe_callTy call_in (by rfl) T.n_int (by decide +kernel) (pa_cons (pe_op op_fdivW (pe_ix ix_list (pv 0) pe_int (fun _ _ => rfl)) pe_int) pa_nil)) (pv 1)))))))), ?_⟩
      obtain ⟨d, n, rfl, rfl, n0, n1, hD, q⟩ := h
      obtain ⟨sa, ns, p, m, c, hd, p0, m0, m1, hl, hS⟩ := hD.ex
      have fm : ∀ x : Int, 0 ≤ x.fmod n ∧ x.fmod n < n := fun x => by
        have b1 := Int.fmod_eq_emod_of_nonneg x (Int.le_of_lt n0)
        have b2 := Int.emod_nonneg x (Int.ne_of_gt n0)
        have b3 := Int.emod_lt_of_pos x n0
        omega
      have nn : n ≠ 0 := Int.ne_of_gt n0
      have nb : n.natAbs < 2 ^ 100 := by omega
      walk_at "rd"
      refine r_ixL (SqL.of hd) rfl ?_
      walk_at "rd"
      refine r_by (fun e => ?_) (fun e => ?_)
      · walk_at "rd"
        refine r_ixL (SqL.of hd) rfl ?_
        walk_at "rd"
        refine r_I nn ?_
        walk_at "rd"
        refine r_ixL (SqL.of hd) rfl ?_
        walk_at "rd"
        refine r_I (wide_div n0 nb (by decide) (by decide)) ?_
        walk_at "rd"
        refine r_setL hd rfl ?_
        walk_at "rd"
        exact q _ _ (fm _).1 (fm _).2 (Dice.put hd p0 m0 m1 hl hS)
      · walk_at "rd"
        refine r_ixL (SqL.of hd) rfl ?_
        walk_at "rd"
        refine r_setL hd rfl ?_
        walk_at "rd"
        have h1 : upd H d (HO.lst (List.set [V.ref sa, V.int p, V.int m, V.int c] 1 (V.int (p + 1)))) d = some (.lst [.ref sa, .int (p + 1), .int m, .int c]) := upd_same
        have hS1 : SqL K (upd H d (HO.lst (List.set [V.ref sa, V.int p, V.int m, V.int c] 1 (V.int (p + 1))))) sa (ns.map V.int) := hS _
        refine r_ixL (SqL.of h1) rfl ?_
        walk_at "rd"
        refine r_ixL (SqL.of h1) rfl ?_
        walk_at "rd"
        refine ⟨sa, _, rfl, .inl hS1, ?_⟩
        walk_at "rd"
        refine r_by (fun e1 => ?_) (fun e1 => ?_)
        · have e2 := of_decide_eq_true e1
          rw [List.length_map] at e2
          walk_at "rd"
          refine r_ixL (SqL.of h1) rfl ?_
          walk_at "rd"
          refine r_ixL (SqL.of h1) rfl ?_
          walk_at "rd"
          obtain ⟨j, rfl⟩ := Int.eq_ofNat_of_zero_le p0
          have ej : (j : Int) + 1 - 1 = (j : Int) := by omega
          have hj : j < ns.length := by omega
          rw [ej]
          refine r_ixL hS1 (at_nat (v := .int ns[j]) (by rw [List.getElem?_map, List.getElem?_eq_getElem hj] <;> rfl)) ?_
          walk_at "rd"
          refine r_I ⟨by decide, by decide, by decide⟩ ?_
          walk_at "rd"
          refine r_by (fun e3 => ?_) (fun e3 => ?_)
          · walk_at "rd"
            refine r_I (wide_div n0 nb (by decide) (by decide)) ?_
            walk_at "rd"
            refine r_setL h1 rfl ?_
            walk_at "rd"
            refine r_I nn ?_
            walk_at "rd"
            rw [upd_upd]
            exact q _ _ (fm _).1 (fm _).2 (Dice.put hd (by omega) m0 m1 hl hS)
          · walk_at "rd"
            refine r_setL h1 rfl ?_
            walk_at "rd"
            refine r_I nn ?_
            walk_at "rd"
            rw [upd_upd]
            exact q _ _ (fm _).1 (fm _).2 (Dice.put hd (by omega) m0 m1 hl hS)
        · walk_at "rd"
          refine r_ixL (SqL.of h1) rfl ?_
          walk_at "rd"
          refine r_I (wide_mul (a := 32) (b := 20) (by omega) (by decide) (by decide) (by decide) (by decide)) ?_
          walk_at "rd"
          refine r_I (by decide) ?_
          walk_at "rd"
          refine r_setL h1 rfl ?_
          walk_at "rd"
          refine r_ixL (SqL.of (upd_same)) rfl ?_
          walk_at "rd"
          refine r_I (wide_div (b := 4) (by decide) (by decide) (by decide) (by decide)) ?_
          walk_at "rd"
          refine r_I nn ?_
          walk_at "rd"
          rw [upd_upd]
          have b3 := Int.fmod_eq_emod_of_nonneg (m * 48271) (show (0 : Int) ≤ 2147483647 by decide)
          exact q _ _ (fm _).1 (fm _).2 (Dice.put hd (by omega) (by omega) (by omega) hl hS)
  exact R.imp fun vs H Q E h => next_spd h
end
end K07
namespace K07
open PySem PySem.Spec PyProof.Rows L2 Oil
section
variable {P : Program} {w : World} {K : PySem.W.Frag} {mg : Str → Option Value} {base : Heap} {Z : ZG}
theorem ok_law_pick {f : Addr} {fd : FuncData} (F : Fun K "_law_pick" "_law_pick" s_law_pick f fd) (T : Txt K mg Z) (G_law_next : Cal P w K mg base 2 "_law_next" (SpD Z K S_next)) : FnR P w K mg base (L2.CX P w) 3 f (SpD Z K S_law_pick) := by
  refine fnR_of (fd := fd) (ps := ["_law_d", "_law_some"]) (F.okX sc_law_pick (fun vs H Q E h => def_len (Z := Z.m) (N := n_law_pick) h) (fun cdv A outer s H vs Q E hr h => ⟨_, (show QSs Z.m _ _ _ _ from (qss_one (qs_ret (qe_ix (ix_any rfl) ops_ix (qb_of (qe_name 1)) (qb_of (qe_call G_law_next hr (by omega) (passes_call (takes_of rfl rfl rfl rfl) (fun _ _ _ _ h => h)) (qa_cons (qe_name 0) (qa_cons (qe_cb call_ln cbs_len (by rfl) T.n_len (by decide +kernel) (qab_cons (qb_of (qe_name 1)) qab_nil)) qa_nil)))) (fun _ _ => rfl))))), def_rd (Z := Z.m) (by decide) (by decide) h⟩)) (F.binds (ps := ["_law_d", "_law_some"]) fun _ _ _ _ _ _ us hl => match us, hl with | [_, _], _ => rfl)
end
end K07
namespace K07
open PySem PySem.Spec PyProof.Rows L2 Oil
section
variable {P : Program} {w : World} {K : PySem.W.Frag} {mg : Str → Option Value} {base : Heap} {Z : ZG}
theorem ok_law_rows {f : Addr} {fd : FuncData} (F : Fun K "_law_rows" "_law_rows" s_law_rows f fd) (T : Txt K mg Z) (G_law_next : Cal P w K mg base 2 "_law_next" (SpD Z K S_next)) (G_law_pick : Cal P w K mg base 3 "_law_pick" (SpD Z K S_law_pick)) : FnR P w K mg base (L2.CX P w) 4 f (SpD Z K S_law_rows) := by
  refine fnR_of (fd := fd) (ps := ["_law_d"]) (F.okX sc_law_rows (fun vs H Q E h => def_len (Z := Z.m) (N := n_law_rows) h) (fun cdv A outer s H vs Q E hr h => ⟨_, (show QSs Z.m _ _ _ _ from (qss_cons (qs_setLcO (own := [("_law_k", 3)]) 1 (.nm 3) rfl sc_law_rows.nd rfl rfl (sw_true rfl rfl rfl (by decide +kernel)) (qi_range1 (by rfl) T.n_range (qe_op op_addU ops_add (qb_of (qe_c pe_int fun _ _ _ => .int _)) (qb_of (qe_call G_law_next hr (by omega) (passes_call (takes_of rfl rfl rfl rfl) (fun _ _ _ _ h => h)) (qa_cons (qe_name 0) (qa_cons (qe_c pe_int fun _ _ _ => .int _) qa_nil)))))) (blkOk_by (own := [("_law_k", 3)]) (N := n_law_rows) (sc := defScope s_law_rows) (by decide +kernel)) (fun _ _ _ _ _ => (pg_name (i := 3) sc_law_rows.nd rfl (Or.inl rfl))) (fun _ _ _ _ _ => qts_nil) (fun _ _ _ _ _ => (qe_tup (qa_cons (qe_call G_law_next hr (by omega) passL (qa_cons (qe_name 0) (qa_cons (qe_c pe_int fun _ _ _ => .int _) qa_nil))) (qa_cons (qe_op op_addU ops_add (qb_of (qe_c pe_int fun _ _ _ => .int _)) (qb_of (qe_call G_law_next hr (by omega) passL (qa_cons (qe_name 0) (qa_cons (qe_call G_law_pick hr (by omega) passL (qa_cons (qe_name 0) (qa_cons (qe_new (qf_lst (qa_cons (qe_c pe_int fun _ _ _ => .int _) (qa_cons (qe_c pe_int fun _ _ _ => .int _) qa_nil)))) qa_nil))) qa_nil))))) qa_nil)))) (by decide))
      (qss_cons (qs_if (qt_cmp (op_eqD hr.units) ops_eq (qb_of (qe_call G_law_next hr (by omega) (passes_call (takes_of rfl rfl rfl rfl) (fun _ _ _ _ h => h)) (qa_cons (qe_name 0) (qa_cons (qe_c pe_int fun _ _ _ => .int _) qa_nil)))) (qb_of (qe_c pe_int fun _ _ _ => .int _))) (qss_cons (qs_set 2 sc_law_rows.nd rfl (Or.inl rfl) (qe_cb (cr_sum rfl) cbs_sum (by rfl) T.n_sum (by decide +kernel) (qab_cons (qb_of (qe_new (qf_lc (own := [("_law_oil", 4), ("_law_steps", 5)]) (.tp [4, 5]) rfl sc_law_rows.nd (qi_own (qb_own 1)) (blkOk_by (own := [("_law_oil", 4), ("_law_steps", 5)]) (N := n_law_rows) (sc := defScope s_law_rows) (by decide +kernel)) (fun _ _ _ _ _ => (pg_tp (is := [4, 5]) rfl rfl (pgs_cons (pg_name (i := 4) sc_law_rows.nd rfl (Or.inl rfl)) (pgs_cons (pg_name (i := 5) sc_law_rows.nd rfl (Or.inl rfl)) pgs_nil)))) (fun _ _ _ _ _ => qts_nil) (fun _ _ _ _ _ => (qe_op op_sub ops_sub (qb_of (qe_name 5)) (qb_of (qe_name 4)))) (by decide)))) qab_nil)))
      (qss_one (qs_put 1 rfl (Or.inl rfl) (qe_c pe_int fun _ _ _ => .int _) (qe_tup (qa_cons (qe_op op_addU ops_add (qb_of (qe_ix (ix_any rfl) ops_ix (qb_of (qe_ix (ix_any rfl) ops_ix (qb_own 1) (qb_of (qe_c pe_int fun _ _ _ => .int _)) (fun _ _ => rfl))) (qb_of (qe_c pe_int fun _ _ _ => .int _)) (fun _ _ => rfl))) (qb_of (qe_cb (call_mx rfl) cbs_max2 (by rfl) T.n_max (by decide +kernel) (qab_cons (qb_of (qe_c pe_int fun _ _ _ => .int _)) (qab_cons (qb_of (qe_name 2)) qab_nil))))) (qa_cons (qe_ix (ix_any rfl) ops_ix (qb_of (qe_ix (ix_any rfl) ops_ix (qb_own 1) (qb_of (qe_c pe_int fun _ _ _ => .int _)) (fun _ _ => rfl))) (qb_of (qe_c pe_int fun _ _ _ => .int _)) (fun _ _ => rfl)) qa_nil)))))) qss_nil)
      (qss_one (qs_ret (qe_tup (qa_cons (qe_op op_addU ops_add (qb_of (qe_c pe_int fun _ _ _ => .int _)) (qb_of (qe_call G_law_next hr (by omega) (passes_call (takes_of rfl rfl rfl rfl) (fun _ _ _ _ h => h)) (qa_cons (qe_name 0) (qa_cons (qe_c pe_int fun _ _ _ => .int _) qa_nil))))) (qa_cons (qe_cty call_tu cbs_tuple (by rfl) T.n_tuple (by decide +kernel) (qab_cons (qb_own 1) qab_nil)) qa_nil)))))))), def_rd (Z := Z.m) (by decide) (by decide) h⟩)) (F.binds (ps := ["_law_d"]) fun _ _ _ _ _ _ us hl => match us, hl with | [_], _ => rfl)
end
end K07
namespace K07
open PySem PySem.Spec PyProof.Rows L2 Oil
section
variable {P : Program} {w : World} {K : PySem.W.Frag} {mg : Str → Option Value} {base : Heap} {Z : ZG}
theorem ok_law_leg {f : Addr} {fd : FuncData} (F : Fun K "_law_leg" "_law_leg" s_law_leg f fd) (T : Txt K mg Z) : FnR P w K mg base (L2.CX P w) 1 f (SpD Z K S_law_leg) := by
  refine fnR_of (fd := fd) (ps := ["_law_capacity", "_law_post", "_law_oil"]) (F.okX sc_law_leg (fun vs H Q E h => def_len (Z := Z.m) (N := n_law_leg) h) (fun cdv A outer s H vs Q E hr h => ⟨_, (show QSs Z.m _ _ _ _ from (qss_cons (qs_unp (.tp [3, 4]) (qe_name 1) (pg_tp (is := [3, 4]) rfl rfl (pgs_cons (pg_name (i := 3) sc_law_leg.nd rfl (Or.inl rfl)) (pgs_cons (pg_name (i := 4) sc_law_leg.nd rfl (Or.inl rfl)) pgs_nil))))
      (qss_cons (qs_set 5 sc_law_leg.nd rfl (Or.inl rfl) (qe_cb (call_mn rfl) cbs_min2 (by rfl) T.n_min (by decide +kernel) (qab_cons (qb_of (qe_name 0)) (qab_cons (qb_of (qe_op op_addU ops_add (qb_of (qe_name 2)) (qb_of (qe_name 3)))) qab_nil))))
      (qss_one (qs_ret (qe_if (qt_cmp op_ge ops_ge (qb_of (qe_name 5)) (qb_of (qe_name 4))) (qe_op op_sub ops_sub (qb_of (qe_name 5)) (qb_of (qe_name 4))) (qe_op op_sub ops_sub (qb_of (qe_op op_sub ops_sub (qb_of (qe_c pe_int fun _ _ _ => .int _)) (qb_of (qe_c pe_int fun _ _ _ => .int _)))) (qb_of (qe_name 5))))))))), def_rd (Z := Z.m) (by decide) (by decide) h⟩)) (F.binds (ps := ["_law_capacity", "_law_post", "_law_oil"]) fun _ _ _ _ _ _ us hl => match us, hl with | [_, _, _], _ => rfl)
end
end K07
namespace K07
open PySem PySem.Spec PyProof.Rows L2 Oil
section
variable {P : Program} {w : World} {K : PySem.W.Frag} {mg : Str → Option Value} {base : Heap} {Z : ZG}
theorem ok_law_walk {f : Addr} {fd : FuncData} (F : Fun K "_law_walk" "_law_walk" s_law_walk f fd) (T : Txt K mg Z) (G_law_leg : Cal P w K mg base 1 "_law_leg" (SpD Z K S_law_leg)) : FnR P w K mg base (L2.CX P w) 2 f (SpD Z K S_law_walk) := by
  refine fnR_of (fd := fd) (ps := ["_law_capacity", "_law_rows_here", "_law_post", "_law_oil", "_law_legs"]) (F.okX sc_law_walk (fun vs H Q E h => def_len (Z := Z.m) (N := n_law_walk) h) (fun cdv A outer s H vs Q E hr h => ⟨_, (show QSs Z.m _ _ _ _ from (qss_cons (qs_setO 5 sc_law_walk.nd rfl (Or.inl rfl) (qf_lst (qa_cons (qe_name 3) qa_nil)))
      (qss_cons (qs_for (.nm 6) (passes_of rfl) rfl (qi_range1 (by rfl) T.n_range (qe_name 4)) (pg_name (i := 6) sc_law_walk.nd rfl (Or.inl rfl)) (qss_one (qs_if (qt_cmp op_ge ops_ge (qb_of (qe_ix (ix_any rfl) ops_ix (qb_own 5) (qb_of (qe_neg (qe_c pe_int fun _ _ _ => .int _))) (fun _ _ => rfl))) (qb_of (qe_c pe_int fun _ _ _ => .int _))) (qss_one (qs_app 5 rfl (Or.inl rfl) (qe_call G_law_leg hr (by omega) (passes_call (takes_of rfl rfl rfl rfl) (fun _ _ _ _ h => h)) (qa_cons (qe_name 0) (qa_cons (qe_ix (ix_any rfl) ops_ix (qb_of (qe_name 1)) (qb_of (qe_op op_modN ops_mod (qb_of (qe_cty call_in cbs_int (by rfl) T.n_int (by decide +kernel) (qab_cons (qb_of (qe_op op_addU ops_add (qb_of (qe_name 2)) (qb_of (qe_name 6)))) qab_nil))) (qb_of (qe_cb call_ln cbs_len (by rfl) T.n_len (by decide +kernel) (qab_cons (qb_of (qe_name 1)) qab_nil))))) (fun _ _ => rfl)) (qa_cons (qe_ix (ix_any rfl) ops_ix (qb_own 5) (qb_of (qe_neg (qe_c pe_int fun _ _ _ => .int _))) (fun _ _ => rfl)) qa_nil)))))) qss_nil)))
      (qss_one (qs_frz 5 (qs_ret (qe_name 5))))))), def_rd (Z := Z.m) (by decide) (by decide) h⟩)) (F.binds (ps := ["_law_capacity", "_law_rows_here", "_law_post", "_law_oil", "_law_legs"]) fun _ _ _ _ _ _ us hl => match us, hl with | [_, _, _, _, _], _ => rfl)
end
end K07
namespace K07
open PySem PySem.Spec PyProof.Rows L2 Oil
section
variable {P : Program} {w : World} {K : PySem.W.Frag} {mg : Str → Option Value} {base : Heap} {Z : ZG}
theorem ok_Way_getitem {f : Addr} {fd : FuncData} (F : Fun K "__getitem__" "Way.__getitem__" s_Way_getitem f fd) (T : Txt K mg Z) (G_check_post : Cal P w K mg base 3 "check_post" (SpD Z K S_check_post)) : FnR P w K mg base (L2.CX P w) 4 f (SpD Z K S_Way_getitem) := by
  refine fnR_of (fd := fd) (ps := ["self", "at"]) (F.okX sc_Way_getitem (fun vs H Q E h => def_len (Z := Z.m) (N := n_Way_getitem) h) (fun cdv A outer s H vs Q E hr h => ⟨_, (show QSs Z.m _ _ _ _ from (qss_cons (qs_expr (qe_call G_check_post hr (by omega) (passes_call (takes_of rfl rfl rfl rfl) (fun _ _ _ _ h => h)) (qa_cons (qe_name 1) (qa_cons (qe_cb call_ln cbs_len (by rfl) T.n_len (by decide +kernel) (qab_cons (qb_of (qe_fld (c := 13) T.o_Way.cl T.na_Way__posts (qe_name 0))) qab_nil)) qa_nil))))
      (qss_one (qs_ret (qe_ix (ix_any rfl) ops_ix (qb_of (qe_fld (c := 13) T.o_Way.cl T.na_Way__posts (qe_name 0))) (qb_of (qe_name 1)) (fun _ _ => rfl)))))), def_rd (Z := Z.m) (by decide) (by decide) h⟩)) (F.binds (ps := ["self", "at"]) fun _ _ _ _ _ _ us hl => match us, hl with | [_, _], _ => rfl)
end
end K07
namespace K07
open PySem PySem.Spec PyProof.Rows L2 Oil
section
variable {P : Program} {w : World} {K : PySem.W.Frag} {mg : Str → Option Value} {base : Heap} {Z : ZG}
theorem ok_Way_capacity {f : Addr} {fd : FuncData} (F : Fun K "capacity" "Way.capacity" s_Way_capacity f fd) (T : Txt K mg Z) : FnR P w K mg base (L2.CX P w) 1 f (SpD Z K S_Way_capacity) := by
  refine fnR_of (fd := fd) (ps := ["self"]) (F.okX sc_Way_capacity (fun vs H Q E h => def_len (Z := Z.m) (N := n_Way_capacity) h) (fun cdv A outer s H vs Q E hr h => ⟨_, (show QSs Z.m _ _ _ _ from (qss_one (qs_ret (qe_fld (c := 13) T.o_Way.cl T.na_Way__capacity (qe_name 0))))), def_rd (Z := Z.m) (by decide) (by decide) h⟩)) (F.binds (ps := ["self"]) fun _ _ _ _ _ _ us hl => match us, hl with | [_], _ => rfl)
end
end K07
namespace K07
open PySem PySem.Spec PyProof.Rows L2 Oil
section
variable {P : Program} {w : World} {K : PySem.W.Frag} {mg : Str → Option Value} {base : Heap} {Z : ZG}
theorem ok_taken {f : Addr} {fd : FuncData} (F : Fun K "taken" "taken" s_taken f fd) (T : Txt K mg Z) (X_Way : GetO P w K mg base 4 (Z 13) (SpD Z K S_Way_getitem)) (P_Way_capacity : Prp P w K mg base 1 (Z 13) "capacity" (SpD Z K S_Way_capacity)) : FnR P w K mg base (L2.CX P w) 6 f (SpD Z K S_taken) := by
  refine fnR_of (fd := fd) (ps := ["way", "post", "oil"]) (F.okX sc_taken (fun vs H Q E h => def_len (Z := Z.m) (N := n_taken) h) (fun cdv A outer s H vs Q E hr h => ⟨_, (show QSs Z.m _ _ _ _ from (qss_one (qs_ret (qe_cb (call_mn rfl) cbs_min2 (by rfl) T.n_min (by decide +kernel) (qab_cons (qb_of (qe_prop (qe_name 0) P_Way_capacity hr (by omega))) (qab_cons (qb_of (qe_op op_addU ops_add (qb_of (qe_name 2)) (qb_of (qe_ix (ix_any rfl) ops_ix (qb_of (qe_get X_Way hr (by omega) (passes_call (takes_of rfl rfl rfl rfl) (fun _ _ _ _ h => h)) (qe_name 0) (qe_name 1) (fun _ _ => rfl))) (qb_of (qe_c pe_int fun _ _ _ => .int _)) (fun _ _ => rfl))))) qab_nil)))))), def_rd (Z := Z.m) (by decide) (by decide) h⟩)) (F.binds (ps := ["way", "post", "oil"]) fun _ _ _ _ _ _ us hl => match us, hl with | [_, _, _], _ => rfl)
end
end K07
namespace K07
open PySem PySem.Spec PyProof.Rows L2 Oil
section
variable {P : Program} {w : World} {K : PySem.W.Frag} {mg : Str → Option Value} {base : Heap} {Z : ZG}
theorem ok_after_leg {f : Addr} {fd : FuncData} (F : Fun K "after_leg" "after_leg" s_after_leg f fd) (T : Txt K mg Z) (G_taken : Cal P w K mg base 6 "taken" (SpD Z K S_taken)) (X_Way : GetO P w K mg base 4 (Z 13) (SpD Z K S_Way_getitem)) : FnR P w K mg base (L2.CX P w) 7 f (SpD Z K S_after_leg) := by
  refine fnR_of (fd := fd) (ps := ["way", "post", "oil"]) (F.okX sc_after_leg (fun vs H Q E h => def_len (Z := Z.m) (N := n_after_leg) h) (fun cdv A outer s H vs Q E hr h => ⟨_, (show QSs Z.m _ _ _ _ from (qss_cons (qs_set 3 sc_after_leg.nd rfl (Or.inl rfl) (qe_call G_taken hr (by omega) (passes_call (takes_of rfl rfl rfl rfl) (fun _ _ _ _ h => h)) (qa_cons (qe_name 0) (qa_cons (qe_name 1) (qa_cons (qe_name 2) qa_nil)))))
      (qss_cons (qs_set 4 sc_after_leg.nd rfl (Or.inl rfl) (qe_ix (ix_any rfl) ops_ix (qb_of (qe_get X_Way hr (by omega) (passes_call (takes_of rfl rfl rfl rfl) (fun _ _ _ _ h => h)) (qe_name 0) (qe_name 1) (fun _ _ => rfl))) (qb_of (qe_c pe_int fun _ _ _ => .int _)) (fun _ _ => rfl)))
      (qss_one (qs_ret (qe_if (qt_cmp op_lt ops_lt (qb_of (qe_name 3)) (qb_of (qe_name 4))) (qe_c pe_non fun _ _ _ => .non) (qe_op op_sub ops_sub (qb_of (qe_name 3)) (qb_of (qe_name 4))))))))), def_rd (Z := Z.m) (by decide) (by decide) h⟩)) (F.binds (ps := ["way", "post", "oil"]) fun _ _ _ _ _ _ us hl => match us, hl with | [_, _, _], _ => rfl)
end
end K07
namespace K07
open PySem PySem.Spec PyProof.Rows L2 Oil
section
variable {P : Program} {w : World} {K : PySem.W.Frag} {mg : Str → Option Value} {base : Heap} {Z : ZG}
theorem ok_Way_len {f : Addr} {fd : FuncData} (F : Fun K "__len__" "Way.__len__" s_Way_len f fd) (T : Txt K mg Z) : FnR P w K mg base (L2.CX P w) 1 f (SpD Z K S_Way_len) := by
  refine fnR_of (fd := fd) (ps := ["self"]) (F.okX sc_Way_len (fun vs H Q E h => def_len (Z := Z.m) (N := n_Way_len) h) (fun cdv A outer s H vs Q E hr h => ⟨_, (show QSs Z.m _ _ _ _ from (qss_one (qs_ret (qe_cb call_ln cbs_len (by rfl) T.n_len (by decide +kernel) (qab_cons (qb_of (qe_fld (c := 13) T.o_Way.cl T.na_Way__posts (qe_name 0))) qab_nil))))), def_rd (Z := Z.m) (by decide) (by decide) h⟩)) (F.binds (ps := ["self"]) fun _ _ _ _ _ _ us hl => match us, hl with | [_], _ => rfl)
end
end K07
namespace K07
open PySem PySem.Spec PyProof.Rows L2 Oil
section
variable {P : Program} {w : World} {K : PySem.W.Frag} {mg : Str → Option Value} {base : Heap} {Z : ZG}
theorem ok_check_start {f : Addr} {fd : FuncData} (F : Fun K "check_start" "check_start" s_check_start f fd) (T : Txt K mg Z) (G_check_number_within : Cal P w K mg base 3 "check_number_within" (SpD Z K S_check_number_within)) (G_check_post : Cal P w K mg base 3 "check_post" (SpD Z K S_check_post)) (L_Way : LenO P w K mg base 1 (Z 13) (SpD Z K S_Way_len)) (P_Way_capacity : Prp P w K mg base 1 (Z 13) "capacity" (SpD Z K S_Way_capacity)) : FnR P w K mg base (L2.CX P w) 4 f (SpD Z K S_check_start) := by
  refine fnR_of (fd := fd) (ps := ["way", "post", "oil"]) (F.okX sc_check_start (fun vs H Q E h => def_len (Z := Z.m) (N := n_check_start) h) (fun cdv A outer s H vs Q E hr h => ⟨_, (show QSs Z.m _ _ _ _ from (qss_cons (qs_expr (qe_call G_check_post hr (by omega) (passes_call (takes_of rfl rfl rfl rfl) (fun _ _ _ _ h => h)) (qa_cons (qe_name 1) (qa_cons (qe_lenO L_Way hr (by omega) (passes_call (takes_of rfl rfl rfl rfl) (fun _ _ _ _ h => h)) (by rfl) T.n_len (by decide +kernel) (qe_name 0)) qa_nil))))
      (qss_one (qs_expr (qe_call G_check_number_within hr (by omega) (passes_call (takes_of rfl rfl rfl rfl) (fun _ _ _ _ h => h)) (qa_cons (qe_name 2) (qa_cons (qe_c pe_int fun _ _ _ => .int _) (qa_cons (qe_prop (qe_name 0) P_Way_capacity hr (by omega)) qa_nil)))))))), def_rd (Z := Z.m) (by decide) (by decide) h⟩)) (F.binds (ps := ["way", "post", "oil"]) fun _ _ _ _ _ _ us hl => match us, hl with | [_, _, _], _ => rfl)
end
end K07
namespace K07
open PySem PySem.Spec PyProof.Rows L2 Oil
section
variable {P : Program} {w : World} {K : PySem.W.Frag} {mg : Str → Option Value} {base : Heap} {Z : ZG}
theorem ok_first_unlike {f : Addr} {fd : FuncData} (F : Fun K "first_unlike" "first_unlike" s_first_unlike f fd) (T : Txt K mg Z) (G_after_leg : Cal P w K mg base 7 "after_leg" (SpD Z K S_after_leg)) (G_check_start : Cal P w K mg base 4 "check_start" (SpD Z K S_check_start)) (L_Way : LenO P w K mg base 1 (Z 13) (SpD Z K S_Way_len)) : FnR P w K mg base (L2.CX P w) 8 f (SpD Z K S_first_unlike) := by
  refine fnR_of (fd := fd) (ps := ["way", "other", "post", "oil"]) (F.okX sc_first_unlike (fun vs H Q E h => def_len (Z := Z.m) (N := n_first_unlike) h) (fun cdv A outer s H vs Q E hr h => ⟨_, (show QSs Z.m _ _ _ _ from (qss_cons (qs_expr (qe_call G_check_start hr (by omega) (passes_call (takes_of rfl rfl rfl rfl) (fun _ _ _ _ h => h)) (qa_cons (qe_name 0) (qa_cons (qe_name 2) (qa_cons (qe_name 3) qa_nil)))))
      (qss_cons (qs_expr (qe_call G_check_start hr (by omega) (passes_call (takes_of rfl rfl rfl rfl) (fun _ _ _ _ h => h)) (qa_cons (qe_name 1) (qa_cons (qe_name 2) (qa_cons (qe_name 3) qa_nil)))))
      (qss_cons (qs_unp2 (.nm 4) (.nm 5) (qe_name 2) (pg_name (i := 4) sc_first_unlike.nd rfl (Or.inl rfl)) (pg_name (i := 5) sc_first_unlike.nd rfl (Or.inl rfl)))
      (qss_cons (qs_unp2 (.nm 6) (.nm 7) (qe_name 3) (pg_name (i := 6) sc_first_unlike.nd rfl (Or.inl rfl)) (pg_name (i := 7) sc_first_unlike.nd rfl (Or.inl rfl)))
      (qss_cons (qs_for (.nm 8) (passes_of rfl) rfl (qi_range1 (by rfl) T.n_range (qe_c (v := .int 2000) (pe_glob (by rfl) T.g_MOST_LEGS_COMPARED.choose_spec ⟨_, rfl⟩) fun _ _ _ => .int 2000)) (pg_name (i := 8) sc_first_unlike.nd rfl (Or.inl rfl)) (qss_cons (qs_set 6 sc_first_unlike.nd rfl (Or.inl rfl) (qe_call G_after_leg hr (by omega) (passes_call (takes_of rfl rfl rfl rfl) (fun _ _ _ _ h => h)) (qa_cons (qe_name 0) (qa_cons (qe_name 4) (qa_cons (qe_name 6) qa_nil)))))
      (qss_cons (qs_set 7 sc_first_unlike.nd rfl (Or.inl rfl) (qe_call G_after_leg hr (by omega) (passes_call (takes_of rfl rfl rfl rfl) (fun _ _ _ _ h => h)) (qa_cons (qe_name 1) (qa_cons (qe_name 5) (qa_cons (qe_name 7) qa_nil)))))
      (qss_cons (qs_if (qt_cmp (op_neD hr.units) ops_ne (qb_of (qe_name 6)) (qb_of (qe_name 7))) (qss_one (qs_ret (qe_op op_addU ops_add (qb_of (qe_name 8)) (qb_of (qe_c pe_int fun _ _ _ => .int _))))) qss_nil)
      (qss_cons (qs_if (qt_cmp op_isN1 ops_is (qb_of (qe_name 6)) (qb_of (qe_c pe_non fun _ _ _ => .non))) (qss_one (qs_ret (qe_c pe_non fun _ _ _ => .non))) qss_nil)
      (qss_cons (qs_set 4 sc_first_unlike.nd rfl (Or.inl rfl) (qe_op op_modN ops_mod (qb_of (qe_cty call_in cbs_int (by rfl) T.n_int (by decide +kernel) (qab_cons (qb_of (qe_op op_addU ops_add (qb_of (qe_name 4)) (qb_of (qe_c pe_int fun _ _ _ => .int _)))) qab_nil))) (qb_of (qe_lenO L_Way hr (by omega) (passes_call (takes_of rfl rfl rfl rfl) (fun _ _ _ _ h => h)) (by rfl) T.n_len (by decide +kernel) (qe_name 0)))))
      (qss_one (qs_set 5 sc_first_unlike.nd rfl (Or.inl rfl) (qe_op op_modN ops_mod (qb_of (qe_cty call_in cbs_int (by rfl) T.n_int (by decide +kernel) (qab_cons (qb_of (qe_op op_addU ops_add (qb_of (qe_name 5)) (qb_of (qe_c pe_int fun _ _ _ => .int _)))) qab_nil))) (qb_of (qe_lenO L_Way hr (by omega) (passes_call (takes_of rfl rfl rfl rfl) (fun _ _ _ _ h => h)) (by rfl) T.n_len (by decide +kernel) (qe_name 1))))))))))))
      (qss_one (qs_ret (qe_c pe_non fun _ _ _ => .non))))))))), def_rd (Z := Z.m) (by decide) (by decide) h⟩)) (F.binds (ps := ["way", "other", "post", "oil"]) fun _ _ _ _ _ _ us hl => match us, hl with | [_, _, _, _], _ => rfl)
end
end K07
namespace K07
open PySem PySem.Spec PyProof.Rows L2 Oil
section
variable {P : Program} {w : World} {K : PySem.W.Frag} {mg : Str → Option Value} {base : Heap} {Z : ZG}
theorem tel_law_told {f : Addr} {fd : FuncData} (F : Fun K "_law_told" "_law_told" s_law_told f fd) (hg : mg "_law_told" = some (.ref f)) (T : Txt K mg Z) : TelO P w K mg base "_law_told" (TTD Z K tell_law_told) := by
  obtain ⟨oc, od, kV, doc, pm, an, cdv, ct, osl, rfl, lk, hcd⟩ := F.ex
  refine ⟨f, "_law_work", _, _, _, kV, doc, pm, cdv, ct, oc, an, od, osl, n_law_told, hg, F.kp, lk, hcd, .all (fun us hl => match us, hl with | [_], _ => rfl), sc_law_told, rfl, Or.inl rfl, by decide, by decide, fun Y e1 e2 e3 e4 e5 => ?_⟩
  subst e1 e2 e3 e4 e5
  exact told_gives (m := 4) (i := 1) sc_law_told.nd rfl (by decide) rfl (fun _ => rfl) rfl rfl T.g_WalkError T.ec_law_told (fun s9 H9 a9 oe9 cls9 d9 pn9 hz hf => (show QSs (suZ Z a9 cls9 d9) _ _ _ _ from (qss_cons (qs_setO 2 sc_law_told.nd rfl (Or.inl rfl) (qf_lst (qa_cons (qe_isErr (X := (cxOf C8.CX0 Y.prog Y.w Y.K Y.mg Y.base n_law_told "_law_told" (defScope s_law_told) f cdv Y.A Y.stack s9 H9 C8.E0).nox) (a := a9) (pn := pn9) (c := 1) T.ec_law_told hz hf 1 (by decide) (by rfl) T.n_isinstance (by decide +kernel) rfl (Or.inl rfl) (by rfl) T.g_InvalidWay) (qa_cons (qe_isErr (X := (cxOf C8.CX0 Y.prog Y.w Y.K Y.mg Y.base n_law_told "_law_told" (defScope s_law_told) f cdv Y.A Y.stack s9 H9 C8.E0).nox) (a := a9) (pn := pn9) (c := 4) T.ec_law_told hz hf 1 (by decide) (by rfl) T.n_isinstance (by decide +kernel) rfl (Or.inl rfl) (by rfl) T.g_InvalidStretch) (qa_cons (qe_isErr (X := (cxOf C8.CX0 Y.prog Y.w Y.K Y.mg Y.base n_law_told "_law_told" (defScope s_law_told) f cdv Y.A Y.stack s9 H9 C8.E0).nox) (a := a9) (pn := pn9) (c := 2) T.ec_law_told hz hf 1 (by decide) (by rfl) T.n_isinstance (by decide +kernel) rfl (Or.inl rfl) (by rfl) T.g_UnknownPost) qa_nil)))))
      (qss_cons (qs_app 2 rfl (Or.inl rfl) (qe_isErr (X := (cxOf C8.CX0 Y.prog Y.w Y.K Y.mg Y.base n_law_told "_law_told" (defScope s_law_told) f cdv Y.A Y.stack s9 H9 C8.E0).nox) (a := a9) (pn := pn9) (c := 3) T.ec_law_told hz hf 1 (by decide) (by rfl) T.n_isinstance (by decide +kernel) rfl (Or.inl rfl) (by rfl) T.g_InvalidNumber))
      (qss_cons (qs_frz 2 (qs_set 3 sc_law_told.nd rfl (Or.inl rfl) (qe_if (qt_w (qw_and (qt_cmp op_eq ops_qi (qb_of (qe_lcnt (qb_own 2) (qe_c pe_bl fun _ _ _ => .bl _))) (qb_of (qe_c pe_int fun _ _ _ => .int _))) (qw_and1 (qt_val (qe_isVE (X := (cxOf C8.CX0 Y.prog Y.w Y.K Y.mg Y.base n_law_told "_law_told" (defScope s_law_told) f cdv Y.A Y.stack s9 H9 C8.E0).nox) (a := a9) (pn := pn9) T.ec_law_told hz hf 1 (by rfl) T.n_isinstance (by decide +kernel) rfl (Or.inl rfl) (by rfl) T.n_ValueError (by decide +kernel)))))) (qe_lidx (qb_own 2) (qe_c pe_bl fun _ _ _ => .bl _)) (qe_c pe_int fun _ _ _ => .int _))))
      (qss_cons (qs_if (qt_cmp op_eq ops_qi (qb_of (qe_name 3)) (qb_of (qe_c pe_int fun _ _ _ => .int _))) (qss_one (qs_ret (qe_tup (qa_cons (qe_c pe_str fun _ _ _ => .str _) (qa_cons (qe_c pe_str fun _ _ _ => .str _) (qa_cons (qe_new (qf_lst (qa_cons (qe_errFld (X := (cxOf C8.CX0 Y.prog Y.w Y.K Y.mg Y.base n_law_told "_law_told" (defScope s_law_told) f cdv Y.A Y.stack s9 H9 C8.E0).nox) (a := a9) (pn := pn9) (c := 1) T.xf_InvalidWay T.xn_InvalidWay_part hz hf 1 rfl (Or.inl rfl)) (qa_cons (qe_errFld (X := (cxOf C8.CX0 Y.prog Y.w Y.K Y.mg Y.base n_law_told "_law_told" (defScope s_law_told) f cdv Y.A Y.stack s9 H9 C8.E0).nox) (a := a9) (pn := pn9) (c := 1) T.xf_InvalidWay T.xn_InvalidWay_index hz hf 1 rfl (Or.inl rfl)) qa_nil)))) qa_nil)))))) qss_nil)
      (qss_cons (qs_if (qt_cmp op_eq ops_qi (qb_of (qe_name 3)) (qb_of (qe_c pe_int fun _ _ _ => .int _))) (qss_one (qs_ret (qe_tup (qa_cons (qe_c pe_str fun _ _ _ => .str _) (qa_cons (qe_c pe_str fun _ _ _ => .str _) (qa_cons (qe_new (qf_lst (qa_cons (qe_errFld (X := (cxOf C8.CX0 Y.prog Y.w Y.K Y.mg Y.base n_law_told "_law_told" (defScope s_law_told) f cdv Y.A Y.stack s9 H9 C8.E0).nox) (a := a9) (pn := pn9) (c := 4) T.xf_InvalidStretch T.xn_InvalidStretch_part hz hf 1 rfl (Or.inl rfl)) qa_nil))) qa_nil)))))) qss_nil)
      (qss_one (qs_ret (qe_tup (qa_cons (qe_c pe_str fun _ _ _ => .str _) (qa_cons (qe_ix (ix_any rfl) ops_ix (qb_of (qe_new (qf_lst (qa_cons (qe_c pe_str fun _ _ _ => .str _) (qa_cons (qe_c pe_str fun _ _ _ => .str _) (qa_cons (qe_c pe_str fun _ _ _ => .str _) qa_nil)))))) (qb_of (qe_op op_sub ops_sub (qb_of (qe_name 3)) (qb_of (qe_c pe_int fun _ _ _ => .int _)))) (fun _ _ => rfl)) qa_nil))))))))))))
end
end K07
namespace K07
open PySem PySem.Spec PyProof.Rows L2 Oil
/-- the law holds on every script -/
def lawSp (K : PySem.W.Frag) (Z : ZG) : Sp := Sp1 fun v H Q _ => ∃ (a : Addr) (ns : List Int), v = .ref a ∧ SqL K H a (ns.map V.int) ∧ ns.length ≤ 63 ∧ LamX.Tabs Z.tb H ∧ ∀ H1, Q (.bl true) H1
section
variable {P : Program} {w : World} {K : PySem.W.Frag} {mg : Str → Option Value} {base : Heap} {Z : ZG}

theorem ok_law {f : Addr} {fd : FuncData} (F : Fun K "law" "law" s_law f fd) (T : Txt K mg Z) {c9 Pt9 : Addr} (FC : FunC K "law" "law" s_law f fd c9) (TB9 : LamX.TabB base mg c9 Pt9) (hm9 : (Pt9, (envOfC "law" (defScope s_law) 0 0 .none).qual ++ "<lambda>") ∈ Z.tb) (hu9 : ∀ p ∈ Z.tb, p.1 = Pt9 → p.2 = (envOfC "law" (defScope s_law) 0 0 .none).qual ++ "<lambda>") (G_law_dice : Cal P w K mg base 2 "_law_dice" (Sp1 (q_dice K))) (G_law_like : Cal P w K mg base 20 "_law_like" (SpD Z K S_like8)) (G_law_made : Cal P w K mg base 8 "_law_made" (SpD Z K S_law_made)) (G_law_next : Cal P w K mg base 2 "_law_next" (SpD Z K S_next)) (G_law_pick : Cal P w K mg base 3 "_law_pick" (SpD Z K S_law_pick)) (G_law_rows : Cal P w K mg base 4 "_law_rows" (SpD Z K S_law_rows)) (G_law_walk : Cal P w K mg base 2 "_law_walk" (SpD Z K S_law_walk)) (G_first_unlike : Cal P w K mg base 8 "first_unlike" (SpD Z K S_first_unlike)) (TEL_law_told : TelO P w K mg base "_law_told" (TTD Z K tell_law_told)) (HB : b_law ((List.replicate 18 Sl.un).set 1 (.val .dice)) LawEnd) : FnOk P w K mg base (L2.CX P w) 21 f fd ["_law_script"] (lawSp K Z) := by
  refine FC.okX sc_law (fun vs H Q E h => ?_) (fun A outer s H vs Q E hr h => ?_)
  · obtain ⟨_, rfl, _⟩ := h
    rfl
  · obtain ⟨v0, rfl, a, ns, rfl, hS, hl, hT, q⟩ := h
    exact ⟨_, pss_cons (ps_set (i := 1) sc_law.nd rfl (Or.inl rfl) (pe_cal G_law_dice hr (by omega) (passes_call (takes_of rfl rfl rfl rfl) (fun _ _ _ _ h => h)) (pa_cons (pv 0) pa_nil))) (show QSs Z.m _ _ _ _ from (qss_cons (qs_for (.nm 2) (passes_of rfl) rfl (qi_range1 (by rfl) T.n_range (qe_c pe_int fun _ _ _ => .int _)) (pg_name (i := 2) sc_law.nd rfl (Or.inl rfl)) (qss_cons (qs_unp (.tp [15, 3]) (qe_call G_law_rows hr (by omega) (passes_call (takes_of rfl rfl rfl rfl) (fun _ _ _ _ h => h)) (qa_cons (qe_name 1) qa_nil)) (pg_tp (is := [15, 3]) rfl rfl (pgs_cons (pg_name (i := 15) sc_law.nd rfl (Or.inr rfl)) (pgs_cons (pg_name (i := 3) sc_law.nd rfl (Or.inl rfl)) pgs_nil))))
      (qss_cons (qs_unp (.tp [16, 4]) (qe_tup (qa_cons (qe_name 15) (qa_cons (qe_name 3) qa_nil))) (pg_tp (is := [16, 4]) rfl rfl (pgs_cons (pg_name (i := 16) sc_law.nd rfl (Or.inr rfl)) (pgs_cons (pg_name (i := 4) sc_law.nd rfl (Or.inl rfl)) pgs_nil))))
      (qss_cons (qs_par2 (i := 5) (j := 6) (by rfl) sc_law.nd rfl rfl (by decide) rfl rfl (par_val 5 (qe_call G_law_next hr (by omega) (passes_call (takes_of rfl rfl rfl rfl) (fun _ _ _ _ h => h)) (qa_cons (qe_name 1) (qa_cons (qe_cb call_ln cbs_len (by rfl) T.n_len (by decide +kernel) (qab_cons (qb_of (qe_name 3)) qab_nil)) qa_nil))) (par_val 6 (qe_call G_law_next hr (by omega) (passes_call (takes_of rfl rfl rfl rfl) (fun _ _ _ _ h => h)) (qa_cons (qe_name 1) (qa_cons (qe_c pe_int fun _ _ _ => .int _) qa_nil))) par_nil)) (by rfl))
      (qss_cons (qs_if (qt_cmp (op_eqD hr.units) ops_eq (qb_of (qe_name 6)) (qb_of (qe_c pe_int fun _ _ _ => .int _))) (qss_one (qs_set 4 sc_law.nd rfl (Or.inl rfl) (qe_op op_addU ops_add (qb_of (qe_op op_addU ops_add (qb_of (qe_slice (qb_of (qe_name 3)) qo_none (qo_some (qe_name 5)))) (qb_of (qe_tup (qa_cons (qe_tup (qa_cons (qe_op op_addU ops_add (qb_of (qe_ix (ix_any rfl) ops_ix (qb_of (qe_ix (ix_any rfl) ops_ix (qb_of (qe_name 3)) (qb_of (qe_name 5)) (fun _ _ => rfl))) (qb_of (qe_c pe_int fun _ _ _ => .int _)) (fun _ _ => rfl))) (qb_of (qe_c pe_int fun _ _ _ => .int _))) (qa_cons (qe_ix (ix_any rfl) ops_ix (qb_of (qe_ix (ix_any rfl) ops_ix (qb_of (qe_name 3)) (qb_of (qe_name 5)) (fun _ _ => rfl))) (qb_of (qe_c pe_int fun _ _ _ => .int _)) (fun _ _ => rfl)) qa_nil))) qa_nil))))) (qb_of (qe_slice (qb_of (qe_name 3)) (qo_some (qe_op op_addU ops_add (qb_of (qe_name 5)) (qb_of (qe_c pe_int fun _ _ _ => .int _)))) qo_none))))) (qss_one (qs_if (qt_cmp (op_eqD hr.units) ops_eq (qb_of (qe_name 6)) (qb_of (qe_c pe_int fun _ _ _ => .int _))) (qss_one (qs_set 16 sc_law.nd rfl (Or.inr rfl) (qe_op op_addU ops_add (qb_of (qe_op op_addU ops_add (qb_of (qe_name 15)) (qb_of (qe_c pe_int fun _ _ _ => .int _)))) (qb_of (qe_call G_law_next hr (by omega) (passes_call (takes_of rfl rfl rfl rfl) (fun _ _ _ _ h => h)) (qa_cons (qe_name 1) (qa_cons (qe_c pe_int fun _ _ _ => .int _) qa_nil))))))) (qss_one (qs_if (qt_cmp (op_eqD hr.units) ops_eq (qb_of (qe_name 6)) (qb_of (qe_c pe_int fun _ _ _ => .int _))) (qss_one (qs_unp (.tp [16, 4]) (qe_call G_law_rows hr (by omega) (passes_call (takes_of rfl rfl rfl rfl) (fun _ _ _ _ h => h)) (qa_cons (qe_name 1) qa_nil)) (pg_tp (is := [16, 4]) rfl rfl (pgs_cons (pg_name (i := 16) sc_law.nd rfl (Or.inr rfl)) (pgs_cons (pg_name (i := 4) sc_law.nd rfl (Or.inl rfl)) pgs_nil))))) qss_nil)))))
      (qss_cons (qs_par2 (i := 7) (j := 8) (by rfl) sc_law.nd rfl rfl (by decide) rfl rfl (par_val 7 (qe_call G_law_next hr (by omega) (passes_call (takes_of rfl rfl rfl rfl) (fun _ _ _ _ h => h)) (qa_cons (qe_name 1) (qa_cons (qe_cb (call_mn rfl) cbs_min2 (by rfl) T.n_min (by decide +kernel) (qab_cons (qb_of (qe_cb call_ln cbs_len (by rfl) T.n_len (by decide +kernel) (qab_cons (qb_of (qe_name 3)) qab_nil))) (qab_cons (qb_of (qe_cb call_ln cbs_len (by rfl) T.n_len (by decide +kernel) (qab_cons (qb_of (qe_name 4)) qab_nil))) qab_nil))) qa_nil))) (par_val 8 (qe_call G_law_next hr (by omega) (passes_call (takes_of rfl rfl rfl rfl) (fun _ _ _ _ h => h)) (qa_cons (qe_name 1) (qa_cons (qe_op op_addU ops_add (qb_of (qe_cb (call_mn rfl) cbs_min2 (by rfl) T.n_min (by decide +kernel) (qab_cons (qb_of (qe_name 15)) (qab_cons (qb_of (qe_name 16)) qab_nil)))) (qb_of (qe_c pe_int fun _ _ _ => .int _))) qa_nil))) par_nil)) (by rfl))
      (qss_cons (qs_par2 (i := 9) (j := 10) (by rfl) sc_law.nd rfl rfl (by decide) rfl rfl (par_val 9 (qe_call G_law_walk hr (by omega) (passes_call (takes_of rfl rfl rfl rfl) (fun _ _ _ _ h => h)) (qa_cons (qe_name 15) (qa_cons (qe_name 3) (qa_cons (qe_name 7) (qa_cons (qe_name 8) (qa_cons (qe_c pe_int fun _ _ _ => .int _) qa_nil)))))) (par_val 10 (qe_call G_law_walk hr (by omega) (passes_call (takes_of rfl rfl rfl rfl) (fun _ _ _ _ h => h)) (qa_cons (qe_name 16) (qa_cons (qe_name 4) (qa_cons (qe_name 7) (qa_cons (qe_name 8) (qa_cons (qe_c pe_int fun _ _ _ => .int _) qa_nil)))))) par_nil)) (by rfl))
      (qss_cons (qs_unp (.tp [11, 12]) (qe_tup (qa_cons (qe_c pe_non fun _ _ _ => .non) (qa_cons (qe_c pe_int fun _ _ _ => .int _) qa_nil))) (pg_tp (is := [11, 12]) rfl rfl (pgs_cons (pg_name (i := 11) sc_law.nd rfl (Or.inl rfl)) (pgs_cons (pg_name (i := 12) sc_law.nd rfl (Or.inl rfl)) pgs_nil))))
      (qss_cons (qs_while (passes_of rfl) (qt_w (qw_and (qt_cmp op_isN1 ops_is (qb_of (qe_name 11)) (qb_of (qe_c pe_non fun _ _ _ => .non))) (qw_and (qt_cmp op_lt ops_lt (qb_of (qe_name 12)) (qb_of (qe_c pe_int fun _ _ _ => .int _))) (qw_and1 (qt_cmp op_lt ops_lt (qb_of (qe_name 12)) (qb_of (qe_op op_sub ops_sub (qb_of (qe_cb (call_mn rfl) cbs_min2 (by rfl) T.n_min (by decide +kernel) (qab_cons (qb_of (qe_cb call_ln cbs_len (by rfl) T.n_len (by decide +kernel) (qab_cons (qb_of (qe_name 9)) qab_nil))) (qab_cons (qb_of (qe_cb call_ln cbs_len (by rfl) T.n_len (by decide +kernel) (qab_cons (qb_of (qe_name 10)) qab_nil))) qab_nil)))) (qb_of (qe_c pe_int fun _ _ _ => .int _))))))))) (qss_cons (qs_set 12 sc_law.nd rfl (Or.inl rfl) (qe_op op_addU ops_add (qb_of (qe_name 12)) (qb_of (qe_c pe_int fun _ _ _ => .int _))))
      (qss_one (qs_set 11 sc_law.nd rfl (Or.inl rfl) (qe_if (qt_cmp (op_neD hr.units) ops_ne (qb_of (qe_cb (call_mx rfl) cbs_max2 (by rfl) T.n_max (by decide +kernel) (qab_cons (qb_of (qe_neg (qe_c pe_int fun _ _ _ => .int _))) (qab_cons (qb_of (qe_ix (ix_any rfl) ops_ix (qb_of (qe_name 9)) (qb_of (qe_name 12)) (fun _ _ => rfl))) qab_nil)))) (qb_of (qe_cb (call_mx rfl) cbs_max2 (by rfl) T.n_max (by decide +kernel) (qab_cons (qb_of (qe_neg (qe_c pe_int fun _ _ _ => .int _))) (qab_cons (qb_of (qe_ix (ix_any rfl) ops_ix (qb_of (qe_name 10)) (qb_of (qe_name 12)) (fun _ _ => rfl))) qab_nil))))) (qe_name 12) (qe_c pe_non fun _ _ _ => .non))))))
      (qss_cons (qs_unp (.tp [17, 13]) (qe_tup (qa_cons (qe_call G_law_made hr (by omega) (passes_call (takes_of rfl rfl rfl rfl) (fun _ _ _ _ h => h)) (qa_cons (qe_name 15) (qa_cons (qe_name 3) qa_nil))) (qa_cons (qe_call G_law_made hr (by omega) (passes_call (takes_of rfl rfl rfl rfl) (fun _ _ _ _ h => h)) (qa_cons (qe_name 16) (qa_cons (qe_name 4) qa_nil))) qa_nil))) (pg_tp (is := [17, 13]) rfl rfl (pgs_cons (pg_name (i := 17) sc_law.nd rfl (Or.inr rfl)) (pgs_cons (pg_name (i := 13) sc_law.nd rfl (Or.inr rfl)) pgs_nil))))
      (qss_cons (qs_if (qt_not (qt_val (qe_call G_law_like hr (by omega) (passes_call (takes_of rfl rfl rfl rfl) (fun _ _ _ _ h => h)) (qa_cons (qe_call G_first_unlike hr (by omega) (passes_call (takes_of rfl rfl rfl rfl) (fun _ _ _ _ h => h)) (qa_cons (qe_name 17) (qa_cons (qe_name 13) (qa_cons (qe_name 7) (qa_cons (qe_name 8) qa_nil))))) (qa_cons (qe_name 11) qa_nil))))) (qss_one (qs_ret (qe_c pe_bl fun _ _ _ => .bl _))) qss_nil)
      (qss_cons (qs_set 14 sc_law.nd rfl (Or.inr rfl) (qe_call G_law_pick hr (by omega) (passes_call (takes_of rfl rfl rfl rfl) (fun _ _ _ _ h => h)) (qa_cons (qe_name 1) (qa_cons (qe_new (qf_lst (qa_cons (qe_neg (qe_c pe_int fun _ _ _ => .int _)) (qa_cons (qe_c pe_int fun _ _ _ => .int _) (qa_cons (qe_c pe_non fun _ _ _ => .non) (qa_cons (qe_c pe_bl fun _ _ _ => .bl _) qa_nil)))))) qa_nil))))
      (qss_cons (qs_if (qt_cmp (op_neD hr.units) ops_ne (qb_of (qe_told (k := 18) TEL_law_told hr (by omega) ⟨lamV_by (scm := defScope s_law) (N := n_law) (by decide +kernel), fun _ _ _ _ => rfl, fun h => absurd rfl h, fun A9 outer9 s9 H9 E9 f9 c9 hr9 => (qe_call G_first_unlike hr9 (by omega) (passes_call (takes_of rfl rfl rfl rfl) (fun _ _ _ _ h => h)) (qa_cons (qe_name 17) (qa_cons (qe_name 13) (qa_cons (qe_name 14) (qa_cons (qe_neg (qe_c pe_int fun _ _ _ => .int _)) qa_nil)))))⟩ (qlam0 ⟨TB9, rfl, hm9, hu9⟩ (lamV_by (scm := defScope s_law) (N := n_law) (by decide +kernel)) (by rfl)))) (qb_of (qe_tup (qa_cons (qe_c pe_str fun _ _ _ => .str _) (qa_cons (qe_c pe_str fun _ _ _ => .str _) qa_nil))))) (qss_one (qs_ret (qe_c pe_bl fun _ _ _ => .bl _))) qss_nil)
      (qss_one (qs_if (qt_cmp (op_neD hr.units) ops_ne (qb_of (qe_told (k := 18) (d := some _) TEL_law_told hr (by omega) ⟨lamV_by (scm := defScope s_law) (N := n_law) (by decide +kernel), fun h => (nomatch h), fun _ => ⟨"_law_a", rfl, fun _ _ _ _ _ => ⟨_, rfl, rfl⟩⟩, fun A9 outer9 s9 H9 E9 f9 c9 hr9 => (qe_call G_first_unlike hr9 (by omega) (passes_call (takes_of rfl rfl rfl rfl) (fun _ _ _ _ h => h)) (qa_cons (qe_name 17) (qa_cons (qe_name 13) (qa_cons (qe_c pe_int fun _ _ _ => .int _) (qa_cons (qe_op op_addU ops_add (qb_of (qe_cb (call_mx rfl) cbs_max2 (by rfl) T.n_max (by decide +kernel) (qab_cons (qb_of (qe_name 15)) (qab_cons (qb_of (qe_name 16)) qab_nil)))) (qb_of (qe_c pe_int fun _ _ _ => .int _))) qa_nil)))))⟩ (qlamD ⟨TB9, rfl, hm9, hu9⟩ (lamV_by (scm := defScope s_law) (N := n_law) (by decide +kernel)) (by rfl)))) (qb_of (qe_tup (qa_cons (qe_c pe_str fun _ _ _ => .str _) (qa_cons (qe_c pe_str fun _ _ _ => .str _) qa_nil))))) (qss_one (qs_ret (qe_c pe_bl fun _ _ _ => .bl _))) qss_nil)))))))))))))))
      (qss_one (qs_ret (qe_c pe_bl fun _ _ _ => .bl _))))), ⟨_, rfl, ⟨_, rfl, a, ns, rfl, hS, hl, fun d H1 hd e1 hD => law_rd (i := 1) (n := 18) hD (hT.ext e1) rfl (by decide) rfl (by decide) HB fun H2 => q H2⟩⟩⟩
end
end K07
namespace K07
open PySem PySem.Spec PyProof.Rows L2 Oil
theorem notc_mk {K : PySem.W.Frag} {C : Addr} (h1 : PySem.W.kitOne K (.type "NoneType") (.ref C) = some false) (h2 : PySem.W.kitOne K (.type "bool") (.ref C) = some false) (h3 : PySem.W.kitOne K (.type "int") (.ref C) = some false) (h4 : PySem.W.kitOne K (.type "str") (.ref C) = some false) (h5 : PySem.W.kitOne K (.type "tuple") (.ref C) = some false) (h6 : PySem.W.kitOne K (.type "list") (.ref C) = some false) : NotC K C := fun T hT => by
  simp only [List.mem_cons, List.not_mem_nil, or_false] at hT
  rcases hT with rfl | rfl | rfl | rfl | rfl | rfl <;> assumption
theorem nf_mk {K : PySem.W.Frag} {C : Addr} (h1 : PySem.W.notFirst K C (.type "NoneType") = true) (h2 : PySem.W.notFirst K C (.type "bool") = true) (h3 : PySem.W.notFirst K C (.type "int") = true) (h4 : PySem.W.notFirst K C (.type "str") = true) (h5 : PySem.W.notFirst K C (.type "tuple") = true) (h6 : PySem.W.notFirst K C (.type "list") = true) : ∀ T ∈ ["NoneType", "bool", "int", "str", "tuple", "list"], PySem.W.notFirst K C (.type T) = true := fun T hT => by
  simp only [List.mem_cons, List.not_mem_nil, or_false] at hT
  rcases hT with rfl | rfl | rfl | rfl | rfl | rfl <;> assumption
theorem rep_zero {P : Program} {w : World} {K : PySem.W.Frag} {mg : Str → Option Value} {base : Heap} {Z : ZG} {k : Nat} {f : Addr} : FnR P w K mg base (L2.CX P w) k f (SpD Z K (S_rep 0)) := by
  intro A outer s H us vs Q E hr e0 r hs
  obtain ⟨d0, M, ds, Qp, Ep, hD, hT, hM, r2, ⟨s2, k2, e2, ok, h1, h2, q⟩, post, per⟩ := hs
  exact absurd (show k2 < 1 from h2) (by omega)
theorem like_zero {P : Program} {w : World} {K : PySem.W.Frag} {mg : Str → Option Value} {base : Heap} {Z : ZG} {k : Nat} {f : Addr} : FnR P w K mg base (L2.CX P w) k f (SpD Z K (S_like 0)) := by
  intro A outer s H us vs Q E hr e0 r hs
  obtain ⟨d0, M, ds, Qp, Ep, hD, hT, hM, r2, ⟨x, e, hd, q⟩, post, per⟩ := hs
  exact absurd hd id
/-- where the classes stand -/
def Zl (l : List Addr) : Nat → Addr := fun i => l.getD i 0
section
open PySem.W
theorem kit_same {K : Frag} {t : Value} : kitOne K t t = some true := by
  unfold kitOne
  rw [if_pos (beq_self_eq_true _)]
theorem kit_cls1 {K : Frag} {C : Addr} {t : Value} {b : Bool} (hi : isClsIn K C = true) (ht : typeIn K (.ref C) = some (.type "type")) (hs : subIn K t (.ref C) = some b) : kitCls K t (.ref C) = some b := by
  show (if ((clsIn K C).isSome && typeIn K (Value.ref C) == some (Value.type "type")) = true then subIn K t (Value.ref C) else none) = some b
  have h1 : (clsIn K C).isSome = true := hi
  rw [h1, ht, beq_self_eq_true, hs]
  rfl
theorem kit_ref {K : Frag} {C : Addr} {t : Value} {b : Bool} (hn : (t == .ref C) = false) (hi : isClsIn K C = true) (ht : typeIn K (.ref C) = some (.type "type")) (hs : subIn K t (.ref C) = some b) : kitOne K t (.ref C) = some b := by
  unfold kitOne
  rw [hn, if_neg Bool.false_ne_true]
  exact kit_cls1 hi ht hs
theorem kit_ty {K : Frag} {T : String} {t : Value} {b : Bool} (hn : (t == .type T) = false) (hm : kitMeta T = true) (hs : subIn K t (.type T) = some b) : kitOne K t (.type T) = some b := by
  unfold kitOne
  rw [hn, if_neg Bool.false_ne_true]
  show (if kitMeta T = true then subIn K t (Value.type T) else none) = some b
  rw [if_pos hm]
  exact hs
theorem exm_own {K : Frag} {C : Addr} {t : Value} {b : Bool} (hb : subIn K (.ref C) (.type "BaseException") = some true) (hi : isClsIn K C = true) (ht : typeIn K (.ref C) = some (.type "type")) (hs : subIn K t (.ref C) = some b) : exmOne K t (.ref C) = some b := by
  unfold exmOne
  rw [hb, beq_self_eq_true, if_pos rfl]
  exact kit_cls1 hi ht hs
end
theorem all_mk {l : PySem.W.OpenLaw} {w : World} {K : PySem.W.Frag} {h : Heap} {mg : Str → Option Value} {fa : Addr} (HB : b_law ((List.replicate 18 Sl.un).set 1 (.val .dice)) LawEnd) (KX : K.In h) (G : h.Ns mainGlobals mg) (hfa : mg "law" = some (.ref fa))
    {z_WalkError z_InvalidWay z_UnknownPost z_InvalidNumber z_InvalidStretch z_Stretch z_Way f_law_told f_law_dice f_law_like f_is_number f_is_number_within f_check_number_within f_is_post f_first_wrong f_Way_init f_InvalidWay_init cc_InvalidWay_init cda_InvalidWay_init w_Way_even f_Way_even f_check_post f_Way_with_post f_law_made f_law_next f_law_pick f_law_rows f_law_leg f_law_walk f_Way_getitem w_Way_capacity f_Way_capacity f_taken f_after_leg f_Way_len f_check_start f_first_unlike f_law cc_law Pt_law : Addr} {oc_law_told kV_law_told dc_law_told pm_law_told ct_law_told cd_law_told oc_law_dice kV_law_dice dc_law_dice pm_law_dice ct_law_dice cd_law_dice oc_law_like kV_law_like dc_law_like pm_law_like ct_law_like cd_law_like oc_is_number kV_is_number dc_is_number pm_is_number ct_is_number cd_is_number oc_is_number_within kV_is_number_within dc_is_number_within pm_is_number_within ct_is_number_within cd_is_number_within oc_check_number_within kV_check_number_within dc_check_number_within pm_check_number_within ct_check_number_within cd_check_number_within oc_is_post kV_is_post dc_is_post pm_is_post ct_is_post cd_is_post oc_first_wrong kV_first_wrong dc_first_wrong pm_first_wrong ct_first_wrong cd_first_wrong oc_Way_init kV_Way_init dc_Way_init pm_Way_init ct_Way_init cd_Way_init ot_InvalidWay_init kV_InvalidWay_init dc_InvalidWay_init pm_InvalidWay_init ct_InvalidWay_init oc_Way_even kV_Way_even dc_Way_even pm_Way_even ct_Way_even cd_Way_even oc_check_post kV_check_post dc_check_post pm_check_post ct_check_post cd_check_post oc_Way_with_post kV_Way_with_post dc_Way_with_post pm_Way_with_post ct_Way_with_post cd_Way_with_post oc_law_made kV_law_made dc_law_made pm_law_made ct_law_made cd_law_made oc_law_next kV_law_next dc_law_next pm_law_next ct_law_next cd_law_next oc_law_pick kV_law_pick dc_law_pick pm_law_pick ct_law_pick cd_law_pick oc_law_rows kV_law_rows dc_law_rows pm_law_rows ct_law_rows cd_law_rows oc_law_leg kV_law_leg dc_law_leg pm_law_leg ct_law_leg cd_law_leg oc_law_walk kV_law_walk dc_law_walk pm_law_walk ct_law_walk cd_law_walk oc_Way_getitem kV_Way_getitem dc_Way_getitem pm_Way_getitem ct_Way_getitem cd_Way_getitem oc_Way_capacity kV_Way_capacity dc_Way_capacity pm_Way_capacity ct_Way_capacity cd_Way_capacity oc_taken kV_taken dc_taken pm_taken ct_taken cd_taken oc_after_leg kV_after_leg dc_after_leg pm_after_leg ct_after_leg cd_after_leg oc_Way_len kV_Way_len dc_Way_len pm_Way_len ct_Way_len cd_Way_len oc_check_start kV_check_start dc_check_start pm_check_start ct_check_start cd_check_start oc_first_unlike kV_first_unlike dc_first_unlike pm_first_unlike ct_first_unlike cd_first_unlike oc_law kV_law dc_law pm_law ct_law : Value} {od_law_told an_law_told od_law_dice an_law_dice od_law_like an_law_like od_is_number an_is_number od_is_number_within an_is_number_within od_check_number_within an_check_number_within od_is_post an_is_post od_first_wrong an_first_wrong od_Way_init an_Way_init od_InvalidWay_init an_InvalidWay_init od_Way_even an_Way_even od_check_post an_check_post od_Way_with_post an_Way_with_post od_law_made an_law_made od_law_next an_law_next od_law_pick an_law_pick od_law_rows an_law_rows od_law_leg an_law_leg od_law_walk an_law_walk od_Way_getitem an_Way_getitem od_Way_capacity an_Way_capacity od_taken an_taken od_after_leg an_after_leg od_Way_len an_Way_len od_check_start an_check_start od_first_unlike an_first_unlike od_law an_law : Option Addr} {sl_law_told sl_law_dice sl_law_like sl_is_number sl_is_number_within sl_check_number_within sl_is_post sl_first_wrong sl_Way_init sl_InvalidWay_init sl_Way_even sl_check_post sl_Way_with_post sl_law_made sl_law_next sl_law_pick sl_law_rows sl_law_leg sl_law_walk sl_Way_getitem sl_Way_capacity sl_taken sl_after_leg sl_Way_len sl_check_start sl_first_unlike sl_law : Array (Option Value)} {rest_Way_even rest_Way_capacity : List Value} {tk_MOST_LEGS_COMPARED tk_MOST_POSTS tk_MOST_UNITS : Tok}
    (a_WalkError : PySem.W.nsIn K mainGlobals "WalkError" = some (some (.ref z_WalkError)))
    (a_InvalidWay : PySem.W.nsIn K mainGlobals "InvalidWay" = some (some (.ref z_InvalidWay)))
    (a_UnknownPost : PySem.W.nsIn K mainGlobals "UnknownPost" = some (some (.ref z_UnknownPost)))
    (a_InvalidNumber : PySem.W.nsIn K mainGlobals "InvalidNumber" = some (some (.ref z_InvalidNumber)))
    (a_InvalidStretch : PySem.W.nsIn K mainGlobals "InvalidStretch" = some (some (.ref z_InvalidStretch)))
    (a_Stretch : PySem.W.nsIn K mainGlobals "Stretch" = some (some (.ref z_Stretch)))
    (a_Way : PySem.W.nsIn K mainGlobals "Way" = some (some (.ref z_Way)))
    (a_MOST_LEGS_COMPARED : PySem.W.nsIn K mainGlobals "MOST_LEGS_COMPARED" = some (some (.int 2000 tk_MOST_LEGS_COMPARED)))
    (a_MOST_POSTS : PySem.W.nsIn K mainGlobals "MOST_POSTS" = some (some (.int 12 tk_MOST_POSTS)))
    (a_MOST_UNITS : PySem.W.nsIn K mainGlobals "MOST_UNITS" = some (some (.int 1000000000 tk_MOST_UNITS)))
    (n_ValueError : PySem.W.nsIn K mainGlobals "ValueError" = some none)
    (n_bool : PySem.W.nsIn K mainGlobals "bool" = some none)
    (n_enumerate : PySem.W.nsIn K mainGlobals "enumerate" = some none)
    (n_int : PySem.W.nsIn K mainGlobals "int" = some none)
    (n_isinstance : PySem.W.nsIn K mainGlobals "isinstance" = some none)
    (n_len : PySem.W.nsIn K mainGlobals "len" = some none)
    (n_list : PySem.W.nsIn K mainGlobals "list" = some none)
    (n_max : PySem.W.nsIn K mainGlobals "max" = some none)
    (n_min : PySem.W.nsIn K mainGlobals "min" = some none)
    (n_range : PySem.W.nsIn K mainGlobals "range" = some none)
    (n_str : PySem.W.nsIn K mainGlobals "str" = some none)
    (n_sum : PySem.W.nsIn K mainGlobals "sum" = some none)
    (n_tuple : PySem.W.nsIn K mainGlobals "tuple" = some none)
    (pgc_Way : PySem.W.plainGet K z_Way Str.empty = true)
    (hdc_Way : PySem.W.hasDictIn K z_Way = true)
    (poc_Way : PySem.W.plainOver K z_Way = true)
    (sac_Way : PySem.W.findIn K (.ref z_Way) "__setattr__" = some (some (.builtin "object.__setattr__")))
    (hac_Way : PySem.W.findIn K (.ref z_Way) "__class__" = some (some (.builtin "object.__class__")))
    (hn_oc : PySem.W.specialIn K (.builtin "object.__class__") "__get__" = some (some (.builtin "getset_descriptor.__get__")))
    (ht_oc : PySem.W.takesIn K (.builtin "object.__class__") = some true)
    (hmc_Way : PySem.W.mroIn K z_Way (.type "object") = some true)
    (x_na_Way__capacity : PySem.W.findIn K (.ref z_Way) "_capacity" = some none)
    (x_na_Way__posts : PySem.W.findIn K (.ref z_Way) "_posts" = some none)
    (x_x_InvalidNumber : PySem.W.excIn K z_InvalidNumber [.type "ValueError", .type "Exception", .type "BaseException", .type "object"] "ValueError.__new__" = true)
    (x_k_InvalidNumber : PySem.W.keepIn K (.ref z_InvalidNumber) = true)
    (x_b_InvalidNumber : PySem.W.subIn K (.ref z_InvalidNumber) (.type "BaseException") = some true)
    (x_t_InvalidNumber : PySem.W.typeIn K (.ref z_InvalidNumber) = some (.type "type"))
    (x_x_UnknownPost : PySem.W.excIn K z_UnknownPost [.type "ValueError", .type "Exception", .type "BaseException", .type "object"] "ValueError.__new__" = true)
    (x_k_UnknownPost : PySem.W.keepIn K (.ref z_UnknownPost) = true)
    (x_b_UnknownPost : PySem.W.subIn K (.ref z_UnknownPost) (.type "BaseException") = some true)
    (x_t_UnknownPost : PySem.W.typeIn K (.ref z_UnknownPost) = some (.type "type"))
    (ic_WalkError : PySem.W.isClsIn K z_WalkError = true)
    (ty_WalkError : PySem.W.typeIn K (.ref z_WalkError) = some (.type "type"))
    (bb_WalkError : PySem.W.subIn K (.ref z_WalkError) (.type "BaseException") = some true)
    (eg_InvalidWay : PySem.W.findIn K (.ref z_InvalidWay) "__getattribute__" = some (some (.builtin "BaseException.__getattribute__")))
    (ek_InvalidWay : PySem.W.findIn K (.ref z_InvalidWay) "__getattr__" = some none)
    (es_InvalidWay : PySem.W.subIn K (.ref z_InvalidWay) (.type "BaseException") = some true)
    (ed_InvalidWay : PySem.W.hasDictIn K z_InvalidWay = true)
    (ea_InvalidWay : PySem.W.findIn K (.ref z_InvalidWay) "__class__" = some (some (.builtin "object.__class__")))
    (em_InvalidWay : PySem.W.mroIn K z_InvalidWay (.type "object") = some true)
    (ev_InvalidWay : PySem.W.subIn K (.ref z_InvalidWay) (.type "ValueError") = some true)
    (ex_InvalidWay : PySem.W.subIn K (.ref z_InvalidWay) (.ref z_WalkError) = some true)
    (ic_InvalidStretch : PySem.W.isClsIn K z_InvalidStretch = true)
    (ty_InvalidStretch : PySem.W.typeIn K (.ref z_InvalidStretch) = some (.type "type"))
    (e_InvalidWay_InvalidStretch : PySem.W.subIn K (.ref z_InvalidWay) (.ref z_InvalidStretch) = some false)
    (d_InvalidWay_InvalidStretch : (Value.ref z_InvalidWay == Value.ref z_InvalidStretch) = false)
    (ic_UnknownPost : PySem.W.isClsIn K z_UnknownPost = true)
    (ty_UnknownPost : PySem.W.typeIn K (.ref z_UnknownPost) = some (.type "type"))
    (e_InvalidWay_UnknownPost : PySem.W.subIn K (.ref z_InvalidWay) (.ref z_UnknownPost) = some false)
    (d_InvalidWay_UnknownPost : (Value.ref z_InvalidWay == Value.ref z_UnknownPost) = false)
    (ic_InvalidNumber : PySem.W.isClsIn K z_InvalidNumber = true)
    (ty_InvalidNumber : PySem.W.typeIn K (.ref z_InvalidNumber) = some (.type "type"))
    (e_InvalidWay_InvalidNumber : PySem.W.subIn K (.ref z_InvalidWay) (.ref z_InvalidNumber) = some false)
    (d_InvalidWay_InvalidNumber : (Value.ref z_InvalidWay == Value.ref z_InvalidNumber) = false)
    (eg_InvalidStretch : PySem.W.findIn K (.ref z_InvalidStretch) "__getattribute__" = some (some (.builtin "BaseException.__getattribute__")))
    (ek_InvalidStretch : PySem.W.findIn K (.ref z_InvalidStretch) "__getattr__" = some none)
    (es_InvalidStretch : PySem.W.subIn K (.ref z_InvalidStretch) (.type "BaseException") = some true)
    (ed_InvalidStretch : PySem.W.hasDictIn K z_InvalidStretch = true)
    (ea_InvalidStretch : PySem.W.findIn K (.ref z_InvalidStretch) "__class__" = some (some (.builtin "object.__class__")))
    (em_InvalidStretch : PySem.W.mroIn K z_InvalidStretch (.type "object") = some true)
    (ev_InvalidStretch : PySem.W.subIn K (.ref z_InvalidStretch) (.type "ValueError") = some true)
    (ex_InvalidStretch : PySem.W.subIn K (.ref z_InvalidStretch) (.ref z_WalkError) = some true)
    (ic_InvalidWay : PySem.W.isClsIn K z_InvalidWay = true)
    (ty_InvalidWay : PySem.W.typeIn K (.ref z_InvalidWay) = some (.type "type"))
    (e_InvalidStretch_InvalidWay : PySem.W.subIn K (.ref z_InvalidStretch) (.ref z_InvalidWay) = some false)
    (d_InvalidStretch_InvalidWay : (Value.ref z_InvalidStretch == Value.ref z_InvalidWay) = false)
    (e_InvalidStretch_UnknownPost : PySem.W.subIn K (.ref z_InvalidStretch) (.ref z_UnknownPost) = some false)
    (d_InvalidStretch_UnknownPost : (Value.ref z_InvalidStretch == Value.ref z_UnknownPost) = false)
    (e_InvalidStretch_InvalidNumber : PySem.W.subIn K (.ref z_InvalidStretch) (.ref z_InvalidNumber) = some false)
    (d_InvalidStretch_InvalidNumber : (Value.ref z_InvalidStretch == Value.ref z_InvalidNumber) = false)
    (eg_UnknownPost : PySem.W.findIn K (.ref z_UnknownPost) "__getattribute__" = some (some (.builtin "BaseException.__getattribute__")))
    (ek_UnknownPost : PySem.W.findIn K (.ref z_UnknownPost) "__getattr__" = some none)
    (es_UnknownPost : PySem.W.subIn K (.ref z_UnknownPost) (.type "BaseException") = some true)
    (ed_UnknownPost : PySem.W.hasDictIn K z_UnknownPost = true)
    (ea_UnknownPost : PySem.W.findIn K (.ref z_UnknownPost) "__class__" = some (some (.builtin "object.__class__")))
    (em_UnknownPost : PySem.W.mroIn K z_UnknownPost (.type "object") = some true)
    (ev_UnknownPost : PySem.W.subIn K (.ref z_UnknownPost) (.type "ValueError") = some true)
    (ex_UnknownPost : PySem.W.subIn K (.ref z_UnknownPost) (.ref z_WalkError) = some true)
    (e_UnknownPost_InvalidWay : PySem.W.subIn K (.ref z_UnknownPost) (.ref z_InvalidWay) = some false)
    (d_UnknownPost_InvalidWay : (Value.ref z_UnknownPost == Value.ref z_InvalidWay) = false)
    (e_UnknownPost_InvalidStretch : PySem.W.subIn K (.ref z_UnknownPost) (.ref z_InvalidStretch) = some false)
    (d_UnknownPost_InvalidStretch : (Value.ref z_UnknownPost == Value.ref z_InvalidStretch) = false)
    (e_UnknownPost_InvalidNumber : PySem.W.subIn K (.ref z_UnknownPost) (.ref z_InvalidNumber) = some false)
    (d_UnknownPost_InvalidNumber : (Value.ref z_UnknownPost == Value.ref z_InvalidNumber) = false)
    (eg_InvalidNumber : PySem.W.findIn K (.ref z_InvalidNumber) "__getattribute__" = some (some (.builtin "BaseException.__getattribute__")))
    (ek_InvalidNumber : PySem.W.findIn K (.ref z_InvalidNumber) "__getattr__" = some none)
    (es_InvalidNumber : PySem.W.subIn K (.ref z_InvalidNumber) (.type "BaseException") = some true)
    (ed_InvalidNumber : PySem.W.hasDictIn K z_InvalidNumber = true)
    (ea_InvalidNumber : PySem.W.findIn K (.ref z_InvalidNumber) "__class__" = some (some (.builtin "object.__class__")))
    (em_InvalidNumber : PySem.W.mroIn K z_InvalidNumber (.type "object") = some true)
    (ev_InvalidNumber : PySem.W.subIn K (.ref z_InvalidNumber) (.type "ValueError") = some true)
    (ex_InvalidNumber : PySem.W.subIn K (.ref z_InvalidNumber) (.ref z_WalkError) = some true)
    (e_InvalidNumber_InvalidWay : PySem.W.subIn K (.ref z_InvalidNumber) (.ref z_InvalidWay) = some false)
    (d_InvalidNumber_InvalidWay : (Value.ref z_InvalidNumber == Value.ref z_InvalidWay) = false)
    (e_InvalidNumber_InvalidStretch : PySem.W.subIn K (.ref z_InvalidNumber) (.ref z_InvalidStretch) = some false)
    (d_InvalidNumber_InvalidStretch : (Value.ref z_InvalidNumber == Value.ref z_InvalidStretch) = false)
    (e_InvalidNumber_UnknownPost : PySem.W.subIn K (.ref z_InvalidNumber) (.ref z_UnknownPost) = some false)
    (d_InvalidNumber_UnknownPost : (Value.ref z_InvalidNumber == Value.ref z_UnknownPost) = false)
    (xn_InvalidStretch_part : PySem.W.findIn K (.ref z_InvalidStretch) "part" = some none)
    (xn_InvalidWay_index : PySem.W.findIn K (.ref z_InvalidWay) "index" = some none)
    (xn_InvalidWay_part : PySem.W.findIn K (.ref z_InvalidWay) "part" = some none)
    (a_law_told : PySem.W.nsIn K mainGlobals "_law_told" = some (some (.ref f_law_told)))
    (l_law_told : K.lookup f_law_told = some ⟨oc_law_told, od_law_told, .func (PySem.W.fnOf "_law_told" "_law_told" (defArgs s_law_told) (defBody s_law_told) (defScope s_law_told) .none kV_law_told dc_law_told pm_law_told an_law_told cd_law_told ct_law_told), sl_law_told⟩)
    (c_law_told : PySem.W.codeIn K cd_law_told "_law_told" = true)
    (k_law_told : PySem.W.keepIn K (.ref f_law_told) = true)
    (a_law_dice : PySem.W.nsIn K mainGlobals "_law_dice" = some (some (.ref f_law_dice)))
    (l_law_dice : K.lookup f_law_dice = some ⟨oc_law_dice, od_law_dice, .func (PySem.W.fnOf "_law_dice" "_law_dice" (defArgs s_law_dice) (defBody s_law_dice) (defScope s_law_dice) .none kV_law_dice dc_law_dice pm_law_dice an_law_dice cd_law_dice ct_law_dice), sl_law_dice⟩)
    (c_law_dice : PySem.W.codeIn K cd_law_dice "_law_dice" = true)
    (k_law_dice : PySem.W.keepIn K (.ref f_law_dice) = true)
    (a_law_like : PySem.W.nsIn K mainGlobals "_law_like" = some (some (.ref f_law_like)))
    (l_law_like : K.lookup f_law_like = some ⟨oc_law_like, od_law_like, .func (PySem.W.fnOf "_law_like" "_law_like" (defArgs s_law_like) (defBody s_law_like) (defScope s_law_like) .none kV_law_like dc_law_like pm_law_like an_law_like cd_law_like ct_law_like), sl_law_like⟩)
    (c_law_like : PySem.W.codeIn K cd_law_like "_law_like" = true)
    (k_law_like : PySem.W.keepIn K (.ref f_law_like) = true)
    (a_is_number : PySem.W.nsIn K mainGlobals "is_number" = some (some (.ref f_is_number)))
    (l_is_number : K.lookup f_is_number = some ⟨oc_is_number, od_is_number, .func (PySem.W.fnOf "is_number" "is_number" (defArgs s_is_number) (defBody s_is_number) (defScope s_is_number) .none kV_is_number dc_is_number pm_is_number an_is_number cd_is_number ct_is_number), sl_is_number⟩)
    (c_is_number : PySem.W.codeIn K cd_is_number "is_number" = true)
    (k_is_number : PySem.W.keepIn K (.ref f_is_number) = true)
    (a_is_number_within : PySem.W.nsIn K mainGlobals "is_number_within" = some (some (.ref f_is_number_within)))
    (l_is_number_within : K.lookup f_is_number_within = some ⟨oc_is_number_within, od_is_number_within, .func (PySem.W.fnOf "is_number_within" "is_number_within" (defArgs s_is_number_within) (defBody s_is_number_within) (defScope s_is_number_within) .none kV_is_number_within dc_is_number_within pm_is_number_within an_is_number_within cd_is_number_within ct_is_number_within), sl_is_number_within⟩)
    (c_is_number_within : PySem.W.codeIn K cd_is_number_within "is_number_within" = true)
    (k_is_number_within : PySem.W.keepIn K (.ref f_is_number_within) = true)
    (a_check_number_within : PySem.W.nsIn K mainGlobals "check_number_within" = some (some (.ref f_check_number_within)))
    (l_check_number_within : K.lookup f_check_number_within = some ⟨oc_check_number_within, od_check_number_within, .func (PySem.W.fnOf "check_number_within" "check_number_within" (defArgs s_check_number_within) (defBody s_check_number_within) (defScope s_check_number_within) .none kV_check_number_within dc_check_number_within pm_check_number_within an_check_number_within cd_check_number_within ct_check_number_within), sl_check_number_within⟩)
    (c_check_number_within : PySem.W.codeIn K cd_check_number_within "check_number_within" = true)
    (k_check_number_within : PySem.W.keepIn K (.ref f_check_number_within) = true)
    (a_is_post : PySem.W.nsIn K mainGlobals "_is_post" = some (some (.ref f_is_post)))
    (l_is_post : K.lookup f_is_post = some ⟨oc_is_post, od_is_post, .func (PySem.W.fnOf "_is_post" "_is_post" (defArgs s_is_post) (defBody s_is_post) (defScope s_is_post) .none kV_is_post dc_is_post pm_is_post an_is_post cd_is_post ct_is_post), sl_is_post⟩)
    (c_is_post : PySem.W.codeIn K cd_is_post "_is_post" = true)
    (k_is_post : PySem.W.keepIn K (.ref f_is_post) = true)
    (a_first_wrong : PySem.W.nsIn K mainGlobals "_first_wrong" = some (some (.ref f_first_wrong)))
    (l_first_wrong : K.lookup f_first_wrong = some ⟨oc_first_wrong, od_first_wrong, .func (PySem.W.fnOf "_first_wrong" "_first_wrong" (defArgs s_first_wrong) (defBody s_first_wrong) (defScope s_first_wrong) .none kV_first_wrong dc_first_wrong pm_first_wrong an_first_wrong cd_first_wrong ct_first_wrong), sl_first_wrong⟩)
    (c_first_wrong : PySem.W.codeIn K cd_first_wrong "_first_wrong" = true)
    (k_first_wrong : PySem.W.keepIn K (.ref f_first_wrong) = true)
    (a_Way_init : PySem.W.findIn K (.ref z_Way) "__init__" = some (some (.ref f_Way_init)))
    (i_Way_init : PySem.W.isFn K (.ref f_Way_init) = true)
    (l_Way_init : K.lookup f_Way_init = some ⟨oc_Way_init, od_Way_init, .func (PySem.W.fnOf "__init__" "Way.__init__" (defArgs s_Way_init) (defBody s_Way_init) (defScope s_Way_init) .none kV_Way_init dc_Way_init pm_Way_init an_Way_init cd_Way_init ct_Way_init), sl_Way_init⟩)
    (c_Way_init : PySem.W.codeIn K cd_Way_init "Way.__init__" = true)
    (k_Way_init : PySem.W.keepIn K (.ref f_Way_init) = true)
    (oex_InvalidWay : OexC K z_InvalidWay)
    (ini_InvalidWay_init : PySem.W.findIn K (.ref z_InvalidWay) "__init__" = some (some (.ref f_InvalidWay_init)))
    (l_InvalidWay_init : K.lookup f_InvalidWay_init = some ⟨ot_InvalidWay_init, od_InvalidWay_init, .func (PySem.W.fnX "__init__" "InvalidWay.__init__" (defArgs s_InvalidWay_init) (defBody s_InvalidWay_init) (defScope s_InvalidWay_init) [("__class__", cc_InvalidWay_init)] .none kV_InvalidWay_init dc_InvalidWay_init pm_InvalidWay_init an_InvalidWay_init (.ref cda_InvalidWay_init) ct_InvalidWay_init), sl_InvalidWay_init⟩)
    (tyf_InvalidWay_init : PySem.W.typeIn K (.ref f_InvalidWay_init) = some (.type "function"))
    (c_InvalidWay_init : PySem.W.codeIn K (.ref cda_InvalidWay_init) "InvalidWay.__init__" = true)
    (cdf_InvalidWay_init : ∃ (oc : Obj) (vs : Array Value) (file : Str) (tf : Tok), K.lookup cda_InvalidWay_init = some oc ∧ oc.data = .fields vs ∧ vs[2]? = some (.str file tf) ∧ ((l.prog.main.file : Str) == file) = true)
    (topsup : (l.prog.main.scope.names.lookup ("super" : Str)).isSome = false)
    (cell_InvalidWay_init : ∃ oc : Obj, K.lookup cc_InvalidWay_init = some oc ∧ oc.data = .cell (some (.ref z_InvalidWay)))
    (n_super : PySem.W.nsIn K mainGlobals "super" = some none)
    (tpany : PySem.W.nsIn K cStatics "thirdparty.any" = some none)
    (mro_InvalidWay : PySem.W.mroIn K z_InvalidWay (.ref z_InvalidWay) = some true)
    (ksi_InvalidWay : PySem.W.ks_superIn K z_InvalidWay z_InvalidWay "__init__" = some (some (.builtin "ValueError.__init__")))
    (cr_Way : PySem.W.readsIn K z_Way (.type "type") = true)
    (cg_Way : PySem.W.specialIn K (.ref z_Way) "__getattribute__" = some (some (.builtin "type.__getattribute__")))
    (ca_Way_even : PySem.W.findCls K (.ref z_Way) (.type "type") "even" = some (.get (.builtin "classmethod.__get__") (.ref w_Way_even) .none (.ref z_Way)))
    (cc_Way_even : PySem.W.recIn K w_Way_even "classmethod" = some (.ref f_Way_even :: rest_Way_even))
    (cf_Way_even : PySem.W.fnIn K f_Way_even = true)
    (l_Way_even : K.lookup f_Way_even = some ⟨oc_Way_even, od_Way_even, .func (PySem.W.fnOf "even" "Way.even" (defArgs s_Way_even) (defBody s_Way_even) (defScope s_Way_even) .none kV_Way_even dc_Way_even pm_Way_even an_Way_even cd_Way_even ct_Way_even), sl_Way_even⟩)
    (c_Way_even : PySem.W.codeIn K cd_Way_even "Way.even" = true)
    (k_Way_even : PySem.W.keepIn K (.ref f_Way_even) = true)
    (mk_Way : PySem.W.makesIn K z_Way = true)
    (kc_Way : PySem.W.keepIn K (.ref z_Way) = true)
    (a_check_post : PySem.W.nsIn K mainGlobals "check_post" = some (some (.ref f_check_post)))
    (l_check_post : K.lookup f_check_post = some ⟨oc_check_post, od_check_post, .func (PySem.W.fnOf "check_post" "check_post" (defArgs s_check_post) (defBody s_check_post) (defScope s_check_post) .none kV_check_post dc_check_post pm_check_post an_check_post cd_check_post ct_check_post), sl_check_post⟩)
    (c_check_post : PySem.W.codeIn K cd_check_post "check_post" = true)
    (k_check_post : PySem.W.keepIn K (.ref f_check_post) = true)
    (a_Way_with_post : PySem.W.findIn K (.ref z_Way) "with_post" = some (some (.ref f_Way_with_post)))
    (i_Way_with_post : PySem.W.isFn K (.ref f_Way_with_post) = true)
    (l_Way_with_post : K.lookup f_Way_with_post = some ⟨oc_Way_with_post, od_Way_with_post, .func (PySem.W.fnOf "with_post" "Way.with_post" (defArgs s_Way_with_post) (defBody s_Way_with_post) (defScope s_Way_with_post) .none kV_Way_with_post dc_Way_with_post pm_Way_with_post an_Way_with_post cd_Way_with_post ct_Way_with_post), sl_Way_with_post⟩)
    (c_Way_with_post : PySem.W.codeIn K cd_Way_with_post "Way.with_post" = true)
    (k_Way_with_post : PySem.W.keepIn K (.ref f_Way_with_post) = true)
    (a_law_made : PySem.W.nsIn K mainGlobals "_law_made" = some (some (.ref f_law_made)))
    (l_law_made : K.lookup f_law_made = some ⟨oc_law_made, od_law_made, .func (PySem.W.fnOf "_law_made" "_law_made" (defArgs s_law_made) (defBody s_law_made) (defScope s_law_made) .none kV_law_made dc_law_made pm_law_made an_law_made cd_law_made ct_law_made), sl_law_made⟩)
    (c_law_made : PySem.W.codeIn K cd_law_made "_law_made" = true)
    (k_law_made : PySem.W.keepIn K (.ref f_law_made) = true)
    (a_law_next : PySem.W.nsIn K mainGlobals "_law_next" = some (some (.ref f_law_next)))
    (l_law_next : K.lookup f_law_next = some ⟨oc_law_next, od_law_next, .func (PySem.W.fnOf "_law_next" "_law_next" (defArgs s_law_next) (defBody s_law_next) (defScope s_law_next) .none kV_law_next dc_law_next pm_law_next an_law_next cd_law_next ct_law_next), sl_law_next⟩)
    (c_law_next : PySem.W.codeIn K cd_law_next "_law_next" = true)
    (k_law_next : PySem.W.keepIn K (.ref f_law_next) = true)
    (a_law_pick : PySem.W.nsIn K mainGlobals "_law_pick" = some (some (.ref f_law_pick)))
    (l_law_pick : K.lookup f_law_pick = some ⟨oc_law_pick, od_law_pick, .func (PySem.W.fnOf "_law_pick" "_law_pick" (defArgs s_law_pick) (defBody s_law_pick) (defScope s_law_pick) .none kV_law_pick dc_law_pick pm_law_pick an_law_pick cd_law_pick ct_law_pick), sl_law_pick⟩)
    (c_law_pick : PySem.W.codeIn K cd_law_pick "_law_pick" = true)
    (k_law_pick : PySem.W.keepIn K (.ref f_law_pick) = true)
    (a_law_rows : PySem.W.nsIn K mainGlobals "_law_rows" = some (some (.ref f_law_rows)))
    (l_law_rows : K.lookup f_law_rows = some ⟨oc_law_rows, od_law_rows, .func (PySem.W.fnOf "_law_rows" "_law_rows" (defArgs s_law_rows) (defBody s_law_rows) (defScope s_law_rows) .none kV_law_rows dc_law_rows pm_law_rows an_law_rows cd_law_rows ct_law_rows), sl_law_rows⟩)
    (c_law_rows : PySem.W.codeIn K cd_law_rows "_law_rows" = true)
    (k_law_rows : PySem.W.keepIn K (.ref f_law_rows) = true)
    (a_law_leg : PySem.W.nsIn K mainGlobals "_law_leg" = some (some (.ref f_law_leg)))
    (l_law_leg : K.lookup f_law_leg = some ⟨oc_law_leg, od_law_leg, .func (PySem.W.fnOf "_law_leg" "_law_leg" (defArgs s_law_leg) (defBody s_law_leg) (defScope s_law_leg) .none kV_law_leg dc_law_leg pm_law_leg an_law_leg cd_law_leg ct_law_leg), sl_law_leg⟩)
    (c_law_leg : PySem.W.codeIn K cd_law_leg "_law_leg" = true)
    (k_law_leg : PySem.W.keepIn K (.ref f_law_leg) = true)
    (a_law_walk : PySem.W.nsIn K mainGlobals "_law_walk" = some (some (.ref f_law_walk)))
    (l_law_walk : K.lookup f_law_walk = some ⟨oc_law_walk, od_law_walk, .func (PySem.W.fnOf "_law_walk" "_law_walk" (defArgs s_law_walk) (defBody s_law_walk) (defScope s_law_walk) .none kV_law_walk dc_law_walk pm_law_walk an_law_walk cd_law_walk ct_law_walk), sl_law_walk⟩)
    (c_law_walk : PySem.W.codeIn K cd_law_walk "_law_walk" = true)
    (k_law_walk : PySem.W.keepIn K (.ref f_law_walk) = true)
    (a_Way_getitem : PySem.W.findIn K (.ref z_Way) "__getitem__" = some (some (.ref f_Way_getitem)))
    (i_Way_getitem : PySem.W.isFn K (.ref f_Way_getitem) = true)
    (l_Way_getitem : K.lookup f_Way_getitem = some ⟨oc_Way_getitem, od_Way_getitem, .func (PySem.W.fnOf "__getitem__" "Way.__getitem__" (defArgs s_Way_getitem) (defBody s_Way_getitem) (defScope s_Way_getitem) .none kV_Way_getitem dc_Way_getitem pm_Way_getitem an_Way_getitem cd_Way_getitem ct_Way_getitem), sl_Way_getitem⟩)
    (c_Way_getitem : PySem.W.codeIn K cd_Way_getitem "Way.__getitem__" = true)
    (k_Way_getitem : PySem.W.keepIn K (.ref f_Way_getitem) = true)
    (pa_Way_capacity : PySem.W.findIn K (.ref z_Way) "capacity" = some (some (.ref w_Way_capacity)))
    (pg_Way_capacity : PySem.W.specialIn K (.ref w_Way_capacity) "__get__" = some (some (.builtin "property.__get__")))
    (pt_Way_capacity : PySem.W.takesIn K (.ref w_Way_capacity) = some true)
    (pr_Way_capacity : PySem.W.recIn K w_Way_capacity "property" = some (.ref f_Way_capacity :: rest_Way_capacity))
    (l_Way_capacity : K.lookup f_Way_capacity = some ⟨oc_Way_capacity, od_Way_capacity, .func (PySem.W.fnOf "capacity" "Way.capacity" (defArgs s_Way_capacity) (defBody s_Way_capacity) (defScope s_Way_capacity) .none kV_Way_capacity dc_Way_capacity pm_Way_capacity an_Way_capacity cd_Way_capacity ct_Way_capacity), sl_Way_capacity⟩)
    (c_Way_capacity : PySem.W.codeIn K cd_Way_capacity "Way.capacity" = true)
    (k_Way_capacity : PySem.W.keepIn K (.ref f_Way_capacity) = true)
    (a_taken : PySem.W.nsIn K mainGlobals "taken" = some (some (.ref f_taken)))
    (l_taken : K.lookup f_taken = some ⟨oc_taken, od_taken, .func (PySem.W.fnOf "taken" "taken" (defArgs s_taken) (defBody s_taken) (defScope s_taken) .none kV_taken dc_taken pm_taken an_taken cd_taken ct_taken), sl_taken⟩)
    (c_taken : PySem.W.codeIn K cd_taken "taken" = true)
    (k_taken : PySem.W.keepIn K (.ref f_taken) = true)
    (fn_Way_getitem : PySem.W.fnIn K f_Way_getitem = true)
    (a_after_leg : PySem.W.nsIn K mainGlobals "after_leg" = some (some (.ref f_after_leg)))
    (l_after_leg : K.lookup f_after_leg = some ⟨oc_after_leg, od_after_leg, .func (PySem.W.fnOf "after_leg" "after_leg" (defArgs s_after_leg) (defBody s_after_leg) (defScope s_after_leg) .none kV_after_leg dc_after_leg pm_after_leg an_after_leg cd_after_leg ct_after_leg), sl_after_leg⟩)
    (c_after_leg : PySem.W.codeIn K cd_after_leg "after_leg" = true)
    (k_after_leg : PySem.W.keepIn K (.ref f_after_leg) = true)
    (a_Way_len : PySem.W.findIn K (.ref z_Way) "__len__" = some (some (.ref f_Way_len)))
    (i_Way_len : PySem.W.isFn K (.ref f_Way_len) = true)
    (l_Way_len : K.lookup f_Way_len = some ⟨oc_Way_len, od_Way_len, .func (PySem.W.fnOf "__len__" "Way.__len__" (defArgs s_Way_len) (defBody s_Way_len) (defScope s_Way_len) .none kV_Way_len dc_Way_len pm_Way_len an_Way_len cd_Way_len ct_Way_len), sl_Way_len⟩)
    (c_Way_len : PySem.W.codeIn K cd_Way_len "Way.__len__" = true)
    (k_Way_len : PySem.W.keepIn K (.ref f_Way_len) = true)
    (a_check_start : PySem.W.nsIn K mainGlobals "check_start" = some (some (.ref f_check_start)))
    (l_check_start : K.lookup f_check_start = some ⟨oc_check_start, od_check_start, .func (PySem.W.fnOf "check_start" "check_start" (defArgs s_check_start) (defBody s_check_start) (defScope s_check_start) .none kV_check_start dc_check_start pm_check_start an_check_start cd_check_start ct_check_start), sl_check_start⟩)
    (c_check_start : PySem.W.codeIn K cd_check_start "check_start" = true)
    (k_check_start : PySem.W.keepIn K (.ref f_check_start) = true)
    (a_first_unlike : PySem.W.nsIn K mainGlobals "first_unlike" = some (some (.ref f_first_unlike)))
    (l_first_unlike : K.lookup f_first_unlike = some ⟨oc_first_unlike, od_first_unlike, .func (PySem.W.fnOf "first_unlike" "first_unlike" (defArgs s_first_unlike) (defBody s_first_unlike) (defScope s_first_unlike) .none kV_first_unlike dc_first_unlike pm_first_unlike an_first_unlike cd_first_unlike ct_first_unlike), sl_first_unlike⟩)
    (c_first_unlike : PySem.W.codeIn K cd_first_unlike "first_unlike" = true)
    (k_first_unlike : PySem.W.keepIn K (.ref f_first_unlike) = true)
    (a_law : PySem.W.nsIn K mainGlobals "law" = some (some (.ref f_law)))
    (l_law : K.lookup f_law = some ⟨oc_law, od_law, .func (PySem.W.fnOf "law" "law" (defArgs s_law) (defBody s_law) (defScope s_law) .none kV_law dc_law pm_law an_law (.ref cc_law) ct_law), sl_law⟩)
    (c_law : PySem.W.codeIn K (.ref cc_law) "law" = true)
    (k_law : PySem.W.keepIn K (.ref f_law) = true)
    (hPt_law : h.get? Pt_law = some { cls := .none, data := .fields #[] }) (nPt_law : K.lookup Pt_law = none) (hdL_law : PySem.W.codeHdIn K cc_law Pt_law = true)
    : LamX.LawAtS l w K (L2.CX l.prog w) 21 63 "_law_script" mg fa h := by
  have EC9 : ErC K (⟨Zl [z_WalkError, z_InvalidWay, z_UnknownPost, z_InvalidNumber, z_InvalidStretch, 0, 0, 0, 0, 0, 0, 0, z_Stretch, z_Way], [(Pt_law, (envOfC "law" (defScope s_law) 0 0 .none).qual ++ "<lambda>")]⟩ : ZG) [1, 4, 2, 3] := by
    refine ⟨fun c hc => ?_, fun c hc c9 hc9 => ?_, fun c hc => ?_, fun c hc => ?_⟩
    · simp only [List.mem_cons, List.not_mem_nil, or_false] at hc
      rcases hc with rfl | rfl | rfl | rfl
      · exact ⟨eg_InvalidWay, ek_InvalidWay, es_InvalidWay, ed_InvalidWay, ea_InvalidWay, hn_oc, ht_oc, em_InvalidWay⟩
      · exact ⟨eg_InvalidStretch, ek_InvalidStretch, es_InvalidStretch, ed_InvalidStretch, ea_InvalidStretch, hn_oc, ht_oc, em_InvalidStretch⟩
      · exact ⟨eg_UnknownPost, ek_UnknownPost, es_UnknownPost, ed_UnknownPost, ea_UnknownPost, hn_oc, ht_oc, em_UnknownPost⟩
      · exact ⟨eg_InvalidNumber, ek_InvalidNumber, es_InvalidNumber, ed_InvalidNumber, ea_InvalidNumber, hn_oc, ht_oc, em_InvalidNumber⟩
    · simp only [List.mem_cons, List.not_mem_nil, or_false] at hc hc9
      rcases hc with rfl | rfl | rfl | rfl
      · rcases hc9 with rfl | rfl | rfl | rfl
        · exact kit_same
        · exact kit_ref d_InvalidWay_InvalidStretch ic_InvalidStretch ty_InvalidStretch e_InvalidWay_InvalidStretch
        · exact kit_ref d_InvalidWay_UnknownPost ic_UnknownPost ty_UnknownPost e_InvalidWay_UnknownPost
        · exact kit_ref d_InvalidWay_InvalidNumber ic_InvalidNumber ty_InvalidNumber e_InvalidWay_InvalidNumber
      · rcases hc9 with rfl | rfl | rfl | rfl
        · exact kit_ref d_InvalidStretch_InvalidWay ic_InvalidWay ty_InvalidWay e_InvalidStretch_InvalidWay
        · exact kit_same
        · exact kit_ref d_InvalidStretch_UnknownPost ic_UnknownPost ty_UnknownPost e_InvalidStretch_UnknownPost
        · exact kit_ref d_InvalidStretch_InvalidNumber ic_InvalidNumber ty_InvalidNumber e_InvalidStretch_InvalidNumber
      · rcases hc9 with rfl | rfl | rfl | rfl
        · exact kit_ref d_UnknownPost_InvalidWay ic_InvalidWay ty_InvalidWay e_UnknownPost_InvalidWay
        · exact kit_ref d_UnknownPost_InvalidStretch ic_InvalidStretch ty_InvalidStretch e_UnknownPost_InvalidStretch
        · exact kit_same
        · exact kit_ref d_UnknownPost_InvalidNumber ic_InvalidNumber ty_InvalidNumber e_UnknownPost_InvalidNumber
      · rcases hc9 with rfl | rfl | rfl | rfl
        · exact kit_ref d_InvalidNumber_InvalidWay ic_InvalidWay ty_InvalidWay e_InvalidNumber_InvalidWay
        · exact kit_ref d_InvalidNumber_InvalidStretch ic_InvalidStretch ty_InvalidStretch e_InvalidNumber_InvalidStretch
        · exact kit_ref d_InvalidNumber_UnknownPost ic_UnknownPost ty_UnknownPost e_InvalidNumber_UnknownPost
        · exact kit_same
    · simp only [List.mem_cons, List.not_mem_nil, or_false] at hc
      rcases hc with rfl | rfl | rfl | rfl
      · exact kit_ty rfl (by decide +kernel) ev_InvalidWay
      · exact kit_ty rfl (by decide +kernel) ev_InvalidStretch
      · exact kit_ty rfl (by decide +kernel) ev_UnknownPost
      · exact kit_ty rfl (by decide +kernel) ev_InvalidNumber
    · simp only [List.mem_cons, List.not_mem_nil, or_false] at hc
      rcases hc with rfl | rfl | rfl | rfl
      · exact exm_own bb_WalkError ic_WalkError ty_WalkError ex_InvalidWay
      · exact exm_own bb_WalkError ic_WalkError ty_WalkError ex_InvalidStretch
      · exact exm_own bb_WalkError ic_WalkError ty_WalkError ex_UnknownPost
      · exact exm_own bb_WalkError ic_WalkError ty_WalkError ex_InvalidNumber
  have SUP_InvalidWay : SupF l.prog K mg z_InvalidWay f_InvalidWay_init cc_InvalidWay_init cda_InvalidWay_init "self" := ⟨⟨_, _, _, l_InvalidWay_init, rfl, rfl, rfl⟩, cdf_InvalidWay_init, topsup, cell_InvalidWay_init, PySem.W.mg_none_of KX G n_super, rfl, oex_InvalidWay, tpany, mro_InvalidWay, ksi_InvalidWay, ev_InvalidWay⟩
  have hu_law : ∀ p ∈ (⟨Zl [z_WalkError, z_InvalidWay, z_UnknownPost, z_InvalidNumber, z_InvalidStretch, 0, 0, 0, 0, 0, 0, 0, z_Stretch, z_Way], [(Pt_law, (envOfC "law" (defScope s_law) 0 0 .none).qual ++ "<lambda>")]⟩ : ZG).tb, p.1 = Pt_law → p.2 = (envOfC "law" (defScope s_law) 0 0 .none).qual ++ "<lambda>" := fun p hp e => by
    simp only [List.mem_cons, List.not_mem_nil, or_false] at hp
    rcases hp with rfl
    · rfl
  have T : Txt K mg (⟨Zl [z_WalkError, z_InvalidWay, z_UnknownPost, z_InvalidNumber, z_InvalidStretch, 0, 0, 0, 0, 0, 0, 0, z_Stretch, z_Way], [(Pt_law, (envOfC "law" (defScope s_law) 0 0 .none).qual ++ "<lambda>")]⟩ : ZG) := ⟨PySem.W.mg_of KX G a_InvalidNumber,
    PySem.W.mg_of KX G a_InvalidStretch,
    PySem.W.mg_of KX G a_InvalidWay,
    PySem.W.mg_of KX G a_UnknownPost,
    PySem.W.mg_of KX G a_Way,
    ⟨_, PySem.W.mg_of KX G a_MOST_LEGS_COMPARED⟩,
    ⟨_, PySem.W.mg_of KX G a_MOST_POSTS⟩,
    ⟨_, PySem.W.mg_of KX G a_MOST_UNITS⟩,
    PySem.W.mg_none_of KX G n_ValueError,
    PySem.W.mg_none_of KX G n_bool,
    PySem.W.mg_none_of KX G n_enumerate,
    PySem.W.mg_none_of KX G n_int,
    PySem.W.mg_none_of KX G n_isinstance,
    PySem.W.mg_none_of KX G n_len,
    PySem.W.mg_none_of KX G n_list,
    PySem.W.mg_none_of KX G n_max,
    PySem.W.mg_none_of KX G n_min,
    PySem.W.mg_none_of KX G n_range,
    PySem.W.mg_none_of KX G n_str,
    PySem.W.mg_none_of KX G n_sum,
    PySem.W.mg_none_of KX G n_tuple,
    ⟨⟨pgc_Way, hdc_Way, poc_Way, sac_Way⟩, hac_Way, hn_oc, ht_oc, hmc_Way⟩,
    x_na_Way__capacity,
    x_na_Way__posts,
    x_x_InvalidNumber,
    x_k_InvalidNumber,
    x_b_InvalidNumber,
    x_t_InvalidNumber,
    x_x_UnknownPost,
    x_k_UnknownPost,
    x_b_UnknownPost,
    x_t_UnknownPost,
    EC9,
    PySem.W.mg_of KX G a_WalkError,
    ⟨eg_InvalidStretch, ek_InvalidStretch, es_InvalidStretch, ed_InvalidStretch⟩,
    xn_InvalidStretch_part,
    ⟨eg_InvalidWay, ek_InvalidWay, es_InvalidWay, ed_InvalidWay⟩,
    xn_InvalidWay_index,
    xn_InvalidWay_part⟩
  have F_law_told := fun_mk (st := s_law_told) l_law_told c_law_told k_law_told
  have F_law_dice := fun_mk (st := s_law_dice) l_law_dice c_law_dice k_law_dice
  have R_law_dice : ∀ base : Heap, K.In base → base.Ns mainGlobals mg → FnR l.prog w K mg base (L2.CX l.prog w) 2 f_law_dice (Sp1 (q_dice K)) := fun base Kb Nb => ok_law_dice F_law_dice T
  have F_law_like := fun_mk (st := s_law_like) l_law_like c_law_like k_law_like
  have R_law_like : ∀ base : Heap, K.In base → base.Ns mainGlobals mg → FnR l.prog w K mg base (L2.CX l.prog w) 20 f_law_like (SpD (⟨Zl [z_WalkError, z_InvalidWay, z_UnknownPost, z_InvalidNumber, z_InvalidStretch, 0, 0, 0, 0, 0, 0, 0, z_Stretch, z_Way], [(Pt_law, (envOfC "law" (defScope s_law) 0 0 .none).qual ++ "<lambda>")]⟩ : ZG) K S_like8) := fun base Kb Nb => by
    have go : ∀ k, FnR l.prog w K mg base (L2.CX l.prog w) (12 + k) f_law_like (SpD (⟨Zl [z_WalkError, z_InvalidWay, z_UnknownPost, z_InvalidNumber, z_InvalidStretch, 0, 0, 0, 0, 0, 0, 0, z_Stretch, z_Way], [(Pt_law, (envOfC "law" (defScope s_law) 0 0 .none).qual ++ "<lambda>")]⟩ : ZG) K (S_like k)) := fun k => by
      induction k with
      | zero => exact like_zero
      | succ k ih => exact rep_law_like (j := 12 + k) F_law_like T ⟨f_law_like, PySem.W.mg_of KX G a_law_like, k_law_like, ih⟩
    exact go 8
  have F_is_number := fun_mk (st := s_is_number) l_is_number c_is_number k_is_number
  have R_is_number : ∀ base : Heap, K.In base → base.Ns mainGlobals mg → FnR l.prog w K mg base (L2.CX l.prog w) 1 f_is_number (SpD (⟨Zl [z_WalkError, z_InvalidWay, z_UnknownPost, z_InvalidNumber, z_InvalidStretch, 0, 0, 0, 0, 0, 0, 0, z_Stretch, z_Way], [(Pt_law, (envOfC "law" (defScope s_law) 0 0 .none).qual ++ "<lambda>")]⟩ : ZG) K S_is_number) := fun base Kb Nb => ok_is_number F_is_number T
  have F_is_number_within := fun_mk (st := s_is_number_within) l_is_number_within c_is_number_within k_is_number_within
  have G_is_number__is_number_within : ∀ base : Heap, K.In base → base.Ns mainGlobals mg → Cal l.prog w K mg base 1 "is_number" (SpD (⟨Zl [z_WalkError, z_InvalidWay, z_UnknownPost, z_InvalidNumber, z_InvalidStretch, 0, 0, 0, 0, 0, 0, 0, z_Stretch, z_Way], [(Pt_law, (envOfC "law" (defScope s_law) 0 0 .none).qual ++ "<lambda>")]⟩ : ZG) K S_is_number) := fun base Kb Nb => ⟨f_is_number, PySem.W.mg_of KX G a_is_number, k_is_number, (R_is_number base Kb Nb)⟩
  have R_is_number_within : ∀ base : Heap, K.In base → base.Ns mainGlobals mg → FnR l.prog w K mg base (L2.CX l.prog w) 2 f_is_number_within (SpD (⟨Zl [z_WalkError, z_InvalidWay, z_UnknownPost, z_InvalidNumber, z_InvalidStretch, 0, 0, 0, 0, 0, 0, 0, z_Stretch, z_Way], [(Pt_law, (envOfC "law" (defScope s_law) 0 0 .none).qual ++ "<lambda>")]⟩ : ZG) K S_is_number_within) := fun base Kb Nb => ok_is_number_within F_is_number_within T (G_is_number__is_number_within base Kb Nb)
  have F_check_number_within := fun_mk (st := s_check_number_within) l_check_number_within c_check_number_within k_check_number_within
  have G_is_number_within__check_number_within : ∀ base : Heap, K.In base → base.Ns mainGlobals mg → Cal l.prog w K mg base 2 "is_number_within" (SpD (⟨Zl [z_WalkError, z_InvalidWay, z_UnknownPost, z_InvalidNumber, z_InvalidStretch, 0, 0, 0, 0, 0, 0, 0, z_Stretch, z_Way], [(Pt_law, (envOfC "law" (defScope s_law) 0 0 .none).qual ++ "<lambda>")]⟩ : ZG) K S_is_number_within) := fun base Kb Nb => ⟨f_is_number_within, PySem.W.mg_of KX G a_is_number_within, k_is_number_within, (R_is_number_within base Kb Nb)⟩
  have R_check_number_within : ∀ base : Heap, K.In base → base.Ns mainGlobals mg → FnR l.prog w K mg base (L2.CX l.prog w) 3 f_check_number_within (SpD (⟨Zl [z_WalkError, z_InvalidWay, z_UnknownPost, z_InvalidNumber, z_InvalidStretch, 0, 0, 0, 0, 0, 0, 0, z_Stretch, z_Way], [(Pt_law, (envOfC "law" (defScope s_law) 0 0 .none).qual ++ "<lambda>")]⟩ : ZG) K S_check_number_within) := fun base Kb Nb => ok_check_number_within F_check_number_within T (G_is_number_within__check_number_within base Kb Nb)
  have F_is_post := fun_mk (st := s_is_post) l_is_post c_is_post k_is_post
  have G_is_number_within__is_post : ∀ base : Heap, K.In base → base.Ns mainGlobals mg → Cal l.prog w K mg base 2 "is_number_within" (SpD (⟨Zl [z_WalkError, z_InvalidWay, z_UnknownPost, z_InvalidNumber, z_InvalidStretch, 0, 0, 0, 0, 0, 0, 0, z_Stretch, z_Way], [(Pt_law, (envOfC "law" (defScope s_law) 0 0 .none).qual ++ "<lambda>")]⟩ : ZG) K S_is_number_within) := fun base Kb Nb => ⟨f_is_number_within, PySem.W.mg_of KX G a_is_number_within, k_is_number_within, (R_is_number_within base Kb Nb)⟩
  have R_is_post : ∀ base : Heap, K.In base → base.Ns mainGlobals mg → FnR l.prog w K mg base (L2.CX l.prog w) 3 f_is_post (SpD (⟨Zl [z_WalkError, z_InvalidWay, z_UnknownPost, z_InvalidNumber, z_InvalidStretch, 0, 0, 0, 0, 0, 0, 0, z_Stretch, z_Way], [(Pt_law, (envOfC "law" (defScope s_law) 0 0 .none).qual ++ "<lambda>")]⟩ : ZG) K S_is_post) := fun base Kb Nb => ok_is_post F_is_post T (G_is_number_within__is_post base Kb Nb)
  have F_first_wrong := fun_mk (st := s_first_wrong) l_first_wrong c_first_wrong k_first_wrong
  have G_is_post__first_wrong : ∀ base : Heap, K.In base → base.Ns mainGlobals mg → Cal l.prog w K mg base 3 "_is_post" (SpD (⟨Zl [z_WalkError, z_InvalidWay, z_UnknownPost, z_InvalidNumber, z_InvalidStretch, 0, 0, 0, 0, 0, 0, 0, z_Stretch, z_Way], [(Pt_law, (envOfC "law" (defScope s_law) 0 0 .none).qual ++ "<lambda>")]⟩ : ZG) K S_is_post) := fun base Kb Nb => ⟨f_is_post, PySem.W.mg_of KX G a_is_post, k_is_post, (R_is_post base Kb Nb)⟩
  have R_first_wrong : ∀ base : Heap, K.In base → base.Ns mainGlobals mg → FnR l.prog w K mg base (L2.CX l.prog w) 4 f_first_wrong (SpD (⟨Zl [z_WalkError, z_InvalidWay, z_UnknownPost, z_InvalidNumber, z_InvalidStretch, 0, 0, 0, 0, 0, 0, 0, z_Stretch, z_Way], [(Pt_law, (envOfC "law" (defScope s_law) 0 0 .none).qual ++ "<lambda>")]⟩ : ZG) K S_first_wrong) := fun base Kb Nb => ok_first_wrong F_first_wrong T (G_is_post__first_wrong base Kb Nb)
  have F_Way_init := fun_mk (st := s_Way_init) l_Way_init c_Way_init k_Way_init
  have G_first_wrong__Way_init : ∀ base : Heap, K.In base → base.Ns mainGlobals mg → Cal l.prog w K mg base 4 "_first_wrong" (SpD (⟨Zl [z_WalkError, z_InvalidWay, z_UnknownPost, z_InvalidNumber, z_InvalidStretch, 0, 0, 0, 0, 0, 0, 0, z_Stretch, z_Way], [(Pt_law, (envOfC "law" (defScope s_law) 0 0 .none).qual ++ "<lambda>")]⟩ : ZG) K S_first_wrong) := fun base Kb Nb => ⟨f_first_wrong, PySem.W.mg_of KX G a_first_wrong, k_first_wrong, (R_first_wrong base Kb Nb)⟩
  have G_is_number_within__Way_init : ∀ base : Heap, K.In base → base.Ns mainGlobals mg → Cal l.prog w K mg base 2 "is_number_within" (SpD (⟨Zl [z_WalkError, z_InvalidWay, z_UnknownPost, z_InvalidNumber, z_InvalidStretch, 0, 0, 0, 0, 0, 0, 0, z_Stretch, z_Way], [(Pt_law, (envOfC "law" (defScope s_law) 0 0 .none).qual ++ "<lambda>")]⟩ : ZG) K S_is_number_within) := fun base Kb Nb => ⟨f_is_number_within, PySem.W.mg_of KX G a_is_number_within, k_is_number_within, (R_is_number_within base Kb Nb)⟩
  have X_InvalidWay__Way_init : ∀ base : Heap, K.In base → base.Ns mainGlobals mg → Exo l.prog w K mg base 2 "InvalidWay" z_InvalidWay (SpX z_InvalidWay ["part", "index"]) := fun base Kb Nb => ⟨PySem.W.mg_of KX G a_InvalidWay, f_InvalidWay_init, _, ["self", "part", "index"], oex_InvalidWay, ini_InvalidWay_init, tyf_InvalidWay_init, ok_InvalidWay_init l_InvalidWay_init c_InvalidWay_init SUP_InvalidWay xn_InvalidWay_part xn_InvalidWay_index, .all (fun us hl => match us, hl with | [_, _, _], _ => rfl)⟩
  have R_Way_init : ∀ base : Heap, K.In base → base.Ns mainGlobals mg → FnR l.prog w K mg base (L2.CX l.prog w) 5 f_Way_init (SpI (⟨Zl [z_WalkError, z_InvalidWay, z_UnknownPost, z_InvalidNumber, z_InvalidStretch, 0, 0, 0, 0, 0, 0, 0, z_Stretch, z_Way], [(Pt_law, (envOfC "law" (defScope s_law) 0 0 .none).qual ++ "<lambda>")]⟩ : ZG) K 13 S_Way_init) := fun base Kb Nb => ok_Way_init F_Way_init T (G_first_wrong__Way_init base Kb Nb) (G_is_number_within__Way_init base Kb Nb) (X_InvalidWay__Way_init base Kb Nb)
  have F_Way_even := fun_mk (st := s_Way_even) l_Way_even c_Way_even k_Way_even
  have G_check_number_within__Way_even : ∀ base : Heap, K.In base → base.Ns mainGlobals mg → Cal l.prog w K mg base 3 "check_number_within" (SpD (⟨Zl [z_WalkError, z_InvalidWay, z_UnknownPost, z_InvalidNumber, z_InvalidStretch, 0, 0, 0, 0, 0, 0, 0, z_Stretch, z_Way], [(Pt_law, (envOfC "law" (defScope s_law) 0 0 .none).qual ++ "<lambda>")]⟩ : ZG) K S_check_number_within) := fun base Kb Nb => ⟨f_check_number_within, PySem.W.mg_of KX G a_check_number_within, k_check_number_within, (R_check_number_within base Kb Nb)⟩
  have M_Way__Way_even : ∀ base : Heap, K.In base → base.Ns mainGlobals mg → Mak l.prog w K mg base 5 "Way" z_Way (SpI (⟨Zl [z_WalkError, z_InvalidWay, z_UnknownPost, z_InvalidNumber, z_InvalidStretch, 0, 0, 0, 0, 0, 0, 0, z_Stretch, z_Way], [(Pt_law, (envOfC "law" (defScope s_law) 0 0 .none).qual ++ "<lambda>")]⟩ : ZG) K 13 S_Way_init) := fun base Kb Nb => ⟨PySem.W.mg_of KX G a_Way, f_Way_init, ⟨mk_Way, a_Way_init, i_Way_init, kc_Way⟩, (R_Way_init base Kb Nb)⟩
  have R_Way_even : ∀ base : Heap, K.In base → base.Ns mainGlobals mg → FnR l.prog w K mg base (L2.CX l.prog w) 7 f_Way_even (SpD (⟨Zl [z_WalkError, z_InvalidWay, z_UnknownPost, z_InvalidNumber, z_InvalidStretch, 0, 0, 0, 0, 0, 0, 0, z_Stretch, z_Way], [(Pt_law, (envOfC "law" (defScope s_law) 0 0 .none).qual ++ "<lambda>")]⟩ : ZG) K S_Way_even) := fun base Kb Nb => ok_Way_even F_Way_even T (G_check_number_within__Way_even base Kb Nb) (M_Way__Way_even base Kb Nb)
  have F_check_post := fun_mk (st := s_check_post) l_check_post c_check_post k_check_post
  have G_is_number_within__check_post : ∀ base : Heap, K.In base → base.Ns mainGlobals mg → Cal l.prog w K mg base 2 "is_number_within" (SpD (⟨Zl [z_WalkError, z_InvalidWay, z_UnknownPost, z_InvalidNumber, z_InvalidStretch, 0, 0, 0, 0, 0, 0, 0, z_Stretch, z_Way], [(Pt_law, (envOfC "law" (defScope s_law) 0 0 .none).qual ++ "<lambda>")]⟩ : ZG) K S_is_number_within) := fun base Kb Nb => ⟨f_is_number_within, PySem.W.mg_of KX G a_is_number_within, k_is_number_within, (R_is_number_within base Kb Nb)⟩
  have R_check_post : ∀ base : Heap, K.In base → base.Ns mainGlobals mg → FnR l.prog w K mg base (L2.CX l.prog w) 3 f_check_post (SpD (⟨Zl [z_WalkError, z_InvalidWay, z_UnknownPost, z_InvalidNumber, z_InvalidStretch, 0, 0, 0, 0, 0, 0, 0, z_Stretch, z_Way], [(Pt_law, (envOfC "law" (defScope s_law) 0 0 .none).qual ++ "<lambda>")]⟩ : ZG) K S_check_post) := fun base Kb Nb => ok_check_post F_check_post T (G_is_number_within__check_post base Kb Nb)
  have F_Way_with_post := fun_mk (st := s_Way_with_post) l_Way_with_post c_Way_with_post k_Way_with_post
  have G_check_post__Way_with_post : ∀ base : Heap, K.In base → base.Ns mainGlobals mg → Cal l.prog w K mg base 3 "check_post" (SpD (⟨Zl [z_WalkError, z_InvalidWay, z_UnknownPost, z_InvalidNumber, z_InvalidStretch, 0, 0, 0, 0, 0, 0, 0, z_Stretch, z_Way], [(Pt_law, (envOfC "law" (defScope s_law) 0 0 .none).qual ++ "<lambda>")]⟩ : ZG) K S_check_post) := fun base Kb Nb => ⟨f_check_post, PySem.W.mg_of KX G a_check_post, k_check_post, (R_check_post base Kb Nb)⟩
  have M_Way__Way_with_post : ∀ base : Heap, K.In base → base.Ns mainGlobals mg → Mak l.prog w K mg base 5 "Way" z_Way (SpI (⟨Zl [z_WalkError, z_InvalidWay, z_UnknownPost, z_InvalidNumber, z_InvalidStretch, 0, 0, 0, 0, 0, 0, 0, z_Stretch, z_Way], [(Pt_law, (envOfC "law" (defScope s_law) 0 0 .none).qual ++ "<lambda>")]⟩ : ZG) K 13 S_Way_init) := fun base Kb Nb => ⟨PySem.W.mg_of KX G a_Way, f_Way_init, ⟨mk_Way, a_Way_init, i_Way_init, kc_Way⟩, (R_Way_init base Kb Nb)⟩
  have R_Way_with_post : ∀ base : Heap, K.In base → base.Ns mainGlobals mg → FnR l.prog w K mg base (L2.CX l.prog w) 7 f_Way_with_post (SpD (⟨Zl [z_WalkError, z_InvalidWay, z_UnknownPost, z_InvalidNumber, z_InvalidStretch, 0, 0, 0, 0, 0, 0, 0, z_Stretch, z_Way], [(Pt_law, (envOfC "law" (defScope s_law) 0 0 .none).qual ++ "<lambda>")]⟩ : ZG) K S_Way_with_post) := fun base Kb Nb => ok_Way_with_post F_Way_with_post T (G_check_post__Way_with_post base Kb Nb) (M_Way__Way_with_post base Kb Nb)
  have F_law_made := fun_mk (st := s_law_made) l_law_made c_law_made k_law_made
  have K_Way_even__law_made : ∀ base : Heap, K.In base → base.Ns mainGlobals mg → Cmt l.prog w K mg base 7 z_Way "even" (SpD (⟨Zl [z_WalkError, z_InvalidWay, z_UnknownPost, z_InvalidNumber, z_InvalidStretch, 0, 0, 0, 0, 0, 0, 0, z_Stretch, z_Way], [(Pt_law, (envOfC "law" (defScope s_law) 0 0 .none).qual ++ "<lambda>")]⟩ : ZG) K S_Way_even) := fun base Kb Nb => ⟨_, w_Way_even, f_Way_even, ⟨cr_Way, cg_Way⟩, ⟨ca_Way_even, ⟨_, cc_Way_even⟩, cf_Way_even⟩, (R_Way_even base Kb Nb)⟩
  have D_Way_with_post__law_made : ∀ base : Heap, K.In base → base.Ns mainGlobals mg → Met l.prog w K mg base 7 z_Way "with_post" (SpD (⟨Zl [z_WalkError, z_InvalidWay, z_UnknownPost, z_InvalidNumber, z_InvalidStretch, 0, 0, 0, 0, 0, 0, 0, z_Stretch, z_Way], [(Pt_law, (envOfC "law" (defScope s_law) 0 0 .none).qual ++ "<lambda>")]⟩ : ZG) K S_Way_with_post) := fun base Kb Nb => ⟨T.o_Way.cl, f_Way_with_post, ⟨a_Way_with_post, i_Way_with_post, k_Way_with_post⟩, (R_Way_with_post base Kb Nb)⟩
  have R_law_made : ∀ base : Heap, K.In base → base.Ns mainGlobals mg → FnR l.prog w K mg base (L2.CX l.prog w) 8 f_law_made (SpD (⟨Zl [z_WalkError, z_InvalidWay, z_UnknownPost, z_InvalidNumber, z_InvalidStretch, 0, 0, 0, 0, 0, 0, 0, z_Stretch, z_Way], [(Pt_law, (envOfC "law" (defScope s_law) 0 0 .none).qual ++ "<lambda>")]⟩ : ZG) K S_law_made) := fun base Kb Nb => ok_law_made F_law_made T (K_Way_even__law_made base Kb Nb) (D_Way_with_post__law_made base Kb Nb)
  have F_law_next := fun_mk (st := s_law_next) l_law_next c_law_next k_law_next
  have R_law_next : ∀ base : Heap, K.In base → base.Ns mainGlobals mg → FnR l.prog w K mg base (L2.CX l.prog w) 2 f_law_next (SpD (⟨Zl [z_WalkError, z_InvalidWay, z_UnknownPost, z_InvalidNumber, z_InvalidStretch, 0, 0, 0, 0, 0, 0, 0, z_Stretch, z_Way], [(Pt_law, (envOfC "law" (defScope s_law) 0 0 .none).qual ++ "<lambda>")]⟩ : ZG) K S_next) := fun base Kb Nb => ok_law_next F_law_next T
  have F_law_pick := fun_mk (st := s_law_pick) l_law_pick c_law_pick k_law_pick
  have G_law_next__law_pick : ∀ base : Heap, K.In base → base.Ns mainGlobals mg → Cal l.prog w K mg base 2 "_law_next" (SpD (⟨Zl [z_WalkError, z_InvalidWay, z_UnknownPost, z_InvalidNumber, z_InvalidStretch, 0, 0, 0, 0, 0, 0, 0, z_Stretch, z_Way], [(Pt_law, (envOfC "law" (defScope s_law) 0 0 .none).qual ++ "<lambda>")]⟩ : ZG) K S_next) := fun base Kb Nb => ⟨f_law_next, PySem.W.mg_of KX G a_law_next, k_law_next, (R_law_next base Kb Nb)⟩
  have R_law_pick : ∀ base : Heap, K.In base → base.Ns mainGlobals mg → FnR l.prog w K mg base (L2.CX l.prog w) 3 f_law_pick (SpD (⟨Zl [z_WalkError, z_InvalidWay, z_UnknownPost, z_InvalidNumber, z_InvalidStretch, 0, 0, 0, 0, 0, 0, 0, z_Stretch, z_Way], [(Pt_law, (envOfC "law" (defScope s_law) 0 0 .none).qual ++ "<lambda>")]⟩ : ZG) K S_law_pick) := fun base Kb Nb => ok_law_pick F_law_pick T (G_law_next__law_pick base Kb Nb)
  have F_law_rows := fun_mk (st := s_law_rows) l_law_rows c_law_rows k_law_rows
  have G_law_next__law_rows : ∀ base : Heap, K.In base → base.Ns mainGlobals mg → Cal l.prog w K mg base 2 "_law_next" (SpD (⟨Zl [z_WalkError, z_InvalidWay, z_UnknownPost, z_InvalidNumber, z_InvalidStretch, 0, 0, 0, 0, 0, 0, 0, z_Stretch, z_Way], [(Pt_law, (envOfC "law" (defScope s_law) 0 0 .none).qual ++ "<lambda>")]⟩ : ZG) K S_next) := fun base Kb Nb => ⟨f_law_next, PySem.W.mg_of KX G a_law_next, k_law_next, (R_law_next base Kb Nb)⟩
  have G_law_pick__law_rows : ∀ base : Heap, K.In base → base.Ns mainGlobals mg → Cal l.prog w K mg base 3 "_law_pick" (SpD (⟨Zl [z_WalkError, z_InvalidWay, z_UnknownPost, z_InvalidNumber, z_InvalidStretch, 0, 0, 0, 0, 0, 0, 0, z_Stretch, z_Way], [(Pt_law, (envOfC "law" (defScope s_law) 0 0 .none).qual ++ "<lambda>")]⟩ : ZG) K S_law_pick) := fun base Kb Nb => ⟨f_law_pick, PySem.W.mg_of KX G a_law_pick, k_law_pick, (R_law_pick base Kb Nb)⟩
  have R_law_rows : ∀ base : Heap, K.In base → base.Ns mainGlobals mg → FnR l.prog w K mg base (L2.CX l.prog w) 4 f_law_rows (SpD (⟨Zl [z_WalkError, z_InvalidWay, z_UnknownPost, z_InvalidNumber, z_InvalidStretch, 0, 0, 0, 0, 0, 0, 0, z_Stretch, z_Way], [(Pt_law, (envOfC "law" (defScope s_law) 0 0 .none).qual ++ "<lambda>")]⟩ : ZG) K S_law_rows) := fun base Kb Nb => ok_law_rows F_law_rows T (G_law_next__law_rows base Kb Nb) (G_law_pick__law_rows base Kb Nb)
  have F_law_leg := fun_mk (st := s_law_leg) l_law_leg c_law_leg k_law_leg
  have R_law_leg : ∀ base : Heap, K.In base → base.Ns mainGlobals mg → FnR l.prog w K mg base (L2.CX l.prog w) 1 f_law_leg (SpD (⟨Zl [z_WalkError, z_InvalidWay, z_UnknownPost, z_InvalidNumber, z_InvalidStretch, 0, 0, 0, 0, 0, 0, 0, z_Stretch, z_Way], [(Pt_law, (envOfC "law" (defScope s_law) 0 0 .none).qual ++ "<lambda>")]⟩ : ZG) K S_law_leg) := fun base Kb Nb => ok_law_leg F_law_leg T
  have F_law_walk := fun_mk (st := s_law_walk) l_law_walk c_law_walk k_law_walk
  have G_law_leg__law_walk : ∀ base : Heap, K.In base → base.Ns mainGlobals mg → Cal l.prog w K mg base 1 "_law_leg" (SpD (⟨Zl [z_WalkError, z_InvalidWay, z_UnknownPost, z_InvalidNumber, z_InvalidStretch, 0, 0, 0, 0, 0, 0, 0, z_Stretch, z_Way], [(Pt_law, (envOfC "law" (defScope s_law) 0 0 .none).qual ++ "<lambda>")]⟩ : ZG) K S_law_leg) := fun base Kb Nb => ⟨f_law_leg, PySem.W.mg_of KX G a_law_leg, k_law_leg, (R_law_leg base Kb Nb)⟩
  have R_law_walk : ∀ base : Heap, K.In base → base.Ns mainGlobals mg → FnR l.prog w K mg base (L2.CX l.prog w) 2 f_law_walk (SpD (⟨Zl [z_WalkError, z_InvalidWay, z_UnknownPost, z_InvalidNumber, z_InvalidStretch, 0, 0, 0, 0, 0, 0, 0, z_Stretch, z_Way], [(Pt_law, (envOfC "law" (defScope s_law) 0 0 .none).qual ++ "<lambda>")]⟩ : ZG) K S_law_walk) := fun base Kb Nb => ok_law_walk F_law_walk T (G_law_leg__law_walk base Kb Nb)
  have F_Way_getitem := fun_mk (st := s_Way_getitem) l_Way_getitem c_Way_getitem k_Way_getitem
  have G_check_post__Way_getitem : ∀ base : Heap, K.In base → base.Ns mainGlobals mg → Cal l.prog w K mg base 3 "check_post" (SpD (⟨Zl [z_WalkError, z_InvalidWay, z_UnknownPost, z_InvalidNumber, z_InvalidStretch, 0, 0, 0, 0, 0, 0, 0, z_Stretch, z_Way], [(Pt_law, (envOfC "law" (defScope s_law) 0 0 .none).qual ++ "<lambda>")]⟩ : ZG) K S_check_post) := fun base Kb Nb => ⟨f_check_post, PySem.W.mg_of KX G a_check_post, k_check_post, (R_check_post base Kb Nb)⟩
  have R_Way_getitem : ∀ base : Heap, K.In base → base.Ns mainGlobals mg → FnR l.prog w K mg base (L2.CX l.prog w) 4 f_Way_getitem (SpD (⟨Zl [z_WalkError, z_InvalidWay, z_UnknownPost, z_InvalidNumber, z_InvalidStretch, 0, 0, 0, 0, 0, 0, 0, z_Stretch, z_Way], [(Pt_law, (envOfC "law" (defScope s_law) 0 0 .none).qual ++ "<lambda>")]⟩ : ZG) K S_Way_getitem) := fun base Kb Nb => ok_Way_getitem F_Way_getitem T (G_check_post__Way_getitem base Kb Nb)
  have F_Way_capacity := fun_mk (st := s_Way_capacity) l_Way_capacity c_Way_capacity k_Way_capacity
  have R_Way_capacity : ∀ base : Heap, K.In base → base.Ns mainGlobals mg → FnR l.prog w K mg base (L2.CX l.prog w) 1 f_Way_capacity (SpD (⟨Zl [z_WalkError, z_InvalidWay, z_UnknownPost, z_InvalidNumber, z_InvalidStretch, 0, 0, 0, 0, 0, 0, 0, z_Stretch, z_Way], [(Pt_law, (envOfC "law" (defScope s_law) 0 0 .none).qual ++ "<lambda>")]⟩ : ZG) K S_Way_capacity) := fun base Kb Nb => ok_Way_capacity F_Way_capacity T
  have F_taken := fun_mk (st := s_taken) l_taken c_taken k_taken
  have X_Way__taken : ∀ base : Heap, K.In base → base.Ns mainGlobals mg → GetO l.prog w K mg base 4 z_Way (SpD (⟨Zl [z_WalkError, z_InvalidWay, z_UnknownPost, z_InvalidNumber, z_InvalidStretch, 0, 0, 0, 0, 0, 0, 0, z_Stretch, z_Way], [(Pt_law, (envOfC "law" (defScope s_law) 0 0 .none).qual ++ "<lambda>")]⟩ : ZG) K S_Way_getitem) := fun base Kb Nb => ⟨f_Way_getitem, a_Way_getitem, fn_Way_getitem, i_Way_getitem, (R_Way_getitem base Kb Nb)⟩
  have P_Way_capacity__taken : ∀ base : Heap, K.In base → base.Ns mainGlobals mg → Prp l.prog w K mg base 1 z_Way "capacity" (SpD (⟨Zl [z_WalkError, z_InvalidWay, z_UnknownPost, z_InvalidNumber, z_InvalidStretch, 0, 0, 0, 0, 0, 0, 0, z_Stretch, z_Way], [(Pt_law, (envOfC "law" (defScope s_law) 0 0 .none).qual ++ "<lambda>")]⟩ : ZG) K S_Way_capacity) := fun base Kb Nb => ⟨T.o_Way.cl, w_Way_capacity, f_Way_capacity, ⟨pa_Way_capacity, pg_Way_capacity, pt_Way_capacity, ⟨_, pr_Way_capacity⟩⟩, (R_Way_capacity base Kb Nb)⟩
  have R_taken : ∀ base : Heap, K.In base → base.Ns mainGlobals mg → FnR l.prog w K mg base (L2.CX l.prog w) 6 f_taken (SpD (⟨Zl [z_WalkError, z_InvalidWay, z_UnknownPost, z_InvalidNumber, z_InvalidStretch, 0, 0, 0, 0, 0, 0, 0, z_Stretch, z_Way], [(Pt_law, (envOfC "law" (defScope s_law) 0 0 .none).qual ++ "<lambda>")]⟩ : ZG) K S_taken) := fun base Kb Nb => ok_taken F_taken T (X_Way__taken base Kb Nb) (P_Way_capacity__taken base Kb Nb)
  have F_after_leg := fun_mk (st := s_after_leg) l_after_leg c_after_leg k_after_leg
  have G_taken__after_leg : ∀ base : Heap, K.In base → base.Ns mainGlobals mg → Cal l.prog w K mg base 6 "taken" (SpD (⟨Zl [z_WalkError, z_InvalidWay, z_UnknownPost, z_InvalidNumber, z_InvalidStretch, 0, 0, 0, 0, 0, 0, 0, z_Stretch, z_Way], [(Pt_law, (envOfC "law" (defScope s_law) 0 0 .none).qual ++ "<lambda>")]⟩ : ZG) K S_taken) := fun base Kb Nb => ⟨f_taken, PySem.W.mg_of KX G a_taken, k_taken, (R_taken base Kb Nb)⟩
  have X_Way__after_leg : ∀ base : Heap, K.In base → base.Ns mainGlobals mg → GetO l.prog w K mg base 4 z_Way (SpD (⟨Zl [z_WalkError, z_InvalidWay, z_UnknownPost, z_InvalidNumber, z_InvalidStretch, 0, 0, 0, 0, 0, 0, 0, z_Stretch, z_Way], [(Pt_law, (envOfC "law" (defScope s_law) 0 0 .none).qual ++ "<lambda>")]⟩ : ZG) K S_Way_getitem) := fun base Kb Nb => ⟨f_Way_getitem, a_Way_getitem, fn_Way_getitem, i_Way_getitem, (R_Way_getitem base Kb Nb)⟩
  have R_after_leg : ∀ base : Heap, K.In base → base.Ns mainGlobals mg → FnR l.prog w K mg base (L2.CX l.prog w) 7 f_after_leg (SpD (⟨Zl [z_WalkError, z_InvalidWay, z_UnknownPost, z_InvalidNumber, z_InvalidStretch, 0, 0, 0, 0, 0, 0, 0, z_Stretch, z_Way], [(Pt_law, (envOfC "law" (defScope s_law) 0 0 .none).qual ++ "<lambda>")]⟩ : ZG) K S_after_leg) := fun base Kb Nb => ok_after_leg F_after_leg T (G_taken__after_leg base Kb Nb) (X_Way__after_leg base Kb Nb)
  have F_Way_len := fun_mk (st := s_Way_len) l_Way_len c_Way_len k_Way_len
  have R_Way_len : ∀ base : Heap, K.In base → base.Ns mainGlobals mg → FnR l.prog w K mg base (L2.CX l.prog w) 1 f_Way_len (SpD (⟨Zl [z_WalkError, z_InvalidWay, z_UnknownPost, z_InvalidNumber, z_InvalidStretch, 0, 0, 0, 0, 0, 0, 0, z_Stretch, z_Way], [(Pt_law, (envOfC "law" (defScope s_law) 0 0 .none).qual ++ "<lambda>")]⟩ : ZG) K S_Way_len) := fun base Kb Nb => ok_Way_len F_Way_len T
  have F_check_start := fun_mk (st := s_check_start) l_check_start c_check_start k_check_start
  have G_check_number_within__check_start : ∀ base : Heap, K.In base → base.Ns mainGlobals mg → Cal l.prog w K mg base 3 "check_number_within" (SpD (⟨Zl [z_WalkError, z_InvalidWay, z_UnknownPost, z_InvalidNumber, z_InvalidStretch, 0, 0, 0, 0, 0, 0, 0, z_Stretch, z_Way], [(Pt_law, (envOfC "law" (defScope s_law) 0 0 .none).qual ++ "<lambda>")]⟩ : ZG) K S_check_number_within) := fun base Kb Nb => ⟨f_check_number_within, PySem.W.mg_of KX G a_check_number_within, k_check_number_within, (R_check_number_within base Kb Nb)⟩
  have G_check_post__check_start : ∀ base : Heap, K.In base → base.Ns mainGlobals mg → Cal l.prog w K mg base 3 "check_post" (SpD (⟨Zl [z_WalkError, z_InvalidWay, z_UnknownPost, z_InvalidNumber, z_InvalidStretch, 0, 0, 0, 0, 0, 0, 0, z_Stretch, z_Way], [(Pt_law, (envOfC "law" (defScope s_law) 0 0 .none).qual ++ "<lambda>")]⟩ : ZG) K S_check_post) := fun base Kb Nb => ⟨f_check_post, PySem.W.mg_of KX G a_check_post, k_check_post, (R_check_post base Kb Nb)⟩
  have L_Way__check_start : ∀ base : Heap, K.In base → base.Ns mainGlobals mg → LenO l.prog w K mg base 1 z_Way (SpD (⟨Zl [z_WalkError, z_InvalidWay, z_UnknownPost, z_InvalidNumber, z_InvalidStretch, 0, 0, 0, 0, 0, 0, 0, z_Stretch, z_Way], [(Pt_law, (envOfC "law" (defScope s_law) 0 0 .none).qual ++ "<lambda>")]⟩ : ZG) K S_Way_len) := fun base Kb Nb => ⟨f_Way_len, a_Way_len, i_Way_len, (R_Way_len base Kb Nb)⟩
  have P_Way_capacity__check_start : ∀ base : Heap, K.In base → base.Ns mainGlobals mg → Prp l.prog w K mg base 1 z_Way "capacity" (SpD (⟨Zl [z_WalkError, z_InvalidWay, z_UnknownPost, z_InvalidNumber, z_InvalidStretch, 0, 0, 0, 0, 0, 0, 0, z_Stretch, z_Way], [(Pt_law, (envOfC "law" (defScope s_law) 0 0 .none).qual ++ "<lambda>")]⟩ : ZG) K S_Way_capacity) := fun base Kb Nb => ⟨T.o_Way.cl, w_Way_capacity, f_Way_capacity, ⟨pa_Way_capacity, pg_Way_capacity, pt_Way_capacity, ⟨_, pr_Way_capacity⟩⟩, (R_Way_capacity base Kb Nb)⟩
  have R_check_start : ∀ base : Heap, K.In base → base.Ns mainGlobals mg → FnR l.prog w K mg base (L2.CX l.prog w) 4 f_check_start (SpD (⟨Zl [z_WalkError, z_InvalidWay, z_UnknownPost, z_InvalidNumber, z_InvalidStretch, 0, 0, 0, 0, 0, 0, 0, z_Stretch, z_Way], [(Pt_law, (envOfC "law" (defScope s_law) 0 0 .none).qual ++ "<lambda>")]⟩ : ZG) K S_check_start) := fun base Kb Nb => ok_check_start F_check_start T (G_check_number_within__check_start base Kb Nb) (G_check_post__check_start base Kb Nb) (L_Way__check_start base Kb Nb) (P_Way_capacity__check_start base Kb Nb)
  have F_first_unlike := fun_mk (st := s_first_unlike) l_first_unlike c_first_unlike k_first_unlike
  have G_after_leg__first_unlike : ∀ base : Heap, K.In base → base.Ns mainGlobals mg → Cal l.prog w K mg base 7 "after_leg" (SpD (⟨Zl [z_WalkError, z_InvalidWay, z_UnknownPost, z_InvalidNumber, z_InvalidStretch, 0, 0, 0, 0, 0, 0, 0, z_Stretch, z_Way], [(Pt_law, (envOfC "law" (defScope s_law) 0 0 .none).qual ++ "<lambda>")]⟩ : ZG) K S_after_leg) := fun base Kb Nb => ⟨f_after_leg, PySem.W.mg_of KX G a_after_leg, k_after_leg, (R_after_leg base Kb Nb)⟩
  have G_check_start__first_unlike : ∀ base : Heap, K.In base → base.Ns mainGlobals mg → Cal l.prog w K mg base 4 "check_start" (SpD (⟨Zl [z_WalkError, z_InvalidWay, z_UnknownPost, z_InvalidNumber, z_InvalidStretch, 0, 0, 0, 0, 0, 0, 0, z_Stretch, z_Way], [(Pt_law, (envOfC "law" (defScope s_law) 0 0 .none).qual ++ "<lambda>")]⟩ : ZG) K S_check_start) := fun base Kb Nb => ⟨f_check_start, PySem.W.mg_of KX G a_check_start, k_check_start, (R_check_start base Kb Nb)⟩
  have L_Way__first_unlike : ∀ base : Heap, K.In base → base.Ns mainGlobals mg → LenO l.prog w K mg base 1 z_Way (SpD (⟨Zl [z_WalkError, z_InvalidWay, z_UnknownPost, z_InvalidNumber, z_InvalidStretch, 0, 0, 0, 0, 0, 0, 0, z_Stretch, z_Way], [(Pt_law, (envOfC "law" (defScope s_law) 0 0 .none).qual ++ "<lambda>")]⟩ : ZG) K S_Way_len) := fun base Kb Nb => ⟨f_Way_len, a_Way_len, i_Way_len, (R_Way_len base Kb Nb)⟩
  have R_first_unlike : ∀ base : Heap, K.In base → base.Ns mainGlobals mg → FnR l.prog w K mg base (L2.CX l.prog w) 8 f_first_unlike (SpD (⟨Zl [z_WalkError, z_InvalidWay, z_UnknownPost, z_InvalidNumber, z_InvalidStretch, 0, 0, 0, 0, 0, 0, 0, z_Stretch, z_Way], [(Pt_law, (envOfC "law" (defScope s_law) 0 0 .none).qual ++ "<lambda>")]⟩ : ZG) K S_first_unlike) := fun base Kb Nb => ok_first_unlike F_first_unlike T (G_after_leg__first_unlike base Kb Nb) (G_check_start__first_unlike base Kb Nb) (L_Way__first_unlike base Kb Nb)
  have FC_law : FunC K "law" "law" s_law f_law (PySem.W.fnOf "law" "law" (defArgs s_law) (defBody s_law) (defScope s_law) .none kV_law dc_law pm_law an_law (.ref cc_law) ct_law) cc_law := ⟨⟨oc_law, od_law, kV_law, dc_law, pm_law, an_law, ct_law, sl_law, rfl, l_law, c_law⟩⟩
  have G_law_dice__law : ∀ base : Heap, K.In base → base.Ns mainGlobals mg → Cal l.prog w K mg base 2 "_law_dice" (Sp1 (q_dice K)) := fun base Kb Nb => ⟨f_law_dice, PySem.W.mg_of KX G a_law_dice, k_law_dice, (R_law_dice base Kb Nb)⟩
  have G_law_like__law : ∀ base : Heap, K.In base → base.Ns mainGlobals mg → Cal l.prog w K mg base 20 "_law_like" (SpD (⟨Zl [z_WalkError, z_InvalidWay, z_UnknownPost, z_InvalidNumber, z_InvalidStretch, 0, 0, 0, 0, 0, 0, 0, z_Stretch, z_Way], [(Pt_law, (envOfC "law" (defScope s_law) 0 0 .none).qual ++ "<lambda>")]⟩ : ZG) K S_like8) := fun base Kb Nb => ⟨f_law_like, PySem.W.mg_of KX G a_law_like, k_law_like, (R_law_like base Kb Nb)⟩
  have G_law_made__law : ∀ base : Heap, K.In base → base.Ns mainGlobals mg → Cal l.prog w K mg base 8 "_law_made" (SpD (⟨Zl [z_WalkError, z_InvalidWay, z_UnknownPost, z_InvalidNumber, z_InvalidStretch, 0, 0, 0, 0, 0, 0, 0, z_Stretch, z_Way], [(Pt_law, (envOfC "law" (defScope s_law) 0 0 .none).qual ++ "<lambda>")]⟩ : ZG) K S_law_made) := fun base Kb Nb => ⟨f_law_made, PySem.W.mg_of KX G a_law_made, k_law_made, (R_law_made base Kb Nb)⟩
  have G_law_next__law : ∀ base : Heap, K.In base → base.Ns mainGlobals mg → Cal l.prog w K mg base 2 "_law_next" (SpD (⟨Zl [z_WalkError, z_InvalidWay, z_UnknownPost, z_InvalidNumber, z_InvalidStretch, 0, 0, 0, 0, 0, 0, 0, z_Stretch, z_Way], [(Pt_law, (envOfC "law" (defScope s_law) 0 0 .none).qual ++ "<lambda>")]⟩ : ZG) K S_next) := fun base Kb Nb => ⟨f_law_next, PySem.W.mg_of KX G a_law_next, k_law_next, (R_law_next base Kb Nb)⟩
  have G_law_pick__law : ∀ base : Heap, K.In base → base.Ns mainGlobals mg → Cal l.prog w K mg base 3 "_law_pick" (SpD (⟨Zl [z_WalkError, z_InvalidWay, z_UnknownPost, z_InvalidNumber, z_InvalidStretch, 0, 0, 0, 0, 0, 0, 0, z_Stretch, z_Way], [(Pt_law, (envOfC "law" (defScope s_law) 0 0 .none).qual ++ "<lambda>")]⟩ : ZG) K S_law_pick) := fun base Kb Nb => ⟨f_law_pick, PySem.W.mg_of KX G a_law_pick, k_law_pick, (R_law_pick base Kb Nb)⟩
  have G_law_rows__law : ∀ base : Heap, K.In base → base.Ns mainGlobals mg → Cal l.prog w K mg base 4 "_law_rows" (SpD (⟨Zl [z_WalkError, z_InvalidWay, z_UnknownPost, z_InvalidNumber, z_InvalidStretch, 0, 0, 0, 0, 0, 0, 0, z_Stretch, z_Way], [(Pt_law, (envOfC "law" (defScope s_law) 0 0 .none).qual ++ "<lambda>")]⟩ : ZG) K S_law_rows) := fun base Kb Nb => ⟨f_law_rows, PySem.W.mg_of KX G a_law_rows, k_law_rows, (R_law_rows base Kb Nb)⟩
  have G_law_walk__law : ∀ base : Heap, K.In base → base.Ns mainGlobals mg → Cal l.prog w K mg base 2 "_law_walk" (SpD (⟨Zl [z_WalkError, z_InvalidWay, z_UnknownPost, z_InvalidNumber, z_InvalidStretch, 0, 0, 0, 0, 0, 0, 0, z_Stretch, z_Way], [(Pt_law, (envOfC "law" (defScope s_law) 0 0 .none).qual ++ "<lambda>")]⟩ : ZG) K S_law_walk) := fun base Kb Nb => ⟨f_law_walk, PySem.W.mg_of KX G a_law_walk, k_law_walk, (R_law_walk base Kb Nb)⟩
  have G_first_unlike__law : ∀ base : Heap, K.In base → base.Ns mainGlobals mg → Cal l.prog w K mg base 8 "first_unlike" (SpD (⟨Zl [z_WalkError, z_InvalidWay, z_UnknownPost, z_InvalidNumber, z_InvalidStretch, 0, 0, 0, 0, 0, 0, 0, z_Stretch, z_Way], [(Pt_law, (envOfC "law" (defScope s_law) 0 0 .none).qual ++ "<lambda>")]⟩ : ZG) K S_first_unlike) := fun base Kb Nb => ⟨f_first_unlike, PySem.W.mg_of KX G a_first_unlike, k_first_unlike, (R_first_unlike base Kb Nb)⟩
  have TEL_law_told__law : ∀ base : Heap, K.In base → base.Ns mainGlobals mg → TelO l.prog w K mg base "_law_told" (TTD (⟨Zl [z_WalkError, z_InvalidWay, z_UnknownPost, z_InvalidNumber, z_InvalidStretch, 0, 0, 0, 0, 0, 0, 0, z_Stretch, z_Way], [(Pt_law, (envOfC "law" (defScope s_law) 0 0 .none).qual ++ "<lambda>")]⟩ : ZG) K tell_law_told) := fun base Kb Nb => tel_law_told F_law_told (PySem.W.mg_of KX G a_law_told) T
  have F_law := fun_mk (st := s_law) l_law c_law k_law
  have e := hfa.symm.trans (PySem.W.mg_of KX G a_law)
  cases e
  refine ⟨_, [(cc_law, Pt_law)], lawSp K (⟨Zl [z_WalkError, z_InvalidWay, z_UnknownPost, z_InvalidNumber, z_InvalidStretch, 0, 0, 0, 0, 0, 0, 0, z_Stretch, z_Way], [(Pt_law, (envOfC "law" (defScope s_law) 0 0 .none).qual ++ "<lambda>")]⟩ : ZG), fun p hp => (by
    simp only [List.mem_cons, List.not_mem_nil, or_false] at hp
    rcases hp with rfl
    · exact hPt_law), fun p hp => (by
    simp only [List.mem_cons, List.not_mem_nil, or_false] at hp
    rcases hp with rfl
    · exact nPt_law), fun p hp => (by
    simp only [List.mem_cons, List.not_mem_nil, or_false] at hp
    rcases hp with rfl
    · exact PySem.W.codeHd_of_K KX hdL_law), fun s v => .of_eq rfl, fun H a ns hl _ ht hS => ⟨_, rfl, a, ns, rfl, hS, hl, fun p hp => ?_, fun _ => rfl⟩, fun base Kb Nb hTB => ok_law F_law T FC_law (hTB (cc_law, Pt_law) (by simp)) (by simp) (hu_law) (G_law_dice__law base Kb Nb) (G_law_like__law base Kb Nb) (G_law_made__law base Kb Nb) (G_law_next__law base Kb Nb) (G_law_pick__law base Kb Nb) (G_law_rows__law base Kb Nb) (G_law_walk__law base Kb Nb) (G_first_unlike__law base Kb Nb) (TEL_law_told__law base Kb Nb) HB⟩
  simp only [List.mem_cons, List.not_mem_nil, or_false] at hp
  rcases hp with rfl
  · exact .nil (ht (cc_law, Pt_law) (by simp))
end K07
open PySem PySem.W PyProof.Rows
set_option maxHeartbeats 0 in
theorem PySem.Challenge.cw_oilwalk_k07_ways_that_part_holds : PySem.Challenge.rw_oilwalk_k07_ways_that_part.Holds := by
  w_on; o_law; k_head; (case hw => w_witness2)
  k_fill
  refine LamX.walk_ofTs (l := PySem.Challenge.rw_oilwalk_k07_ways_that_part) (n := 63) (k := 21) (x := "_law_script") (CX := fun w => L2.CX PySem.Challenge.rw_oilwalk_k07_ways_that_part.prog w) rfl (by decide) rfl ⟨rfl, by decide, by decide⟩ (fun w h Y => PySem.W.km_in_of Y) ?F (fun w H s e s2 z => by obtain ⟨_, _, _, _, _, _, _, _, _, _, _, _, z⟩ := z; exact z)
  case F =>
    intro w mg fa h Y KX G hmg
    refine' K07.all_mk (Pt_law := 475) K07.holds KX G hmg ?a_WalkError ?a_InvalidWay ?a_UnknownPost ?a_InvalidNumber ?a_InvalidStretch ?a_Stretch ?a_Way ?a_MOST_LEGS_COMPARED ?a_MOST_POSTS ?a_MOST_UNITS ?n_ValueError ?n_bool ?n_enumerate ?n_int ?n_isinstance ?n_len ?n_list ?n_max ?n_min ?n_range ?n_str ?n_sum ?n_tuple ?pgc_Way ?hdc_Way ?poc_Way ?sac_Way ?hac_Way ?hn_oc ?ht_oc ?hmc_Way ?x_na_Way__capacity ?x_na_Way__posts ?x_x_InvalidNumber ?x_k_InvalidNumber ?x_b_InvalidNumber ?x_t_InvalidNumber ?x_x_UnknownPost ?x_k_UnknownPost ?x_b_UnknownPost ?x_t_UnknownPost ?ic_WalkError ?ty_WalkError ?bb_WalkError ?eg_InvalidWay ?ek_InvalidWay ?es_InvalidWay ?ed_InvalidWay ?ea_InvalidWay ?em_InvalidWay ?ev_InvalidWay ?ex_InvalidWay ?ic_InvalidStretch ?ty_InvalidStretch ?e_InvalidWay_InvalidStretch ?d_InvalidWay_InvalidStretch ?ic_UnknownPost ?ty_UnknownPost ?e_InvalidWay_UnknownPost ?d_InvalidWay_UnknownPost ?ic_InvalidNumber ?ty_InvalidNumber ?e_InvalidWay_InvalidNumber ?d_InvalidWay_InvalidNumber ?eg_InvalidStretch ?ek_InvalidStretch ?es_InvalidStretch ?ed_InvalidStretch ?ea_InvalidStretch ?em_InvalidStretch ?ev_InvalidStretch ?ex_InvalidStretch ?ic_InvalidWay ?ty_InvalidWay ?e_InvalidStretch_InvalidWay ?d_InvalidStretch_InvalidWay ?e_InvalidStretch_UnknownPost ?d_InvalidStretch_UnknownPost ?e_InvalidStretch_InvalidNumber ?d_InvalidStretch_InvalidNumber ?eg_UnknownPost ?ek_UnknownPost ?es_UnknownPost ?ed_UnknownPost ?ea_UnknownPost ?em_UnknownPost ?ev_UnknownPost ?ex_UnknownPost ?e_UnknownPost_InvalidWay ?d_UnknownPost_InvalidWay ?e_UnknownPost_InvalidStretch ?d_UnknownPost_InvalidStretch ?e_UnknownPost_InvalidNumber ?d_UnknownPost_InvalidNumber ?eg_InvalidNumber ?ek_InvalidNumber ?es_InvalidNumber ?ed_InvalidNumber ?ea_InvalidNumber ?em_InvalidNumber ?ev_InvalidNumber ?ex_InvalidNumber ?e_InvalidNumber_InvalidWay ?d_InvalidNumber_InvalidWay ?e_InvalidNumber_InvalidStretch ?d_InvalidNumber_InvalidStretch ?e_InvalidNumber_UnknownPost ?d_InvalidNumber_UnknownPost ?xn_InvalidStretch_part ?xn_InvalidWay_index ?xn_InvalidWay_part ?a_law_told ?l_law_told ?c_law_told ?k_law_told ?a_law_dice ?l_law_dice ?c_law_dice ?k_law_dice ?a_law_like ?l_law_like ?c_law_like ?k_law_like ?a_is_number ?l_is_number ?c_is_number ?k_is_number ?a_is_number_within ?l_is_number_within ?c_is_number_within ?k_is_number_within ?a_check_number_within ?l_check_number_within ?c_check_number_within ?k_check_number_within ?a_is_post ?l_is_post ?c_is_post ?k_is_post ?a_first_wrong ?l_first_wrong ?c_first_wrong ?k_first_wrong ?a_Way_init ?i_Way_init ?l_Way_init ?c_Way_init ?k_Way_init ?oex_InvalidWay ?ini_InvalidWay_init ?l_InvalidWay_init ?tyf_InvalidWay_init ?c_InvalidWay_init ?cdf_InvalidWay_init ?topsup ?cell_InvalidWay_init ?n_super ?tpany ?mro_InvalidWay ?ksi_InvalidWay ?cr_Way ?cg_Way ?ca_Way_even ?cc_Way_even ?cf_Way_even ?l_Way_even ?c_Way_even ?k_Way_even ?mk_Way ?kc_Way ?a_check_post ?l_check_post ?c_check_post ?k_check_post ?a_Way_with_post ?i_Way_with_post ?l_Way_with_post ?c_Way_with_post ?k_Way_with_post ?a_law_made ?l_law_made ?c_law_made ?k_law_made ?a_law_next ?l_law_next ?c_law_next ?k_law_next ?a_law_pick ?l_law_pick ?c_law_pick ?k_law_pick ?a_law_rows ?l_law_rows ?c_law_rows ?k_law_rows ?a_law_leg ?l_law_leg ?c_law_leg ?k_law_leg ?a_law_walk ?l_law_walk ?c_law_walk ?k_law_walk ?a_Way_getitem ?i_Way_getitem ?l_Way_getitem ?c_Way_getitem ?k_Way_getitem ?pa_Way_capacity ?pg_Way_capacity ?pt_Way_capacity ?pr_Way_capacity ?l_Way_capacity ?c_Way_capacity ?k_Way_capacity ?a_taken ?l_taken ?c_taken ?k_taken ?fn_Way_getitem ?a_after_leg ?l_after_leg ?c_after_leg ?k_after_leg ?a_Way_len ?i_Way_len ?l_Way_len ?c_Way_len ?k_Way_len ?a_check_start ?l_check_start ?c_check_start ?k_check_start ?a_first_unlike ?l_first_unlike ?c_first_unlike ?k_first_unlike ?a_law ?l_law ?c_law ?k_law (PySem.W.km_tabs_of Y _ (by simp)) ?nPt_law ?hdL_law
    (case a_WalkError => k_is)
    (case a_InvalidWay => k_is)
    (case a_UnknownPost => k_is)
    (case a_InvalidNumber => k_is)
    (case a_InvalidStretch => k_is)
    (case a_Stretch => k_is)
    (case a_Way => k_is)
    (case a_MOST_LEGS_COMPARED => k_is)
    (case a_MOST_POSTS => k_is)
    (case a_MOST_UNITS => k_is)
    (case n_ValueError => k_is)
    (case n_bool => k_is)
    (case n_enumerate => k_is)
    (case n_int => k_is)
    (case n_isinstance => k_is)
    (case n_len => k_is)
    (case n_list => k_is)
    (case n_max => k_is)
    (case n_min => k_is)
    (case n_range => k_is)
    (case n_str => k_is)
    (case n_sum => k_is)
    (case n_tuple => k_is)
    (case pgc_Way => k_is)
    (case hdc_Way => k_is)
    (case poc_Way => k_is)
    (case sac_Way => k_is)
    (case hac_Way => k_is)
    (case hn_oc => k_is)
    (case ht_oc => k_is)
    (case hmc_Way => k_is)
    (case x_na_Way__capacity => k_is)
    (case x_na_Way__posts => k_is)
    (case x_x_InvalidNumber => k_exc)
    (case x_k_InvalidNumber => k_is)
    (case x_b_InvalidNumber => k_is)
    (case x_t_InvalidNumber => k_is)
    (case x_x_UnknownPost => k_exc)
    (case x_k_UnknownPost => k_is)
    (case x_b_UnknownPost => k_is)
    (case x_t_UnknownPost => k_is)
    (case ic_WalkError => k_is)
    (case ty_WalkError => k_is)
    (case bb_WalkError => k_is)
    (case eg_InvalidWay => k_is)
    (case ek_InvalidWay => k_is)
    (case es_InvalidWay => k_is)
    (case ed_InvalidWay => k_is)
    (case ea_InvalidWay => k_is)
    (case em_InvalidWay => k_is)
    (case ev_InvalidWay => k_is)
    (case ex_InvalidWay => k_is)
    (case ic_InvalidStretch => k_is)
    (case ty_InvalidStretch => k_is)
    (case e_InvalidWay_InvalidStretch => k_is)
    (case d_InvalidWay_InvalidStretch => rfl)
    (case ic_UnknownPost => k_is)
    (case ty_UnknownPost => k_is)
    (case e_InvalidWay_UnknownPost => k_is)
    (case d_InvalidWay_UnknownPost => rfl)
    (case ic_InvalidNumber => k_is)
    (case ty_InvalidNumber => k_is)
    (case e_InvalidWay_InvalidNumber => k_is)
    (case d_InvalidWay_InvalidNumber => rfl)
    (case eg_InvalidStretch => k_is)
    (case ek_InvalidStretch => k_is)
    (case es_InvalidStretch => k_is)
    (case ed_InvalidStretch => k_is)
    (case ea_InvalidStretch => k_is)
    (case em_InvalidStretch => k_is)
    (case ev_InvalidStretch => k_is)
    (case ex_InvalidStretch => k_is)
    (case ic_InvalidWay => k_is)
    (case ty_InvalidWay => k_is)
    (case e_InvalidStretch_InvalidWay => k_is)
    (case d_InvalidStretch_InvalidWay => rfl)
    (case e_InvalidStretch_UnknownPost => k_is)
    (case d_InvalidStretch_UnknownPost => rfl)
    (case e_InvalidStretch_InvalidNumber => k_is)
    (case d_InvalidStretch_InvalidNumber => rfl)
    (case eg_UnknownPost => k_is)
    (case ek_UnknownPost => k_is)
    (case es_UnknownPost => k_is)
    (case ed_UnknownPost => k_is)
    (case ea_UnknownPost => k_is)
    (case em_UnknownPost => k_is)
    (case ev_UnknownPost => k_is)
    (case ex_UnknownPost => k_is)
    (case e_UnknownPost_InvalidWay => k_is)
    (case d_UnknownPost_InvalidWay => rfl)
    (case e_UnknownPost_InvalidStretch => k_is)
    (case d_UnknownPost_InvalidStretch => rfl)
    (case e_UnknownPost_InvalidNumber => k_is)
    (case d_UnknownPost_InvalidNumber => rfl)
    (case eg_InvalidNumber => k_is)
    (case ek_InvalidNumber => k_is)
    (case es_InvalidNumber => k_is)
    (case ed_InvalidNumber => k_is)
    (case ea_InvalidNumber => k_is)
    (case em_InvalidNumber => k_is)
    (case ev_InvalidNumber => k_is)
    (case ex_InvalidNumber => k_is)
    (case e_InvalidNumber_InvalidWay => k_is)
    (case d_InvalidNumber_InvalidWay => rfl)
    (case e_InvalidNumber_InvalidStretch => k_is)
    (case d_InvalidNumber_InvalidStretch => rfl)
    (case e_InvalidNumber_UnknownPost => k_is)
    (case d_InvalidNumber_UnknownPost => rfl)
    (case xn_InvalidStretch_part => k_is)
    (case xn_InvalidWay_index => k_is)
    (case xn_InvalidWay_part => k_is)
    (case a_law_told => k_is)
    (case l_law_told => k_is)
    (case c_law_told => k_is)
    (case k_law_told => k_is)
    (case a_law_dice => k_is)
    (case l_law_dice => k_is)
    (case c_law_dice => k_is)
    (case k_law_dice => k_is)
    (case a_law_like => k_is)
    (case l_law_like => k_is)
    (case c_law_like => k_is)
    (case k_law_like => k_is)
    (case a_is_number => k_is)
    (case l_is_number => k_is)
    (case c_is_number => k_is)
    (case k_is_number => k_is)
    (case a_is_number_within => k_is)
    (case l_is_number_within => k_is)
    (case c_is_number_within => k_is)
    (case k_is_number_within => k_is)
    (case a_check_number_within => k_is)
    (case l_check_number_within => k_is)
    (case c_check_number_within => k_is)
    (case k_check_number_within => k_is)
    (case a_is_post => k_is)
    (case l_is_post => k_is)
    (case c_is_post => k_is)
    (case k_is_post => k_is)
    (case a_first_wrong => k_is)
    (case l_first_wrong => k_is)
    (case c_first_wrong => k_is)
    (case k_first_wrong => k_is)
    (case a_Way_init => k_is)
    (case i_Way_init => k_is)
    (case l_Way_init => k_is)
    (case c_Way_init => k_is)
    (case k_Way_init => k_is)
    (case oex_InvalidWay => exact ⟨⟨_, _, _, _, _, _, _, _, _, _, _, _, _, _, _, rfl, by decide +kernel⟩, by k_is, by k_is, by k_is, by k_is⟩)
    (case ini_InvalidWay_init => k_is)
    (case l_InvalidWay_init => rfl)
    (case tyf_InvalidWay_init => k_is)
    (case c_InvalidWay_init => k_is)
    (case cdf_InvalidWay_init => exact ⟨_, _, _, _, rfl, rfl, rfl, by decide +kernel⟩)
    (case topsup => rfl)
    (case cell_InvalidWay_init => exact ⟨_, rfl, rfl⟩)
    (case n_super => k_is)
    (case tpany => k_is)
    (case mro_InvalidWay => k_is)
    (case ksi_InvalidWay => rfl)
    (case cr_Way => k_is)
    (case cg_Way => k_is)
    (case ca_Way_even => k_is)
    (case cc_Way_even => k_is)
    (case cf_Way_even => k_is)
    (case l_Way_even => k_is)
    (case c_Way_even => k_is)
    (case k_Way_even => k_is)
    (case mk_Way => k_is)
    (case kc_Way => k_is)
    (case a_check_post => k_is)
    (case l_check_post => k_is)
    (case c_check_post => k_is)
    (case k_check_post => k_is)
    (case a_Way_with_post => k_is)
    (case i_Way_with_post => k_is)
    (case l_Way_with_post => k_is)
    (case c_Way_with_post => k_is)
    (case k_Way_with_post => k_is)
    (case a_law_made => k_is)
    (case l_law_made => k_is)
    (case c_law_made => k_is)
    (case k_law_made => k_is)
    (case a_law_next => k_is)
    (case l_law_next => k_is)
    (case c_law_next => k_is)
    (case k_law_next => k_is)
    (case a_law_pick => k_is)
    (case l_law_pick => k_is)
    (case c_law_pick => k_is)
    (case k_law_pick => k_is)
    (case a_law_rows => k_is)
    (case l_law_rows => k_is)
    (case c_law_rows => k_is)
    (case k_law_rows => k_is)
    (case a_law_leg => k_is)
    (case l_law_leg => k_is)
    (case c_law_leg => k_is)
    (case k_law_leg => k_is)
    (case a_law_walk => k_is)
    (case l_law_walk => k_is)
    (case c_law_walk => k_is)
    (case k_law_walk => k_is)
    (case a_Way_getitem => k_is)
    (case i_Way_getitem => k_is)
    (case l_Way_getitem => k_is)
    (case c_Way_getitem => k_is)
    (case k_Way_getitem => k_is)
    (case pa_Way_capacity => k_is)
    (case pg_Way_capacity => k_is)
    (case pt_Way_capacity => k_is)
    (case pr_Way_capacity => k_is)
    (case l_Way_capacity => k_is)
    (case c_Way_capacity => k_is)
    (case k_Way_capacity => k_is)
    (case a_taken => k_is)
    (case l_taken => k_is)
    (case c_taken => k_is)
    (case k_taken => k_is)
    (case fn_Way_getitem => k_is)
    (case a_after_leg => k_is)
    (case l_after_leg => k_is)
    (case c_after_leg => k_is)
    (case k_after_leg => k_is)
    (case a_Way_len => k_is)
    (case i_Way_len => k_is)
    (case l_Way_len => k_is)
    (case c_Way_len => k_is)
    (case k_Way_len => k_is)
    (case a_check_start => k_is)
    (case l_check_start => k_is)
    (case c_check_start => k_is)
    (case k_check_start => k_is)
    (case a_first_unlike => k_is)
    (case l_first_unlike => k_is)
    (case c_first_unlike => k_is)
    (case k_first_unlike => k_is)
    (case a_law => k_is)
    (case l_law => k_is)
    (case c_law => k_is)
    (case k_law => k_is)
    (case nPt_law => rfl)
    (case hdL_law => rfl)
