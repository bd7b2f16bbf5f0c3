import PyProof.Rows.All
import Wide.All
import OpenK.AllK
import Wide.FinOn
import HandS.ForMost
import HandS.ForExc
import HandS.EndTab
import HandS.Property
import HandS.ClsMeth
import HandS.Star
import HandS.IsInst
import HandS.ExcIs
import HandS.SlotsOwn
import HandS.Wide
import HandS.TupAny
import HandS.Flow
import HandS.Steps
import HandS.WideBits
import HandS.TupMul
import HandS.SetFor
import HandS.ExcField
import PySem.Challenge.RW_oilwalk_k02_stretches_repeated
set_option Elab.async false
set_option linter.all false
set_option maxRecDepth 100000
set_option maxHeartbeats 4000000
/-! Rules of our own: operators, truth, == of own instances; promises bundled with their addresses. -/
namespace Oil
open PySem PySem.Spec PyProof.Rows L2
section
variable {X : Cx} {CX : CXT} {C g : Addr} {n : Nat} {sp : Sp} {E : XK}
theorem inst_of {pins : List (Addr × Obj)} {σ : L2.St} {H : Hp} {s : Shared} {a dx : Addr} {fs : List (Str × V)} (I : Inv X pins σ H s) (h : H a = some (.ins C dx fs)) :
    ∃ ox od, PySem.W.InstAt s.heap a ox C od := by
  obtain ⟨mA, O, _⟩ := ins_get I.hok h
  obtain ⟨od, J, _⟩ := O.look
  exact ⟨_, _, J⟩
/-- both operands are instances of the class at C -/
def rBinC (C : Addr) (sp : Sp) (E : XK) : R2 := fun x y H Q => ∃ (a dx : Addr) (fs : List (Str × V)) (b dy : Addr) (gs : List (Str × V)),
  x = .ref a ∧ y = .ref b ∧ H a = some (.ins C dx fs) ∧ H b = some (.ins C dy gs) ∧ sp [x, y] H Q E
theorem op_binC {op : Operator} (hc : PySem.W.selfFirst X.K C = true) (hs : PySem.W.findIn X.K (.ref C) (PySem.dunder op.info.2) = some (some (.ref g)))
    (hf : PySem.W.isFn X.K (.ref g) = true) (F : FnR X.prog X.w X.K X.mg X.base CX n g sp) (hr : Room n X.A) (hx : Passes CX X E) : OpR X (binaryOp op) (rBinC C sp E) := by
  intro pins s σ H x y v u Q I rx ry h
  obtain ⟨a, dx, fs, b, dy, gs, rfl, rfl, ha, hb, q⟩ := h
  cases (show v = Value.ref a from rx)
  cases (show u = Value.ref b from ry)
  obtain ⟨ox, od, J⟩ := inst_of I ha
  obtain ⟨oy, oe, J'⟩ := inst_of I hb
  obtain ⟨m, hF⟩ := I.fr
  refine PySem.W.binop_K hF I.ok.mod.kin J J'.type hc hs hf ?_
  refine wpAny_mono (wpAny_call (run_fnR (us := [.ref a, .ref b]) (vs := [.ref a, .ref b]) F hr hx I (.cons rfl (.cons rfl .nil)) q)) (fun w s' z => ?_) fun _ _ x => x
  obtain ⟨z', H', I', rz, qz⟩ := z
  exact SlX.cmpback rz ⟨z', H', I', rz, qz⟩
/-- the right operand is None, a bool, an int or a text -/
inductive Flat : V → String → Prop where
  | non : Flat .non "NoneType"
  | bl (b : Bool) : Flat (.bl b) "bool"
  | int (i : Int) : Flat (.int i) "int"
  | str (x : Str) : Flat (.str x) "str"
theorem Flat.type {y : V} {T : String} (f : Flat y T) {u : Value} (r : RelV y u) : typeOf u = pure (.type T) := by
  cases f with
  | non => cases (show u = Value.none from r); rfl
  | bl b => cases (show u = Value.bool b from r); rfl
  | int i => obtain ⟨t, e⟩ := (show ∃ t, u = Value.int i t from r); cases e; rfl
  | str x => obtain ⟨t, e⟩ := (show ∃ t, u = Value.str x t from r); cases e; rfl
/-- what the types of such operands say of the operator, against the class at C -/
def FlatOk (K : PySem.W.Frag) (C : Addr) (nm : String) (T : String) : Prop :=
  (PySem.W.findIn K (.type T) (PySem.dunder nm)).isSome = true ∧ (PySem.W.findIn K (.type T) (dunderR nm)).isSome = true ∧ PySem.W.subIn K (.type T) (.ref C) = some false
def rBinF (C : Addr) (Ts : List String) (sp : Sp) (E : XK) : R2 := fun x y H Q => ∃ (a dx : Addr) (fs : List (Str × V)) (T : String), x = .ref a ∧ H a = some (.ins C dx fs) ∧ Flat y T ∧ T ∈ Ts ∧ sp [x, y] H Q E
theorem op_binF {op : Operator} {Ts : List String} (hc : PySem.W.selfFirst X.K C = true) (hs : PySem.W.findIn X.K (.ref C) (PySem.dunder op.info.2) = some (some (.ref g)))
    (hR : PySem.W.findIn X.K (.ref C) (dunderR op.info.2) = some none) (hT : ∀ T ∈ Ts, FlatOk X.K C op.info.2 T)
    (hf : PySem.W.isFn X.K (.ref g) = true) (F : FnR X.prog X.w X.K X.mg X.base CX n g sp) (hr : Room n X.A) (hx : Passes CX X E) : OpR X (binaryOp op) (rBinF C Ts sp E) := by
  intro pins s σ H x y v u Q I rx ry h
  obtain ⟨a, dx, fs, T, rfl, ha, fl, hm, q⟩ := h
  cases (show v = Value.ref a from rx)
  obtain ⟨ox, od, J⟩ := inst_of I ha
  obtain ⟨m, hF⟩ := I.fr
  obtain ⟨h1, h2, h3⟩ := hT T hm
  obtain ⟨fo, h1⟩ := Option.isSome_iff_exists.mp h1
  obtain ⟨ro, h2⟩ := Option.isSome_iff_exists.mp h2
  refine PySem.W.ksp_binT hF I.ok.mod.kin J (fl.type ry) hc hs hf hR (.inl rfl) h1 h2 h3 ?_
  refine wpAny_mono (wpAny_call (run_fnR (us := [.ref a, u]) (vs := [.ref a, y]) F hr hx I (.cons rfl (.cons ry .nil)) q)) (fun w s' z => ?_) fun _ _ x => x
  obtain ⟨z', H', I', rz, qz⟩ := z
  exact SlX.cmpback rz ⟨z', H', I', rz, qz⟩
/-- == by the class's own def; the right side an instance of it, or flat -/
def rEqO (K : PySem.W.Frag) (C : Addr) (sp : Sp) (E : XK) : R2 := fun x y H Q => ∃ (a dx : Addr) (fs : List (Str × V)), x = .ref a ∧ H a = some (.ins C dx fs) ∧
  ((∃ (b dy : Addr) (gs : List (Str × V)), y = .ref b ∧ H b = some (.ins C dy gs)) ∨ (∃ T, Flat y T ∧ PySem.W.notFirst K C (.type T) = true) ∨ (∃ t, TyX K H y t ∧ PySem.W.notFirst K C t = true)) ∧ sp [x, y] H Q E
theorem op_eqO (hs : PySem.W.findIn X.K (.ref C) "__eq__" = some (some (.ref g)))
    (hf : PySem.W.isFn X.K (.ref g) = true) (F : FnR X.prog X.w X.K X.mg X.base CX n g sp) (hr : Room n X.A) (hx : Passes CX X E) : OpR X (compareOp .Eq) (rEqO X.K C sp E) := by
  intro pins s σ H x y v u Q I rx ry h
  obtain ⟨a, dx, fs, rfl, ha, hy, q⟩ := h
  cases (show v = Value.ref a from rx)
  obtain ⟨ox, od, J⟩ := inst_of I ha
  obtain ⟨m, hF⟩ := I.fr
  have fin : ∀ w s', (∃ v H', Inv X pins σ H' s' ∧ RelV v w ∧ Q v H') → PySem.W.CmpBack (EP X pins σ Q) w s' := fun w s' z => by
    obtain ⟨z', H', I', rz, qz⟩ := z
    exact SlX.cmpback rz ⟨z', H', I', rz, qz⟩
  have call : wpAny (model X.prog X.w) X.A (call (.ref g) [.ref a, u]) (EP X pins σ Q) X.xe s :=
    wpAny_call (run_fnR (us := [.ref a, u]) (vs := [.ref a, y]) F hr hx I (.cons rfl (.cons ry .nil)) q)
  show wpAny _ _ (richCompare .Eq (.ref a) u) _ _ _
  rcases hy with ⟨b, dy, gs, rfl, hb⟩ | ⟨T, fl, hn⟩ | ⟨t, ty, hn⟩
  · cases (show u = Value.ref b from ry)
    obtain ⟨oy, oe, J'⟩ := inst_of I hb
    refine PySem.W.cmp_K (op := .Eq) (tb := .ref C) hr.units0 hF I.ok.mod.kin J J'.type ?_ hs hf (wpAny_mono call (fun w s' z => fin w s' z) fun _ _ x => x)
    unfold PySem.W.notFirst
    rw [beq_self_eq_true, Bool.true_or]
  · refine PySem.W.cmp_K (op := .Eq) (tb := .type T) hr.units0 hF I.ok.mod.kin J (PySem.W.Looks.of_pure (fl.type ry)) hn hs hf (wpAny_mono call (fun w s' z => fin w s' z) fun _ _ x => x)
  · obtain ⟨P, kx, hp, _⟩ := kit_of I ry ty
    exact PySem.W.cmp_K (op := .Eq) (tb := t) hr.units0 hF I.ok.mod.kin J (kx.ty _ _ I.kIn hp) hn hs hf (wpAny_mono call (fun w s' z => fin w s' z) fun _ _ x => x)
/-- truth by the class's own __bool__ -/
def rTruO (C : Addr) (sp : Sp) (E : XK) : V → Hp → (Bool → Hp → Prop) → Prop := fun x H Q => ∃ (a dx : Addr) (fs : List (Str × V)), x = .ref a ∧ H a = some (.ins C dx fs) ∧
  sp [x] H (fun v H' => ∃ b, v = .bl b ∧ Q b H') E
theorem tru_own (hs : PySem.W.findIn X.K (.ref C) "__bool__" = some (some (.ref g)))
    (hf : PySem.W.isFn X.K (.ref g) = true) (F : FnR X.prog X.w X.K X.mg X.base CX n g sp) (hr : Room n X.A) (hx : Passes CX X E) : TruR X (rTruO C sp E) := by
  intro pins s σ H x v Q I rx h
  obtain ⟨a, dx, fs, rfl, ha, q⟩ := h
  cases (show v = Value.ref a from rx)
  obtain ⟨ox, od, J⟩ := inst_of I ha
  obtain ⟨m, hF⟩ := I.fr
  refine PySem.W.truthy_K hF I.ok.mod.kin J hs hf ?_
  refine wpAny_mono (wpAny_call (run_fnR (us := [.ref a]) (vs := [.ref a]) F hr hx I (.cons rfl .nil) q)) (fun w s' z => ?_) fun _ _ x => x
  obtain ⟨z', H', I', rz, b, e, qz⟩ := z
  subst e
  cases (show w = Value.bool b from rz)
  exact ⟨H', I', qz⟩
end
/-! ### promises bundled with their addresses -/
theorem fnR_of {P : Program} {w : World} {K : PySem.W.Frag} {mg : Str → Option Value} {base : Heap} {CX : CXT} {k : Nat} {f : Addr} {sp : Sp} {fd : FuncData} {ps : List Str} (F : FnOk P w K mg base CX k f fd ps sp) (hb : L2.Binds K fd ps []) : FnR P w K mg base CX k f sp :=
  (FnOk.raw F hb .nil).imp fun vs H Q E h => by
    rw [List.append_nil]
    exact h
section
variable (P : Program) (w : World) (K : PySem.W.Frag) (mg : Str → Option Value) (base : Heap) (k : Nat)
/-- a def of the module -/
structure Cal (x : Str) (sp : Sp) : Prop where
  ex : ∃ f, mg x = some (.ref f) ∧ PySem.W.keepIn K (.ref f) = true ∧ FnR P w K mg base (L2.CX P w) k f sp
/-- a class of the module, made by its __init__ -/
structure Mak (x : Str) (C : Addr) (sp : Sp) : Prop where
  gl : mg x = some (.ref C)
  ex : ∃ f, Mk K C f ∧ FnR P w K mg base (L2.CX P w) k f sp
structure Met (C : Addr) (m : Str) (sp : Sp) : Prop where
  cl : Cls K C
  ex : ∃ f, Meth K C m f ∧ FnR P w K mg base (L2.CX P w) k f sp
structure Prp (C : Addr) (f : Str) (sp : Sp) : Prop where
  cl : Cls K C
  ex : ∃ p g, PropOf K C f p g ∧ FnR P w K mg base (L2.CX P w) k g sp
structure Cmt (C : Addr) (m : Str) (sp : Sp) : Prop where
  ex : ∃ mc p g, ClX.CRead K C mc ∧ ClX.CMet K C mc m p g ∧ FnR P w K mg base (L2.CX P w) k g sp
structure Clo (C : Addr) (sp : Sp) : Prop where
  ex : ∃ g, StX.CallO K C g ∧ FnR P w K mg base (L2.CX P w) k g sp
structure BinC (C : Addr) (op : Operator) (sp : Sp) : Prop where
  sf : PySem.W.selfFirst K C = true
  ex : ∃ g, PySem.W.findIn K (.ref C) (PySem.dunder op.info.2) = some (some (.ref g)) ∧ PySem.W.isFn K (.ref g) = true ∧ FnR P w K mg base (L2.CX P w) k g sp
structure BinF (C : Addr) (op : Operator) (Ts : List String) (sp : Sp) : Prop where
  c : BinC P w K mg base k C op sp
  rf : PySem.W.findIn K (.ref C) (dunderR op.info.2) = some none
  ts : ∀ T ∈ Ts, FlatOk K C op.info.2 T
structure EqO (C : Addr) (sp : Sp) : Prop where
  ex : ∃ g, PySem.W.findIn K (.ref C) "__eq__" = some (some (.ref g)) ∧ PySem.W.isFn K (.ref g) = true ∧ FnR P w K mg base (L2.CX P w) k g sp
structure TruO (C : Addr) (sp : Sp) : Prop where
  ex : ∃ g, PySem.W.findIn K (.ref C) "__bool__" = some (some (.ref g)) ∧ PySem.W.isFn K (.ref g) = true ∧ FnR P w K mg base (L2.CX P w) k g sp
end
section
variable {X : Cx} {C : Addr} {k j : Nat} {sp : Sp} {E : XK} {x m : Str} {p pos apos : Pos} {e o : Expr} {es : List Expr} {t : TA} {ta : TE}
theorem op_bc {op : Operator} (c : BinC X.prog X.w X.K X.mg X.base k C op sp) (hr : Room j X.A) (hk : k ≤ j) (hx : Passes (L2.CX X.prog X.w) X E) : OpR X (binaryOp op) (rBinC C sp E) := by
  obtain ⟨g, hs, hf, F⟩ := c.ex
  exact op_binC c.sf hs hf F (hr.mono hk) hx
theorem op_bf {op : Operator} {Ts : List String} (c : BinF X.prog X.w X.K X.mg X.base k C op Ts sp) (hr : Room j X.A) (hk : k ≤ j) (hx : Passes (L2.CX X.prog X.w) X E) : OpR X (binaryOp op) (rBinF C Ts sp E) := by
  obtain ⟨g, hs, hf, F⟩ := c.c.ex
  exact op_binF c.c.sf hs c.rf c.ts hf F (hr.mono hk) hx
theorem op_eqo (c : EqO X.prog X.w X.K X.mg X.base k C sp) (hr : Room j X.A) (hk : k ≤ j) (hx : Passes (L2.CX X.prog X.w) X E) : OpR X (compareOp .Eq) (rEqO X.K C sp E) := by
  obtain ⟨g, hs, hf, F⟩ := c.ex
  exact op_eqO hs hf F (hr.mono hk) hx
theorem tru_o (c : TruO X.prog X.w X.K X.mg X.base k C sp) (hr : Room j X.A) (hk : k ≤ j) (hx : Passes (L2.CX X.prog X.w) X E) : TruR X (rTruO C sp E) := by
  obtain ⟨g, hs, hf, F⟩ := c.ex
  exact tru_own hs hf F (hr.mono hk) hx
/-- f(e, ..) -/
def tCal (sp : Sp) (E : XK) (t : TA) : TE := fun σ H Q => t σ H fun vs H1 => sp vs H1 Q E
theorem pe_cal (c : Cal X.prog X.w X.K X.mg X.base k x sp) (hr : Room j X.A) (hk : k ≤ j) (hx : Passes (L2.CX X.prog X.w) X E) (ha : PA X (e :: es) t) (hg : Gl X x := by rfl)
    (hdb : (x == ("__debug__" : Str)) = false := by decide) (he : starEach (e :: es) X.env = (false, eval e X.env) :: starEach es X.env := by rfl) (hpl : (backTo pos (starEach es X.env)).any (·.1) = false := by rfl) :
    PE X (.Call (.Name x p) (e :: es) [] pos) (tCal sp E t) := by
  obtain ⟨f, hm, hkp, F⟩ := c.ex
  refine ⟨fun pins s σ H Q I h => ?_⟩
  refine wpAny_Call_Name_kw (ld_glob I hg hm ?_ hdb)
  refine PySem.W.callWith_K (h₀ := X.base) I.ok.mod.kin hkp (thn (ha.run pos pins s σ H _ I h) fun us s1 ⟨vs, H1, I1, r, q⟩ => ⟨I1.kIn, ?_⟩) he hpl
  exact wpAny_call (run_fnR F (hr.mono hk) hx I1 r q)
theorem pe_cal0 (c : Cal X.prog X.w X.K X.mg X.base k x sp) (hr : Room j X.A) (hk : k ≤ j) (hx : Passes (L2.CX X.prog X.w) X E) (hg : Gl X x := by rfl)
    (hdb : (x == ("__debug__" : Str)) = false := by decide) : PE X (.Call (.Name x p) [] [] pos) (tCal sp E tNil) := by
  obtain ⟨f, hm, hkp, F⟩ := c.ex
  refine ⟨fun pins s σ H Q I h => ?_⟩
  refine wpAny_Call_Name_kw (ld_glob I hg hm ?_ hdb)
  exact PySem.W.callWith_K0 I.kIn hkp (wpAny_call (run_fnR (us := []) (vs := []) F (hr.mono hk) hx I .nil h))
/-- C(e, ..) -/
theorem pe_mak (c : Mak X.prog X.w X.K X.mg X.base k x C sp) (hr : Room j X.A) (hk : k + 1 ≤ j) (hx : Passes (L2.CX X.prog X.w) X E) (ha : PA X (e :: es) t) (hg : Gl X x := by rfl)
    (hdb : (x == ("__debug__" : Str)) = false := by decide) (he : starEach (e :: es) X.env = (false, eval e X.env) :: starEach es X.env := by rfl) (hpl : (backTo pos (starEach es X.env)).any (·.1) = false := by rfl) :
    PE X (.Call (.Name x p) (e :: es) [] pos) (StX.tMakeR C sp E t) := by
  obtain ⟨f, M, F⟩ := c.ex
  exact StX.pe_makeR M F (hr.mono hk) hg c.gl hx ha hdb he hpl
/-- c(e, ..), c a name of the def that holds the class -/
def tMakL (i : Nat) (C : Addr) (sp : Sp) (E : XK) (t : TA) : TE := fun σ H Q => σ[i]? = some (some (.ref C)) ∧ StX.tMakeR C sp E t σ H Q
theorem pe_makL {i : Nat} (c : Mak X.prog X.w X.K X.mg X.base k m C sp) (hr : Room j X.A) (hk : k + 1 ≤ j) (hx : Passes (L2.CX X.prog X.w) X E) (ha : PA X (e :: es) t) (hN : X.N[i]? = some x := by rfl)
    (hv : Vis X.env.scope x := by first | exact Or.inl rfl | exact Or.inr (Or.inl rfl) | exact Or.inr (Or.inr rfl))
    (hdb : (x == ("__debug__" : Str)) = false := by decide) (hcd : (x == ("__classdict__" : Str)) = false := by decide) (he : starEach (e :: es) X.env = (false, eval e X.env) :: starEach es X.env := by rfl) (hpl : (backTo pos (starEach es X.env)).any (·.1) = false := by rfl) :
    PE X (.Call (.Name x p) (e :: es) [] pos) (tMakL i C sp E t) := by
  obtain ⟨f, M, F⟩ := c.ex
  refine ⟨fun pins s σ H Q I h => ?_⟩
  obtain ⟨hs, ht⟩ := h
  refine wpAny_Call_Name_kw (thn ((pe_var (pos := p) hN hv hdb hcd).run pins s σ H (fun v H1 => v = .ref C ∧ H1 = H) I ⟨.ref C, hs, rfl, rfl⟩) fun u s1 ⟨v, H1, I1, r1, q1⟩ => ?_)
  obtain ⟨rfl, rfl⟩ := q1
  cases r1
  refine PySem.W.callWith_K (h₀ := X.base) I.ok.mod.kin M.kp (thn (ha.run pos pins s1 σ _ _ I1 ht) fun us s2 ⟨vs, H2, I2, r, q⟩ => ⟨I2.kIn, ?_⟩) he hpl
  exact StX.run_makeR M F (hr.mono hk) hx I2 r q
/-- o.m(e, ..) -/
def tMt (C : Addr) (m : Str) (sp : Sp) (E : XK) (ta : TE) (t : TA) : TE := fun σ H Q => ta σ H fun x H1 => ∃ (a dx : Addr) (fs : List (Str × V)), x = .ref a ∧ H1 a = some (.ins C dx fs) ∧ fs.lookup m = none ∧ t σ H1 fun vs H2 => sp (.ref a :: vs) H2 Q E
theorem pe_mt {pl : Sem Bool} (he : PE X o ta) (c : Met X.prog X.w X.K X.mg X.base k C m sp) (hr : Room j X.A) (hk : k ≤ j) (hx : Passes (L2.CX X.prog X.w) X E) (ha : PA X (e :: es) t)
    (hst : starEach (e :: es) X.env = (false, eval e X.env) :: starEach es X.env := by rfl) (hpl : (backTo pos (starEach es X.env)).any (·.1) = false := by rfl)
    (ht : eval (.Call (.Attribute o m apos) (e :: es) [] pos) X.env = (do
      let ov ← eval o X.env
      standAt apos.atName
      let (f, first) ← holding [ov] (getMethod ov m pl)
      callWith pos f first (backTo pos (starEach (e :: es) X.env)) (backToKw pos (keywordEach [] X.env))) := by rfl) :
    PE X (.Call (.Attribute o m apos) (e :: es) [] pos) (tMt C m sp E ta t) := by
  obtain ⟨f, hm, F⟩ := c.ex
  refine ⟨fun pins s σ H Q I h => ?_⟩
  refine PySem.W.methodCall_KW (pl := pl) (thn (he.run pins s σ H _ I h) fun u s1 ⟨x, H1, I1, rx, a, dx, fs, ex, ea, l, q⟩ => ?_) ht
  subst ex
  obtain rfl : u = Value.ref a := rx
  refine getmeth_ok I1 ea c.cl hm l ?_
  refine PySem.W.callWith_K (first := [.ref a]) (h₀ := X.base) I.ok.mod.kin hm.kp (thn (ha.run pos pins s1 σ H1 _ I1 q) fun us s2 ⟨vs, H2, I2, r, q2⟩ => ⟨I2.kIn, ?_⟩) hst hpl
  exact wpAny_call (run_fnR (us := .ref a :: us) (vs := .ref a :: vs) F (hr.mono hk) hx I2 (.cons rfl r) q2)
theorem pe_mt0 {pl : Sem Bool} (he : PE X o ta) (c : Met X.prog X.w X.K X.mg X.base k C m sp) (hr : Room j X.A) (hk : k ≤ j) (hx : Passes (L2.CX X.prog X.w) X E)
    (ht : eval (.Call (.Attribute o m apos) [] [] pos) X.env = (do
      let ov ← eval o X.env
      standAt apos.atName
      let (f, first) ← holding [ov] (getMethod ov m pl)
      callWith pos f first (backTo pos (starEach [] X.env)) (backToKw pos (keywordEach [] X.env))) := by rfl) :
    PE X (.Call (.Attribute o m apos) [] [] pos) (tMt C m sp E ta tNil) := by
  obtain ⟨f, hm, F⟩ := c.ex
  refine ⟨fun pins s σ H Q I h => ?_⟩
  refine PySem.W.methodCall_KW (pl := pl) (thn (he.run pins s σ H _ I h) fun u s1 ⟨x, H1, I1, rx, a, dx, fs, ex, ea, l, q⟩ => ?_) ht
  subst ex
  obtain rfl : u = Value.ref a := rx
  refine getmeth_ok I1 ea c.cl hm l ?_
  exact PySem.W.callWith_K0 (first := [.ref a]) I1.kIn hm.kp (wpAny_call (run_fnR (us := [.ref a]) (vs := [.ref a]) F (hr.mono hk) hx I1 (.cons rfl .nil) q))
/-- e.f, a property -/
def tPrp (C : Addr) (sp : Sp) (E : XK) (ta : TE) : TE := fun σ H Q => ta σ H fun x H1 => ∃ (a dx : Addr) (fs : List (Str × V)), x = .ref a ∧ H1 a = some (.ins C dx fs) ∧ sp [.ref a] H1 Q E
theorem pe_prp (he : PE X e ta) (c : Prp X.prog X.w X.K X.mg X.base k C m sp) (hr : Room j X.A) (hk : k + 1 ≤ j) (hx : Passes (L2.CX X.prog X.w) X.nox E)
    (hab : attributeBase e m X.env (eval e X.env) = eval e X.env := by rfl) : PE X (.Attribute e m pos) (tPrp C sp E ta) := by
  obtain ⟨pa, g, hp, F⟩ := c.ex
  refine ⟨fun pins s σ H Q I h => ?_⟩
  refine attr_of hab (thn (he.run pins s σ H _ I h) fun u s1 ⟨x, H1, I1, rx, a, dx, fs, ex, ea, q⟩ => ?_)
  subst ex
  obtain rfl : u = Value.ref a := rx
  obtain ⟨mA, O, _, _, _, _⟩ := ins_get I1.hok ea
  obtain ⟨od, J, _⟩ := O.look
  obtain ⟨rest, hrec⟩ := hp.rec_
  have I2 := I1.tok (s1.toks + 1)
  have hc : (PySem.W.clsIn X.K C).isSome = true := by
    obtain ⟨cd, hc, _⟩ := PySem.W.any_some c.cl.hd
    rw [hc]
    rfl
  have hr' : Room k X.A.in1 := (hr.mono hk).in1
  refine PySem.W.get_bind I1.kIn J (PySem.W.plainGet_of (c.cl.get m)).1 (PySem.W.findObj_data hc hp.at_ hp.get hp.tak) (PySem.W.plainGet_of (c.cl.get m)).2 (wpAny_call (PySem.W.prop_get (s := { s1 with toks := s1.toks + 1 }) I1.kIn hrec ?_))
  refine codeAny_mono (F X.A.in1 X.stack { s1 with toks := s1.toks + 1 } H1 [.ref a] [.ref a] Q E hr' I2.env0.in1 (.cons rfl .nil) q) fun r s' hq => ?_
  cases r with
  | error er => exact False.elim (hx pins σ H1 { s1 with toks := s1.toks + 1 } er s' (I2.wish _) hq)
  | ok fl =>
    cases fl with
    | ret u =>
      obtain ⟨v, H', I3, rv, q3⟩ := I2.after hq
      exact wpAny_of_eq (PySem.W.handedOut_of (handed_of rv)) ⟨v, H', I3, rv, q3⟩
    | next => exact False.elim hq
    | brk => exact False.elim hq
    | cont => exact False.elim hq
/-- o.m(..), o the class, m a classmethod -/
theorem pe_cmt (he : PE X o ta) (c : Cmt X.prog X.w X.K X.mg X.base k C m sp) (hr : Room j X.A) (hk : k ≤ j) (hx : Passes (L2.CX X.prog X.w) X E) (ha : PA X (e :: es) t) {pl : Sem Bool}
    (hst : starEach (e :: es) X.env = (false, eval e X.env) :: starEach es X.env := by rfl) (hpl : (backTo pos (starEach es X.env)).any (·.1) = false := by rfl)
    (ht : eval (.Call (.Attribute o m apos) (e :: es) [] pos) X.env = (do
      let ov ← eval o X.env
      standAt apos.atName
      let (f, first) ← holding [ov] (getMethod ov m pl)
      callWith pos f first (backTo pos (starEach (e :: es) X.env)) (backToKw pos (keywordEach [] X.env))) := by rfl) :
    PE X (.Call (.Attribute o m apos) (e :: es) [] pos) (ClX.tCMeth C sp E ta t) := by
  obtain ⟨mc, q, g, r, cm, F⟩ := c.ex
  exact ClX.pe_cmeth (pl := pl) he r cm F (hr.mono hk) hx ha hst hpl ht
theorem pe_cmt0 (he : PE X o ta) (c : Cmt X.prog X.w X.K X.mg X.base k C m sp) (hr : Room j X.A) (hk : k ≤ j) (hx : Passes (L2.CX X.prog X.w) X E) {pl : Sem Bool}
    (ht : eval (.Call (.Attribute o m apos) [] [] pos) X.env = (do
      let ov ← eval o X.env
      standAt apos.atName
      let (f, first) ← holding [ov] (getMethod ov m pl)
      callWith pos f first (backTo pos (starEach [] X.env)) (backToKw pos (keywordEach [] X.env))) := by rfl) :
    PE X (.Call (.Attribute o m apos) [] [] pos) (ClX.tCMeth C sp E ta tNil) := by
  obtain ⟨mc, q, g, r, cm, F⟩ := c.ex
  refine ⟨fun pins s σ H Q I h => ?_⟩
  refine PySem.W.methodCall_KW (pl := pl) (thn (he.run pins s σ H _ I h) fun u s1 ⟨x, H1, I1, rx, ex, q⟩ => ?_) ht
  subst ex
  obtain rfl : u = Value.ref C := rx
  refine ClX.getmethcm_ok I1 r cm fun s2 I2 => ?_
  refine PySem.W.callWith_M0 (K := X.K) (g := g) (self := .ref C) ⟨ClX.pin_at I2, I2.kIn⟩ cm.fi ?_
  exact ClX.run_cm F (hr.mono hk) hx I2 .nil q
/-- x(e, ..), x an instance that is called -/
theorem pe_clo {fe : Expr} {tf : TE} (hf : PE X fe tf) (c : Clo X.prog X.w X.K X.mg X.base k C sp) (hr : Room j X.A) (hk : k ≤ j) (hx : Passes (L2.CX X.prog X.w) X E) (ha : PA X (e :: es) t)
    (ht : eval (.Call fe (e :: es) [] pos) X.env = (do callWith pos (← eval fe X.env) [] (backTo pos (starEach (e :: es) X.env)) (backToKw pos (keywordEach [] X.env))) := by rfl)
    (he : starEach (e :: es) X.env = (false, eval e X.env) :: starEach es X.env := by rfl) (hpl : (backTo pos (starEach es X.env)).any (·.1) = false := by rfl) : PE X (.Call fe (e :: es) [] pos) (StX.tCallO X C sp E tf t) := by
  obtain ⟨g, co, F⟩ := c.ex
  exact StX.pe_callO hf co F (hr.mono hk) hx ha ht he hpl
end
end Oil
/-! Readings, one construct a lemma, from the left. -/
namespace Oil
open PySem PySem.Spec PyProof.Rows L2
/-! ### promises by the number of their arguments -/
abbrev F1 := V → Hp → VK → XK → Prop
abbrev F2 := V → V → Hp → VK → XK → Prop
abbrev F3 := V → V → V → Hp → VK → XK → Prop
abbrev F4 := V → V → V → V → Hp → VK → XK → Prop
abbrev F5 := V → V → V → V → V → Hp → VK → XK → Prop
abbrev F6 := V → V → V → V → V → V → Hp → VK → XK → Prop
def Sp0 (f : Hp → VK → XK → Prop) : Sp := fun vs H Q E => vs = [] ∧ f H Q E
def Sp1 (f : F1) : Sp := fun vs H Q E => ∃ a, vs = [a] ∧ f a H Q E
def Sp2 (f : F2) : Sp := fun vs H Q E => ∃ a b, vs = [a, b] ∧ f a b H Q E
def Sp3 (f : F3) : Sp := fun vs H Q E => ∃ a b c, vs = [a, b, c] ∧ f a b c H Q E
def Sp4 (f : F4) : Sp := fun vs H Q E => ∃ a b c d, vs = [a, b, c, d] ∧ f a b c d H Q E
def Sp5 (f : F5) : Sp := fun vs H Q E => ∃ a b c d e, vs = [a, b, c, d, e] ∧ f a b c d e H Q E
def Sp6 (f : F6) : Sp := fun vs H Q E => ∃ a b c d e g, vs = [a, b, c, d, e, g] ∧ f a b c d e g H Q E
/-! ### what some built-ins ask, by name -/
def cMax2 : List V → Hp → VK → Prop := fun xs H Q => ∃ i j, xs = [.int i, .int j] ∧ Q (.int (max i j)) H
def cMin2 : List V → Hp → VK → Prop := fun xs H Q => ∃ i j, xs = [.int i, .int j] ∧ Q (.int (min i j)) H
def cInt : List V → Hp → VK → Prop := fun xs H Q => (∃ i, xs = [.int i] ∧ Q (.int i) H) ∨ ∃ k, xs = [.bl k] ∧ Q (.int (if k then 1 else 0)) H
def cLen (K : PySem.W.Frag) : List V → Hp → VK → Prop := fun xs H Q => ∃ p ys, xs = [.ref p] ∧ (SqL K H p ys ∨ SqT K H p ys) ∧ Q (.int ys.length) H
def cTup (K : PySem.W.Frag) : List V → Hp → VK → Prop := fun xs H Q => ∃ p ys, xs = [.ref p] ∧ ((SqL K H p ys ∧ ∀ l, H l = none → Q (.ref l) (upd H l (.tup ys))) ∨ (SqT K H p ys ∧ Q (.ref p) H))
def TruQ (K : PySem.W.Frag) (x : V) (H : Hp) (Q : Bool → Hp → Prop) : Prop := ∃ k, TruV K x H k ∧ Q k H
def tTruN (K : PySem.W.Frag) (ta : TE) : TT := fun σ H Q => ta σ H fun x H' => TruQ K x H' Q
def tTruR (r : V → Hp → (Bool → Hp → Prop) → Prop) (ta : TE) : TT := fun σ H Q => ta σ H fun x H' => r x H' Q
def rOdd : R2 := fun x y H Q => ∃ n : Nat, x = .int (n : Int) ∧ y = .int 1 ∧ Q (.int ((n % 2 : Nat) : Int)) H
section
variable {X : Cx}
theorem call_mx (hc : X.calm = true) : CallR X (.builtin "max") cMax2 := fun pins s σ H xs us Q I r ⟨i, j, e, q⟩ => call_max2 hc pins s σ H xs us Q I r ⟨i, j, e, by rw [show (if j > i then j else i) = max i j by split <;> omega]; exact q⟩
theorem call_mn (hc : X.calm = true) : CallR X (.builtin "min") cMin2 := fun pins s σ H xs us Q I r ⟨i, j, e, q⟩ => call_min2 hc pins s σ H xs us Q I r ⟨i, j, e, by rw [show (if j < i then j else i) = min i j by split <;> omega]; exact q⟩
theorem call_in : CallR X (.type "int") cInt := call_int1
theorem call_ln : CallR X (.builtin "len") (cLen X.K) := call_len_seq
theorem call_tu : CallR X (.type "tuple") (cTup X.K) := call_tuple_of
theorem pt_tru {e : Expr} {ta : TE} (he : PE X e ta) (h : ∀ whole, isTrue e X.env whole = (do let v ← whole; standAt e.pos; holding [v] (truthy v))) : PT X e (tTruN X.K ta) := pt_truth he h
theorem pt_truR {r : V → Hp → (Bool → Hp → Prop) → Prop} {e : Expr} {ta : TE} (hr : TruR X r) (he : PE X e ta) (h : ∀ whole, isTrue e X.env whole = (do let v ← whole; standAt e.pos; holding [v] (truthy v))) : PT X e (tTruR r ta) :=
  ⟨fun pins s σ H Q I q => isTrue_plain (thn (he.run pins s σ H _ I q) fun v s1 ⟨x, H1, I1, r1, q1⟩ => hr pins s1 σ H1 x v Q I1 r1 q1) (h _)⟩
theorem op_od : OpR X (binaryOp .BitAnd) rOdd := op_odd
end
section
variable {K : PySem.W.Frag} {σ : L2.St} {H : Hp} {Q : VK} {QT : Bool → Hp → Prop} {QA : List V → Hp → Prop} {E : XK} {D : Ends} {i j : Nat} {v x y z : V} {ta tb tc te tf : TE} {t u : TT} {tx ty : TS} {tl tr : TA} {a C dx : Addr} {fs : List (Str × V)} {b : Bool} {f m : Str} {n k : Int}
theorem r_var (h : σ[i]? = some (some v)) (q : Q v H) : tVar i σ H Q := ⟨v, h, q⟩
theorem r_c (q : Q v H) : tC v σ H Q := q
theorem r_op {r : R2} (q : ta σ H fun x H1 => tb σ H1 fun y H2 => r x y H2 Q) : tOp r ta tb σ H Q := q
theorem r_un {r : V → Hp → VK → Prop} (q : ta σ H fun x H1 => r x H1 Q) : tUn r ta σ H Q := q
theorem r_I0 {g : Int → Int → V} (q : Q (g n k) H) : rI0 g (.int n) (.int k) H Q := ⟨n, k, rfl, rfl, q⟩
theorem r_I {c : Int → Int → Prop} {g : Int → Int → V} (hc : c n k) (q : Q (g n k) H) : rI c g (.int n) (.int k) H Q := ⟨n, k, rfl, rfl, hc, q⟩
theorem r_U {g : Int → V} (q : Q (g n) H) : rU g (.int n) H Q := ⟨n, rfl, q⟩
theorem r_eq (h : scal x y = true) (q : Q (.bl (decide (x = y))) H) : rEq x y H Q := ⟨h, q⟩
theorem r_ne (h : scal x y = true) (q : Q (.bl (!decide (x = y))) H) : rNe x y H Q := ⟨h, q⟩
theorem r_test (q : te σ H fun x H' => ∃ k, x = .bl k ∧ QT k H') : tTest te σ H QT := q
theorem r_B (q : te σ H fun x H' => ∃ k, x = .bl k ∧ QT k H') : tB te σ H QT := q
theorem r_bl (q : QT b H) : ∃ k, V.bl b = .bl k ∧ QT k H := ⟨b, rfl, q⟩
theorem r_blQ {R : Bool → Prop} (q : R b) : ∃ k, V.bl b = .bl k ∧ R k := ⟨b, rfl, q⟩
theorem r_and (q : t σ H fun c H1 => if c = true then u σ H1 QT else QT false H1) : tAnd t u σ H QT := q
theorem r_or (q : t σ H fun c H1 => if c = true then QT true H1 else u σ H1 QT) : tOr t u σ H QT := q
theorem r_not (q : t σ H fun c H1 => QT (!c) H1) : tNot t σ H QT := q
theorem r_andV (q : ta σ H fun x H1 => ∃ c, x = .bl c ∧ if c = true then tb σ H1 Q else Q (.bl false) H1) : tAndV ta tb σ H Q := q
theorem r_orV (q : ta σ H fun x H1 => ∃ c, x = .bl c ∧ if c = true then Q (.bl true) H1 else tb σ H1 Q) : tOrV ta tb σ H Q := q
theorem r_notV (q : ta σ H fun x H1 => ∃ c, x = .bl c ∧ Q (.bl (!c)) H1) : tNotV ta σ H Q := q
theorem r_if (q : t σ H fun c H1 => if c = true then ta σ H1 Q else tb σ H1 Q) : tIf t ta tb σ H Q := q
theorem r_chain {r r' : R2} (q : ta σ H fun x H1 => tb σ H1 fun y H2 => r x y H2 fun z H3 => ∃ k, z = .bl k ∧ (if k = true then tc σ H3 fun w' H4 => r' y w' H4 Q else Q (.bl false) H3)) : tChain r r' ta tb tc σ H Q := q
theorem r_T {A B : Prop} (h : b = true) (q : A) : if b = true then A else B := by rw [if_pos h]; exact q
theorem r_F {A B : Prop} (h : b = false) (q : B) : if b = true then A else B := by rw [if_neg (by rw [h]; exact Bool.false_ne_true)]; exact q
theorem r_by {A B : Prop} (h1 : b = true → A) (h2 : b = false → B) : if b = true then A else B := by
  cases b with
  | true => exact h1 rfl
  | false => exact h2 rfl
theorem r_isn {Q : VK} (q : Q (.bl (decide (x = .non))) H) : rIsN x .non H Q := ⟨rfl, q⟩
theorem r_notn {Q : VK} (q : Q (.bl (!decide (x = .non))) H) : rNotN x .non H Q := ⟨rfl, q⟩
theorem r_truI (q : QT (n != 0) H) : TruQ K (.int n) H QT := ⟨_, rfl, q⟩
theorem r_truB (q : QT b H) : TruQ K (.bl b) H QT := ⟨_, rfl, q⟩
theorem r_truN (q : QT false H) : TruQ K .non H QT := ⟨_, rfl, q⟩
theorem r_tru (q : ta σ H fun x H' => TruQ K x H' QT) : tTruN K ta σ H QT := q
theorem r_truR {r : V → Hp → (Bool → Hp → Prop) → Prop} (q : ta σ H fun x H' => r x H' QT) : tTruR r ta σ H QT := q
theorem r_nx {p : L2.St → Hp → Prop} {q1 : VK} {r s : L2.St → Hp → Prop} (q : p σ H) : Ends.nx ⟨p, q1, r, s⟩ σ H := q
theorem r_rt {p : L2.St → Hp → Prop} {q1 : VK} {r s : L2.St → Hp → Prop} (q : q1 v H) : Ends.rt ⟨p, q1, r, s⟩ v H := q
theorem r_ct {p : L2.St → Hp → Prop} {q1 : VK} {r s : L2.St → Hp → Prop} (q : s σ H) : Ends.ct ⟨p, q1, r, s⟩ σ H := q
theorem r_bk {p : L2.St → Hp → Prop} {q1 : VK} {r s : L2.St → Hp → Prop} (q : r σ H) : Ends.bk ⟨p, q1, r, s⟩ σ H := q
theorem r_next (q : D.nx σ H) : tNext D σ H := q
theorem r_seq (q : tx { D with nx := ty D } σ H) : tSeq tx ty D σ H := q
theorem r_drop (q : te σ H fun _ H1 => D.nx σ H1) : tDrop te D σ H := q
theorem r_ret (q : te σ H fun v H1 => D.rt v H1) : tRet te D σ H := q
theorem r_retN (q : D.rt .non H) : tRetN D σ H := q
theorem r_ifS (q : t σ H fun b H1 => if b = true then tx D σ H1 else ty D σ H1) : tIfS t tx ty D σ H := q
theorem r_asg {g : TG} (q : te σ H fun x H1 => g x σ H1 D.nx) : tAsg te g D σ H := q
theorem r_gname {R : L2.St → Hp → Prop} (q : R (σ.set i (some v)) H) : gName i v σ H R := q
theorem r_par (q : tl σ H fun vs H1 => ∃ v w, vs = [v, w] ∧ D.nx ((σ.set i (some v)).set j (some w)) H1) : tPar i j tl D σ H := q
theorem r_par2 {R : V → V → Prop} (q : R x y) : ∃ v w, [x, y] = [v, w] ∧ R v w := ⟨x, y, rfl, q⟩
theorem r_nil (q : QA [] H) : tNil σ H QA := q
theorem r_cons (q : ta σ H fun x H1 => tr σ H1 fun xs H2 => QA (x :: xs) H2) : tCons ta tr σ H QA := q
theorem r_cb {r : List V → Hp → VK → Prop} (q : tl σ H fun vs H1 => r vs H1 Q) : tCB r tl σ H Q := q
theorem r_tup (q : tl σ H fun xs H1 => xs.length ≤ sizeLine ∧ ∀ p, H1 p = none → Q (.ref p) (upd H1 p (.tup xs))) : tTup tl σ H Q := q
theorem r_lst (q : tl σ H fun xs H1 => xs.length ≤ sizeLine ∧ ∀ p, H1 p = none → Q (.ref p) (upd H1 p (.lst xs))) : tLst tl σ H Q := q
theorem r_cal {sp : Sp} (q : tl σ H fun vs H1 => sp vs H1 Q E) : tCal sp E tl σ H Q := q
theorem r_mak {sp : Sp} (q : tl σ H fun vs H1 => ∀ x dx, H1 x = Option.none → H1 dx = Option.none → dx ≠ x → sp (.ref x :: vs) (upd (upd H1 dx (.own x)) x (.ins C dx [])) (fun v H2 => v = .non ∧ Q (.ref x) H2) E) : StX.tMakeR C sp E tl σ H Q := q
theorem r_makL {sp : Sp} (h : σ[i]? = some (some (.ref C))) (q : StX.tMakeR C sp E tl σ H Q) : tMakL i C sp E tl σ H Q := ⟨h, q⟩
theorem r_prp {sp : Sp} (q : ta σ H fun x H1 => ∃ (a dx : Addr) (fs : List (Str × V)), x = .ref a ∧ H1 a = some (.ins C dx fs) ∧ sp [.ref a] H1 Q E) : tPrp C sp E ta σ H Q := q
theorem r_mt {sp : Sp} (q : ta σ H fun x H1 => ∃ (a dx : Addr) (fs : List (Str × V)), x = .ref a ∧ H1 a = some (.ins C dx fs) ∧ fs.lookup m = none ∧ tl σ H1 fun vs H2 => sp (.ref a :: vs) H2 Q E) : tMt C m sp E ta tl σ H Q := q
theorem r_cmt {sp : Sp} (q : ta σ H fun x H1 => x = .ref C ∧ tl σ H1 fun vs H2 => sp (.ref C :: vs) H2 Q E) : ClX.tCMeth C sp E ta tl σ H Q := q
theorem r_clo {X : Cx} {sp : Sp} (q : tf σ H fun y H1 => ∃ a, y = V.ref a ∧ tl σ H1 fun vs H2 => StX.InsC X H2 a C ∧ sp (V.ref a :: vs) H2 Q E) : StX.tCallO X C sp E tf tl σ H Q := q
theorem r_fld (q : ta σ H fun x H1 => ∃ a C dx fs v, x = .ref a ∧ H1 a = some (.ins C dx fs) ∧ Cls K C ∧ NoAttr K C f ∧ fs.lookup f = some v ∧ Q v H1) : tFld K ta f σ H Q := q
theorem r_sfld (q : tb σ H fun y H1 => ta σ H1 fun x H2 => ∃ a C dx fs, x = .ref a ∧ H2 a = some (.ins C dx fs) ∧ Cls K C ∧ NoAttr K C f ∧ fs.length < 1000 ∧ D.nx σ (upd H2 a (.ins C dx (putF f y fs)))) : sFld K ta tb f D σ H := q
theorem r_rfl {α : Type} {a : α} {R : Prop} (q : R) : a = a ∧ R := ⟨rfl, q⟩
theorem r_max2 (q : Q (.int (max n k)) H) : cMax2 [.int n, .int k] H Q := ⟨n, k, rfl, q⟩
theorem r_min2 (q : Q (.int (min n k)) H) : cMin2 [.int n, .int k] H Q := ⟨n, k, rfl, q⟩
theorem r_int1 (q : Q (.int n) H) : cInt [.int n] H Q := .inl ⟨n, rfl, q⟩
theorem r_int1b (q : Q (.int (if b then 1 else 0)) H) : cInt [.bl b] H Q := .inr ⟨b, rfl, q⟩
theorem r_lenL {xs : List V} (h : H a = some (.lst xs)) (q : Q (.int xs.length) H) : cLen K [.ref a] H Q := ⟨a, xs, rfl, .inl (SqL.of h), q⟩
theorem r_lenT {xs : List V} (h : H a = some (.tup xs)) (q : Q (.int xs.length) H) : cLen K [.ref a] H Q := ⟨a, xs, rfl, .inr (SqT.of h), q⟩
theorem r_tupL {xs : List V} (h : H a = some (.lst xs)) (q : ∀ p, H p = none → Q (.ref p) (upd H p (.tup xs))) : cTup K [.ref a] H Q := ⟨a, xs, rfl, .inl ⟨SqL.of h, q⟩⟩
theorem r_store {R : Hp → Prop} (T : Cls K C) (hx : H a = some (.ins C dx fs)) (no : NoAttr K C f) (hl : fs.length < 1000) (q : R (upd H a (.ins C dx (putF f y fs)))) :
    ∃ a' C' dx' fs', V.ref a = .ref a' ∧ H a' = some (.ins C' dx' fs') ∧ Cls K C' ∧ NoAttr K C' f ∧ fs'.length < 1000 ∧ R (upd H a' (.ins C' dx' (putF f y fs'))) := ⟨a, C, dx, fs, rfl, hx, T, no, hl, q⟩
theorem r_odd {c : Nat} (q : Q (.int ((c % 2 : Nat) : Int)) H) : rOdd (.int (c : Int)) (.int 1) H Q := ⟨c, rfl, rfl, q⟩
theorem r_sp1 {g : F1} (q : g x H Q E) : Sp1 g [x] H Q E := ⟨x, rfl, q⟩
theorem r_sp2 {g : F2} (q : g x y H Q E) : Sp2 g [x, y] H Q E := ⟨x, y, rfl, q⟩
theorem r_sp3 {g : F3} (q : g x y z H Q E) : Sp3 g [x, y, z] H Q E := ⟨x, y, z, rfl, q⟩
theorem r_sp4 {g : F4} {c : V} (q : g x y z c H Q E) : Sp4 g [x, y, z, c] H Q E := ⟨x, y, z, c, rfl, q⟩
theorem r_sp5 {g : F5} {c d : V} (q : g x y z c d H Q E) : Sp5 g [x, y, z, c, d] H Q E := ⟨x, y, z, c, d, rfl, q⟩
end
end Oil
/-! What kind of value: for isinstance. Fields of an instance. -/
namespace Oil
open PySem PySem.Spec PyProof.Rows L2
/-- a value of a known built-in kind -/
inductive Kn (K : PySem.W.Frag) (H : Hp) : V → String → Prop where
  | non : Kn K H .non "NoneType"
  | bl (b : Bool) : Kn K H (.bl b) "bool"
  | int (i : Int) : Kn K H (.int i) "int"
  | str (x : Str) : Kn K H (.str x) "str"
  | tup {a : Addr} {xs : List V} (e : H a = some (.tup xs)) : Kn K H (.ref a) "tuple"
  | lst {a : Addr} {xs : List V} (e : H a = some (.lst xs)) : Kn K H (.ref a) "list"
theorem Kn.ty {K : PySem.W.Frag} {H : Hp} {v : V} {T : String} (k : Kn K H v T) : TyX K H v (.type T) := by
  cases k with
  | non => exact .base .non
  | bl b => exact .base (.bl b)
  | int i => exact .base (.int i)
  | str x => exact .base (.str x)
  | tup e => exact .base (.tup e)
  | lst e => exact .base (.lst e)
theorem Kn.mono {K : PySem.W.Frag} {H H' : Hp} {v : V} {T : String} (e : Same H H') (k : Kn K H v T) : Kn K H' v T := by
  cases k with
  | non => exact .non
  | bl b => exact .bl b
  | int i => exact .int i
  | str x => exact .str x
  | tup h => exact .tup (e _ _ h)
  | lst h => exact .lst (e _ _ h)
section
variable {K : PySem.W.Frag} {H : Hp} {Q : VK} {v : V} {T c : String} {b : Bool}
theorem r_isi (k : Kn K H v T) (h : kitB T c = some b) (q : Q (.bl b) H) : rIsi K [v, .ty c] H Q :=
  ⟨v, .ty c, .type T, .type c, b, rfl, .ty c, k.ty, kit_ty h, q⟩
end
section
variable {K : PySem.W.Frag} {H : Hp} {Q : VK} {v : V} {T c : String}
theorem r_isiT (k : Kn K H v T) (h : kitB T c = some true) (q : Q (.bl true) H) : rIsi K [v, .ty c] H Q := r_isi k h q
theorem r_isiF (k : Kn K H v T) (h : kitB T c = some false) (q : Q (.bl false) H) : rIsi K [v, .ty c] H Q := r_isi k h q
end
/-- what isinstance asks of an own class whose instances it is given -/
structure Oc (K : PySem.W.Frag) (C : Addr) : Prop where
  cl : Cls K C
  ha : PySem.W.findIn K (.ref C) "__class__" = some (some (.builtin "object.__class__"))
  hn : PySem.W.specialIn K (.builtin "object.__class__") "__get__" = some (some (.builtin "getset_descriptor.__get__"))
  ht : PySem.W.takesIn K (.builtin "object.__class__") = some true
  hm : PySem.W.mroIn K C (.type "object") = some true
/-- values of the built-in kinds are none of the class -/
def NotC (K : PySem.W.Frag) (C : Addr) : Prop := ∀ T ∈ ["NoneType", "bool", "int", "str", "tuple", "list"], PySem.W.kitOne K (.type T) (.ref C) = some false
section
variable {K : PySem.W.Frag} {H : Hp} {Q : VK} {v : V} {T : String} {a C dx : Addr} {fs : List (Str × V)}
theorem Kn.mem (k : Kn K H v T) : T ∈ ["NoneType", "bool", "int", "str", "tuple", "list"] := by cases k <;> decide
theorem Kn.kind (k : Kn K H v T) : T = "NoneType" ∨ T = "bool" ∨ T = "int" ∨ T = "str" ∨ T = "tuple" ∨ T = "list" := by
  have h := k.mem
  simp only [List.mem_cons, List.not_mem_nil, or_false] at h
  exact h
theorem r_isiO (o : Oc K C) (h : H a = some (.ins C dx fs)) (q : Q (.bl true) H) : rIsi K [.ref a, .ref C] H Q :=
  ⟨.ref a, .ref C, .ref C, .ref C, true, rfl, .own C, .base (.ins h o.cl o.ha o.hn o.ht o.hm), by unfold PySem.W.kitOne; rw [if_pos (beq_self_eq_true _)], q⟩
theorem r_isiN (o : NotC K C) (k : Kn K H v T) (q : Q (.bl false) H) : rIsi K [v, .ref C] H Q :=
  ⟨v, .ref C, .type T, .ref C, false, rfl, .own C, k.ty, o T k.mem, q⟩
end
/-- is it a number -/
def numV : V → Bool
  | .int _ => true
  | _ => false
def numFrom (n : Int) : V → Bool
  | .int i => decide (n ≤ i)
  | _ => false
def numIn (lo hi : Int) : V → Bool
  | .int i => decide (lo ≤ i) && decide (i ≤ hi)
  | _ => false
/-! ### texts as names -/
theorem putF_self {f : Str} {v w : V} : putF f v [(f, w)] = [(f, v)] := by
  show (if f = f then [(f, v)] else _) = _
  rw [if_pos rfl]
theorem putF_ne {f g : Str} {v w : V} {r : List (Str × V)} (h : ¬ g = f) : putF f v ((g, w) :: r) = (g, w) :: putF f v r := by
  show (if g = f then _ else _) = _
  rw [if_neg h]
theorem look_self {f : Str} {v : V} {r : List (Str × V)} : ((f, v) :: r).lookup f = some v := by simp [List.lookup]
theorem look_ne {f g : Str} {v : V} {r : List (Str × V)} (h : ¬ f = g) : ((g, v) :: r).lookup f = r.lookup f := by
  have q : (f == g) = false := by simpa using h
  simp [List.lookup, q]
theorem max_if (i j : Int) : (if j > i then j else i) = max i j := by split <;> omega
theorem min_if (i j : Int) : (if j < i then j else i) = min i j := by split <;> omega
/-! ### heaps that only grow -/
theorem Same.new {H : Hp} {p : Addr} {o : HO} (h : H p = none) : Same H (upd H p o) := fun a u e => by
  rw [upd_ne (ne_of_none e h)]
  exact e
/-- a new object may be written -/
theorem Same.mut {H H' : Hp} {p : Addr} {o : HO} (e : Same H H') (h : H p = none) : Same H (upd H' p o) := fun a u ha => by
  rw [upd_ne (ne_of_none ha h)]
  exact e a u ha
end Oil
/-! Loops and comprehensions read; the dice of a draw. -/
namespace Oil
open PySem PySem.Spec PyProof.Rows L2
section
variable {K : PySem.W.Frag} {σ : L2.St} {H : Hp} {Q : VK} {D : Ends} {i j : Nat} {tl : TE} {ta : TA} {a : Addr} {xs : List V} {g : TG} {tb : TS} {n lo : Int}
/-- a loop at its start -/
def ForW (J : It) (g : TG) (tb : TS) (D : Ends) (σ : L2.St) (H1 : Hp) : Prop := ∃ W : Nat → Nat → L2.St → Hp → Prop, (∃ m, W 0 m σ H1) ∧ ∀ i m σ H, W i m σ H →
  (J.stop i H ∧ D.nx σ H) ∨ (J.go i H ∧ ∃ N : L2.St → Hp → Prop, (∀ σ' H', N σ' H' → ∃ m', m' < m ∧ W (i + 1) m' σ' H') ∧ ∀ x H', J.yld i H x H' → g x σ H' fun σ2 H2 => tb { D with nx := N, ct := N, bk := D.nx } σ2 H2)
theorem r_for {wi : TI} (q : wi σ H fun J H1 => ForW J g tb D σ H1) : tFor wi g tb D σ H := q
def qLst (K : PySem.W.Frag) (R : It → Hp → Prop) (x : V) (H1 : Hp) : Prop := ∃ a, x = .ref a ∧ (∃ xs, SqL K H1 a xs) ∧ R (Itl K a) H1
def qTup (K : PySem.W.Frag) (R : It → Hp → Prop) (x : V) (H1 : Hp) : Prop := ∃ a, x = .ref a ∧ (∃ xs, SqT K H1 a xs) ∧ R (Itt K a) H1
def qRg1 (R : It → Hp → Prop) (vs : List V) (H1 : Hp) : Prop := ∃ j : Int, vs = [.int j] ∧ -(2 ^ 62) ≤ j ∧ j < 2 ^ 62 ∧ R (Itr 0 j.toNat) H1
def qRg2 (R : It → Hp → Prop) (vs : List V) (H1 : Hp) : Prop := ∃ i j : Int, vs = [.int i, .int j] ∧ (-(2 ^ 62) ≤ i ∧ i < 2 ^ 62 ∧ -(2 ^ 62) ≤ j ∧ j < 2 ^ 62) ∧ R (Itr i (j - i).toNat) H1
theorem r_ilist {R : It → Hp → Prop} (q : tl σ H (qLst K R)) : iList K tl σ H R := q
theorem r_itup {R : It → Hp → Prop} (q : tl σ H (qTup K R)) : iTup K tl σ H R := q
theorem r_irng1 {R : It → Hp → Prop} (q : ta σ H (qRg1 R)) : iRng1 ta σ H R := q
theorem r_irng2 {R : It → Hp → Prop} (q : ta σ H (qRg2 R)) : iRng2 ta σ H R := q
theorem r_qlst {R : It → Hp → Prop} (h : SqL K H a xs) (q : R (Itl K a) H) : qLst K R (.ref a) H := ⟨a, rfl, ⟨xs, h⟩, q⟩
theorem r_qtup {R : It → Hp → Prop} (h : SqT K H a xs) (q : R (Itt K a) H) : qTup K R (.ref a) H := ⟨a, rfl, ⟨xs, h⟩, q⟩
theorem r_qrg1 {R : It → Hp → Prop} (h1 : -(2 ^ 62) ≤ n) (h2 : n < 2 ^ 62) (q : R (Itr 0 n.toNat) H) : qRg1 R [.int n] H := ⟨n, rfl, h1, h2, q⟩
theorem r_qrg2 {R : It → Hp → Prop} (h1 : -(2 ^ 62) ≤ lo ∧ lo < 2 ^ 62 ∧ -(2 ^ 62) ≤ n ∧ n < 2 ^ 62) (q : R (Itr lo (n - lo).toNat) H) : qRg2 R [.int lo, .int n] H := ⟨lo, n, rfl, h1, q⟩
theorem w_list (Pv : Nat → L2.St → Hp → Prop) (h0 : Pv 0 σ H) (hl : ∀ i σ H, i ≤ xs.length → Pv i σ H → SqL K H a xs)
    (hs : ∀ i x σ H, xs[i]? = some x → Pv i σ H → g x σ H fun σ2 H2 => tb { D with nx := Pv (i + 1), ct := Pv (i + 1), bk := D.nx } σ2 H2) (hd : ∀ σ H, Pv xs.length σ H → D.nx σ H) : ForW (Itl K a) g tb D σ H := for_list Pv h0 hl hs hd
theorem w_tup (Pv : Nat → L2.St → Hp → Prop) (h0 : Pv 0 σ H) (hl : ∀ i σ H, i ≤ xs.length → Pv i σ H → SqT K H a xs)
    (hs : ∀ i x σ H, xs[i]? = some x → Pv i σ H → g x σ H fun σ2 H2 => tb { D with nx := Pv (i + 1), ct := Pv (i + 1), bk := D.nx } σ2 H2) (hd : ∀ σ H, Pv xs.length σ H → D.nx σ H) : ForW (Itt K a) g tb D σ H := for_tup Pv h0 hl hs hd
theorem w_rng {m : Nat} (Pv : Nat → L2.St → Hp → Prop) (h0 : Pv 0 σ H)
    (hs : ∀ i σ H, i < m → Pv i σ H → g (.int (lo + i)) σ H fun σ2 H2 => tb { D with nx := Pv (i + 1), ct := Pv (i + 1), bk := D.nx } σ2 H2) (hd : ∀ σ H, Pv m σ H → D.nx σ H) : ForW (Itr lo m) g tb D σ H := for_range Pv h0 hs hd
end
/-! ### the dice: a list at d of the script, the place, the mix, the carry -/
structure Dice (K : PySem.W.Frag) (H : Hp) (d : Addr) : Prop where
  ex : ∃ (sa : Addr) (ns : List Int) (p m c : Int), H d = some (.lst [.ref sa, .int p, .int m, .int c]) ∧ 0 ≤ p ∧ 0 ≤ m ∧ m < 2147483647 ∧ ns.length ≤ 63 ∧ ∀ o, SqL K (upd H d o) sa (ns.map V.int)
/-- all but the dice is as it was -/
structure Nx (K : PySem.W.Frag) (d : Addr) (H H' : Hp) : Prop where
  keep : ∀ a o, a ≠ d → H a = some o → H' a = some o
  dice : Dice K H' d
theorem sq_mono {K : PySem.W.Frag} {H H' : Hp} {a : Addr} {xs : List V} (e : Same H H') (h : SqL K H a xs) : SqL K H' a xs := Same.seq e h
theorem Dice.same {K : PySem.W.Frag} {H H' : Hp} {d : Addr} (h : Dice K H d) (e : Same H H') : Dice K H' d := by
  obtain ⟨sa, ns, p, m, c, h1, h2, h3, h4, h5, h6⟩ := h.ex
  refine ⟨sa, ns, p, m, c, e _ _ h1, h2, h3, h4, h5, fun o => sq_mono (fun b u q => ?_) (h6 o)⟩
  by_cases hb : b = d
  · rw [hb, upd_same] at q ⊢
    exact q
  · rw [upd_ne hb] at q ⊢
    exact e _ _ q
theorem Nx.of {K : PySem.W.Frag} {d : Addr} {H H' : Hp} (h : Dice K H d) (e : Same H H') : Nx K d H H' := ⟨fun a o _ q => e a o q, h.same e⟩
theorem Nx.refl {K : PySem.W.Frag} {d : Addr} {H : Hp} (h : Dice K H d) : Nx K d H H := .of h (Same.refl H)
theorem Nx.trans {K : PySem.W.Frag} {d : Addr} {H H1 H2 : Hp} (a : Nx K d H H1) (b : Nx K d H1 H2) : Nx K d H H2 := ⟨fun x o n q => b.keep x o n (a.keep x o n q), b.dice⟩
theorem Nx.same {K : PySem.W.Frag} {d : Addr} {H H1 H2 : Hp} (a : Nx K d H H1) (e : Same H1 H2) : Nx K d H H2 := a.trans (.of a.dice e)
/-- what is no list is not the dice -/
theorem Dice.ne {K : PySem.W.Frag} {H : Hp} {d a : Addr} {o : HO} (h : Dice K H d) (e : H a = some o) (n : ∀ xs, o ≠ .lst xs) : a ≠ d := by
  obtain ⟨sa, ns, p, m, c, h1, _⟩ := h.ex
  exact ne_of e h1 (n _)
theorem Nx.at {K : PySem.W.Frag} {H H' : Hp} {d a : Addr} {o : HO} (x : Nx K d H H') (h : Dice K H d) (e : H a = some o) (n : ∀ xs, o ≠ .lst xs) : H' a = some o := x.keep a o (h.ne e n) e
theorem Dice.fresh {K : PySem.W.Frag} {H : Hp} {d a : Addr} (h : Dice K H d) (e : H a = none) : a ≠ d := by
  obtain ⟨sa, ns, p, m, c, h1, _⟩ := h.ex
  exact (ne_of_none h1 e).symm
/-- the dice written anew -/
theorem Dice.put {K : PySem.W.Frag} {H : Hp} {d sa : Addr} {ns : List Int} {p m c : Int} (h2 : 0 ≤ p) (h3 : 0 ≤ m) (h4 : m < 2147483647) (h5 : ns.length ≤ 63) (h6 : ∀ o, SqL K (upd H d o) sa (ns.map V.int)) :
    Nx K d H (upd H d (.lst [.ref sa, .int p, .int m, .int c])) :=
  ⟨fun a o n e => by rw [upd_ne n]; exact e, ⟨sa, ns, p, m, c, upd_same, h2, h3, h4, h5, fun o => by rw [upd_upd]; exact h6 o⟩⟩
theorem Dice.new {K : PySem.W.Frag} {H : Hp} {d sa : Addr} {ns : List Int} {p m c : Int} (hd : H d = none) (h2 : 0 ≤ p) (h3 : 0 ≤ m) (h4 : m < 2147483647) (h5 : ns.length ≤ 63) (h6 : SqL K H sa (ns.map V.int)) :
    Dice K (upd H d (.lst [.ref sa, .int p, .int m, .int c])) d :=
  ⟨sa, ns, p, m, c, upd_same, h2, h3, h4, h5, fun o => by rw [upd_upd]; exact sq_mono (Same.new hd) h6⟩
/-! ### the promises of the draws, alike in every law -/
def q_dice (K : PySem.W.Frag) : F1 := fun a H Q _ => ∃ (sa : Addr) (ns : List Int), a = .ref sa ∧ SqL K H sa (ns.map V.int) ∧ ns.length ≤ 63 ∧ ∀ d H', H d = none → Same H H' → Dice K H' d → Q (.ref d) H'
def q_next (K : PySem.W.Frag) : F2 := fun a b H Q _ => ∃ (d : Addr) (n : Int), a = .ref d ∧ b = .int n ∧ 0 < n ∧ n < 2 ^ 100 ∧ Dice K H d ∧ ∀ r H', 0 ≤ r → r < n → Nx K d H H' → Q (.int r) H'
def q_pick (K : PySem.W.Frag) : F2 := fun a b H Q _ => ∃ (d l : Addr) (xs : List V), a = .ref d ∧ b = .ref l ∧ H l = some (.lst xs) ∧ l ≠ d ∧ 0 < xs.length ∧ xs.length ≤ 1000 ∧ Dice K H d ∧ ∀ v H', v ∈ xs → Nx K d H H' → Q v H'
section
variable {K : PySem.W.Frag} {H : Hp} {Q : VK} {a : Addr} {xs : List V} {k : Int} {v : V} {j : Nat}
theorem r_ixL (h : SqL K H a xs) (e : atI xs k = some v) (q : Q v H) : rIxL K (.ref a) (.int k) H Q := ⟨a, xs, k, v, rfl, rfl, h, e, q⟩
theorem r_ixT (h : SqT K H a xs) (e : atI xs k = some v) (q : Q v H) : rIxT K (.ref a) (.int k) H Q := ⟨a, xs, k, v, rfl, rfl, h, e, q⟩
theorem r_setL {R : Hp → Prop} (h : H a = some (.lst xs)) (e : ixN xs.length k = some j) (q : R (upd H a (.lst (xs.set j v)))) : rSetL (.ref a) (.int k) v H R := ⟨a, xs, k, j, rfl, rfl, h, e, q⟩
theorem r_gsub {ta tb : TE} {t : TSet} {σ : L2.St} {R : L2.St → Hp → Prop} (q : ta σ H fun o H1 => tb σ H1 fun i H2 => t o i v H2 fun H3 => R σ H3) : gSub ta tb t v σ H R := q
theorem at_nat {xs : List V} {j : Nat} {v : V} (h : xs[j]? = some v) : atI xs (j : Int) = some v := atI_nat h
end
end Oil
/-! Caught errors: isinstance in the suite, count, what a teller of errors gives. -/
namespace Oil
open PySem PySem.Spec PyProof.Rows L2
theorem count_flat {y : V} : ∀ {xs : List V} {us : List Value}, Vals xs us → xs.all flatV = true → us.countP (eqU y) = xs.countP fun z => eqV z y
  | _, _, .nil, _ => rfl
  | z :: xs, u :: us, .cons r t, f => by
    rw [List.all_cons, Bool.and_eq_true] at f
    rw [List.countP_cons, List.countP_cons, eqU_of r f.1, count_flat t f.2]
section
variable {X : Cx}
def rCntF (K : PySem.W.Frag) : V → List V → Hp → VK → Prop := fun x xs H Q => ∃ (p : Addr) (ys : List V) (y : V), x = .ref p ∧ xs = [y] ∧ SqL K H p ys ∧ flatV y = true ∧ ys.all flatV = true ∧ Q (.int ((ys.countP fun z => eqV z y : Nat) : Int)) H
theorem mt_app : MtR X "list.append" rAppend := mt_append
theorem mt_cntF : MtR X "list.count" (rCntF X.K) := by
  intro pins s σ H x xs v us Q I rx rxs h
  obtain ⟨p, ys, y, rfl, rfl, hs, fy, fys, q⟩ := h
  cases rx
  obtain ⟨uy, rfl, ry⟩ := rxs.one
  obtain ⟨its, rv, ⟨⟨cls, dd, data, sl⟩, n, ho, hc, hdn, hd⟩, hlen⟩ := I.list hs
  simp only at hc hd
  subst hc hd
  refine call_meets PySem.F.slot_list_count ⟨_, ho, rfl⟩ PySem.F.entry_list_count (PySem.F.args_list_count_2 _ _)
    (SeqAt.list_countAt p its.toArray n dd sl uy (eqU y)) ⟨ho, fun u' hu' => mem_eqAt ry fy rv fys u' (by simpa using hu'), ?_⟩
  have ec : its.toArray.toList.countP (eqU y) = ys.countP fun z => eqV z y := count_flat rv fys
  refine ⟨.int ((ys.countP fun z => eqV z y : Nat) : Int), H, I.tok _, ⟨s.toks, ?_⟩, q⟩
  rw [ec]
end
/-! ### isinstance of the error that a suite holds -/
section
open PySem.W
variable {prog : Program} {w : World} {A : Around} {E : Value → Shared → Prop} {s : Shared} {K : Frag} {x D : Addr} {ox : Obj} {od : Option Obj}
theorem own_class (dd : hasDictIn K D = true) (ha : findIn K (.ref D) "__class__" = some (some (.builtin "object.__class__"))) (hn : specialIn K (.builtin "object.__class__") "__get__" = some (some (.builtin "getset_descriptor.__get__"))) (ht : takesIn K (.builtin "object.__class__") = some true) :
    findObj K D od "__class__" = some (.bind (.builtin "getset_descriptor.__get__") (.builtin "object.__class__")) := by
  obtain ⟨cd, hc, _⟩ := any_some dd
  cases od with
  | none => exact findObj_dataN (by rw [hc]; rfl) ha hn ht
  | some o => exact findObj_data (by rw [hc]; rfl) ha hn ht
theorem class_read (c : ExcC K D) (Q : Option Value → Shared → Prop) (X : K.In s.heap) (I : InstAt s.heap x ox D od) (q : Q (some (.ref D)) { s with toks := s.toks + 1 }) : wpAny (model prog w) A (getAttr? (.ref x) "__class__") Q E s := by
  have hf := own_class (od := od) c.hd c.ha c.hn c.ht
  obtain ⟨hp, g, d, t, os⟩ := s
  have k0 := I.type (M := model prog w)
  have k1 := looks_findIn (M := model prog w) X c.hg
  have k2 := looks_findIn (M := model prog w) X c.hk
  have k3 := looks_find (M := model prog w) X I hf
  have below : Looks (model prog w) hp (isInstance (.ref x) (.type "BaseException")) true := k0.andThen (looks_subIn X c.hs)
  have n2 : (Value.builtin "BaseException.__getattribute__" == Value.builtin "object.__getattribute__") = false := by decide +kernel
  have n1 : (onTheHeap (Value.ref D) && Value.builtin "BaseException.__getattribute__" == Value.builtin "object.__getattribute__") = false := by
    rw [n2, Bool.and_false]
  unfold getAttr? getAttrBy? getAttrBy
  refine wpAny_bind (wpAny_mkText (wpAny_bind (wpAny_attempt (wpAny_holding (wpAny_bind (k0.at (wpAny_bind (k1.at ?_))))))))
  show wpAny _ _ (if (onTheHeap (Value.ref D) && Value.builtin "BaseException.__getattribute__" == Value.builtin "object.__getattribute__") = true then _ else _) _ _ _
  rw [n1, if_neg Bool.false_ne_true]
  unfold getAttrByItsOwn hookBefore
  refine wpAny_bind ?_
  rw [if_pos (show onTheHeap (Value.ref D) = true by rfl)]
  refine k2.at (wpAny_bind (wpAny_attempt (wpAny_holding ?_)))
  unfold callGetattribute
  rw [if_neg (show ¬ (false && onTheHeap (Value.builtin "BaseException.__getattribute__")) = true by simp)]
  unfold boundAndCalled
  rw [PySem.F.excAttr_ValueError.ga.bind (.ref x)]
  refine wpAny_bind (wpAny_pure ?_)
  show wpAny _ _ (call (.builtin "BaseException.__getattribute__") [.ref x, .str "__class__" t]) _ _ _
  refine wpAny_call (codeAny_call_builtin PySem.F.excAttr_ValueError.ga.plain PySem.F.entry_bexc_ga (@check_slot (model prog w) _ _ ⟨hp, g, d, t + 1, os⟩ "BaseException.__getattribute__" "BaseException" "__getattribute__" (.ref x) [.str "__class__" t] [] _ (by decide +kernel) (by decide +kernel) below (PySem.F.args_bexc_ga (.ref x) (.str "__class__" t)) ?_))
  unfold Builtin.«object.__getattribute__»
  refine wpAny_bind (wpAny_of_eq (a := ((Value.ref x : Value), [Value.str "__class__" t])) (by first | rfl | (simp only [slotArgs]; rfl)) (wpAny_bind (wpAny_pure (wpAny_bind (k0.at (wpAny_bind (k3.at ?_)))))))
  show wpAny _ _ (holding [Value.builtin "object.__class__"] (call (.builtin "getset_descriptor.__get__") [.builtin "object.__class__", .ref x, .ref D]) >>= ret) _ _ _
  refine wpAny_bind (wpAny_holding (wpAny_call (class_get (s := ⟨hp, g, d, t + 1, os⟩) (ox := ox) (od := od) X I c.hm (wpAny_pure ?_))))
  show wpAny _ _ (handedOut (.ref D)) _ _ _
  rw [handedOut_of (v := .ref D) rfl]
  first
    | exact wpAny_pure (wpAny_pure q)
    | exact wpAny_pure q
    | exact wpAny_pure (wpAny_bind (wpAny_pure (wpAny_pure q)))
theorem kit_err (c : ExcC K D) : KitX K (.ref x) (.ref D) (fun h => InstAt h x ox D od) where
  ty := fun _ _ _ I => I.type
  it := fun _ _ X _ => by
    obtain ⟨cdD, hcD, _⟩ := any_some c.hd
    unfold clsIn at hcD
    split at hcD
    · rename_i ho
      intro A' Q' E' s' k q
      unfold isType loadHead
      exact wpAny_bind (wpAny_loadPart (k _ _ (X _ _ ho)) (wpAny_pure q))
    · cases hcD
  ne := fun h tp dd its n sl X htp => by
    obtain ⟨cdD, hcD, _⟩ := any_some c.hd
    refine Bool.eq_false_iff.mpr fun q => ?_
    obtain rfl : D = tp := Value.ref.inj (beq_iff_eq.mp q)
    unfold clsIn at hcD
    split at hcD
    · rename_i ho
      cases (X _ _ ho).symm.trans htp
    · cases hcD
  ca := fun X I k => class_read c _ X I k
end
/-- isinstance(e, c), e the error that the suite holds (its class cls, its own dict d) -/
def rIsX (K : PySem.W.Frag) (a : Addr) (cls : Value) (d : Option Addr) : List V → Hp → VK → Prop := fun xs H Q => ∃ (D : Addr) (c : V) (cv : Value) (b : Bool), xs = [.ref a, c] ∧ cls = .ref D ∧ ExcC K D ∧ ClsV c cv ∧ PySem.W.kitOne K (.ref D) cv = some b ∧
  (d = none ∨ ∃ dd fs, d = some dd ∧ H dd = some (.xd fs)) ∧ Q (.bl b) H
theorem call_isX {X : Cx} {a : Addr} {oe : Obj} {cls : Value} {d : Option Addr} {pn : List (Addr × Obj)} (hz : Zc cls d oe) (hf : ∃ vs, oe.data = .fields vs) : CallR (X.suite a ((a, oe) :: pn)) (.builtin "isinstance") (rIsX X.K a cls d) := by
  intro pins s σ H xs us Q I r h
  obtain ⟨D, c, cv, b, rfl, rfl, hC, hc, e, hd, q⟩ := h
  cases r with
  | cons rx rr =>
    cases rr with
    | cons rt rr =>
      cases rr
      cases rx
      have ec := hc.eq rt
      subst ec
      obtain ⟨hget, _⟩ := I.pin (a, oe) (List.mem_append.mpr (.inl List.mem_cons_self))
      obtain ⟨vs, hv⟩ := hf
      have J : ∃ od, PySem.W.InstAt s.heap a oe D od := by
        rcases hd with e0 | ⟨dd, fs, e0, hx⟩
        · refine ⟨none, hget, hz.1, ?_, ?_⟩
          · unfold PySem.W.notCls
            rw [hv] <;> rfl
          · rw [hz.2, e0]
            trivial
        · obtain ⟨mA, hns, _⟩ := (show ObjOk X.prog X.w H s.heap dd (.xd fs) from I.hok dd _ hx)
          obtain ⟨od, ho, _⟩ := lookIn_ns hns
          refine ⟨some od, hget, hz.1, ?_, ?_⟩
          · unfold PySem.W.notCls
            rw [hv] <;> rfl
          · rw [hz.2, e0]
            exact ho
      obtain ⟨od, J⟩ := J
      exact PySem.W.kia_one (kit_err hC) I.kIn J e (fun z => nomatch z) fun tk => ⟨.bl b, H, I.kept (t' := tk) fun _ _ z => z, rfl, q⟩
/-- the slots at a raise are as many as the names -/
theorem takes_len {X : Cx} {W : WX} (t : Takes X W) : Takes X (fun cls d σ H => σ.length = X.N.length → W cls d σ H) := fun u s' ⟨a, B, sI, pins, σ, H, cls, d, e, I, nb, up, sky, na, os, ag, w⟩ =>
  t u s' ⟨a, B, sI, pins, σ, H, cls, d, e, I, nb, up, sky, na, os, ag, w I.len⟩
/-! ### rules whose reading names the written part by a letter of its own (in a suite the context holds more than the reading may) -/
section
variable {X : Cx} {K : PySem.W.Frag}
theorem ix_listK (hK : X.K = K) : IxR X (rIxL K) := by
  subst hK
  exact ix_list
theorem ix_tupK (hK : X.K = K) : IxR X (rIxT K) := by
  subst hK
  exact ix_tup
theorem mt_indexK (hK : X.K = K) : MtR X "list.index" (rIndex K) := by
  subst hK
  exact mt_index
theorem mt_cntK (hK : X.K = K) : MtR X "list.count" (rCntF K) := by
  subst hK
  exact mt_cntF
theorem call_isK {a : Addr} {oe : Obj} {cls : Value} {d : Option Addr} {pn : List (Addr × Obj)} (hK : X.K = K) (hz : Zc cls d oe) (hf : ∃ vs, oe.data = .fields vs) : CallR (X.suite a ((a, oe) :: pn)) (.builtin "isinstance") (rIsX K a cls d) := by
  subst hK
  exact call_isX hz hf
theorem pe_bmK {T : String} {name : Str} {id : String} {r : V → List V → Hp → VK → Prop} {o e : Expr} {es : List Expr} {to : TE} {t : TA} {apos cpos : Pos} (hK : X.K = K) (pa : PlainAttrs T) (slot : Slot T name id) (hty : typeOf (.builtin id) = pure (.type "method_descriptor")) (hm : MtR X id r)
    (ho : PE X o to) (ha : PA X (e :: es) t) (hbase : attributeBase o name X.env (eval o X.env) = eval o X.env := by rfl)
    (hfew : ((backTo cpos (starEach (e :: es) X.env)).all (fun x => !x.1) && (backToKw cpos (keywordEach [] X.env)).all (fun x => x.1.isSome) && decide ((e :: es).length + ([] : List Keyword).length + (if ([] : List Keyword).isEmpty then 0 else 1) < 30)) = true := by rfl)
    (hline : (apos.endLine == cpos.line) = true := by rfl) (hs : starEach (e :: es) X.env = (false, eval e X.env) :: starEach es X.env := by rfl) (hplain : (backTo cpos (starEach es X.env)).any (·.1) = false := by rfl) :
    PE X (.Call (.Attribute o name apos) (e :: es) [] cpos) (tBM K T r to t) := by
  subst hK
  exact pe_bm pa slot hty hm ho ha hbase hfew hline hs hplain
end
/-- an error's class as a teller asks of it: which of four own classes it is -/
structure ErrK (K : PySem.W.Frag) (cW cS cU cN cB D : Addr) (b1 b2 b3 b4 : Bool) : Prop where
  ec : ExcC K D
  k1 : PySem.W.kitOne K (.ref D) (.ref cW) = some b1
  k2 : PySem.W.kitOne K (.ref D) (.ref cS) = some b2
  k3 : PySem.W.kitOne K (.ref D) (.ref cU) = some b3
  k4 : PySem.W.kitOne K (.ref D) (.ref cN) = some b4
  kv : PySem.W.kitOne K (.ref D) (.type "ValueError") = some true
  em : PySem.W.exmOne K (.ref D) (.ref cB) = some true
section
variable {K : PySem.W.Frag} {a D : Addr} {d : Option Addr} {H : Hp} {Q : VK} {cW cS cU cN cB : Addr} {b1 b2 b3 b4 : Bool}
/-- the error's own dict, if it has one, is known -/
def DictOk (d : Option Addr) (H : Hp) : Prop := d = none ∨ ∃ dd fs, d = some dd ∧ H dd = some (.xd fs)
theorem r_isx1 (e : ErrK K cW cS cU cN cB D b1 b2 b3 b4) (h : DictOk d H) (q : Q (.bl b1) H) : rIsX K a (.ref D) d [.ref a, .ref cW] H Q := ⟨D, _, _, _, rfl, rfl, e.ec, .own _, e.k1, h, q⟩
theorem r_isx2 (e : ErrK K cW cS cU cN cB D b1 b2 b3 b4) (h : DictOk d H) (q : Q (.bl b2) H) : rIsX K a (.ref D) d [.ref a, .ref cS] H Q := ⟨D, _, _, _, rfl, rfl, e.ec, .own _, e.k2, h, q⟩
theorem r_isx3 (e : ErrK K cW cS cU cN cB D b1 b2 b3 b4) (h : DictOk d H) (q : Q (.bl b3) H) : rIsX K a (.ref D) d [.ref a, .ref cU] H Q := ⟨D, _, _, _, rfl, rfl, e.ec, .own _, e.k3, h, q⟩
theorem r_isx4 (e : ErrK K cW cS cU cN cB D b1 b2 b3 b4) (h : DictOk d H) (q : Q (.bl b4) H) : rIsX K a (.ref D) d [.ref a, .ref cN] H Q := ⟨D, _, _, _, rfl, rfl, e.ec, .own _, e.k4, h, q⟩
theorem r_isxV (e : ErrK K cW cS cU cN cB D b1 b2 b3 b4) (h : DictOk d H) (q : Q (.bl true) H) : rIsX K a (.ref D) d [.ref a, .ty "ValueError"] H Q := ⟨D, _, _, _, rfl, rfl, e.ec, .ty _, e.kv, h, q⟩
theorem r_cnt {p : Addr} {ys : List V} {y : V} (h : H p = some (.lst ys)) (f1 : flatV y = true) (f2 : ys.all flatV = true) (q : Q (.int ((ys.countP fun z => eqV z y : Nat) : Int)) H) : rCntF K (.ref p) [y] H Q := ⟨p, ys, y, rfl, rfl, SqL.of h, f1, f2, q⟩
theorem r_bm {T : String} {r : V → List V → Hp → VK → Prop} {to : TE} {t : TA} {σ : L2.St} (q : to σ H fun x H1 => tyV K T x H1 ∧ t σ H1 fun xs H2 => r x xs H2 Q) : tBM K T r to t σ H Q := q
theorem r_tyL {p : Addr} {ys : List V} {R : Prop} (h : H p = some (.lst ys)) (q : R) : tyV K "list" (.ref p) H ∧ R := ⟨.inl ⟨rfl, ys, SqL.of h⟩, q⟩
theorem r_app {p : Addr} {ys : List V} {y : V} (h : H p = some (.lst ys)) (hz : ys.length < sizeLine) (q : Q .non (upd H p (.lst (ys ++ [y])))) : rAppend (.ref p) [y] H Q := ⟨p, ys, y, rfl, rfl, h, hz, q⟩
theorem r_idx {p : Addr} {ys : List V} {y z : V} {j : Nat} (h : H p = some (.lst ys)) (f1 : flatV y = true) (f2 : ys.all flatV = true) (e : ys[j]? = some z) (e2 : eqV z y = true) (e3 : ∀ (m : Nat) (z' : V), m < j → ys[m]? = some z' → eqV z' y = false) (q : Q (.int (j : Nat)) H) :
    rIndex K (.ref p) [y] H Q := ⟨p, ys, y, j, z, rfl, rfl, SqL.of h, f1, f2, e, e2, e3, q⟩
end
end Oil
/-! A law that hands lambdas to its teller: its code object known, its tables kept along the draws. -/
namespace Oil
open PySem PySem.Spec PyProof.Rows L2
/-- a def of the module whose code object is at c -/
structure FunC (K : PySem.W.Frag) (x qual : Str) (st : Stmt) (f : Addr) (fd : FuncData) (c : Addr) : Prop where
  ex : ∃ (oc : Value) (od : Option Addr) (kV doc pm : Value) (an : Option Addr) (ct : Value) (osl : Array (Option Value)),
    fd = PySem.W.fnOf x qual (defArgs st) (defBody st) (defScope st) .none kV doc pm an (.ref c) ct ∧ K.lookup f = some ⟨oc, od, .func fd, osl⟩ ∧ PySem.W.codeIn K (.ref c) qual = true
section
variable {P : Program} {w : World} {K : PySem.W.Frag} {mg : Str → Option Value} {base : Heap}
theorem FunC.okX {x qual : Str} {st : Stmt} {f c : Addr} {fd : FuncData} {N ps : List Str} {k : Nat} {sp : Sp} (F : FunC K x qual st f fd c) (S : FnScope N ps (defScope st)) (len : ∀ vs H Q E, sp vs H Q E → vs.length = ps.length)
    (hbody : ∀ (A : Around) (outer : List Env) (s : Shared) (H : Hp) (vs : List V) (Q : VK) (E : XK), Room k (A.deeper (envOfC qual (defScope st) s.heap.objs.size f (.ref c))) → sp vs H Q E →
      ∃ t, PSs (cxOf (L2.CX P w) P w K mg base N qual (defScope st) f (.ref c) A outer s H E) (defBody st) t ∧ t { nx := fun _ H' => Q .non H', rt := Q } (start N vs) H) : FnOk P w K mg base (L2.CX P w) (k + 1) f fd ps sp := by
  obtain ⟨oc, od, kV, doc, pm, an, ct, osl, rfl, lk, hcd⟩ := F.ex
  exact fn_of lk hcd S len fun A outer s H vs Q E hr hsp => hbody A outer s H vs Q E hr hsp
theorem FunC.bindsTo {x qual : Str} {st : Stmt} {f c : Addr} {fd : FuncData} {y : Str} (F : FunC K x qual st f fd c)
    (h : ∀ (kV doc pm : Value) (an : Option Addr) (cdv ct : Value) (us : List Value), us.length = [y].length → bindArgs (PySem.W.fnOf x qual (defArgs st) (defBody st) (defScope st) .none kV doc pm an cdv ct) ⟨us, []⟩ = pure ([y].zip us)) :
    L2.Binds K fd [y] [] := by
  obtain ⟨oc, od, kV, doc, pm, an, ct, osl, rfl, lk, hcd⟩ := F.ex
  exact .all (h kV doc pm an (.ref c) ct)
end
section
variable {K : PySem.W.Frag} {H H' : Hp} {d : Addr} {T : List (Addr × Str)}
theorem Dice.lst_ne {ps : Array Value} {P : Addr} (h : Dice K H d) (e : H P = some (.tbl ps)) : P ≠ d := h.ne e fun xs z => by cases z
theorem tabs_nx (t : LamX.Tabs T H) (h : Dice K H d) (x : Nx K d H H') : LamX.Tabs T H' := fun p hp => by
  obtain ⟨ps, h1, h2, h3⟩ := t p hp
  refine ⟨ps, x.at h h1 (fun xs z => by cases z), h2, fun pos cv hc => ?_⟩
  obtain ⟨c, e1, e2⟩ := h3 pos cv hc
  exact ⟨c, e1, x.at h e2 (fun xs z => by unfold LamX.CodeO at z; cases z)⟩
theorem ext_of {x o : HO} {a : Addr} (e : LamX.ExtN H H') (h : H a = some o) (n : ∀ ps, o ≠ .tbl ps) : H' a = some o := e a o h n
theorem Dice.ext (h : Dice K H d) (e : LamX.ExtN H H') : Dice K H' d := by
  obtain ⟨sa, ns, p, m, c, h1, h2, h3, h4, h5, h6⟩ := h.ex
  refine ⟨sa, ns, p, m, c, e _ _ h1 (fun _ z => by cases z), h2, h3, h4, h5, fun o => ?_⟩
  have key : ∀ (b : Addr) (u : HO), (∀ ps, u ≠ .tbl ps) → upd H d o b = some u → upd H' d o b = some u := fun b u n q => by
    by_cases hb : b = d
    · rw [hb, upd_same] at q ⊢
      exact q
    · rw [upd_ne hb] at q ⊢
      exact e _ _ q n
  rcases h6 o with (z | ⟨y, z⟩) | z
  · exact .inl (.inl (key _ _ (fun _ z => by cases z) z))
  · exact .inl (.inr ⟨y, key _ _ (fun _ z => by cases z) z⟩)
  · exact .inr z
theorem r_lam {TT : (XK → Hp → VK → Prop) → Hp → VK → Prop} {t : XK → TE} {σ : L2.St} {Q : VK} (h : LamX.Tabs T H) (q : ∀ H1, LamX.ExtN H H1 → LamX.Tabs T H1 → TT (fun E H' Q' => t E σ H' Q') H1 Q) : LamX.tLam T TT t σ H Q := ⟨h, q⟩
end
/-! ### readings with the ends laid flat -/
section
variable {σ : L2.St} {H : Hp} {p : L2.St → Hp → Prop} {q1 : VK} {r s : L2.St → Hp → Prop} {tx ty : TS} {te : TE} {tl : TA} {g : TG} {tb : TS} {K : PySem.W.Frag} {a : Addr} {xs : List V} {i j : Nat} {wi : TI} {n lo : Int} {t : TT}
theorem f_seq (q : tx ⟨ty ⟨p, q1, r, s⟩, q1, r, s⟩ σ H) : tSeq tx ty ⟨p, q1, r, s⟩ σ H := q
theorem f_next (q : p σ H) : tNext ⟨p, q1, r, s⟩ σ H := q
theorem f_drop (q : te σ H fun _ H1 => p σ H1) : tDrop te ⟨p, q1, r, s⟩ σ H := q
theorem f_ret (q : te σ H q1) : tRet te ⟨p, q1, r, s⟩ σ H := q
theorem f_retN (q : q1 .non H) : tRetN ⟨p, q1, r, s⟩ σ H := q
theorem f_asg (q : te σ H fun x H1 => g x σ H1 p) : tAsg te g ⟨p, q1, r, s⟩ σ H := q
theorem f_par (q : tl σ H fun vs H1 => ∃ v w, vs = [v, w] ∧ p ((σ.set i (some v)).set j (some w)) H1) : tPar i j tl ⟨p, q1, r, s⟩ σ H := q
theorem f_list (Pv : Nat → L2.St → Hp → Prop) (h0 : Pv 0 σ H) (hl : ∀ i σ H, i ≤ xs.length → Pv i σ H → SqL K H a xs)
    (hs : ∀ i x σ H, xs[i]? = some x → Pv i σ H → g x σ H fun σ2 H2 => tb ⟨Pv (i + 1), q1, p, Pv (i + 1)⟩ σ2 H2) (hd : ∀ σ H, Pv xs.length σ H → p σ H) : ForW (Itl K a) g tb ⟨p, q1, r, s⟩ σ H := w_list Pv h0 hl hs hd
theorem f_tup (Pv : Nat → L2.St → Hp → Prop) (h0 : Pv 0 σ H) (hl : ∀ i σ H, i ≤ xs.length → Pv i σ H → SqT K H a xs)
    (hs : ∀ i x σ H, xs[i]? = some x → Pv i σ H → g x σ H fun σ2 H2 => tb ⟨Pv (i + 1), q1, p, Pv (i + 1)⟩ σ2 H2) (hd : ∀ σ H, Pv xs.length σ H → p σ H) : ForW (Itt K a) g tb ⟨p, q1, r, s⟩ σ H := w_tup Pv h0 hl hs hd
theorem f_rng {m : Nat} (Pv : Nat → L2.St → Hp → Prop) (h0 : Pv 0 σ H)
    (hs : ∀ i σ H, i < m → Pv i σ H → g (.int (lo + i)) σ H fun σ2 H2 => tb ⟨Pv (i + 1), q1, p, Pv (i + 1)⟩ σ2 H2) (hd : ∀ σ H, Pv m σ H → p σ H) : ForW (Itr lo m) g tb ⟨p, q1, r, s⟩ σ H := w_rng Pv h0 hs hd
/-- the rest behind a statement, unseen -/
theorem f_cut (N : L2.St → Hp → Prop) (h : ∀ M : L2.St → Hp → Prop, (∀ σ2 H2, N σ2 H2 → M σ2 H2) → tx ⟨M, q1, r, s⟩ σ H) (k : ∀ σ2 H2, N σ2 H2 → p σ2 H2) : tx ⟨p, q1, r, s⟩ σ H := h p k
/-- a test known to fail: its way alone -/
theorem f_off (h : ∀ R : Bool → Hp → Prop, R false H → t σ H R) (q : ty ⟨p, q1, r, s⟩ σ H) : tIfS t tx ty ⟨p, q1, r, s⟩ σ H := h (fun b H1 => if b = true then tx ⟨p, q1, r, s⟩ σ H1 else ty ⟨p, q1, r, s⟩ σ H1) q
end
end Oil
/-! Stretches: three numbers, put together and repeated. Plain Lean. -/
namespace Oil
structure Str3 where
  need : Option Int
  gain : Int
  top : Int
  deriving DecidableEq
namespace Str3
def barred : Str3 := ⟨none, 0, 0⟩
/-- what every stretch of the program keeps -/
def Ok (s : Str3) : Prop := match s.need with
  | none => s.gain = 0 ∧ s.top = 0
  | some n => 0 ≤ n ∧ 0 ≤ n + s.gain ∧ 0 ≤ s.top
theorem ok_barred : barred.Ok := ⟨rfl, rfl⟩
/-- one after the other -/
def add (a b : Str3) : Str3 := match a.need, b.need with
  | some n, some m => if a.top < m then barred else ⟨some (max n (m - a.gain)), a.gain + b.gain, min (a.top + b.gain) b.top⟩
  | _, _ => barred
theorem add_none {a b : Str3} (h : a.need = none ∨ b.need = none) : a.add b = barred := by
  unfold add
  rcases h with h | h
  · rw [h]
  · rw [h]
    cases a.need <;> rfl
theorem add_some {n g t m g' t' : Int} : (Str3.mk (some n) g t).add ⟨some m, g', t'⟩ = if t < m then barred else ⟨some (max n (m - g)), g + g', min (t + g') t'⟩ := rfl
theorem ok_add {a b : Str3} (ha : a.Ok) (hb : b.Ok) : (a.add b).Ok := by
  obtain ⟨na, ga, ta⟩ := a
  obtain ⟨nb, gb, tb⟩ := b
  cases na with
  | none => rw [add_none (.inl rfl)]; exact ok_barred
  | some n =>
    cases nb with
    | none => rw [add_none (.inr rfl)]; exact ok_barred
    | some m =>
      rw [add_some]
      obtain ⟨h1, h2, h3⟩ := (show 0 ≤ n ∧ 0 ≤ n + ga ∧ 0 ≤ ta from ha)
      obtain ⟨k1, k2, k3⟩ := (show 0 ≤ m ∧ 0 ≤ m + gb ∧ 0 ≤ tb from hb)
      split
      · exact ok_barred
      · show 0 ≤ max n (m - ga) ∧ 0 ≤ max n (m - ga) + (ga + gb) ∧ 0 ≤ min (ta + gb) tb
        omega
theorem barred_add (a : Str3) : barred.add a = barred := add_none (.inl rfl)
theorem add_barred (a : Str3) : a.add barred = barred := add_none (.inr rfl)
theorem add_assoc (a b c : Str3) : (a.add b).add c = a.add (b.add c) := by
  obtain ⟨na, ga, ta⟩ := a
  obtain ⟨nb, gb, tb⟩ := b
  obtain ⟨nc, gc, tc⟩ := c
  cases na with
  | none => rw [add_none (a := ⟨none, ga, ta⟩) (.inl rfl), barred_add, add_none (.inl rfl)]
  | some n =>
    cases nb with
    | none => rw [add_none (b := ⟨none, gb, tb⟩) (.inr rfl), barred_add, add_none (a := ⟨none, gb, tb⟩) (.inl rfl), add_barred]
    | some m =>
      cases nc with
      | none => rw [add_none (b := ⟨none, gc, tc⟩) (.inr rfl), add_none (b := ⟨none, gc, tc⟩) (.inr rfl), add_barred]
      | some k =>
        rw [add_some, add_some]
        by_cases h1 : ta < m
        · rw [if_pos h1, barred_add]
          by_cases h2 : tb < k
          · rw [if_pos h2, add_barred]
          · rw [if_neg h2, add_some, if_pos (by omega)]
        · rw [if_neg h1, add_some]
          by_cases h2 : tb < k
          · rw [if_pos h2, add_barred, if_pos (by omega)]
          · rw [if_neg h2, add_some]
            by_cases h3 : ta + gb < k
            · rw [if_pos (by omega), if_pos (by omega)]
            · rw [if_neg (by omega), if_neg (by omega)]
              have e1 : max (max n (m - ga)) (k - (ga + gb)) = max n (max m (k - gb) - ga) := by omega
              have e2 : min (min (ta + gb) tb + gc) tc = min (ta + (gb + gc)) (min (tb + gc) tc) := by omega
              rw [e1, e2, Int.add_assoc]
/-- n + 1 times -/
def rep (s : Str3) : Nat → Str3
  | 0 => s
  | n + 1 => (rep s n).add s
/-- so many times, from 1 on -/
def mul (s : Str3) (n : Int) : Str3 := rep s (n.toNat - 1)
theorem mul_one (s : Str3) : s.mul 1 = s := rfl
theorem rep_add (s : Str3) (m : Nat) : ∀ n : Nat, (rep s m).add (rep s n) = rep s (m + n + 1)
  | 0 => rfl
  | n + 1 => by
    show (rep s m).add ((rep s n).add s) = (rep s (m + n + 1)).add s
    rw [← add_assoc, rep_add s m n]
theorem mul_add {s : Str3} {m n : Int} (hm : 1 ≤ m) (hn : 1 ≤ n) : (s.mul m).add (s.mul n) = s.mul (m + n) := by
  unfold mul
  rw [rep_add]
  congr 1
  omega
theorem mul_succ {s : Str3} {n : Int} (hn : 1 ≤ n) : s.mul (n + 1) = (s.mul n).add s := by rw [← mul_add hn (by omega), mul_one]
theorem rep_rep (s : Str3) (m : Nat) : ∀ n : Nat, rep (rep s m) n = rep s ((m + 1) * (n + 1) - 1)
  | 0 => by
    show rep s m = _
    congr 1
    omega
  | n + 1 => by
    show (rep (rep s m) n).add (rep s m) = _
    rw [rep_rep s m n, rep_add]
    congr 1
    have h : (m + 1) * (n + 1 + 1) = (m + 1) * (n + 1) + (m + 1) := by rw [Nat.mul_succ]
    have h2 : 1 ≤ (m + 1) * (n + 1) := Nat.mul_pos (by omega) (by omega)
    omega
theorem mul_mul {s : Str3} {m n : Int} (hm : 1 ≤ m) (hn : 1 ≤ n) : (s.mul m).mul n = s.mul (m * n) := by
  unfold mul
  rw [rep_rep]
  congr 1
  obtain ⟨a, rfl⟩ := Int.eq_ofNat_of_zero_le (show 0 ≤ m by omega)
  obtain ⟨b, rfl⟩ := Int.eq_ofNat_of_zero_le (show 0 ≤ n by omega)
  have e : ((a : Int) * (b : Int)).toNat = a * b := by rw [← Int.natCast_mul]; rfl
  rw [e]
  show (a - 1 + 1) * (b - 1 + 1) - 1 = a * b - 1
  rw [Nat.sub_add_cancel (by omega), Nat.sub_add_cancel (by omega)]
theorem ok_rep {s : Str3} (h : s.Ok) : ∀ n, (rep s n).Ok
  | 0 => h
  | n + 1 => ok_add (ok_rep h n) h
theorem ok_mul {s : Str3} (h : s.Ok) (n : Int) : (s.mul n).Ok := ok_rep h _
/-- half, twice, and one more if odd -/
theorem mul_half {s : Str3} {n : Int} (h : 2 ≤ n) : s.mul n = if n % 2 = 1 then ((s.mul (n / 2)).add (s.mul (n / 2))).add s else (s.mul (n / 2)).add (s.mul (n / 2)) := by
  split
  · rw [mul_add (by omega) (by omega), ← mul_succ (by omega)]
    congr 1
    omega
  · rw [mul_add (by omega) (by omega)]
    congr 1
    omega
/-- a barred one stays so -/
theorem rep_barred : ∀ n, rep barred n = barred
  | 0 => rfl
  | n + 1 => by
    show (rep barred n).add barred = barred
    rw [rep_barred n, barred_add]
theorem mul_barred (n : Int) : barred.mul n = barred := rep_barred _
/-- what is left of the numbers -/
theorem rep_shape {n g t : Int} : ∀ k : Nat, rep ⟨some n, g, t⟩ k = barred ∨ ∃ n' t', rep ⟨some n, g, t⟩ k = ⟨some n', g * (k + 1), t'⟩
  | 0 => .inr ⟨n, t, by show (⟨some n, g, t⟩ : Str3) = _; congr 1; omega⟩
  | k + 1 => by
    rcases rep_shape (n := n) (g := g) (t := t) k with e | ⟨n', t', e⟩
    · refine .inl ?_
      show (rep _ k).add _ = _
      rw [e, barred_add]
    · show (rep _ k).add _ = _ ∨ ∃ n'' t'', (rep _ k).add _ = _
      rw [e, add_some]
      by_cases h : t' < n
      · rw [if_pos h]
        exact .inl rfl
      · rw [if_neg h]
        refine .inr ⟨max n' (n - g * (↑k + 1)), min (t' + g) t, ?_⟩
        have q : ((k + 1 : Nat) : Int) + 1 = (k : Int) + 1 + 1 := by omega
        rw [q, Int.mul_add g ((k : Int) + 1) 1, Int.mul_one]
/-- with a gain from 0 on and a top from the need on it never becomes barred -/
theorem rep_free {n g t : Int} (hg : 0 ≤ g) (ht : n ≤ t) : ∀ k : Nat, ∃ g', 0 ≤ g' ∧ rep ⟨some n, g, t⟩ k = ⟨some n, g', t⟩
  | 0 => ⟨g, hg, rfl⟩
  | k + 1 => by
    obtain ⟨g', h', e⟩ := rep_free hg ht k
    refine ⟨g' + g, by omega, ?_⟩
    show (rep _ k).add _ = _
    rw [e, add_some, if_neg (by omega)]
    have e1 : max n (n - g') = n := by omega
    have e2 : min (t + g) t = t := by omega
    rw [e1, e2]
end Str3
end Oil
/-! K02: the text by places, its scopes; what the top has written; what each def promises. -/
namespace K02
open PySem PySem.Spec PyProof.Rows L2 Oil
def top (i : Nat) : Stmt := PySem.Challenge.pw_oilwalk_k02_stretches_repeated.main.body.getD i (.Pass ⟨0, 0, 0, 0⟩)
abbrev s_is_number : Stmt := (top 8)
def n_is_number : List Str := ["value"]
theorem sc_is_number : FnScope n_is_number ["value"] (defScope s_is_number) := ⟨rfl, rfl, rfl, by decide +kernel, rfl, by decide +kernel, by decide +kernel⟩
abbrev s_is_number_from : Stmt := (top 9)
def n_is_number_from : List Str := ["value", "least"]
theorem sc_is_number_from : FnScope n_is_number_from ["value", "least"] (defScope s_is_number_from) := ⟨rfl, rfl, rfl, by decide +kernel, rfl, by decide +kernel, by decide +kernel⟩
abbrev s_is_number_within : Stmt := (top 10)
def n_is_number_within : List Str := ["value", "least", "most"]
theorem sc_is_number_within : FnScope n_is_number_within ["value", "least", "most"] (defScope s_is_number_within) := ⟨rfl, rfl, rfl, by decide +kernel, rfl, by decide +kernel, by decide +kernel⟩
abbrev s_check_number_from : Stmt := (top 11)
def n_check_number_from : List Str := ["value", "least"]
theorem sc_check_number_from : FnScope n_check_number_from ["value", "least"] (defScope s_check_number_from) := ⟨rfl, rfl, rfl, by decide +kernel, rfl, by decide +kernel, by decide +kernel⟩
abbrev s_check_number_within : Stmt := (top 12)
def n_check_number_within : List Str := ["value", "least", "most"]
theorem sc_check_number_within : FnScope n_check_number_within ["value", "least", "most"] (defScope s_check_number_within) := ⟨rfl, rfl, rfl, by decide +kernel, rfl, by decide +kernel, by decide +kernel⟩
abbrev s_Stretch_init : Stmt := (inClass (top 14) 0)
def n_Stretch_init : List Str := ["self", "need", "gain", "top"]
theorem sc_Stretch_init : FnScope n_Stretch_init ["self", "need", "gain", "top"] (defScope s_Stretch_init) := ⟨rfl, rfl, rfl, by decide +kernel, rfl, by decide +kernel, by decide +kernel⟩
abbrev s_Stretch_barred : Stmt := (inClass (top 14) 1)
def n_Stretch_barred : List Str := ["cls"]
theorem sc_Stretch_barred : FnScope n_Stretch_barred ["cls"] (defScope s_Stretch_barred) := ⟨rfl, rfl, rfl, by decide +kernel, rfl, by decide +kernel, by decide +kernel⟩
abbrev s_Stretch_need : Stmt := (inClass (top 14) 2)
def n_Stretch_need : List Str := ["self"]
theorem sc_Stretch_need : FnScope n_Stretch_need ["self"] (defScope s_Stretch_need) := ⟨rfl, rfl, rfl, by decide +kernel, rfl, by decide +kernel, by decide +kernel⟩
abbrev s_Stretch_gain : Stmt := (inClass (top 14) 3)
def n_Stretch_gain : List Str := ["self"]
theorem sc_Stretch_gain : FnScope n_Stretch_gain ["self"] (defScope s_Stretch_gain) := ⟨rfl, rfl, rfl, by decide +kernel, rfl, by decide +kernel, by decide +kernel⟩
abbrev s_Stretch_add : Stmt := (inClass (top 14) 7)
def n_Stretch_add : List Str := ["self", "other", "need", "top"]
theorem sc_Stretch_add : FnScope n_Stretch_add ["self", "other"] (defScope s_Stretch_add) := ⟨rfl, rfl, rfl, by decide +kernel, rfl, by decide +kernel, by decide +kernel⟩
abbrev s_repeated : Stmt := (top 15)
def n_repeated : List Str := ["part", "times", "half", "twice"]
theorem sc_repeated : FnScope n_repeated ["part", "times"] (defScope s_repeated) := ⟨rfl, rfl, rfl, by decide +kernel, rfl, by decide +kernel, by decide +kernel⟩
abbrev s_Stretch_mul : Stmt := (inClass (top 14) 8)
def n_Stretch_mul : List Str := ["self", "other"]
theorem sc_Stretch_mul : FnScope n_Stretch_mul ["self", "other"] (defScope s_Stretch_mul) := ⟨rfl, rfl, rfl, by decide +kernel, rfl, by decide +kernel, by decide +kernel⟩
abbrev s_Stretch_eq : Stmt := (inClass (top 14) 9)
def n_Stretch_eq : List Str := ["self", "other"]
theorem sc_Stretch_eq : FnScope n_Stretch_eq ["self", "other"] (defScope s_Stretch_eq) := ⟨rfl, rfl, rfl, by decide +kernel, rfl, by decide +kernel, by decide +kernel⟩
abbrev s_law_dice : Stmt := (top 17)
def n_law_dice : List Str := ["_law_script", "_law_mixed", "_law_cell"]
theorem sc_law_dice : FnScope n_law_dice ["_law_script"] (defScope s_law_dice) := ⟨rfl, rfl, rfl, by decide +kernel, rfl, by decide +kernel, by decide +kernel⟩
abbrev s_law_next : Stmt := (top 18)
def n_law_next : List Str := ["_law_dice_here", "_law_many", "_law_found", "_law_cell"]
theorem sc_law_next : FnScope n_law_next ["_law_dice_here", "_law_many"] (defScope s_law_next) := ⟨rfl, rfl, rfl, by decide +kernel, rfl, by decide +kernel, by decide +kernel⟩
abbrev s_law_pick : Stmt := (top 19)
def n_law_pick : List Str := ["_law_d", "_law_some"]
theorem sc_law_pick : FnScope n_law_pick ["_law_d", "_law_some"] (defScope s_law_pick) := ⟨rfl, rfl, rfl, by decide +kernel, rfl, by decide +kernel, by decide +kernel⟩
abbrev s_law_told : Stmt := (top 20)
def n_law_told : List Str := ["_law_work", "e", "_law_some", "_law_k"]
theorem sc_law_told : FnScope n_law_told ["_law_work"] (defScope s_law_told) := ⟨rfl, rfl, rfl, by decide +kernel, rfl, by decide +kernel, by decide +kernel⟩
abbrev s_law : Stmt := (top 21)
def n_law : List Str := ["_law_script", "_law_d", "_law_turn", "_law_need", "_law_gain", "_law_top", "_law_small", "_law_whole", "_law_k", "_law_one", "_law_two", "_law_far", "_law_bad", "_law_stretch"]
theorem sc_law : FnScope n_law ["_law_script"] (defScope s_law) := ⟨rfl, rfl, rfl, by decide +kernel, rfl, by decide +kernel, by decide +kernel⟩
/-- where the classes stand -/
structure Ad where
  WalkError : Addr
  InvalidWay : Addr
  UnknownPost : Addr
  InvalidNumber : Addr
  InvalidStretch : Addr
  Stretch : Addr

/-- what an instance of Stretch holds -/
abbrev nv : Option Int → V
  | none => .non
  | some n => .int n
def sfl (n : V) (g t : Int) : List (Str × V) := [("_need", n), ("_gain", .int g), ("_top", .int t)]
abbrev sf (s : Str3) : List (Str × V) := sfl (nv s.need) s.gain s.top
theorem sf_need (n : V) (g t : Int) : (sfl n g t).lookup ("_need" : Str) = some n := look_self
theorem sf_gain (n : V) (g t : Int) : (sfl n g t).lookup ("_gain" : Str) = some (.int g) := by
  unfold sfl
  rw [look_ne (by decide +kernel), look_self]
theorem sf_top (n : V) (g t : Int) : (sfl n g t).lookup ("_top" : Str) = some (.int t) := by
  unfold sfl
  rw [look_ne (by decide +kernel), look_ne (by decide +kernel), look_self]
theorem sf_put (v g t : V) : putF "_top" t (putF "_gain" g (putF "_need" v [])) = [(("_need" : Str), v), ("_gain", g), ("_top", t)] := by
  show putF "_top" t (putF "_gain" g [(("_need" : Str), v)]) = _
  rw [putF_ne (by decide +kernel)]
  show putF "_top" t [(("_need" : Str), v), ("_gain", g)] = _
  rw [putF_ne (by decide +kernel), putF_ne (by decide +kernel)]
  rfl
theorem sf_len1 (v : V) : (putF "_need" v []).length < 1000 := by show 1 < 1000; decide
theorem sf_len2 (v g : V) : (putF "_gain" g (putF "_need" v [])).length < 1000 := by
  show (putF "_gain" g [(("_need" : Str), v)]).length < 1000
  rw [putF_ne (by decide +kernel)]
  show 2 < 1000
  decide
/-- a stretch s stands behind v -/
def StAt (C : Addr) (H : Hp) (v : V) (s : Str3) : Prop := ∃ a dx, v = .ref a ∧ H a = some (.ins C dx (sf s))
theorem StAt.mono {C : Addr} {H H' : Hp} {v : V} {s : Str3} (e : Same H H') (h : StAt C H v s) : StAt C H' v s := by
  obtain ⟨a, dx, e1, e2⟩ := h
  exact ⟨a, dx, e1, e _ _ e2⟩

structure Txt (K : PySem.W.Frag) (mg : Str → Option Value) (Z : Ad) : Prop where
  g_WalkError : mg "WalkError" = some (.ref Z.WalkError)
  g_InvalidWay : mg "InvalidWay" = some (.ref Z.InvalidWay)
  g_UnknownPost : mg "UnknownPost" = some (.ref Z.UnknownPost)
  g_InvalidNumber : mg "InvalidNumber" = some (.ref Z.InvalidNumber)
  g_InvalidStretch : mg "InvalidStretch" = some (.ref Z.InvalidStretch)
  g_Stretch : mg "Stretch" = some (.ref Z.Stretch)
  g_MOST_TIMES : ∃ t, mg "MOST_TIMES" = some (.int 1000000000000000000 t)
  n_ValueError : mg "ValueError" = none
  n_bool : mg "bool" = none
  n_int : mg "int" = none
  n_isinstance : mg "isinstance" = none
  n_len : mg "len" = none
  n_max : mg "max" = none
  n_min : mg "min" = none
  n_range : mg "range" = none
  e_InvalidNumber : ErrK K Z.InvalidWay Z.InvalidStretch Z.UnknownPost Z.InvalidNumber Z.WalkError Z.InvalidNumber false false false true
  o_Stretch : Oc K Z.Stretch
  c_Stretch : NotC K Z.Stretch
  a_need : NoAttr K Z.Stretch "_need"
  a_gain : NoAttr K Z.Stretch "_gain"
  a_top : NoAttr K Z.Stretch "_top"
  x_InvalidNumber : PySem.W.excIn K Z.InvalidNumber [.type "ValueError", .type "Exception", .type "BaseException", .type "object"] "ValueError.__new__" = true
  k_InvalidNumber : PySem.W.keepIn K (.ref Z.InvalidNumber) = true
  b_InvalidNumber : PySem.W.subIn K (.ref Z.InvalidNumber) (.type "BaseException") = some true
  t_InvalidNumber : PySem.W.typeIn K (.ref Z.InvalidNumber) = some (.type "type")

/-! ### the promises -/
/-- what the teller makes of an error -/
def ToldE (_ : PySem.W.Frag) (Z : Ad) (cls : Value) (d : Option Addr) (H : Hp) (Q : VK) : Prop := cls = .ref Z.InvalidNumber ∧ d = none ∧ ∀ p H', Same H H' → H' p = some (.tup [.str "error", .str "InvalidNumber"]) → Q (.ref p) H'
def TTold (K : PySem.W.Frag) (Z : Ad) : (XK → Hp → VK → Prop) → Hp → VK → Prop := fun tl H Q => tl (fun cls d H' => ToldE K Z cls d H' Q) H Q
def p_is_number (K : PySem.W.Frag) (_ : Ad) : F1 := fun v H Q _ => (∃ T, Kn K H v T) ∧ Q (.bl (numV v)) H
def p_is_number_from (K : PySem.W.Frag) (_ : Ad) : F2 := fun v l H Q _ => ∃ n, l = .int n ∧ (∃ T, Kn K H v T) ∧ Q (.bl (numFrom n v)) H
def p_is_number_within (K : PySem.W.Frag) (_ : Ad) : F3 := fun v l m H Q _ => ∃ lo hi, l = .int lo ∧ m = .int hi ∧ (∃ T, Kn K H v T) ∧ Q (.bl (numIn lo hi v)) H
def p_check_number_from (K : PySem.W.Frag) (Z : Ad) : F2 := fun v l H Q E => ∃ n, l = .int n ∧ (∃ T, Kn K H v T) ∧ (numFrom n v = true → Q .non H) ∧ (numFrom n v = false → E (.ref Z.InvalidNumber) none H)
def p_check_number_within (K : PySem.W.Frag) (Z : Ad) : F3 := fun v l m H Q E => ∃ lo hi, l = .int lo ∧ m = .int hi ∧ (∃ T, Kn K H v T) ∧ (numIn lo hi v = true → Q .non H) ∧ (numIn lo hi v = false → E (.ref Z.InvalidNumber) none H)
/-- a stretch made by its three numbers -/
def p_Stretch_init (_ : PySem.W.Frag) (Z : Ad) : F4 := fun me a b c H Q _ => ∃ (x dx : Addr) (s : Str3), me = V.ref x ∧ H x = some (.ins Z.Stretch dx []) ∧ a = nv s.need ∧ b = .int s.gain ∧ c = .int s.top ∧ s.Ok ∧ Q .non (upd H x (.ins Z.Stretch dx (sf s)))
def p_Stretch_barred (_ : PySem.W.Frag) (Z : Ad) : F1 := fun c H Q _ => c = .ref Z.Stretch ∧ ∀ v H', Same H H' → StAt Z.Stretch H' v .barred → Q v H'
def p_Stretch_need (_ : PySem.W.Frag) (Z : Ad) : F1 := fun v H Q _ => ∃ s, StAt Z.Stretch H v s ∧ Q (nv s.need) H
def p_Stretch_gain (_ : PySem.W.Frag) (Z : Ad) : F1 := fun v H Q _ => ∃ s, StAt Z.Stretch H v s ∧ Q (.int s.gain) H
def p_Stretch_add (_ : PySem.W.Frag) (Z : Ad) : F2 := fun v u H Q _ => ∃ s t, StAt Z.Stretch H v s ∧ StAt Z.Stretch H u t ∧ s.Ok ∧ t.Ok ∧ ∀ z H', Same H H' → StAt Z.Stretch H' z (s.add t) → Q z H'
def p_Stretch_mul (K : PySem.W.Frag) (Z : Ad) : F2 := fun v u H Q E => ∃ s, StAt Z.Stretch H v s ∧ s.Ok ∧ (∃ T, Kn K H u T) ∧ (∀ n, u = .int n → 1 ≤ n → n ≤ 1000000000000000000 → ∀ z H', Same H H' → StAt Z.Stretch H' z (s.mul n) → Q z H') ∧ (numIn 1 1000000000000000000 u = false → E (.ref Z.InvalidNumber) none H)
def p_Stretch_eq (K : PySem.W.Frag) (Z : Ad) : F2 := fun v u H Q _ => ∃ s, StAt Z.Stretch H v s ∧ ((∃ t, StAt Z.Stretch H u t ∧ Q (.bl (decide (s = t))) H) ∨ (∃ T, Kn K H u T ∧ Q (.bl false) H))
def p_repeated (_ : PySem.W.Frag) (Z : Ad) (k : Nat) : F2 := fun v u H Q _ => ∃ s n, StAt Z.Stretch H v s ∧ s.Ok ∧ u = .int n ∧ 1 ≤ n ∧ n < 2 ^ k ∧ ∀ z H', Same H H' → StAt Z.Stretch H' z (s.mul n) → Q z H'
theorem mk_st {K : PySem.W.Frag} {Z : Ad} {H : Hp} {Q : VK} {E : XK} (s : Str3) (ok : s.Ok) (q : ∀ v H', Same H H' → StAt Z.Stretch H' v s → Q v H') :
    ∀ x dx, H x = none → H dx = none → dx ≠ x → Sp4 (p_Stretch_init K Z) (.ref x :: [nv s.need, .int s.gain, .int s.top]) (upd (upd H dx (.own x)) x (.ins Z.Stretch dx [])) (fun v H2 => v = .non ∧ Q (.ref x) H2) E :=
  fun x dx hx hdx hne => r_sp4 ⟨x, dx, s, rfl, upd_same, rfl, rfl, rfl, ok, rfl, q _ _ (fun b o e => by
    rw [upd_ne (ne_of_none e hx), upd_ne (ne_of_none e hx), upd_ne (ne_of_none e hdx)]
    exact e) ⟨x, dx, rfl, upd_same⟩⟩
section
variable {K : PySem.W.Frag} {mg : Str → Option Value} {Z : Ad} {H : Hp} {x dx : Addr} {nd : V} {g t : Int} {R : V → Prop}
theorem r_fneed (T : Txt K mg Z) (hx : H x = some (.ins Z.Stretch dx (sfl nd g t))) (q : R (nd)) : ∃ a C dx fs v, V.ref x = .ref a ∧ H a = some (.ins C dx fs) ∧ Cls K C ∧ NoAttr K C "_need" ∧ fs.lookup ("_need" : Str) = some v ∧ R v :=
  ⟨x, _, _, _, _, rfl, hx, T.o_Stretch.cl, T.a_need, sf_need _ _ _, q⟩
theorem r_fgain (T : Txt K mg Z) (hx : H x = some (.ins Z.Stretch dx (sfl nd g t))) (q : R (.int g)) : ∃ a C dx fs v, V.ref x = .ref a ∧ H a = some (.ins C dx fs) ∧ Cls K C ∧ NoAttr K C "_gain" ∧ fs.lookup ("_gain" : Str) = some v ∧ R v :=
  ⟨x, _, _, _, _, rfl, hx, T.o_Stretch.cl, T.a_gain, sf_gain _ _ _, q⟩
theorem r_ftop (T : Txt K mg Z) (hx : H x = some (.ins Z.Stretch dx (sfl nd g t))) (q : R (.int t)) : ∃ a C dx fs v, V.ref x = .ref a ∧ H a = some (.ins C dx fs) ∧ Cls K C ∧ NoAttr K C "_top" ∧ fs.lookup ("_top" : Str) = some v ∧ R v :=
  ⟨x, _, _, _, _, rfl, hx, T.o_Stretch.cl, T.a_top, sf_top _ _ _, q⟩
end
theorem r_binC {Z : Ad} {H : Hp} {v u : V} {s t : Str3} {g : F2} {Q : VK} {E : XK} (hv : StAt Z.Stretch H v s) (hu : StAt Z.Stretch H u t) (q : g v u H Q E) : rBinC Z.Stretch (Sp2 g) E v u H Q := by
  obtain ⟨a, dx, rfl, ha⟩ := hv
  obtain ⟨b, dy, rfl, hb⟩ := hu
  exact ⟨a, dx, _, b, dy, _, rfl, rfl, ha, hb, r_sp2 q⟩
theorem dec_nv {a b : Option Int} : decide (nv a = nv b) = decide (a = b) := by
  cases a with
  | none => cases b <;> simp [nv]
  | some x => cases b <;> simp [nv]
theorem scal_nv {a b : Option Int} : scal (nv a) (nv b) = true := by cases a <;> cases b <;> rfl

end K02
namespace K02
open PySem PySem.Spec PyProof.Rows L2 Oil
local macro_rules | `(tactic| walk_at "kn") => `(tactic| first | exact Kn.non | exact Kn.int _ | exact Kn.bl _ | exact Kn.str _ | exact Kn.tup (by assumption) | exact Kn.lst (by assumption) | assumption)
local macro_rules | `(tactic| walk_at "rd1") => `(tactic| with_reducible first
  | refine f_seq ?_ | refine f_next ?_ | refine f_drop ?_ | refine f_ret ?_ | refine f_retN ?_ | refine f_asg ?_ | refine f_par ?_
  | refine r_var rfl ?_ | refine r_c ?_ | refine r_nx ?_ | refine r_rt ?_ | refine r_ct ?_ | refine r_bk ?_ | refine r_cons ?_ | refine r_nil ?_ | refine r_seq ?_ | refine r_next ?_
  | refine r_op ?_ | refine r_I0 ?_ | refine r_asg ?_ | refine r_gname ?_ | refine r_ret ?_ | refine r_ifS ?_ | refine r_test ?_ | refine r_bl ?_ | refine r_blQ ?_ | refine r_B ?_
  | refine r_and ?_ | refine r_or ?_ | refine r_not ?_ | refine r_andV ?_ | refine r_orV ?_ | refine r_notV ?_ | refine r_if ?_ | refine r_chain ?_ | refine r_cb ?_
  | refine r_cal ?_ | refine r_mak ?_ | refine r_prp ?_ | refine r_mt ?_ | refine r_cmt ?_ | refine r_clo ?_ | refine r_fld ?_ | refine r_sfld ?_ | refine r_par ?_ | refine r_par2 ?_
  | refine r_tup ?_ | refine r_lst ?_ | refine r_un ?_ | refine r_drop ?_ | refine r_retN ?_ | refine r_isn ?_ | refine r_notn ?_ | refine r_U ?_
  | refine r_sp1 ?_ | refine r_sp2 ?_ | refine r_sp3 ?_ | refine r_sp4 ?_ | refine r_sp5 ?_ | refine r_eq rfl ?_ | refine r_ne rfl ?_ | refine r_makL rfl ?_ | refine r_odd ?_ | refine r_rfl ?_ | refine r_max2 ?_ | refine r_min2 ?_ | refine r_int1 ?_ | refine r_int1b ?_ | refine r_truI ?_ | refine r_truB ?_ | refine r_truN ?_ | refine r_tru ?_ | refine r_truR ?_ | refine r_for ?_ | refine r_ilist ?_ | refine r_itup ?_ | refine r_irng1 ?_ | refine r_irng2 ?_ | refine r_gsub ?_ | refine r_bm ?_)
local macro_rules | `(tactic| walk_at "rd2") => `(tactic| first | (with_reducible refine r_T rfl ?_) | (with_reducible refine r_F rfl ?_) | (with_reducible refine r_T ?_ ?_; (rfl)) | (with_reducible refine r_F ?_ ?_; (rfl)))
local macro_rules | `(tactic| walk_at "rd3") => `(tactic| first | ((with_reducible refine r_isiT (T := ?_) ?_ ?_ ?_); rotate_left; (walk_at "kn"); (decide +kernel)) | ((with_reducible refine r_isiF (T := ?_) ?_ ?_ ?_); rotate_left; (walk_at "kn"); (decide +kernel)))
local macro_rules | `(tactic| walk_at "rd") => `(tactic| repeat (first | walk_at "rd1" | walk_at "rd2" | walk_at "rd3" | walk_at "rdx"))
local macro_rules | `(tactic| walk_at "rdx") => `(tactic| first
  | refine r_fneed (by assumption) (by assumption) ?_ | refine r_fgain (by assumption) (by assumption) ?_ | refine r_ftop (by assumption) (by assumption) ?_)

section
variable {P : Program} {w : World} {K : PySem.W.Frag} {mg : Str → Option Value} {base : Heap} {Z : Ad}
theorem ok_is_number {f : Addr} {fd : FuncData} (F : Fun K "is_number" "is_number" s_is_number f fd) (T : Txt K mg Z) : FnR P w K mg base (L2.CX P w) 1 f (Sp1 (p_is_number K Z)) := by
  refine fnR_of (fd := fd) (ps := ["value"]) (F.okX sc_is_number (fun vs H Q E h => ?_) (fun cdv A outer s H vs Q E hr h => ?_)) (F.binds (ps := ["value"]) fun _ _ _ _ _ _ us hl => match us, hl with | [_], _ => rfl)
  · obtain ⟨_, rfl, _⟩ := h
    rfl
  · obtain ⟨v0, rfl, h⟩ := h
    refine ⟨_, (pss_one (ps_ret (pe_and (pe_callB call_isi (by rfl) T.n_isinstance (by decide +kernel) (pa_cons (pv 0) (pa_cons (pe_bltn (v := .ty "int") (by rfl) T.n_int (by decide +kernel) rfl) pa_nil))) (pe_one (pe_not (pe_callB call_isi (by rfl) T.n_isinstance (by decide +kernel) (pa_cons (pv 0) (pa_cons (pe_bltn (v := .ty "bool") (by rfl) T.n_bool (by decide +kernel) rfl) pa_nil)))))))), ?_⟩
    obtain ⟨⟨T, k⟩, q⟩ := h
    cases k <;> (walk_at "rd"; exact q)
end
section
variable {P : Program} {w : World} {K : PySem.W.Frag} {mg : Str → Option Value} {base : Heap} {Z : Ad}
theorem ok_Stretch_need {f : Addr} {fd : FuncData} (F : Fun K "need" "Stretch.need" s_Stretch_need f fd) (T : Txt K mg Z) : FnR P w K mg base (L2.CX P w) 1 f (Sp1 (p_Stretch_need K Z)) := by
  refine fnR_of (fd := fd) (ps := ["self"]) (F.okX sc_Stretch_need (fun vs H Q E h => ?_) (fun cdv A outer s H vs Q E hr h => ?_)) (F.binds (ps := ["self"]) fun _ _ _ _ _ _ us hl => match us, hl with | [_], _ => rfl)
  · obtain ⟨_, rfl, _⟩ := h
    rfl
  · obtain ⟨v0, rfl, h⟩ := h
    refine ⟨_, (pss_one (ps_ret (pe_fld (pv 0) rfl))), ?_⟩
    obtain ⟨s, ⟨x, dx, rfl, hx⟩, q⟩ := h
    walk_at "rd"
    exact q
end
section
variable {P : Program} {w : World} {K : PySem.W.Frag} {mg : Str → Option Value} {base : Heap} {Z : Ad}
theorem ok_Stretch_gain {f : Addr} {fd : FuncData} (F : Fun K "gain" "Stretch.gain" s_Stretch_gain f fd) (T : Txt K mg Z) : FnR P w K mg base (L2.CX P w) 1 f (Sp1 (p_Stretch_gain K Z)) := by
  refine fnR_of (fd := fd) (ps := ["self"]) (F.okX sc_Stretch_gain (fun vs H Q E h => ?_) (fun cdv A outer s H vs Q E hr h => ?_)) (F.binds (ps := ["self"]) fun _ _ _ _ _ _ us hl => match us, hl with | [_], _ => rfl)
  · obtain ⟨_, rfl, _⟩ := h
    rfl
  · obtain ⟨v0, rfl, h⟩ := h
    refine ⟨_, (pss_one (ps_ret (pe_fld (pv 0) rfl))), ?_⟩
    obtain ⟨s, ⟨x, dx, rfl, hx⟩, q⟩ := h
    walk_at "rd"
    exact q
end
section
variable {P : Program} {w : World} {K : PySem.W.Frag} {mg : Str → Option Value} {base : Heap} {Z : Ad}
theorem ok_Stretch_eq {f : Addr} {fd : FuncData} (F : Fun K "__eq__" "Stretch.__eq__" s_Stretch_eq f fd) (T : Txt K mg Z) : FnR P w K mg base (L2.CX P w) 1 f (Sp2 (p_Stretch_eq K Z)) := by
  refine fnR_of (fd := fd) (ps := ["self", "other"]) (F.okX sc_Stretch_eq (fun vs H Q E h => ?_) (fun cdv A outer s H vs Q E hr h => ?_)) (F.binds (ps := ["self", "other"]) fun _ _ _ _ _ _ us hl => match us, hl with | [_, _], _ => rfl)
  · obtain ⟨_, _, rfl, _⟩ := h
    rfl
  · obtain ⟨v0, v1, rfl, h⟩ := h
    refine ⟨_, (pss_one (ps_ret (pe_and (pe_callB call_isi (by rfl) T.n_isinstance (by decide +kernel) (pa_cons (pv 1) (pa_cons (pe_glob (v := .ref Z.Stretch) (by rfl) T.g_Stretch rfl) pa_nil))) (pe_and (pe_cmpR op_eq (pe_fld (pv 0) rfl) (pe_fld (pv 1) rfl) (nomark _)) (pe_and (pe_cmpR op_eq (pe_fld (pv 0) rfl) (pe_fld (pv 1) rfl) (nomark _)) (pe_one (pe_cmpR op_eq (pe_fld (pv 0) rfl) (pe_fld (pv 1) rfl) (nomark _)))))))), ?_⟩
    obtain ⟨s, ⟨x, dx, rfl, hx⟩, h⟩ := h
    rcases h with ⟨t, ⟨y, dy, rfl, hy⟩, q⟩ | ⟨T', k, q⟩
    · walk_at "rd"
      refine r_isiO T.o_Stretch hy ?_
      walk_at "rd"
      refine r_eq scal_nv ?_
      walk_at "rd"
      have ed : decide (s = t) = (decide (s.need = t.need) && (decide (s.gain = t.gain) && decide (s.top = t.top))) := by
        obtain ⟨_, _, _⟩ := s
        obtain ⟨_, _, _⟩ := t
        simp [Str3.mk.injEq]
      rw [ed] at q
      rw [dec_nv]
      refine r_by (fun e => ?_) (fun e => ?_)
      · rw [e, Bool.true_and] at q
        walk_at "rd"
        refine r_by (fun e => ?_) (fun e => ?_)
        · have e' : decide (s.gain = t.gain) = true := by simpa using e
          rw [e', Bool.true_and] at q
          walk_at "rd"
          rw [show decide (V.int s.top = V.int t.top) = decide (s.top = t.top) by simp]
          exact q
        · have e' : decide (s.gain = t.gain) = false := by simpa using e
          rw [e', Bool.false_and] at q
          walk_at "rd"
          exact q
      · rw [e, Bool.false_and] at q
        walk_at "rd"
        exact q
    · walk_at "rd"
      refine r_isiN T.c_Stretch k ?_
      walk_at "rd"
      exact q
end
section
variable {P : Program} {w : World} {K : PySem.W.Frag} {mg : Str → Option Value} {base : Heap} {Z : Ad}
theorem ok_law_dice {f : Addr} {fd : FuncData} (F : Fun K "_law_dice" "_law_dice" s_law_dice f fd) (T : Txt K mg Z) : FnR P w K mg base (L2.CX P w) 1 f (Sp1 (q_dice K)) := by
  refine fnR_of (fd := fd) (ps := ["_law_script"]) (F.okX sc_law_dice (fun vs H Q E h => ?_) (fun cdv A outer s H vs Q E hr h => ?_)) (F.binds (ps := ["_law_script"]) fun _ _ _ _ _ _ us hl => match us, hl with | [_], _ => rfl)
  · obtain ⟨_, rfl, _⟩ := h
    rfl
  · obtain ⟨v0, rfl, h⟩ := h
    refine ⟨_, (pss_cons (ps_set (i := 1) sc_law_dice.nd rfl (Or.inl rfl) pe_int)
      (pss_cons (ps_for (passes_of rfl) rfl (pi_list (pv 0)) (pg_name (i := 2) sc_law_dice.nd rfl (Or.inl rfl)) (pss_one (ps_set (i := 1) sc_law_dice.nd rfl (Or.inl rfl) (pe_op op_modN (pe_callTy call_in (by rfl) T.n_int (by decide +kernel) (pa_cons (pe_op op_add (pe_op op_add (pe_op op_mulW (pv 1) pe_int) (pe_op op_mulW (pe_op op_modN (pe_callTy call_in (by rfl) T.n_int (by decide +kernel) (pa_cons (pv 2) pa_nil)) pe_int) pe_int)) pe_int) pa_nil)) pe_int))))
      (pss_one (ps_ret (pe_lst (pa_cons (pv 0) (pa_cons pe_int (pa_cons (pe_op op_mulW (pv 1) (pe_callTy call_in (by rfl) T.n_int (by decide +kernel) (pa_cons (pe_cmpR op_gt (pe_callB call_ln (by rfl) T.n_len (by decide +kernel) (pa_cons (pv 0) pa_nil)) pe_int (nomark _)) pa_nil))) (pa_cons pe_int pa_nil))))))))), ?_⟩
    obtain ⟨sa, ns, rfl, hS, hl, q⟩ := h
    walk_at "rd"
    refine r_qlst hS ?_
    refine w_list (xs := ns.map V.int) (fun i σ H' => ∃ (m : Int) (v : Option V), σ = [some (.ref sa), some (.int m), v] ∧ H' = H ∧ 0 ≤ m ∧ m < 2147483647) ⟨0, none, rfl, rfl, by decide, by decide⟩ (fun i σ H' _ h => ?_) ?_ ?_
    · obtain ⟨_, _, _, e, _⟩ := h
      rw [e]
      exact hS
    · rintro i x σ H' hx ⟨m, v, rfl, rfl, h1, h2⟩
      rw [List.getElem?_map] at hx
      obtain ⟨z, hz, rfl⟩ := Option.map_eq_some_iff.mp hx
      walk_at "rd"
      refine r_I (wide_mul (a := 32) (b := 20) (by omega) (by decide) (by decide) (by decide) (by decide)) ?_
      walk_at "rd"
      refine r_I (by decide) ?_
      walk_at "rd"
      have b1 := Int.fmod_eq_emod_of_nonneg z (show (0 : Int) ≤ 2147483647 by decide)
      have b2 : 0 ≤ z.fmod 2147483647 ∧ z.fmod 2147483647 < 2147483647 := by omega
      refine r_I (wide_mul (a := 32) (b := 20) (by omega) (by decide) (by decide) (by decide) (by decide)) ?_
      walk_at "rd"
      refine r_I (by decide) ?_
      walk_at "rd"
      refine ⟨_, some (.int z), rfl, rfl, ?_⟩
      generalize m * 48271 + z.fmod 2147483647 * 69621 + 11 = y
      have b3 := Int.fmod_eq_emod_of_nonneg y (show (0 : Int) ≤ 2147483647 by decide)
      omega
    · rintro σ H' ⟨m, v, rfl, rfl, h1, h2⟩
      walk_at "rd"
      refine ⟨sa, _, rfl, .inl hS, ?_⟩
      walk_at "rd"
      have hb : ∀ b : Bool, (0 : Int) ≤ m * (if b = true then 1 else 0) ∧ m * (if b = true then 1 else 0) < 2147483647 := fun b => by cases b <;> simp <;> omega
      refine r_I (wide_mul (a := 32) (b := 2) (by omega) (by split <;> decide) (by decide) (by decide) (by decide)) ?_
      walk_at "rd"
      refine ⟨by show 4 ≤ sizeLine; decide, fun d hd => ?_⟩
      exact q d _ hd (Same.new hd) (Dice.new hd (by decide) (hb _).1 (hb _).2 hl hS)
end
section
variable {P : Program} {w : World} {K : PySem.W.Frag} {mg : Str → Option Value} {base : Heap} {Z : Ad}
theorem ok_law_next {f : Addr} {fd : FuncData} (F : Fun K "_law_next" "_law_next" s_law_next f fd) (T : Txt K mg Z) : FnR P w K mg base (L2.CX P w) 1 f (Sp2 (q_next K)) := by
  refine fnR_of (fd := fd) (ps := ["_law_dice_here", "_law_many"]) (F.okX sc_law_next (fun vs H Q E h => ?_) (fun cdv A outer s H vs Q E hr h => ?_)) (F.binds (ps := ["_law_dice_here", "_law_many"]) fun _ _ _ _ _ _ us hl => match us, hl with | [_, _], _ => rfl)
  · obtain ⟨_, _, rfl, _⟩ := h
    rfl
  · obtain ⟨v0, v1, rfl, h⟩ := h
    refine ⟨_, (pss_cons (ps_if (pt_cmpR op_gt (pe_ix ix_list (pv 0) pe_int (fun _ _ => rfl)) pe_int (nomark _)) (pss_cons (ps_set (i := 2) sc_law_next.nd rfl (Or.inl rfl) (pe_op op_modN (pe_callTy call_in (by rfl) T.n_int (by decide +kernel) (pa_cons (pe_ix ix_list (pv 0) pe_int (fun _ _ => rfl)) pa_nil)) (pv 1)))
      (pss_cons (ps_asg (pe_op op_fdivW (pe_ix ix_list (pv 0) pe_int (fun _ _ => rfl)) (pv 1)) (pg_sub (pv 0) pe_int set_list))
      (pss_one (ps_ret (pv 2))))) pss_nil)
      (pss_cons (ps_asg (pe_op op_add (pe_ix ix_list (pv 0) pe_int (fun _ _ => rfl)) pe_int) (pg_sub (pv 0) pe_int set_list))
      (pss_cons (ps_if (pt_cmpR op_le (pe_ix ix_list (pv 0) pe_int (fun _ _ => rfl)) (pe_callB call_ln (by rfl) T.n_len (by decide +kernel) (pa_cons (pe_ix ix_list (pv 0) pe_int (fun _ _ => rfl)) pa_nil)) (nomark _)) (pss_cons (ps_set (i := 3) sc_law_next.nd rfl (Or.inl rfl) (pe_ix ix_list (pe_ix ix_list (pv 0) pe_int (fun _ _ => rfl)) (pe_op op_sub (pe_ix ix_list (pv 0) pe_int (fun _ _ => rfl)) pe_int) (fun _ _ => rfl)))
      (pss_cons (ps_asg (pe_ifExp (pt_cmpR op_ge (pv 3) (pe_op op_pow pe_int pe_int) (nomark _)) (pe_op op_fdivW (pv 3) (pv 1)) pe_int) (pg_sub (pv 0) pe_int set_list))
      (pss_one (ps_ret (pe_op op_modN (pe_callTy call_in (by rfl) T.n_int (by decide +kernel) (pa_cons (pv 3) pa_nil)) (pv 1)))))) pss_nil)
      (pss_cons (ps_asg (pe_op op_modN (pe_callTy call_in (by rfl) T.n_int (by decide +kernel) (pa_cons (pe_op op_mulW (pe_ix ix_list (pv 0) pe_int (fun _ _ => rfl)) pe_int) pa_nil)) pe_int) (pg_sub (pv 0) pe_int set_list))
      (pss_one (ps_ret (pe_op op_modN (pe_callTy call_in (by rfl) T.n_int (by decide +kernel) (pa_cons (pe_op op_fdivW (pe_ix ix_list (pv 0) pe_int (fun _ _ => rfl)) pe_int) pa_nil)) (pv 1)))))))), ?_⟩
    obtain ⟨d, n, rfl, rfl, n0, n1, hD, q⟩ := h
    obtain ⟨sa, ns, p, m, c, hd, p0, m0, m1, hl, hS⟩ := hD.ex
    have fm : ∀ x : Int, 0 ≤ x.fmod n ∧ x.fmod n < n := fun x => by
      have b1 := Int.fmod_eq_emod_of_nonneg x (Int.le_of_lt n0)
      have b2 := Int.emod_nonneg x (Int.ne_of_gt n0)
      have b3 := Int.emod_lt_of_pos x n0
      omega
    have nn : n ≠ 0 := Int.ne_of_gt n0
    have nb : n.natAbs < 2 ^ 100 := by omega
    walk_at "rd"
    refine r_ixL (SqL.of hd) rfl ?_
    walk_at "rd"
    refine r_by (fun e => ?_) (fun e => ?_)
    · walk_at "rd"
      refine r_ixL (SqL.of hd) rfl ?_
      walk_at "rd"
      refine r_I nn ?_
      walk_at "rd"
      refine r_ixL (SqL.of hd) rfl ?_
      walk_at "rd"
      refine r_I (wide_div n0 nb (by decide) (by decide)) ?_
      walk_at "rd"
      refine r_setL hd rfl ?_
      walk_at "rd"
      exact q _ _ (fm _).1 (fm _).2 (Dice.put p0 m0 m1 hl hS)
    · walk_at "rd"
      refine r_ixL (SqL.of hd) rfl ?_
      walk_at "rd"
      refine r_setL hd rfl ?_
      walk_at "rd"
      have h1 : upd H d (HO.lst (List.set [V.ref sa, V.int p, V.int m, V.int c] 1 (V.int (p + 1)))) d = some (.lst [.ref sa, .int (p + 1), .int m, .int c]) := upd_same
      have hS1 : SqL K (upd H d (HO.lst (List.set [V.ref sa, V.int p, V.int m, V.int c] 1 (V.int (p + 1))))) sa (ns.map V.int) := hS _
      refine r_ixL (SqL.of h1) rfl ?_
      walk_at "rd"
      refine r_ixL (SqL.of h1) rfl ?_
      walk_at "rd"
      refine ⟨sa, _, rfl, .inl hS1, ?_⟩
      walk_at "rd"
      refine r_by (fun e1 => ?_) (fun e1 => ?_)
      · have e2 := of_decide_eq_true e1
        rw [List.length_map] at e2
        walk_at "rd"
        refine r_ixL (SqL.of h1) rfl ?_
        walk_at "rd"
        refine r_ixL (SqL.of h1) rfl ?_
        walk_at "rd"
        obtain ⟨j, rfl⟩ := Int.eq_ofNat_of_zero_le p0
        have ej : (j : Int) + 1 - 1 = (j : Int) := by omega
        have hj : j < ns.length := by omega
        rw [ej]
        refine r_ixL hS1 (at_nat (v := .int ns[j]) (by rw [List.getElem?_map, List.getElem?_eq_getElem hj] <;> rfl)) ?_
        walk_at "rd"
        refine r_I ⟨by decide, by decide, by decide⟩ ?_
        walk_at "rd"
        refine r_by (fun e3 => ?_) (fun e3 => ?_)
        · walk_at "rd"
          refine r_I (wide_div n0 nb (by decide) (by decide)) ?_
          walk_at "rd"
          refine r_setL h1 rfl ?_
          walk_at "rd"
          refine r_I nn ?_
          walk_at "rd"
          rw [upd_upd]
          exact q _ _ (fm _).1 (fm _).2 (Dice.put (by omega) m0 m1 hl hS)
        · walk_at "rd"
          refine r_setL h1 rfl ?_
          walk_at "rd"
          refine r_I nn ?_
          walk_at "rd"
          rw [upd_upd]
          exact q _ _ (fm _).1 (fm _).2 (Dice.put (by omega) m0 m1 hl hS)
      · walk_at "rd"
        refine r_ixL (SqL.of h1) rfl ?_
        walk_at "rd"
        refine r_I (wide_mul (a := 32) (b := 20) (by omega) (by decide) (by decide) (by decide) (by decide)) ?_
        walk_at "rd"
        refine r_I (by decide) ?_
        walk_at "rd"
        refine r_setL h1 rfl ?_
        walk_at "rd"
        refine r_ixL (SqL.of (upd_same)) rfl ?_
        walk_at "rd"
        refine r_I (wide_div (b := 4) (by decide) (by decide) (by decide) (by decide)) ?_
        walk_at "rd"
        refine r_I nn ?_
        walk_at "rd"
        rw [upd_upd]
        have b3 := Int.fmod_eq_emod_of_nonneg (m * 48271) (show (0 : Int) ≤ 2147483647 by decide)
        exact q _ _ (fm _).1 (fm _).2 (Dice.put (by omega) (by omega) (by omega) hl hS)
end
section
variable {P : Program} {w : World} {K : PySem.W.Frag} {mg : Str → Option Value} {base : Heap} {Z : Ad}
theorem ok_is_number_from {f : Addr} {fd : FuncData} (F : Fun K "is_number_from" "is_number_from" s_is_number_from f fd) (T : Txt K mg Z) (G_is_number : Cal P w K mg base 1 "is_number" (Sp1 (p_is_number K Z))) : FnR P w K mg base (L2.CX P w) 2 f (Sp2 (p_is_number_from K Z)) := by
  refine fnR_of (fd := fd) (ps := ["value", "least"]) (F.okX sc_is_number_from (fun vs H Q E h => ?_) (fun cdv A outer s H vs Q E hr h => ?_)) (F.binds (ps := ["value", "least"]) fun _ _ _ _ _ _ us hl => match us, hl with | [_, _], _ => rfl)
  · obtain ⟨_, _, rfl, _⟩ := h
    rfl
  · obtain ⟨v0, v1, rfl, h⟩ := h
    refine ⟨_, (pss_one (ps_ret (pe_and (pe_cal G_is_number hr (by omega) passL (pa_cons (pv 0) pa_nil)) (pe_one (pe_cmpR op_ge (pv 0) (pv 1) (nomark _)))))), ?_⟩
    obtain ⟨n, rfl, ⟨T, k⟩, q⟩ := h
    walk_at "rd"
    refine ⟨⟨_, k⟩, ?_⟩
    cases k <;> (walk_at "rd"; exact q)
end
section
variable {P : Program} {w : World} {K : PySem.W.Frag} {mg : Str → Option Value} {base : Heap} {Z : Ad}
theorem ok_is_number_within {f : Addr} {fd : FuncData} (F : Fun K "is_number_within" "is_number_within" s_is_number_within f fd) (T : Txt K mg Z) (G_is_number : Cal P w K mg base 1 "is_number" (Sp1 (p_is_number K Z))) : FnR P w K mg base (L2.CX P w) 2 f (Sp3 (p_is_number_within K Z)) := by
  refine fnR_of (fd := fd) (ps := ["value", "least", "most"]) (F.okX sc_is_number_within (fun vs H Q E h => ?_) (fun cdv A outer s H vs Q E hr h => ?_)) (F.binds (ps := ["value", "least", "most"]) fun _ _ _ _ _ _ us hl => match us, hl with | [_, _, _], _ => rfl)
  · obtain ⟨_, _, _, rfl, _⟩ := h
    rfl
  · obtain ⟨v0, v1, v2, rfl, h⟩ := h
    refine ⟨_, (pss_one (ps_ret (pe_and (pe_cal G_is_number hr (by omega) passL (pa_cons (pv 0) pa_nil)) (pe_one (pe_chain op_le op_le (pv 1) (pv 0) (pv 2)))))), ?_⟩
    obtain ⟨lo, hi, rfl, rfl, ⟨T, k⟩, q⟩ := h
    walk_at "rd"
    refine ⟨⟨_, k⟩, ?_⟩
    cases k with
    | int i =>
      walk_at "rd"
      refine r_by (fun e => ?_) (fun e => ?_)
      · walk_at "rd"
        rw [show numIn lo hi (.int i) = (decide (lo ≤ i) && decide (i ≤ hi)) from rfl, e, Bool.true_and] at q
        exact q
      · walk_at "rd"
        rw [show numIn lo hi (.int i) = (decide (lo ≤ i) && decide (i ≤ hi)) from rfl, e, Bool.false_and] at q
        exact q
    | _ => walk_at "rd"; exact q
end
section
variable {P : Program} {w : World} {K : PySem.W.Frag} {mg : Str → Option Value} {base : Heap} {Z : Ad}
theorem ok_law_pick {f : Addr} {fd : FuncData} (F : Fun K "_law_pick" "_law_pick" s_law_pick f fd) (T : Txt K mg Z) (G_law_next : Cal P w K mg base 1 "_law_next" (Sp2 (q_next K))) : FnR P w K mg base (L2.CX P w) 2 f (Sp2 (q_pick K)) := by
  refine fnR_of (fd := fd) (ps := ["_law_d", "_law_some"]) (F.okX sc_law_pick (fun vs H Q E h => ?_) (fun cdv A outer s H vs Q E hr h => ?_)) (F.binds (ps := ["_law_d", "_law_some"]) fun _ _ _ _ _ _ us hl => match us, hl with | [_, _], _ => rfl)
  · obtain ⟨_, _, rfl, _⟩ := h
    rfl
  · obtain ⟨v0, v1, rfl, h⟩ := h
    refine ⟨_, (pss_one (ps_ret (pe_ix ix_list (pv 1) (pe_cal G_law_next hr (by omega) passL (pa_cons (pv 0) (pa_cons (pe_callB call_ln (by rfl) T.n_len (by decide +kernel) (pa_cons (pv 1) pa_nil)) pa_nil))) (fun _ _ => rfl)))), ?_⟩
    obtain ⟨d, l, xs, rfl, rfl, hl, ne, x0, x1, hD, q⟩ := h
    walk_at "rd"
    refine r_lenL hl ?_
    walk_at "rd"
    refine ⟨d, _, rfl, rfl, by omega, by omega, hD, fun r H1 r0 r1 nx => ?_⟩
    walk_at "rd"
    obtain ⟨j, rfl⟩ := Int.eq_ofNat_of_zero_le r0
    have hj : j < xs.length := by omega
    refine r_ixL (SqL.of (nx.keep _ _ ne hl)) (at_nat (List.getElem?_eq_getElem hj)) ?_
    walk_at "rd"
    exact q _ _ (List.getElem_mem hj) nx
end
section
variable {P : Program} {w : World} {K : PySem.W.Frag} {mg : Str → Option Value} {base : Heap} {Z : Ad}
theorem ok_check_number_from {f : Addr} {fd : FuncData} (F : Fun K "check_number_from" "check_number_from" s_check_number_from f fd) (T : Txt K mg Z) (G_is_number_from : Cal P w K mg base 2 "is_number_from" (Sp2 (p_is_number_from K Z))) : FnR P w K mg base (L2.CX P w) 3 f (Sp2 (p_check_number_from K Z)) := by
  refine fnR_of (fd := fd) (ps := ["value", "least"]) (F.okX sc_check_number_from (fun vs H Q E h => ?_) (fun cdv A outer s H vs Q E hr h => ?_)) (F.binds (ps := ["value", "least"]) fun _ _ _ _ _ _ us hl => match us, hl with | [_, _], _ => rfl)
  · obtain ⟨_, _, rfl, _⟩ := h
    rfl
  · obtain ⟨v0, v1, rfl, h⟩ := h
    refine ⟨_, (pss_one (ps_if (pt_not (pt_val (pe_cal G_is_number_from hr (by omega) passL (pa_cons (pv 0) (pa_cons (pv 1) pa_nil))))) (pss_one (ps_raise rfl (takes_of rfl rfl rfl rfl) (pmk_own PySem.F.excBase_ValueError T.x_InvalidNumber T.g_InvalidNumber T.k_InvalidNumber (raises_own T.b_InvalidNumber T.t_InvalidNumber) rfl))) pss_nil)), ?_⟩
    obtain ⟨n, rfl, k, q1, q2⟩ := h
    walk_at "rd"
    refine ⟨n, rfl, k, ?_⟩
    walk_at "rd"
    refine r_by (fun e => ?_) (fun e => ?_)
    · exact q2 (by simpa using e)
    · walk_at "rd"
      exact q1 (by simpa using e)
end
section
variable {P : Program} {w : World} {K : PySem.W.Frag} {mg : Str → Option Value} {base : Heap} {Z : Ad}
theorem ok_check_number_within {f : Addr} {fd : FuncData} (F : Fun K "check_number_within" "check_number_within" s_check_number_within f fd) (T : Txt K mg Z) (G_is_number_within : Cal P w K mg base 2 "is_number_within" (Sp3 (p_is_number_within K Z))) : FnR P w K mg base (L2.CX P w) 3 f (Sp3 (p_check_number_within K Z)) := by
  refine fnR_of (fd := fd) (ps := ["value", "least", "most"]) (F.okX sc_check_number_within (fun vs H Q E h => ?_) (fun cdv A outer s H vs Q E hr h => ?_)) (F.binds (ps := ["value", "least", "most"]) fun _ _ _ _ _ _ us hl => match us, hl with | [_, _, _], _ => rfl)
  · obtain ⟨_, _, _, rfl, _⟩ := h
    rfl
  · obtain ⟨v0, v1, v2, rfl, h⟩ := h
    refine ⟨_, (pss_one (ps_if (pt_not (pt_val (pe_cal G_is_number_within hr (by omega) passL (pa_cons (pv 0) (pa_cons (pv 1) (pa_cons (pv 2) pa_nil)))))) (pss_one (ps_raise rfl (takes_of rfl rfl rfl rfl) (pmk_own PySem.F.excBase_ValueError T.x_InvalidNumber T.g_InvalidNumber T.k_InvalidNumber (raises_own T.b_InvalidNumber T.t_InvalidNumber) rfl))) pss_nil)), ?_⟩
    obtain ⟨lo, hi, rfl, rfl, k, q1, q2⟩ := h
    walk_at "rd"
    refine ⟨lo, hi, rfl, rfl, k, ?_⟩
    walk_at "rd"
    refine r_by (fun e => ?_) (fun e => ?_)
    · exact q2 (by simpa using e)
    · walk_at "rd"
      exact q1 (by simpa using e)
end
section
variable {P : Program} {w : World} {K : PySem.W.Frag} {mg : Str → Option Value} {base : Heap} {Z : Ad}
theorem ok_Stretch_init {f : Addr} {fd : FuncData} (F : Fun K "__init__" "Stretch.__init__" s_Stretch_init f fd) (T : Txt K mg Z) (G_is_number : Cal P w K mg base 1 "is_number" (Sp1 (p_is_number K Z))) (G_is_number_from : Cal P w K mg base 2 "is_number_from" (Sp2 (p_is_number_from K Z))) : FnR P w K mg base (L2.CX P w) 3 f (Sp4 (p_Stretch_init K Z)) := by
  refine fnR_of (fd := fd) (ps := ["self", "need", "gain", "top"]) (F.okX sc_Stretch_init (fun vs H Q E h => ?_) (fun cdv A outer s H vs Q E hr h => ?_)) (F.binds (ps := ["self", "need", "gain", "top"]) fun _ _ _ _ _ _ us hl => match us, hl with | [_, _, _, _], _ => rfl)
  · obtain ⟨_, _, _, _, rfl, _⟩ := h
    rfl
  · obtain ⟨v0, v1, v2, v3, rfl, h⟩ := h
    refine ⟨_, (pss_cons (ps_if (PW.pt (pw_and (pt_cmpR op_notN1 (pv 1) pe_non (nomark _)) (pw_and1 (pt_not (pt_val (pe_cal G_is_number_from hr (by omega) passL (pa_cons (pv 1) (pa_cons pe_int pa_nil)))))))) (pss_one ps_never) pss_nil)
      (pss_cons (ps_if (PW.pt (pw_or (pt_not (pt_val (pe_cal G_is_number hr (by omega) passL (pa_cons (pv 2) pa_nil)))) (pw_or1 (PW.pt (pw_and (pt_cmpR op_notN1 (pv 1) pe_non (nomark _)) (pw_and1 (pt_cmpR op_lt (pe_op op_add (pv 1) (pv 2)) pe_int (nomark _)))))))) (pss_one ps_never) pss_nil)
      (pss_cons (ps_if (pt_not (pt_val (pe_cal G_is_number_from hr (by omega) passL (pa_cons (pv 3) (pa_cons pe_int pa_nil))))) (pss_one ps_never) pss_nil)
      (pss_cons (ps_fld (pv 0) (pv 1) rfl)
      (pss_cons (ps_fld (pv 0) (pe_ifExp (pt_cmpR op_isN1 (pv 1) pe_non (nomark _)) pe_int (pv 2)) rfl)
      (pss_one (ps_fld (pv 0) (pe_ifExp (pt_cmpR op_isN1 (pv 1) pe_non (nomark _)) pe_int (pv 3)) rfl))))))), ?_⟩
    obtain ⟨x, dx, s, rfl, hx, rfl, rfl, rfl, ok, q⟩ := h
    obtain ⟨nd, g, t⟩ := s
    have fin : ∀ v, v = nv nd → Q .non (upd (upd (upd H x (.ins Z.Stretch dx (putF "_need" v []))) x (.ins Z.Stretch dx (putF "_gain" (V.int g) (putF "_need" v [])))) x (.ins Z.Stretch dx (putF "_top" (V.int t) (putF "_gain" (V.int g) (putF "_need" v []))))) := fun v e => by
      rw [upd_upd, upd_upd, sf_put, e]
      exact q
    cases nd with
    | none =>
      obtain ⟨rfl, rfl⟩ := (show g = 0 ∧ t = 0 from ok)
      dsimp only [nv]
      walk_at "rd"
      refine ⟨⟨_, .int _⟩, ?_⟩
      walk_at "rd"
      refine ⟨0, rfl, ⟨_, .int _⟩, ?_⟩
      walk_at "rd"
      refine r_store T.o_Stretch.cl hx T.a_need (by decide) ?_
      walk_at "rd"
      refine r_store T.o_Stretch.cl upd_same T.a_gain (sf_len1 _) ?_
      walk_at "rd"
      refine r_store T.o_Stretch.cl upd_same T.a_top (sf_len2 _ _) ?_
      walk_at "rd"
      exact fin _ rfl
    | some n =>
      obtain ⟨h1, h2, h3⟩ := (show 0 ≤ n ∧ 0 ≤ n + g ∧ 0 ≤ t from ok)
      dsimp only [nv]
      walk_at "rd"
      refine ⟨0, rfl, ⟨_, .int _⟩, ?_⟩
      walk_at "rd"
      refine r_F (by rw [show numFrom 0 (V.int n) = decide (0 ≤ n) from rfl, decide_eq_true h1]; rfl) ?_
      walk_at "rd"
      refine ⟨⟨_, .int _⟩, ?_⟩
      walk_at "rd"
      refine r_F (decide_eq_false (by omega)) ?_
      walk_at "rd"
      refine ⟨0, rfl, ⟨_, .int _⟩, ?_⟩
      walk_at "rd"
      refine r_F (by rw [show numFrom 0 (V.int t) = decide (0 ≤ t) from rfl, decide_eq_true h3]; rfl) ?_
      walk_at "rd"
      refine r_store T.o_Stretch.cl hx T.a_need (by decide) ?_
      walk_at "rd"
      refine r_store T.o_Stretch.cl upd_same T.a_gain (sf_len1 _) ?_
      walk_at "rd"
      refine r_store T.o_Stretch.cl upd_same T.a_top (sf_len2 _ _) ?_
      walk_at "rd"
      exact fin _ rfl
end
section
variable {P : Program} {w : World} {K : PySem.W.Frag} {mg : Str → Option Value} {base : Heap} {Z : Ad}
theorem ok_Stretch_barred {f : Addr} {fd : FuncData} (F : Fun K "barred" "Stretch.barred" s_Stretch_barred f fd) (T : Txt K mg Z) (M_Stretch : Mak P w K mg base 3 "Stretch" Z.Stretch (Sp4 (p_Stretch_init K Z))) : FnR P w K mg base (L2.CX P w) 5 f (Sp1 (p_Stretch_barred K Z)) := by
  refine fnR_of (fd := fd) (ps := ["cls"]) (F.okX sc_Stretch_barred (fun vs H Q E h => ?_) (fun cdv A outer s H vs Q E hr h => ?_)) (F.binds (ps := ["cls"]) fun _ _ _ _ _ _ us hl => match us, hl with | [_], _ => rfl)
  · obtain ⟨_, rfl, _⟩ := h
    rfl
  · obtain ⟨v0, rfl, h⟩ := h
    refine ⟨_, (pss_one (ps_ret (pe_makL (i := 0) M_Stretch hr (by omega) passL (pa_cons pe_non (pa_cons pe_int (pa_cons pe_int pa_nil)))))), ?_⟩
    obtain ⟨rfl, q⟩ := h
    walk_at "rd"
    exact mk_st .barred Str3.ok_barred q
end
section
variable {P : Program} {w : World} {K : PySem.W.Frag} {mg : Str → Option Value} {base : Heap} {Z : Ad}
theorem ok_Stretch_add {f : Addr} {fd : FuncData} (F : Fun K "__add__" "Stretch.__add__" s_Stretch_add f fd) (T : Txt K mg Z) (K_Stretch_barred : Cmt P w K mg base 5 Z.Stretch "barred" (Sp1 (p_Stretch_barred K Z))) (M_Stretch : Mak P w K mg base 3 "Stretch" Z.Stretch (Sp4 (p_Stretch_init K Z))) : FnR P w K mg base (L2.CX P w) 6 f (Sp2 (p_Stretch_add K Z)) := by
  refine fnR_of (fd := fd) (ps := ["self", "other"]) (F.okX sc_Stretch_add (fun vs H Q E h => ?_) (fun cdv A outer s H vs Q E hr h => ?_)) (F.binds (ps := ["self", "other"]) fun _ _ _ _ _ _ us hl => match us, hl with | [_, _], _ => rfl)
  · obtain ⟨_, _, rfl, _⟩ := h
    rfl
  · obtain ⟨v0, v1, rfl, h⟩ := h
    refine ⟨_, (pss_cons (ps_if (pt_not (pt_val (pe_callB call_isi (by rfl) T.n_isinstance (by decide +kernel) (pa_cons (pv 1) (pa_cons (pe_glob (v := .ref Z.Stretch) (by rfl) T.g_Stretch rfl) pa_nil))))) (pss_one ps_never) pss_nil)
      (pss_cons (ps_if (PW.pt (pw_or (pt_cmpR op_isN1 (pe_fld (pv 0) rfl) pe_non (nomark _)) (pw_or (pt_cmpR op_isN1 (pe_fld (pv 1) rfl) pe_non (nomark _)) (pw_or1 (pt_cmpR op_lt (pe_fld (pv 0) rfl) (pe_fld (pv 1) rfl) (nomark _)))))) (pss_one (ps_ret (pe_cmt0 (pe_glob (v := .ref Z.Stretch) (by rfl) T.g_Stretch rfl) K_Stretch_barred hr (by omega) passL))) pss_nil)
      (pss_cons (ps_set (i := 2) sc_Stretch_add.nd rfl (Or.inl rfl) (pe_callB (call_mx rfl) (by rfl) T.n_max (by decide +kernel) (pa_cons (pe_fld (pv 0) rfl) (pa_cons (pe_op op_sub (pe_fld (pv 1) rfl) (pe_fld (pv 0) rfl)) pa_nil))))
      (pss_cons (ps_set (i := 3) sc_Stretch_add.nd rfl (Or.inl rfl) (pe_callB (call_mn rfl) (by rfl) T.n_min (by decide +kernel) (pa_cons (pe_op op_add (pe_fld (pv 0) rfl) (pe_fld (pv 1) rfl)) (pa_cons (pe_fld (pv 1) rfl) pa_nil))))
      (pss_one (ps_ret (pe_mak M_Stretch hr (by omega) passL (pa_cons (pv 2) (pa_cons (pe_op op_add (pe_fld (pv 0) rfl) (pe_fld (pv 1) rfl)) (pa_cons (pv 3) pa_nil)))))))))), ?_⟩
    obtain ⟨s, t, ⟨x, dx, rfl, hx⟩, ⟨y, dy, rfl, hy⟩, oks, okt, q⟩ := h
    walk_at "rd"
    refine r_isiO T.o_Stretch hy ?_
    have oka := Str3.ok_add oks okt
    obtain ⟨ns, gs, ts⟩ := s
    obtain ⟨nt, gt, tt⟩ := t
    cases ns with
    | none =>
      rw [Str3.add_none (.inl rfl)] at q
      dsimp only [sf, nv] at hx
      walk_at "rd"
      exact ⟨rfl, q⟩
    | some n =>
      cases nt with
      | none =>
        rw [Str3.add_none (.inr rfl)] at q
        dsimp only [sf, nv] at hx hy
        walk_at "rd"
        exact ⟨rfl, q⟩
      | some m =>
        rw [Str3.add_some] at q oka
        dsimp only [sf, nv] at hx hy
        walk_at "rd"
        refine r_by (fun e => ?_) (fun e => ?_)
        · rw [if_pos (of_decide_eq_true e)] at q
          walk_at "rd"
          exact ⟨rfl, q⟩
        · rw [if_neg (of_decide_eq_false e)] at q oka
          walk_at "rd"
          exact mk_st ⟨some (max n (m - gs)), gs + gt, min (ts + gt) tt⟩ oka q
end
section
variable {P : Program} {w : World} {K : PySem.W.Frag} {mg : Str → Option Value} {base : Heap} {Z : Ad}
theorem ok_repeated {f : Addr} {fd : FuncData} {j k : Nat} (hj : 6 ≤ j) (F : Fun K "_repeated" "_repeated" s_repeated f fd) (T : Txt K mg Z) (G_repeated : Cal P w K mg base j "_repeated" (Sp2 (p_repeated K Z k))) (B_Stretch_Add : BinC P w K mg base 6 Z.Stretch .Add (Sp2 (p_Stretch_add K Z))) : FnR P w K mg base (L2.CX P w) (j + 1) f (Sp2 (p_repeated K Z (k + 1))) := by
  refine fnR_of (fd := fd) (ps := ["part", "times"]) (F.okX sc_repeated (fun vs H Q E h => ?_) (fun cdv A outer s H vs Q E hr h => ?_)) (F.binds (ps := ["part", "times"]) fun _ _ _ _ _ _ us hl => match us, hl with | [_, _], _ => rfl)
  · obtain ⟨_, _, rfl, _⟩ := h
    rfl
  · obtain ⟨v0, v1, rfl, h⟩ := h
    refine ⟨_, (pss_cons (ps_if (pt_cmpR op_eq (pv 1) pe_int (nomark _)) (pss_one (ps_ret (pv 0))) pss_nil)
      (pss_cons (ps_set (i := 2) sc_repeated.nd rfl (Or.inl rfl) (pe_cal G_repeated hr (by omega) passL (pa_cons (pv 0) (pa_cons (pe_op op_fdivW (pv 1) pe_int) pa_nil))))
      (pss_cons (ps_set (i := 3) sc_repeated.nd rfl (Or.inl rfl) (pe_op (op_bc B_Stretch_Add hr (by omega) passL) (pv 2) (pv 2)))
      (pss_one (ps_ret (pe_ifExp (pt_tru (pe_op op_od (pv 1) pe_int) (by intro _; rfl)) (pe_op (op_bc B_Stretch_Add hr (by omega) passL) (pv 3) (pv 0)) (pv 3))))))), ?_⟩
    obtain ⟨s, n, hs, ok, rfl, h1, h2, q⟩ := h
    walk_at "rd"
    refine r_by (fun e => ?_) (fun e => ?_)
    · walk_at "rd"
      have e1 : n = 1 := by simpa using e
      subst e1
      exact q _ _ (Same.refl H) hs
    · have e1 : ¬ n = 1 := by simpa using e
      have h4 : (2 : Int) ^ (k + 1) = 2 ^ k * 2 := Int.pow_succ 2 k
      walk_at "rd"
      refine r_I (wide_div (by decide) (b := 2) (by decide) (by decide) (by decide)) ?_
      walk_at "rd"
      refine ⟨s, n / 2, hs, ok, rfl, by omega, by omega, fun v2 H2 s2 hv2 => ?_⟩
      walk_at "rd"
      have okh := Str3.ok_mul ok (n / 2)
      refine r_binC hv2 hv2 ⟨_, _, hv2, hv2, okh, okh, fun v3 H3 s3 hv3 => ?_⟩
      walk_at "rd"
      obtain ⟨a, ha⟩ := Int.eq_ofNat_of_zero_le (show 0 ≤ n by omega)
      subst ha
      have mh := Str3.mul_half (s := s) (n := (a : Int)) (by omega)
      walk_at "rd"
      refine r_by (fun e2 => ?_) (fun e2 => ?_)
      · rw [if_pos (by have := bne_iff_ne.mp e2; omega)] at mh
        walk_at "rd"
        refine r_binC hv3 (hs.mono (s2.trans s3)) ⟨_, _, hv3, hs.mono (s2.trans s3), Str3.ok_add okh okh, ok, fun v4 H4 s4 hv4 => ?_⟩
        exact q _ _ ((s2.trans s3).trans s4) (by rw [mh]; exact hv4)
      · rw [if_neg (by have e3 : ¬ (((a % 2 : Nat) : Int) ≠ 0) := fun z => by rw [bne_iff_ne.mpr z] at e2; cases e2
                       omega)] at mh
        walk_at "rd"
        exact q _ _ (s2.trans s3) (by rw [mh]; exact hv3)
end
section
variable {P : Program} {w : World} {K : PySem.W.Frag} {mg : Str → Option Value} {base : Heap} {Z : Ad}
theorem ok_Stretch_mul {f : Addr} {fd : FuncData} (F : Fun K "__mul__" "Stretch.__mul__" s_Stretch_mul f fd) (T : Txt K mg Z) (G_repeated : Cal P w K mg base 70 "_repeated" (Sp2 (p_repeated K Z 60))) (G_check_number_within : Cal P w K mg base 3 "check_number_within" (Sp3 (p_check_number_within K Z))) : FnR P w K mg base (L2.CX P w) 71 f (Sp2 (p_Stretch_mul K Z)) := by
  refine fnR_of (fd := fd) (ps := ["self", "other"]) (F.okX sc_Stretch_mul (fun vs H Q E h => ?_) (fun cdv A outer s H vs Q E hr h => ?_)) (F.binds (ps := ["self", "other"]) fun _ _ _ _ _ _ us hl => match us, hl with | [_, _], _ => rfl)
  · obtain ⟨_, _, rfl, _⟩ := h
    rfl
  · obtain ⟨v0, v1, rfl, h⟩ := h
    refine ⟨_, (pss_cons (ps_expr (pe_cal G_check_number_within hr (by omega) (passes_call (takes_of rfl rfl rfl rfl) (fun _ _ _ _ h => h)) (pa_cons (pv 1) (pa_cons pe_int (pa_cons (pe_glob (v := .int 1000000000000000000) (by rfl) T.g_MOST_TIMES.choose_spec ⟨_, rfl⟩) pa_nil)))))
      (pss_one (ps_ret (pe_cal G_repeated hr (by omega) passL (pa_cons (pv 0) (pa_cons (pv 1) pa_nil)))))), ?_⟩
    obtain ⟨s, hs, ok, k, q1, q2⟩ := h
    walk_at "rd"
    refine ⟨1, _, rfl, rfl, k, fun e => ?_, fun e => q2 e⟩
    walk_at "rd"
    obtain ⟨T', k⟩ := k
    cases k with
    | int n =>
      have e2 : 1 ≤ n ∧ n ≤ 1000000000000000000 := by
        have := (show (decide (1 ≤ n) && decide (n ≤ 1000000000000000000)) = true from e)
        simpa using this
      exact ⟨s, n, hs, ok, rfl, e2.1, by omega, q1 n rfl e2.1 e2.2⟩
    | _ => cases e
end
theorem gives_told {X : Cx} {Z : Ad} {g : Addr} {cdg : Value} {q : Str} (T : Txt X.K X.mg Z) : LamX.GivesTo X n_law_told "_law_told" (defScope s_law_told) g cdg (defBody s_law_told) "_law_work" q (TTold X.K Z) := by
  intro f c s H Q tl act hc h
  refine ⟨_, pss_one (ps_try_as (X := (cxOf C8.CX0 X.prog X.w X.K X.mg X.base n_law_told "_law_told" (defScope s_law_told) g cdg X.A X.stack s H C8.E0).nox) (i := 1) (c := .ref Z.WalkError)
    (tb := fun W D σ H => ∃ Ech : XK, (∀ (cls : Value) (d : Option Addr) (σ2 : L2.St) (H2 : Hp), σ2.length = 4 → Ech cls d H2 → W cls d σ2 H2) ∧ σ[0]? = some (some (.ref f)) ∧ H c = some (LamX.CodeO c q) ∧ tl Ech H D.rt)
    (Wout := fun _ _ _ _ => False) rfl rfl sc_law_told.nd rfl rfl ⟨rfl, by decide, .inl T.g_WalkError⟩ LamX.takes0 (fun W pn xe tk _ => ?_) (fun a oe cls d pn hz hf =>
      (pss_cons (ps_set (i := 2) sc_law_told.nd rfl (Or.inl rfl) (pe_lst (pa_cons (pe_callB (call_isK (X := (cxOf C8.CX0 X.prog X.w X.K X.mg X.base n_law_told "_law_told" (defScope s_law_told) g cdg X.A X.stack s H C8.E0).nox) (K := X.K) (a := a) (pn := pn) rfl hz hf) (by rfl) T.n_isinstance (by decide +kernel) (pa_cons (pv 1) (pa_cons (pe_glob (v := .ref Z.InvalidWay) (by rfl) T.g_InvalidWay rfl) pa_nil))) (pa_cons (pe_callB (call_isK (X := (cxOf C8.CX0 X.prog X.w X.K X.mg X.base n_law_told "_law_told" (defScope s_law_told) g cdg X.A X.stack s H C8.E0).nox) (K := X.K) (a := a) (pn := pn) rfl hz hf) (by rfl) T.n_isinstance (by decide +kernel) (pa_cons (pv 1) (pa_cons (pe_glob (v := .ref Z.InvalidStretch) (by rfl) T.g_InvalidStretch rfl) pa_nil))) (pa_cons (pe_callB (call_isK (X := (cxOf C8.CX0 X.prog X.w X.K X.mg X.base n_law_told "_law_told" (defScope s_law_told) g cdg X.A X.stack s H C8.E0).nox) (K := X.K) (a := a) (pn := pn) rfl hz hf) (by rfl) T.n_isinstance (by decide +kernel) (pa_cons (pv 1) (pa_cons (pe_glob (v := .ref Z.UnknownPost) (by rfl) T.g_UnknownPost rfl) pa_nil))) pa_nil)))))
      (pss_cons (ps_expr (pe_bmK (K := X.K) rfl PySem.F.plainAttrs_list PySem.F.slot_list_append PySem.F.type_list_append mt_app (pv 2) (pa_cons (pe_callB (call_isK (X := (cxOf C8.CX0 X.prog X.w X.K X.mg X.base n_law_told "_law_told" (defScope s_law_told) g cdg X.A X.stack s H C8.E0).nox) (K := X.K) (a := a) (pn := pn) rfl hz hf) (by rfl) T.n_isinstance (by decide +kernel) (pa_cons (pv 1) (pa_cons (pe_glob (v := .ref Z.InvalidNumber) (by rfl) T.g_InvalidNumber rfl) pa_nil))) pa_nil)))
      (pss_cons (ps_set (i := 3) sc_law_told.nd rfl (Or.inl rfl) (pe_ifExp (PW.pt (pw_and (pt_cmpR op_eq (pe_bmK (K := X.K) rfl PySem.F.plainAttrs_list PySem.F.slot_list_count PySem.F.type_list_count (mt_cntK (K := X.K) rfl) (pv 2) (pa_cons pe_bl pa_nil)) pe_int (nomark _)) (pw_and1 (pt_val (pe_callB (call_isK (X := (cxOf C8.CX0 X.prog X.w X.K X.mg X.base n_law_told "_law_told" (defScope s_law_told) g cdg X.A X.stack s H C8.E0).nox) (K := X.K) (a := a) (pn := pn) rfl hz hf) (by rfl) T.n_isinstance (by decide +kernel) (pa_cons (pv 1) (pa_cons (pe_bltn (v := .ty "ValueError") (by rfl) T.n_ValueError (by decide +kernel) rfl) pa_nil))))))) (pe_bmK (K := X.K) rfl PySem.F.plainAttrs_list PySem.F.slot_list_index PySem.F.type_list_index (mt_indexK (K := X.K) rfl) (pv 2) (pa_cons pe_bl pa_nil)) pe_int))
      (pss_cons (ps_if (pt_cmpR op_eq (pv 3) pe_int (nomark _)) (pss_one ps_never) pss_nil)
      (pss_cons (ps_if (pt_cmpR op_eq (pv 3) pe_int (nomark _)) (pss_one ps_never) pss_nil)
      (pss_one (ps_ret (pe_tup (pa_cons pe_str (pa_cons (pe_ix (ix_listK (K := X.K) rfl) (pe_lst (pa_cons pe_str (pa_cons pe_str (pa_cons pe_str pa_nil)))) (pe_op op_sub (pv 3) pe_int) (fun _ _ => rfl)) pa_nil)))))))))))), ?_⟩
  · refine ⟨fun pins s2 σ H2 D I h2 => ?_⟩
    obtain ⟨Ech, hW, e1, e2, e3⟩ := h2
    have hp := fun p1 p2 => act _ pn xe Ech p1 p2 (takes_len tk) (fun cls d σ2 H3 hE hl => hW cls d σ2 H3 hl hE)
    exact (pss_one (ps_ret (hp _ _))).run pins s2 σ H2 D I ⟨e1, e2, e3⟩
  · refine ⟨fun cls d H2 => ToldE X.K Z cls d H2 Q, fun cls d σ2 H2 hl hE => ?_, rfl, hc, h⟩
    obtain ⟨y0, y1, y2, y3, rfl⟩ : ∃ y0 y1 y2 y3, σ2 = [y0, y1, y2, y3] := by
      match σ2, hl with
      | [y0, y1, y2, y3], _ => exact ⟨y0, y1, y2, y3, rfl⟩
    obtain ⟨rfl, rfl, q⟩ := hE
    refine ⟨true, T.e_InvalidNumber.em, fun _ a _ => ?_, fun z => nomatch z⟩
    have hd : ∀ H, DictOk none H := fun _ => .inl rfl
    walk_at "rd"
    refine r_isx1 T.e_InvalidNumber (hd _) ?_
    walk_at "rd"
    refine r_isx2 T.e_InvalidNumber (hd _) ?_
    walk_at "rd"
    refine r_isx3 T.e_InvalidNumber (hd _) ?_
    walk_at "rd"
    refine ⟨by show 3 ≤ sizeLine; decide, fun l hl => ?_⟩
    walk_at "rd"
    refine r_tyL upd_same ?_
    walk_at "rd"
    refine r_isx4 T.e_InvalidNumber (hd _) ?_
    walk_at "rd"
    refine r_app upd_same (by show 3 < sizeLine; decide) ?_
    walk_at "rd"
    refine r_tyL upd_same ?_
    walk_at "rd"
    refine r_cnt upd_same rfl rfl ?_
    walk_at "rd"
    refine r_isxV T.e_InvalidNumber (hd _) ?_
    walk_at "rd"
    refine r_tyL upd_same ?_
    walk_at "rd"
    refine r_idx (j := 3) upd_same rfl rfl rfl rfl (fun m z' hm e => ?_) ?_
    · match m, hm with
      | 0, _ => cases e; rfl
      | 1, _ => cases e; rfl
      | 2, _ => cases e; rfl
    walk_at "rd"
    refine ⟨by show 3 ≤ sizeLine; decide, fun l2 hl2 => ?_⟩
    walk_at "rd"
    refine r_ixL (SqL.of upd_same) (v := .str "InvalidNumber") (by rfl) ?_
    walk_at "rd"
    refine ⟨by show 2 ≤ sizeLine; decide, fun p hp => ?_⟩
    refine q p _ ((Same.mut (Same.new hl) hl).trans ((Same.new hl2).trans (Same.new hp))) upd_same

/-- the table of the law's lambdas -/
def tb_law (Pt : Addr) : List (Addr × Str) := [(Pt, (envOfC "law" (defScope s_law) 0 0 .none).qual ++ "<lambda>")]
theorem tb_law_u (Pt : Addr) : ∀ p ∈ tb_law Pt, p.1 = Pt → p.2 = (envOfC "law" (defScope s_law) 0 0 .none).qual ++ "<lambda>" := fun p hp _ => by
  rw [List.mem_singleton.mp hp]
/-- the law holds on every script -/
def lawSp (K : PySem.W.Frag) (Pt : Addr) : Sp := Sp1 fun v H Q _ => ∃ (a : Addr) (ns : List Int), v = .ref a ∧ SqL K H a (ns.map V.int) ∧ ns.length ≤ 63 ∧ H Pt = some (.tbl #[]) ∧ ∀ H1, Q (.bl true) H1

section
variable {K : PySem.W.Frag} {Z : Ad} {H : Hp} {Q : VK} {E : XK} {v u : V} {s t : Str3} {n : Int} {d : Addr}
theorem r_nxt (h0 : 0 < n) (h1 : n < 2 ^ 100) (hD : Dice K H d) (q : ∀ r H', 0 ≤ r → r < n → Nx K d H H' → Q (.int r) H') : q_next K (.ref d) (.int n) H Q E := ⟨d, n, rfl, rfl, h0, h1, hD, q⟩
theorem mk_st3 {R : Addr → Hp → Prop} {n g t : Int} (ok : (⟨some n, g, t⟩ : Str3).Ok) (q : ∀ x H', Same H H' → StAt Z.Stretch H' (.ref x) ⟨some n, g, t⟩ → R x H') :
    ∀ x dx, H x = none → H dx = none → dx ≠ x → Sp4 (p_Stretch_init K Z) [.ref x, .int n, .int g, .int t] (upd (upd H dx (.own x)) x (.ins Z.Stretch dx [])) (fun v H2 => v = .non ∧ R x H2) E :=
  fun x dx hx hdx hne => r_sp4 ⟨x, dx, ⟨some n, g, t⟩, rfl, upd_same, rfl, rfl, rfl, ok, rfl, q _ _ (fun b o e => by
    rw [upd_ne (ne_of_none e hx), upd_ne (ne_of_none e hx), upd_ne (ne_of_none e hdx)]
    exact e) ⟨x, dx, rfl, upd_same⟩⟩
theorem r_mulS (hs : StAt Z.Stretch H v s) (ok : s.Ok) (h1 : 1 ≤ n) (h2 : n ≤ 1000000000000000000) (q : ∀ z H', Same H H' → StAt Z.Stretch H' z (s.mul n) → Q z H') : rBinF Z.Stretch ["int", "NoneType", "bool"] (Sp2 (p_Stretch_mul K Z)) E v (.int n) H Q := by
  obtain ⟨a, dx, rfl, ha⟩ := hs
  refine ⟨a, dx, _, "int", rfl, ha, .int _, by decide, r_sp2 ⟨s, ⟨a, dx, rfl, ha⟩, ok, ⟨_, .int _⟩, fun m e _ _ z H' e2 h2 => ?_, fun e => ?_⟩⟩
  · cases e
    exact q z H' e2 h2
  · have : (decide (1 ≤ n) && decide (n ≤ 1000000000000000000)) = false := e
    rw [decide_eq_true h1, decide_eq_true h2] at this
    cases this
theorem r_mulBad {T : String} (hs : StAt Z.Stretch H v s) (ok : s.Ok) (hu : Flat u T) (hk : Kn K H u T) (hT : T ∈ ["int", "NoneType", "bool"]) (hn : numIn 1 1000000000000000000 u = false) (q : E (.ref Z.InvalidNumber) none H) :
    rBinF Z.Stretch ["int", "NoneType", "bool"] (Sp2 (p_Stretch_mul K Z)) E v u H Q := by
  obtain ⟨a, dx, rfl, ha⟩ := hs
  refine ⟨a, dx, _, T, rfl, ha, hu, hT, r_sp2 ⟨s, ⟨a, dx, rfl, ha⟩, ok, ⟨_, hk⟩, fun m e h1 h2 z H' e2 h3 => ?_, fun e => q⟩⟩
  subst e
  have : (decide (1 ≤ m) && decide (m ≤ 1000000000000000000)) = false := hn
  rw [decide_eq_true h1, decide_eq_true h2] at this
  cases this
theorem r_addS (hv : StAt Z.Stretch H v s) (hu : StAt Z.Stretch H u t) (oks : s.Ok) (okt : t.Ok) (q : ∀ z H', Same H H' → StAt Z.Stretch H' z (s.add t) → Q z H') : rBinC Z.Stretch (Sp2 (p_Stretch_add K Z)) E v u H Q := r_binC hv hu ⟨_, _, hv, hu, oks, okt, q⟩
theorem r_eqS (hv : StAt Z.Stretch H v s) (hu : StAt Z.Stretch H u t) (q : Q (.bl (decide (s = t))) H) : rEqO K Z.Stretch (Sp2 (p_Stretch_eq K Z)) E v u H Q := by
  obtain ⟨a, dx, rfl, ha⟩ := hv
  obtain ⟨b, dy, rfl, hb⟩ := hu
  exact ⟨a, dx, _, rfl, ha, .inl ⟨b, dy, _, rfl, hb⟩, r_sp2 ⟨s, ⟨a, dx, rfl, ha⟩, .inl ⟨t, ⟨b, dy, rfl, hb⟩, q⟩⟩⟩
theorem r_needS (hv : StAt Z.Stretch H v s) (q : Q (nv s.need) H) : ∃ (a dx : Addr) (fs : List (Str × V)), v = .ref a ∧ H a = some (.ins Z.Stretch dx fs) ∧ Sp1 (p_Stretch_need K Z) [.ref a] H Q E := by
  obtain ⟨a, dx, rfl, ha⟩ := hv
  exact ⟨a, dx, _, rfl, ha, r_sp1 ⟨s, ⟨a, dx, rfl, ha⟩, q⟩⟩
theorem r_gainS (hv : StAt Z.Stretch H v s) (q : Q (.int s.gain) H) : ∃ (a dx : Addr) (fs : List (Str × V)), v = .ref a ∧ H a = some (.ins Z.Stretch dx fs) ∧ Sp1 (p_Stretch_gain K Z) [.ref a] H Q E := by
  obtain ⟨a, dx, rfl, ha⟩ := hv
  exact ⟨a, dx, _, rfl, ha, r_sp1 ⟨s, ⟨a, dx, rfl, ha⟩, q⟩⟩
theorem StAt.nx {C d : Addr} {H H' : Hp} {v : V} {s : Str3} (x : Nx K d H H') (hD : Dice K H d) (h : StAt C H v s) : StAt C H' v s := by
  obtain ⟨a, dx, e, ha⟩ := h
  exact ⟨a, dx, e, x.at hD ha (fun xs z => by cases z)⟩
theorem StAt.ext {C : Addr} {H H' : Hp} {v : V} {s : Str3} (x : LamX.ExtN H H') (h : StAt C H v s) : StAt C H' v s := by
  obtain ⟨a, dx, e, ha⟩ := h
  exact ⟨a, dx, e, x _ _ ha (fun xs z => by cases z)⟩
theorem two_mul {x y : Int} (h1 : 0 ≤ x) (h2 : x < 100000000) (h3 : 0 ≤ y) (h4 : y < 100000000) : 1 ≤ (1 + x) * (1 + y) ∧ (1 + x) * (1 + y) ≤ 1000000000000000000 := by
  refine ⟨Int.mul_pos (show 0 < 1 + x by omega) (show 0 < 1 + y by omega), ?_⟩
  have h5 : (1 + x) * (1 + y) ≤ 100000000 * 100000000 := Int.mul_le_mul (by omega) (by omega) (by omega) (by omega)
  omega
theorem sh_err : SeqAt.shaped (.tuple [.str "error", .str "InvalidNumber"]) = true := by decide +kernel
theorem eqv_err : PyData.eqv (.tuple [.str "error", .str "InvalidNumber"]) (.tuple [.str "error", .str "InvalidNumber"]) = true := by decide +kernel
theorem r_neErr {p p2 : Addr} (h1 : H p = some (.tup [.str "error", .str "InvalidNumber"])) (h2 : H p2 = some (.tup [.str "error", .str "InvalidNumber"])) (q : Q (.bl false) H) : rNeD K (.ref p) (.ref p2) H Q :=
  ⟨_, _, .tup (SqT.of h1) (.cons (.str _) (.cons (.str _) .nil)), .tup (SqT.of h2) (.cons (.str _) (.cons (.str _) .nil)), sh_err, sh_err, by rw [eqv_err]; exact q⟩
theorem far_mul {s : Str3} {need gain top : Int} (cs : s = ⟨some need, gain, top⟩ ∨ s = .barred) (N : Int) (hN : 1 ≤ N) : ∃ fa, s.mul N = fa ∧ (need ≤ top → 0 ≤ gain → fa.need.isNone = s.need.isNone) ∧ (fa.need.isNone = false → fa.gain = gain * N) := by
  refine ⟨_, rfl, fun h1 h2 => ?_, fun h => ?_⟩
  · rcases cs with rfl | rfl
    · obtain ⟨g', _, e⟩ := Str3.rep_free (n := need) h2 h1 (N.toNat - 1)
      unfold Str3.mul
      rw [e]
    · rw [Str3.mul_barred]
  · rcases cs with rfl | rfl
    · unfold Str3.mul at h ⊢
      rcases Str3.rep_shape (n := need) (g := gain) (t := top) (N.toNat - 1) with e | ⟨n', t', e⟩
      · rw [e] at h
        cases h
      · rw [e]
        show gain * (((N.toNat - 1 : Nat) : Int) + 1) = gain * N
        congr 1
        omega
    · rw [Str3.mul_barred] at h
      cases h
theorem r_off {t : TT} {σ : L2.St} {H : Hp} {QT : Bool → Hp → Prop} (h : ∀ R : Bool → Hp → Prop, R false H → t σ H R) (q : QT false H) : t σ H QT := h QT q
theorem nv_none {s : Str3} : decide (nv s.need = V.non) = s.need.isNone := by
  obtain ⟨nd, g, t⟩ := s
  cases nd <;> simp [nv]
end

section
variable {P : Program} {w : World} {K : PySem.W.Frag} {mg : Str → Option Value} {base : Heap} {Z : Ad}

theorem ok_law {f g c Pt : Addr} {fd fdT : FuncData} (F : FunC K "law" "law" s_law f fd c) (FT : Fun K "_law_told" "_law_told" s_law_told g fdT) (hT : mg "_law_told" = some (.ref g)) (TB : LamX.TabB base mg c Pt) (T : Txt K mg Z) (K_Stretch_barred : Cmt P w K mg base 5 Z.Stretch "barred" (Sp1 (p_Stretch_barred K Z))) (G_law_dice : Cal P w K mg base 1 "_law_dice" (Sp1 (q_dice K))) (G_law_next : Cal P w K mg base 1 "_law_next" (Sp2 (q_next K))) (G_law_pick : Cal P w K mg base 2 "_law_pick" (Sp2 (q_pick K))) (Q_Stretch : EqO P w K mg base 1 Z.Stretch (Sp2 (p_Stretch_eq K Z))) (M_Stretch : Mak P w K mg base 3 "Stretch" Z.Stretch (Sp4 (p_Stretch_init K Z))) (B_Stretch_Add : BinC P w K mg base 6 Z.Stretch .Add (Sp2 (p_Stretch_add K Z))) (B_Stretch_Mult : BinF P w K mg base 71 Z.Stretch .Mult ["int", "NoneType", "bool"] (Sp2 (p_Stretch_mul K Z))) (P_Stretch_gain : Prp P w K mg base 1 Z.Stretch "gain" (Sp1 (p_Stretch_gain K Z))) (P_Stretch_need : Prp P w K mg base 1 Z.Stretch "need" (Sp1 (p_Stretch_need K Z))) : FnOk P w K mg base (L2.CX P w) 77 f fd ["_law_script"] (lawSp K Pt) := by
  refine F.okX sc_law (fun vs H Q E h => ?_) (fun A outer s H vs Q E hr h => ?_)
  · obtain ⟨_, rfl, _⟩ := h
    rfl
  · obtain ⟨v0, rfl, h⟩ := h
    obtain ⟨ocT, odT, kVT, docT, pmT, anT, cdvT, ctT, oslT, rfl, lkT, hcT⟩ := FT.ex
    have hkT := FT.kp
    have hbT : L2.Binds K (PySem.W.fnOf "_law_told" "_law_told" (defArgs s_law_told) (defBody s_law_told) (defScope s_law_told) .none kVT docT pmT anT cdvT ctT) ["_law_work"] [] := .all (fun us hl => match us, hl with | [_], _ => rfl)
    refine ⟨_, (pss_cons (ps_set (i := 1) sc_law.nd rfl (Or.inl rfl) (pe_cal G_law_dice hr (by omega) passL (pa_cons (pv 0) pa_nil)))
      (pss_cons (ps_for (passes_of rfl) rfl (pi_range1 (by rfl) T.n_range (pa_cons pe_int pa_nil)) (pg_name (i := 2) sc_law.nd rfl (Or.inl rfl)) (pss_cons (ps_set (i := 3) sc_law.nd rfl (Or.inl rfl) (pe_cal G_law_next hr (by omega) passL (pa_cons (pv 1) (pa_cons pe_int pa_nil))))
      (pss_cons (ps_par (i := 4) (j := 5) (by rfl) sc_law.nd rfl rfl (by decide) rfl rfl (pa_cons (pe_op op_sub (pe_cal G_law_next hr (by omega) passL (pa_cons (pv 1) (pa_cons pe_int pa_nil))) (pv 3)) (pa_cons (pe_cal G_law_next hr (by omega) passL (pa_cons (pv 1) (pa_cons pe_int pa_nil))) pa_nil)) (by rfl))
      (pss_cons (ps_set (i := 13) sc_law.nd rfl (Or.inr rfl) (pe_cal G_law_pick hr (by omega) passL (pa_cons (pv 1) (pa_cons (pe_op op_cat (pe_op op_rep (pe_lst (pa_cons (pe_mak M_Stretch hr (by omega) passL (pa_cons (pv 3) (pa_cons (pv 4) (pa_cons (pv 5) pa_nil)))) pa_nil)) pe_int) (pe_lst (pa_cons (pe_cmt0 (pe_glob (v := .ref Z.Stretch) (by rfl) T.g_Stretch rfl) K_Stretch_barred hr (by omega) passL) pa_nil))) pa_nil))))
      (pss_cons (ps_par (i := 6) (j := 7) (by rfl) sc_law.nd rfl rfl (by decide) rfl rfl (pa_cons (pe_op op_add pe_int (pe_cal G_law_next hr (by omega) passL (pa_cons (pv 1) (pa_cons pe_int pa_nil)))) (pa_cons (pv 13) pa_nil)) (by rfl))
      (pss_cons (ps_for (passes_of rfl) rfl (pi_range1 (by rfl) T.n_range (pa_cons (pe_op op_sub (pv 6) pe_int) pa_nil)) (pg_name (i := 8) sc_law.nd rfl (Or.inl rfl)) (pss_one (ps_set (i := 7) sc_law.nd rfl (Or.inl rfl) (pe_op (op_bc B_Stretch_Add hr (by omega) passL) (pv 7) (pv 13)))))
      (pss_cons (ps_if (PW.pt (pw_or (pt_not (pt_cmpR (op_eqo Q_Stretch hr (by omega) passL) (pe_op (op_bf B_Stretch_Mult hr (by omega) (passes_call (takes_of rfl rfl rfl rfl) (fun _ _ _ _ h => h))) (pv 13) (pv 6)) (pv 7) (nomark _))) (pw_or1 (pt_not (pt_cmpR (op_eqo Q_Stretch hr (by omega) passL) (pe_op (op_bf B_Stretch_Mult hr (by omega) (passes_call (takes_of rfl rfl rfl rfl) (fun _ _ _ _ h => h))) (pv 13) pe_int) (pv 13) (nomark _)))))) (pss_one (ps_ret pe_bl)) pss_nil)
      (pss_cons (ps_par (i := 9) (j := 10) (by rfl) sc_law.nd rfl rfl (by decide) rfl rfl (pa_cons (pe_op op_add pe_int (pe_cal G_law_next hr (by omega) passL (pa_cons (pv 1) (pa_cons (pe_op op_pow pe_int pe_int) pa_nil)))) (pa_cons (pe_op op_add pe_int (pe_cal G_law_next hr (by omega) passL (pa_cons (pv 1) (pa_cons (pe_op op_pow pe_int pe_int) pa_nil)))) pa_nil)) (by rfl))
      (pss_cons (ps_if (pt_not (pt_cmpR (op_eqo Q_Stretch hr (by omega) passL) (pe_op (op_bf B_Stretch_Mult hr (by omega) (passes_call (takes_of rfl rfl rfl rfl) (fun _ _ _ _ h => h))) (pe_op (op_bf B_Stretch_Mult hr (by omega) (passes_call (takes_of rfl rfl rfl rfl) (fun _ _ _ _ h => h))) (pv 13) (pv 9)) (pv 10)) (pe_op (op_bf B_Stretch_Mult hr (by omega) (passes_call (takes_of rfl rfl rfl rfl) (fun _ _ _ _ h => h))) (pv 13) (pe_op op_mulW (pv 9) (pv 10))) (nomark _))) (pss_one (ps_ret pe_bl)) pss_nil)
      (pss_cons (ps_if (pt_not (pt_cmpR (op_eqo Q_Stretch hr (by omega) passL) (pe_op (op_bc B_Stretch_Add hr (by omega) passL) (pe_op (op_bf B_Stretch_Mult hr (by omega) (passes_call (takes_of rfl rfl rfl rfl) (fun _ _ _ _ h => h))) (pv 13) (pv 9)) (pe_op (op_bf B_Stretch_Mult hr (by omega) (passes_call (takes_of rfl rfl rfl rfl) (fun _ _ _ _ h => h))) (pv 13) (pv 10))) (pe_op (op_bf B_Stretch_Mult hr (by omega) (passes_call (takes_of rfl rfl rfl rfl) (fun _ _ _ _ h => h))) (pv 13) (pe_op op_add (pv 9) (pv 10))) (nomark _))) (pss_one (ps_ret pe_bl)) pss_nil)
      (pss_cons (ps_set (i := 11) sc_law.nd rfl (Or.inl rfl) (pe_op (op_bf B_Stretch_Mult hr (by omega) (passes_call (takes_of rfl rfl rfl rfl) (fun _ _ _ _ h => h))) (pv 13) (pe_op op_pow pe_int pe_int)))
      (pss_cons (ps_if (PW.pt (pw_and (pt_cmpR op_ge (pv 5) (pv 3) (nomark _)) (pw_and (pt_cmpR op_ne (pe_cmpR op_isN1 (pe_prp (pv 11) P_Stretch_need hr (by omega) passL) pe_non (nomark _)) (pe_cmpR op_isN1 (pe_prp (pv 13) P_Stretch_need hr (by omega) passL) pe_non (nomark _)) (nomark _)) (pw_and1 (pt_cmpR op_ge (pv 4) pe_int (nomark _)))))) (pss_one (ps_ret pe_bl)) pss_nil)
      (pss_cons (ps_if (PW.pt (pw_and (pt_cmpR op_notN1 (pe_prp (pv 11) P_Stretch_need hr (by omega) passL) pe_non (nomark _)) (pw_and1 (pt_cmpR op_ne (pe_prp (pv 11) P_Stretch_gain hr (by omega) passL) (pe_op op_mulW (pv 4) (pe_op op_pow pe_int pe_int)) (nomark _))))) (pss_one (ps_ret pe_bl)) pss_nil)
      (pss_cons (ps_set (i := 12) sc_law.nd rfl (Or.inr rfl) (pe_cal G_law_pick hr (by omega) passL (pa_cons (pv 1) (pa_cons (pe_lst (pa_cons pe_int (pa_cons (pe_un un_neg pe_int) (pa_cons (pe_op op_add (pe_op op_pow pe_int pe_int) pe_int) (pa_cons pe_non (pa_cons pe_bl pa_nil)))))) pa_nil))))
      (pss_one (ps_if (pt_cmpR (op_neD hr.units) (LamX.pe_lamcall (k := 73) (T := tb_law Pt) (TT := TTold K Z) (a := "_law_work") (by rfl) hT hkT lkT hcT hbT sc_law_told rfl (Or.inl rfl) (gives_told T) TB rfl (by exact List.Mem.head _) (tb_law_u _) (hr.mono (by decide)) (LamX.lamS_by (sc := defScope s_law) (by decide +kernel)) (by rfl) (fun _ _ _ _ _ => rfl) (fun A outer s H E f c2 hr => (pe_op (op_bf B_Stretch_Mult hr (by omega) (passes_call (takes_of rfl rfl rfl rfl) (fun _ _ _ _ h => h))) (pv 13) (pv 12)))) (pe_tup (pa_cons pe_str (pa_cons pe_str pa_nil))) (nomark _)) (pss_one (ps_ret pe_bl)) pss_nil))))))))))))))))
      (pss_one (ps_ret pe_bl)))), ?_⟩
    obtain ⟨a, ns, rfl, hS, hl, ht, q⟩ := h
    walk_at "rd"
    refine ⟨a, ns, rfl, hS, hl, fun d H1 hd e1 hD => ?_⟩
    walk_at "rd"
    refine r_qrg1 (by decide) (by decide) ?_
    have hT : LamX.Tabs (tb_law Pt) H := fun p hp => by
      rw [List.mem_singleton.mp hp]
      exact LamX.TabS.nil ht
    refine f_rng (fun i σ H' => ∃ x2 x3 x4 x5 x6 x7 x8 x9 x10 x11 x12 x13, σ = [some (.ref a), some (.ref d), x2, x3, x4, x5, x6, x7, x8, x9, x10, x11, x12, x13] ∧ Dice K H' d ∧ LamX.Tabs (tb_law Pt) H')
      ⟨none, none, none, none, none, none, none, none, none, none, none, none, rfl, hD, hT.ext e1⟩ (fun i σ H2 _ h => ?_) (fun σ H2 h => ?_)
    · obtain ⟨x2, x3, x4, x5, x6, x7, x8, x9, x10, x11, x12, x13, rfl, hD2, hT2⟩ := h
      clear hT hD hS hl hd e1 ht
      walk_at "rd"
      refine r_nxt (by decide) (by decide) hD2 fun need H3 n0 n1 x3 => ?_
      have hT3 := tabs_nx hT2 hD2 x3
      walk_at "rd"
      refine r_nxt (by decide) (by decide) x3.dice fun g H4 g0 g1 x4 => ?_
      have hT4 := tabs_nx hT3 x3.dice x4
      walk_at "rd"
      refine r_nxt (by decide) (by decide) x4.dice fun top H5 t0 t1 x5 => ?_
      have hT5 := tabs_nx hT4 x4.dice x5
      have hD5 := x5.dice
      clear x3 x4 x5 hT4 hT3 hT2 hD2
      have ok5 : (⟨some need, g - need, top⟩ : Str3).Ok := ⟨n0, by show 0 ≤ need + (g - need); omega, t0⟩
      walk_at "rd"
      refine mk_st3 ok5 (fun v1 H6 e6 hv1 => ?_)
      walk_at "rd"
      refine ⟨by show 1 ≤ sizeLine; decide, fun l1 hl1 => ?_⟩
      walk_at "rd"
      refine ⟨l1, 7, _, rfl, rfl, upd_same, by decide, by decide, by show 1 * 7 ≤ sizeLine; decide, fun l2 hl2 => ?_⟩
      walk_at "rd"
      refine ⟨rfl, fun v2 H7 e7 hv2 => ?_⟩
      walk_at "rd"
      refine ⟨by show 1 ≤ sizeLine; decide, fun l3 hl3 => ?_⟩
      walk_at "rd"
      refine ⟨l2, l3, (List.replicate 7 [V.ref v1]).flatten, [v2], rfl, rfl, by rw [upd_ne (ne_of_none (e7 _ _ upd_same) hl3)]; exact e7 _ _ upd_same, upd_same, by show 7 + 1 ≤ sizeLine; decide, fun l4 hl4 => ?_⟩
      have e8 := e6.trans ((Same.new hl1).trans ((Same.new hl2).trans (e7.trans ((Same.new hl3).trans (Same.new (o := .lst ((List.replicate 7 [V.ref v1]).flatten ++ [v2])) hl4)))))
      walk_at "rd"
      refine ⟨d, l4, (List.replicate 7 [V.ref v1]).flatten ++ [v2], rfl, rfl, upd_same, (hD5.same (e6.trans ((Same.new hl1).trans ((Same.new hl2).trans (e7.trans (Same.new hl3)))))).fresh hl4, by show 0 < 8; decide, by show 8 ≤ 1000; decide, hD5.same e8, fun v H8 hv x8 => ?_⟩
      have hT8 := tabs_nx (hT5.ext e8) (hD5.same e8) x8
      obtain ⟨s, hs, ok, cs⟩ : ∃ s, StAt Z.Stretch H8 v s ∧ s.Ok ∧ (s = ⟨some need, g - need, top⟩ ∨ s = .barred) := by
        rcases List.mem_append.mp hv with hv | hv
        · have hv1e : v = .ref v1 := by
            obtain ⟨l, h1, h2⟩ := List.mem_flatten.mp hv
            rw [(List.mem_replicate.mp h1).2] at h2
            exact List.mem_singleton.mp h2
          rw [hv1e]
          exact ⟨_, StAt.nx x8 (hD5.same e8) (hv1.mono ((Same.new hl1).trans ((Same.new hl2).trans (e7.trans ((Same.new hl3).trans (Same.new hl4)))))), ok5, .inl rfl⟩
        · rw [List.mem_singleton.mp hv]
          exact ⟨_, StAt.nx x8 (hD5.same e8) (hv2.mono ((Same.new hl3).trans (Same.new hl4))), Str3.ok_barred, .inr rfl⟩
      have hD8 := x8.dice
      clear e8 x8 hv hv1 hv2 hT5 hD5 hl1 hl2 hl3 hl4 e6 e7
      walk_at "rd"
      refine r_nxt (by decide) (by decide) hD8 fun sm H9 s0 s1 x9 => ?_
      have hT9 := tabs_nx hT8 hD8 x9
      have hs9 := StAt.nx x9 hD8 hs
      have hD9 := x9.dice
      clear hT8 hs x9 hD8
      walk_at "rd"
      refine r_qrg1 (by omega) (by omega) ?_
      refine f_rng (fun j σ H' => ∃ y8 wv, σ = [some (.ref a), some (.ref d), some (.int (0 + i)), some (.int need), some (.int (g - need)), some (.int top), some (.int (1 + sm)), some wv, y8, x9, x10, x11, x12, some v] ∧ Same H9 H' ∧ StAt Z.Stretch H' wv (s.mul (j + 1))) ?_ (fun k σ H10 _ h => ?_) (fun σ H10 h => ?_)
      · exact ⟨_, v, rfl, Same.refl _, hs9⟩
      · obtain ⟨y8, wv, rfl, e, hw⟩ := h
        walk_at "rd"
        refine r_addS hw (hs9.mono e) (Str3.ok_mul ok _) ok (fun z H11 e2 hz => ?_)
        walk_at "rd"
        refine ⟨_, z, rfl, e.trans e2, ?_⟩
        rw [show ((k + 1 : Nat) : Int) + 1 = ((k : Int) + 1) + 1 by omega, Str3.mul_succ (by omega)]
        exact hz
      · obtain ⟨y8, wv, rfl, e, hw⟩ := h
        rw [show (((1 + sm - 1).toNat : Nat) : Int) + 1 = 1 + sm by omega] at hw
        have hD10 := hD9.same e
        have hT10 := hT9.ext e
        have hs10 := hs9.mono e
        clear hT9 hD9 hs9 e
        walk_at "rd"
        refine r_mulS hs10 ok (by omega) (by omega) (fun z H11 e2 hz => ?_)
        walk_at "rd"
        refine r_eqS hz (hw.mono e2) ?_
        walk_at "rd"
        refine r_F (by simp) ?_
        have hD11 := hD10.same e2
        have hT11 := hT10.ext e2
        have hs11 := hs10.mono e2
        clear hT10 hD10 hs10 e2 hw hz
        walk_at "rd"
        refine r_mulS hs11 ok (by decide) (by decide) (fun z H12 e2 hz => ?_)
        walk_at "rd"
        refine r_eqS hz (hs11.mono e2) ?_
        walk_at "rd"
        refine r_F (by simp [Str3.mul_one]) ?_
        have hD12 := hD11.same e2
        have hT12 := hT11.ext e2
        have hs12 := hs11.mono e2
        clear hT11 hD11 hs11 e2 hz
        walk_at "rd"
        refine r_I ⟨by decide, by decide, by decide⟩ ?_
        walk_at "rd"
        refine r_nxt (by decide) (by decide) hD12 fun one H13 o0 o1 x13 => ?_
        have hD13 := x13.dice
        have hT13 := tabs_nx hT12 hD12 x13
        have hs13 := StAt.nx x13 hD12 hs12
        clear hT12 hD12 hs12 x13
        walk_at "rd"
        refine r_I ⟨by decide, by decide, by decide⟩ ?_
        walk_at "rd"
        refine r_nxt (by decide) (by decide) hD13 fun two H14 w0 w1 x14 => ?_
        have hD14 := x14.dice
        have hT14 := tabs_nx hT13 hD13 x14
        have hs14 := StAt.nx x14 hD13 hs13
        clear hT13 hD13 hs13 x14
        have o2 : one < 100000000 := o1
        have w2 : two < 100000000 := w1
        clear o1 w1
        have p1 := two_mul o0 o2 w0 w2
        walk_at "rd"
        refine r_mulS hs14 ok (by omega) (by omega) (fun z1 H15 e1 hz1 => ?_)
        walk_at "rd"
        refine r_mulS hz1 (Str3.ok_mul ok _) (by omega) (by omega) (fun z2 H16 e2 hz2 => ?_)
        rw [Str3.mul_mul (by omega) (by omega)] at hz2
        walk_at "rd"
        refine r_I (wide_mul (a := 40) (b := 40) (by omega) (by omega) (by decide) (by decide) (by decide)) ?_
        walk_at "rd"
        refine r_mulS (hs14.mono (e1.trans e2)) ok p1.1 p1.2 (fun z3 H17 e3 hz3 => ?_)
        walk_at "rd"
        refine r_eqS (hz2.mono e3) hz3 ?_
        walk_at "rd"
        refine r_F (by simp) ?_
        have hD17 := hD14.same (e1.trans (e2.trans e3))
        have hT17 := hT14.ext (e1.trans (e2.trans e3))
        have hs17 := hs14.mono (e1.trans (e2.trans e3))
        clear hT14 hD14 hs14 e1 e2 e3 hz1 hz2 hz3 p1
        walk_at "rd"
        refine r_mulS hs17 ok (by omega) (by omega) (fun z1 H18 e1 hz1 => ?_)
        walk_at "rd"
        refine r_mulS (hs17.mono e1) ok (by omega) (by omega) (fun z2 H19 e2 hz2 => ?_)
        walk_at "rd"
        refine r_addS (hz1.mono e2) hz2 (Str3.ok_mul ok _) (Str3.ok_mul ok _) (fun z3 H20 e3 hz3 => ?_)
        rw [Str3.mul_add (by omega) (by omega)] at hz3
        walk_at "rd"
        refine r_mulS (hs17.mono (e1.trans (e2.trans e3))) ok (by omega) (by omega) (fun z4 H21 e4 hz4 => ?_)
        walk_at "rd"
        refine r_eqS (hz3.mono e4) hz4 ?_
        walk_at "rd"
        refine r_F (by simp) ?_
        have hD21 := hD17.same (e1.trans (e2.trans (e3.trans e4)))
        have hT21 := hT17.ext (e1.trans (e2.trans (e3.trans e4)))
        have hs21 := hs17.mono (e1.trans (e2.trans (e3.trans e4)))
        clear hT17 hD17 hs17 e1 e2 e3 e4 hz1 hz2 hz3 hz4
        walk_at "rd"
        refine r_I ⟨by decide, by decide, by decide⟩ ?_
        refine r_mulS hs21 ok (by decide) (by decide) (fun far H22 e2 hf => ?_)
        obtain ⟨fa, efa, fa1, fa2⟩ := far_mul cs (10 ^ Int.toNat 18) (by decide)
        rw [efa] at hf
        have hD22 := hD21.same e2
        have hT22 := hT21.ext e2
        have hs22 := hs21.mono e2
        clear hT21 hD21 hs21 e2 efa
        refine r_gname ?_
        refine f_seq ?_
        refine f_off (fun R hR => ?_) ?_
        · walk_at "rd"
          refine r_by (fun c1 => ?_) (fun _ => hR)
          walk_at "rd"
          refine r_needS hf ?_
          walk_at "rd"
          refine r_needS hs22 ?_
          walk_at "rd"
          refine r_by (fun c2 => ?_) (fun _ => hR)
          walk_at "rd"
          have c3 : decide (0 ≤ g - need) = false := by
            refine decide_eq_false fun hg => ?_
            rw [nv_none, nv_none, fa1 (of_decide_eq_true c1) hg] at c2
            simp at c2
          rw [c3]
          exact hR
        refine f_next ?_
        refine f_seq ?_
        refine f_off (fun R hR => ?_) ?_
        · walk_at "rd"
          refine r_needS hf ?_
          walk_at "rd"
          refine r_by (fun c1 => ?_) (fun _ => hR)
          walk_at "rd"
          refine r_gainS hf ?_
          walk_at "rd"
          refine r_I ⟨by decide, by decide, by decide⟩ ?_
          refine r_I (wide_mul (a := 40) (b := 80) (by omega) (by decide) (by decide) (by decide) (by decide)) ?_
          rw [nv_none] at c1
          rw [fa2 (by simpa using c1)]
          walk_at "rd"
          rw [show (!decide (V.int ((g - need) * 10 ^ Int.toNat 18) = V.int ((g - need) * 10 ^ Int.toNat 18))) = false by simp]
          exact hR
        clear hf
        walk_at "rd"
        refine r_I ⟨by decide, by decide, by decide⟩ ?_
        walk_at "rd"
        refine ⟨by show 5 ≤ sizeLine; decide, fun l hl => ?_⟩
        walk_at "rd"
        refine ⟨d, l, _, rfl, rfl, upd_same, hD22.fresh hl, by show 0 < 5; decide, by show 5 ≤ 1000; decide, hD22.same (Same.new hl), fun bad H23 hb x23 => ?_⟩
        have hD23 := x23.dice
        have hT23 := tabs_nx (hT22.ext (Same.new hl)) (hD22.same (Same.new hl)) x23
        have hs23 := StAt.nx x23 (hD22.same (Same.new hl)) (hs22.mono (Same.new hl))
        clear hT22 hD22 hs22 x23 hl
        have hbad : ∀ H : Hp, ∃ T, Flat bad T ∧ Kn K H bad T ∧ T ∈ ["int", "NoneType", "bool"] ∧ numIn 1 1000000000000000000 bad = false := fun H => by
          simp only [List.mem_cons, List.not_mem_nil, or_false] at hb
          rcases hb with rfl | rfl | rfl | rfl | rfl
          · exact ⟨"int", .int _, .int _, by decide, rfl⟩
          · exact ⟨"int", .int _, .int _, by decide, rfl⟩
          · exact ⟨"int", .int _, .int _, by decide, rfl⟩
          · exact ⟨"NoneType", .non, .non, by decide, rfl⟩
          · exact ⟨"bool", .bl _, .bl _, by decide, rfl⟩
        walk_at "rd"
        refine r_lam hT23 (fun H24 eN hT24 => ?_)
        have hD24 := hD23.ext eN
        have hs24 := StAt.ext eN hs23
        clear hT23 hD23 hs23 eN
        unfold TTold
        walk_at "rd"
        obtain ⟨T', b1, b2, b3, b4⟩ := hbad H24
        refine r_mulBad hs24 ok b1 b2 b3 b4 ?_
        refine ⟨rfl, rfl, fun p H25 e3 hp => ?_⟩
        walk_at "rd"
        refine ⟨by show 2 ≤ sizeLine; decide, fun p2 hp2 => ?_⟩
        refine r_neErr (Same.new hp2 _ _ hp) upd_same ?_
        have e4 := e3.trans (Same.new (o := .tup [.str "error", .str "InvalidNumber"]) hp2)
        walk_at "rd"
        exact ⟨_, _, _, _, _, _, _, _, _, _, _, _, rfl, hD24.same e4, hT24.ext e4⟩
    · obtain ⟨x2, x3, x4, x5, x6, x7, x8, x9, x10, x11, x12, x13, rfl, _, _⟩ := h
      walk_at "rd"
      exact q _
end

theorem notc_mk {K : PySem.W.Frag} {C : Addr} (h1 : PySem.W.kitOne K (.type "NoneType") (.ref C) = some false) (h2 : PySem.W.kitOne K (.type "bool") (.ref C) = some false) (h3 : PySem.W.kitOne K (.type "int") (.ref C) = some false) (h4 : PySem.W.kitOne K (.type "str") (.ref C) = some false) (h5 : PySem.W.kitOne K (.type "tuple") (.ref C) = some false) (h6 : PySem.W.kitOne K (.type "list") (.ref C) = some false) : NotC K C := fun T hT => by
  simp only [List.mem_cons, List.not_mem_nil, or_false] at hT
  rcases hT with rfl | rfl | rfl | rfl | rfl | rfl <;> assumption
section
open PySem.W
theorem kit_same {K : Frag} {t : Value} : kitOne K t t = some true := by
  unfold kitOne
  rw [if_pos (beq_self_eq_true _)]
theorem kit_cls1 {K : Frag} {C : Addr} {t : Value} {b : Bool} (hi : isClsIn K C = true) (ht : typeIn K (.ref C) = some (.type "type")) (hs : subIn K t (.ref C) = some b) : kitCls K t (.ref C) = some b := by
  show (if ((clsIn K C).isSome && typeIn K (Value.ref C) == some (Value.type "type")) = true then subIn K t (Value.ref C) else none) = some b
  have h1 : (clsIn K C).isSome = true := hi
  rw [h1, ht, beq_self_eq_true, hs]
  rfl
theorem kit_ref {K : Frag} {C : Addr} {t : Value} {b : Bool} (hn : (t == .ref C) = false) (hi : isClsIn K C = true) (ht : typeIn K (.ref C) = some (.type "type")) (hs : subIn K t (.ref C) = some b) : kitOne K t (.ref C) = some b := by
  unfold kitOne
  rw [hn, if_neg Bool.false_ne_true]
  exact kit_cls1 hi ht hs
theorem kit_ty {K : Frag} {T : String} {t : Value} {b : Bool} (hn : (t == .type T) = false) (hm : kitMeta T = true) (hs : subIn K t (.type T) = some b) : kitOne K t (.type T) = some b := by
  unfold kitOne
  rw [hn, if_neg Bool.false_ne_true]
  show (if kitMeta T = true then subIn K t (Value.type T) else none) = some b
  rw [if_pos hm]
  exact hs
theorem exm_own {K : Frag} {C : Addr} {t : Value} {b : Bool} (hb : subIn K (.ref C) (.type "BaseException") = some true) (hi : isClsIn K C = true) (ht : typeIn K (.ref C) = some (.type "type")) (hs : subIn K t (.ref C) = some b) : exmOne K t (.ref C) = some b := by
  unfold exmOne
  rw [hb, beq_self_eq_true, if_pos rfl]
  exact kit_cls1 hi ht hs
end
theorem all_mk {l : PySem.W.OpenLaw} {w : World} {K : PySem.W.Frag} {h : Heap} {mg : Str → Option Value} {fa Pt : Addr} (KX : K.In h) (G : h.Ns mainGlobals mg) (hfa : mg "law" = some (.ref fa)) (hPt : h.get? Pt = some { cls := .none, data := .fields #[] })
    {z_WalkError z_InvalidWay z_UnknownPost z_InvalidNumber z_InvalidStretch z_Stretch f_is_number w_Stretch_need f_Stretch_need w_Stretch_gain f_Stretch_gain f_Stretch_eq f_law_dice f_law_next f_is_number_from f_is_number_within f_law_pick f_check_number_from f_check_number_within f_Stretch_init w_Stretch_barred f_Stretch_barred f_Stretch_add f_repeated f_Stretch_mul f_law f_law_told cc_law : Addr} {oc_is_number kV_is_number dc_is_number pm_is_number ct_is_number cd_is_number oc_Stretch_need kV_Stretch_need dc_Stretch_need pm_Stretch_need ct_Stretch_need cd_Stretch_need oc_Stretch_gain kV_Stretch_gain dc_Stretch_gain pm_Stretch_gain ct_Stretch_gain cd_Stretch_gain oc_Stretch_eq kV_Stretch_eq dc_Stretch_eq pm_Stretch_eq ct_Stretch_eq cd_Stretch_eq oc_law_dice kV_law_dice dc_law_dice pm_law_dice ct_law_dice cd_law_dice oc_law_next kV_law_next dc_law_next pm_law_next ct_law_next cd_law_next oc_is_number_from kV_is_number_from dc_is_number_from pm_is_number_from ct_is_number_from cd_is_number_from oc_is_number_within kV_is_number_within dc_is_number_within pm_is_number_within ct_is_number_within cd_is_number_within oc_law_pick kV_law_pick dc_law_pick pm_law_pick ct_law_pick cd_law_pick oc_check_number_from kV_check_number_from dc_check_number_from pm_check_number_from ct_check_number_from cd_check_number_from oc_check_number_within kV_check_number_within dc_check_number_within pm_check_number_within ct_check_number_within cd_check_number_within oc_Stretch_init kV_Stretch_init dc_Stretch_init pm_Stretch_init ct_Stretch_init cd_Stretch_init oc_Stretch_barred kV_Stretch_barred dc_Stretch_barred pm_Stretch_barred ct_Stretch_barred cd_Stretch_barred oc_Stretch_add kV_Stretch_add dc_Stretch_add pm_Stretch_add ct_Stretch_add cd_Stretch_add oc_repeated kV_repeated dc_repeated pm_repeated ct_repeated cd_repeated oc_Stretch_mul kV_Stretch_mul dc_Stretch_mul pm_Stretch_mul ct_Stretch_mul cd_Stretch_mul oc_law kV_law dc_law pm_law ct_law oc_law_told kV_law_told dc_law_told pm_law_told ct_law_told cd_law_told : Value} {od_is_number an_is_number od_Stretch_need an_Stretch_need od_Stretch_gain an_Stretch_gain od_Stretch_eq an_Stretch_eq od_law_dice an_law_dice od_law_next an_law_next od_is_number_from an_is_number_from od_is_number_within an_is_number_within od_law_pick an_law_pick od_check_number_from an_check_number_from od_check_number_within an_check_number_within od_Stretch_init an_Stretch_init od_Stretch_barred an_Stretch_barred od_Stretch_add an_Stretch_add od_repeated an_repeated od_Stretch_mul an_Stretch_mul od_law an_law od_law_told an_law_told : Option Addr} {sl_is_number sl_Stretch_need sl_Stretch_gain sl_Stretch_eq sl_law_dice sl_law_next sl_is_number_from sl_is_number_within sl_law_pick sl_check_number_from sl_check_number_within sl_Stretch_init sl_Stretch_barred sl_Stretch_add sl_repeated sl_Stretch_mul sl_law sl_law_told : Array (Option Value)} {rest_Stretch_need rest_Stretch_gain rest_Stretch_barred : List Value} {tk_MOST_TIMES : Tok} {ot1_Stretch_mul_int ot2_Stretch_mul_int ot1_Stretch_mul_NoneType ot2_Stretch_mul_NoneType ot1_Stretch_mul_bool ot2_Stretch_mul_bool : Option Value}
    (a_WalkError : PySem.W.nsIn K mainGlobals "WalkError" = some (some (.ref z_WalkError)))
    (a_InvalidWay : PySem.W.nsIn K mainGlobals "InvalidWay" = some (some (.ref z_InvalidWay)))
    (a_UnknownPost : PySem.W.nsIn K mainGlobals "UnknownPost" = some (some (.ref z_UnknownPost)))
    (a_InvalidNumber : PySem.W.nsIn K mainGlobals "InvalidNumber" = some (some (.ref z_InvalidNumber)))
    (a_InvalidStretch : PySem.W.nsIn K mainGlobals "InvalidStretch" = some (some (.ref z_InvalidStretch)))
    (a_Stretch : PySem.W.nsIn K mainGlobals "Stretch" = some (some (.ref z_Stretch)))
    (a_MOST_TIMES : PySem.W.nsIn K mainGlobals "MOST_TIMES" = some (some (.int 1000000000000000000 tk_MOST_TIMES)))
    (n_ValueError : PySem.W.nsIn K mainGlobals "ValueError" = some none)
    (n_bool : PySem.W.nsIn K mainGlobals "bool" = some none)
    (n_int : PySem.W.nsIn K mainGlobals "int" = some none)
    (n_isinstance : PySem.W.nsIn K mainGlobals "isinstance" = some none)
    (n_len : PySem.W.nsIn K mainGlobals "len" = some none)
    (n_max : PySem.W.nsIn K mainGlobals "max" = some none)
    (n_min : PySem.W.nsIn K mainGlobals "min" = some none)
    (n_range : PySem.W.nsIn K mainGlobals "range" = some none)
    (eg_InvalidNumber : PySem.W.findIn K (.ref z_InvalidNumber) "__getattribute__" = some (some (.builtin "BaseException.__getattribute__")))
    (ek_InvalidNumber : PySem.W.findIn K (.ref z_InvalidNumber) "__getattr__" = some none)
    (es_InvalidNumber : PySem.W.subIn K (.ref z_InvalidNumber) (.type "BaseException") = some true)
    (ed_InvalidNumber : PySem.W.hasDictIn K z_InvalidNumber = true)
    (ea_InvalidNumber : PySem.W.findIn K (.ref z_InvalidNumber) "__class__" = some (some (.builtin "object.__class__")))
    (hn_oc : PySem.W.specialIn K (.builtin "object.__class__") "__get__" = some (some (.builtin "getset_descriptor.__get__")))
    (ht_oc : PySem.W.takesIn K (.builtin "object.__class__") = some true)
    (em_InvalidNumber : PySem.W.mroIn K z_InvalidNumber (.type "object") = some true)
    (ic_InvalidWay : PySem.W.isClsIn K z_InvalidWay = true)
    (ty_InvalidWay : PySem.W.typeIn K (.ref z_InvalidWay) = some (.type "type"))
    (e0_InvalidNumber : PySem.W.subIn K (.ref z_InvalidNumber) (.ref z_InvalidWay) = some false)
    (d0_InvalidNumber : (Value.ref z_InvalidNumber == Value.ref z_InvalidWay) = false)
    (ic_InvalidStretch : PySem.W.isClsIn K z_InvalidStretch = true)
    (ty_InvalidStretch : PySem.W.typeIn K (.ref z_InvalidStretch) = some (.type "type"))
    (e1_InvalidNumber : PySem.W.subIn K (.ref z_InvalidNumber) (.ref z_InvalidStretch) = some false)
    (d1_InvalidNumber : (Value.ref z_InvalidNumber == Value.ref z_InvalidStretch) = false)
    (ic_UnknownPost : PySem.W.isClsIn K z_UnknownPost = true)
    (ty_UnknownPost : PySem.W.typeIn K (.ref z_UnknownPost) = some (.type "type"))
    (e2_InvalidNumber : PySem.W.subIn K (.ref z_InvalidNumber) (.ref z_UnknownPost) = some false)
    (d2_InvalidNumber : (Value.ref z_InvalidNumber == Value.ref z_UnknownPost) = false)
    (ev_InvalidNumber : PySem.W.subIn K (.ref z_InvalidNumber) (.type "ValueError") = some true)
    (ic_WalkError : PySem.W.isClsIn K z_WalkError = true)
    (ty_WalkError : PySem.W.typeIn K (.ref z_WalkError) = some (.type "type"))
    (bb_WalkError : PySem.W.subIn K (.ref z_WalkError) (.type "BaseException") = some true)
    (ex_InvalidNumber : PySem.W.subIn K (.ref z_InvalidNumber) (.ref z_WalkError) = some true)
    (pgc_Stretch : PySem.W.plainGet K z_Stretch Str.empty = true)
    (hdc_Stretch : PySem.W.hasDictIn K z_Stretch = true)
    (poc_Stretch : PySem.W.plainOver K z_Stretch = true)
    (sac_Stretch : PySem.W.findIn K (.ref z_Stretch) "__setattr__" = some (some (.builtin "object.__setattr__")))
    (hac_Stretch : PySem.W.findIn K (.ref z_Stretch) "__class__" = some (some (.builtin "object.__class__")))
    (hmc_Stretch : PySem.W.mroIn K z_Stretch (.type "object") = some true)
    (ic_Stretch : PySem.W.isClsIn K z_Stretch = true)
    (ty_Stretch : PySem.W.typeIn K (.ref z_Stretch) = some (.type "type"))
    (nc_Stretch_NoneType : PySem.W.subIn K (.type "NoneType") (.ref z_Stretch) = some false)
    (nc_Stretch_bool : PySem.W.subIn K (.type "bool") (.ref z_Stretch) = some false)
    (nc_Stretch_int : PySem.W.subIn K (.type "int") (.ref z_Stretch) = some false)
    (nc_Stretch_str : PySem.W.subIn K (.type "str") (.ref z_Stretch) = some false)
    (nc_Stretch_tuple : PySem.W.subIn K (.type "tuple") (.ref z_Stretch) = some false)
    (nc_Stretch_list : PySem.W.subIn K (.type "list") (.ref z_Stretch) = some false)
    (x_a_need : PySem.W.findIn K (.ref z_Stretch) "_need" = some none)
    (x_a_gain : PySem.W.findIn K (.ref z_Stretch) "_gain" = some none)
    (x_a_top : PySem.W.findIn K (.ref z_Stretch) "_top" = some none)
    (x_x_InvalidNumber : PySem.W.excIn K z_InvalidNumber [.type "ValueError", .type "Exception", .type "BaseException", .type "object"] "ValueError.__new__" = true)
    (x_k_InvalidNumber : PySem.W.keepIn K (.ref z_InvalidNumber) = true)
    (x_b_InvalidNumber : PySem.W.subIn K (.ref z_InvalidNumber) (.type "BaseException") = some true)
    (x_t_InvalidNumber : PySem.W.typeIn K (.ref z_InvalidNumber) = some (.type "type"))
    (a_is_number : PySem.W.nsIn K mainGlobals "is_number" = some (some (.ref f_is_number)))
    (l_is_number : K.lookup f_is_number = some ⟨oc_is_number, od_is_number, .func (PySem.W.fnOf "is_number" "is_number" (defArgs s_is_number) (defBody s_is_number) (defScope s_is_number) .none kV_is_number dc_is_number pm_is_number an_is_number cd_is_number ct_is_number), sl_is_number⟩)
    (c_is_number : PySem.W.codeIn K cd_is_number "is_number" = true)
    (k_is_number : PySem.W.keepIn K (.ref f_is_number) = true)
    (pa_Stretch_need : PySem.W.findIn K (.ref z_Stretch) "need" = some (some (.ref w_Stretch_need)))
    (pg_Stretch_need : PySem.W.specialIn K (.ref w_Stretch_need) "__get__" = some (some (.builtin "property.__get__")))
    (pt_Stretch_need : PySem.W.takesIn K (.ref w_Stretch_need) = some true)
    (pr_Stretch_need : PySem.W.recIn K w_Stretch_need "property" = some (.ref f_Stretch_need :: rest_Stretch_need))
    (l_Stretch_need : K.lookup f_Stretch_need = some ⟨oc_Stretch_need, od_Stretch_need, .func (PySem.W.fnOf "need" "Stretch.need" (defArgs s_Stretch_need) (defBody s_Stretch_need) (defScope s_Stretch_need) .none kV_Stretch_need dc_Stretch_need pm_Stretch_need an_Stretch_need cd_Stretch_need ct_Stretch_need), sl_Stretch_need⟩)
    (c_Stretch_need : PySem.W.codeIn K cd_Stretch_need "Stretch.need" = true)
    (k_Stretch_need : PySem.W.keepIn K (.ref f_Stretch_need) = true)
    (pa_Stretch_gain : PySem.W.findIn K (.ref z_Stretch) "gain" = some (some (.ref w_Stretch_gain)))
    (pg_Stretch_gain : PySem.W.specialIn K (.ref w_Stretch_gain) "__get__" = some (some (.builtin "property.__get__")))
    (pt_Stretch_gain : PySem.W.takesIn K (.ref w_Stretch_gain) = some true)
    (pr_Stretch_gain : PySem.W.recIn K w_Stretch_gain "property" = some (.ref f_Stretch_gain :: rest_Stretch_gain))
    (l_Stretch_gain : K.lookup f_Stretch_gain = some ⟨oc_Stretch_gain, od_Stretch_gain, .func (PySem.W.fnOf "gain" "Stretch.gain" (defArgs s_Stretch_gain) (defBody s_Stretch_gain) (defScope s_Stretch_gain) .none kV_Stretch_gain dc_Stretch_gain pm_Stretch_gain an_Stretch_gain cd_Stretch_gain ct_Stretch_gain), sl_Stretch_gain⟩)
    (c_Stretch_gain : PySem.W.codeIn K cd_Stretch_gain "Stretch.gain" = true)
    (k_Stretch_gain : PySem.W.keepIn K (.ref f_Stretch_gain) = true)
    (a_Stretch_eq : PySem.W.findIn K (.ref z_Stretch) "__eq__" = some (some (.ref f_Stretch_eq)))
    (i_Stretch_eq : PySem.W.isFn K (.ref f_Stretch_eq) = true)
    (l_Stretch_eq : K.lookup f_Stretch_eq = some ⟨oc_Stretch_eq, od_Stretch_eq, .func (PySem.W.fnOf "__eq__" "Stretch.__eq__" (defArgs s_Stretch_eq) (defBody s_Stretch_eq) (defScope s_Stretch_eq) .none kV_Stretch_eq dc_Stretch_eq pm_Stretch_eq an_Stretch_eq cd_Stretch_eq ct_Stretch_eq), sl_Stretch_eq⟩)
    (c_Stretch_eq : PySem.W.codeIn K cd_Stretch_eq "Stretch.__eq__" = true)
    (k_Stretch_eq : PySem.W.keepIn K (.ref f_Stretch_eq) = true)
    (a_law_dice : PySem.W.nsIn K mainGlobals "_law_dice" = some (some (.ref f_law_dice)))
    (l_law_dice : K.lookup f_law_dice = some ⟨oc_law_dice, od_law_dice, .func (PySem.W.fnOf "_law_dice" "_law_dice" (defArgs s_law_dice) (defBody s_law_dice) (defScope s_law_dice) .none kV_law_dice dc_law_dice pm_law_dice an_law_dice cd_law_dice ct_law_dice), sl_law_dice⟩)
    (c_law_dice : PySem.W.codeIn K cd_law_dice "_law_dice" = true)
    (k_law_dice : PySem.W.keepIn K (.ref f_law_dice) = true)
    (a_law_next : PySem.W.nsIn K mainGlobals "_law_next" = some (some (.ref f_law_next)))
    (l_law_next : K.lookup f_law_next = some ⟨oc_law_next, od_law_next, .func (PySem.W.fnOf "_law_next" "_law_next" (defArgs s_law_next) (defBody s_law_next) (defScope s_law_next) .none kV_law_next dc_law_next pm_law_next an_law_next cd_law_next ct_law_next), sl_law_next⟩)
    (c_law_next : PySem.W.codeIn K cd_law_next "_law_next" = true)
    (k_law_next : PySem.W.keepIn K (.ref f_law_next) = true)
    (a_is_number_from : PySem.W.nsIn K mainGlobals "is_number_from" = some (some (.ref f_is_number_from)))
    (l_is_number_from : K.lookup f_is_number_from = some ⟨oc_is_number_from, od_is_number_from, .func (PySem.W.fnOf "is_number_from" "is_number_from" (defArgs s_is_number_from) (defBody s_is_number_from) (defScope s_is_number_from) .none kV_is_number_from dc_is_number_from pm_is_number_from an_is_number_from cd_is_number_from ct_is_number_from), sl_is_number_from⟩)
    (c_is_number_from : PySem.W.codeIn K cd_is_number_from "is_number_from" = true)
    (k_is_number_from : PySem.W.keepIn K (.ref f_is_number_from) = true)
    (a_is_number_within : PySem.W.nsIn K mainGlobals "is_number_within" = some (some (.ref f_is_number_within)))
    (l_is_number_within : K.lookup f_is_number_within = some ⟨oc_is_number_within, od_is_number_within, .func (PySem.W.fnOf "is_number_within" "is_number_within" (defArgs s_is_number_within) (defBody s_is_number_within) (defScope s_is_number_within) .none kV_is_number_within dc_is_number_within pm_is_number_within an_is_number_within cd_is_number_within ct_is_number_within), sl_is_number_within⟩)
    (c_is_number_within : PySem.W.codeIn K cd_is_number_within "is_number_within" = true)
    (k_is_number_within : PySem.W.keepIn K (.ref f_is_number_within) = true)
    (a_law_pick : PySem.W.nsIn K mainGlobals "_law_pick" = some (some (.ref f_law_pick)))
    (l_law_pick : K.lookup f_law_pick = some ⟨oc_law_pick, od_law_pick, .func (PySem.W.fnOf "_law_pick" "_law_pick" (defArgs s_law_pick) (defBody s_law_pick) (defScope s_law_pick) .none kV_law_pick dc_law_pick pm_law_pick an_law_pick cd_law_pick ct_law_pick), sl_law_pick⟩)
    (c_law_pick : PySem.W.codeIn K cd_law_pick "_law_pick" = true)
    (k_law_pick : PySem.W.keepIn K (.ref f_law_pick) = true)
    (a_check_number_from : PySem.W.nsIn K mainGlobals "check_number_from" = some (some (.ref f_check_number_from)))
    (l_check_number_from : K.lookup f_check_number_from = some ⟨oc_check_number_from, od_check_number_from, .func (PySem.W.fnOf "check_number_from" "check_number_from" (defArgs s_check_number_from) (defBody s_check_number_from) (defScope s_check_number_from) .none kV_check_number_from dc_check_number_from pm_check_number_from an_check_number_from cd_check_number_from ct_check_number_from), sl_check_number_from⟩)
    (c_check_number_from : PySem.W.codeIn K cd_check_number_from "check_number_from" = true)
    (k_check_number_from : PySem.W.keepIn K (.ref f_check_number_from) = true)
    (a_check_number_within : PySem.W.nsIn K mainGlobals "check_number_within" = some (some (.ref f_check_number_within)))
    (l_check_number_within : K.lookup f_check_number_within = some ⟨oc_check_number_within, od_check_number_within, .func (PySem.W.fnOf "check_number_within" "check_number_within" (defArgs s_check_number_within) (defBody s_check_number_within) (defScope s_check_number_within) .none kV_check_number_within dc_check_number_within pm_check_number_within an_check_number_within cd_check_number_within ct_check_number_within), sl_check_number_within⟩)
    (c_check_number_within : PySem.W.codeIn K cd_check_number_within "check_number_within" = true)
    (k_check_number_within : PySem.W.keepIn K (.ref f_check_number_within) = true)
    (a_Stretch_init : PySem.W.findIn K (.ref z_Stretch) "__init__" = some (some (.ref f_Stretch_init)))
    (i_Stretch_init : PySem.W.isFn K (.ref f_Stretch_init) = true)
    (l_Stretch_init : K.lookup f_Stretch_init = some ⟨oc_Stretch_init, od_Stretch_init, .func (PySem.W.fnOf "__init__" "Stretch.__init__" (defArgs s_Stretch_init) (defBody s_Stretch_init) (defScope s_Stretch_init) .none kV_Stretch_init dc_Stretch_init pm_Stretch_init an_Stretch_init cd_Stretch_init ct_Stretch_init), sl_Stretch_init⟩)
    (c_Stretch_init : PySem.W.codeIn K cd_Stretch_init "Stretch.__init__" = true)
    (k_Stretch_init : PySem.W.keepIn K (.ref f_Stretch_init) = true)
    (cr_Stretch : PySem.W.readsIn K z_Stretch (.type "type") = true)
    (cg_Stretch : PySem.W.specialIn K (.ref z_Stretch) "__getattribute__" = some (some (.builtin "type.__getattribute__")))
    (ca_Stretch_barred : PySem.W.findCls K (.ref z_Stretch) (.type "type") "barred" = some (.get (.builtin "classmethod.__get__") (.ref w_Stretch_barred) .none (.ref z_Stretch)))
    (cc_Stretch_barred : PySem.W.recIn K w_Stretch_barred "classmethod" = some (.ref f_Stretch_barred :: rest_Stretch_barred))
    (cf_Stretch_barred : PySem.W.fnIn K f_Stretch_barred = true)
    (l_Stretch_barred : K.lookup f_Stretch_barred = some ⟨oc_Stretch_barred, od_Stretch_barred, .func (PySem.W.fnOf "barred" "Stretch.barred" (defArgs s_Stretch_barred) (defBody s_Stretch_barred) (defScope s_Stretch_barred) .none kV_Stretch_barred dc_Stretch_barred pm_Stretch_barred an_Stretch_barred cd_Stretch_barred ct_Stretch_barred), sl_Stretch_barred⟩)
    (c_Stretch_barred : PySem.W.codeIn K cd_Stretch_barred "Stretch.barred" = true)
    (k_Stretch_barred : PySem.W.keepIn K (.ref f_Stretch_barred) = true)
    (mk_Stretch : PySem.W.makesIn K z_Stretch = true)
    (kc_Stretch : PySem.W.keepIn K (.ref z_Stretch) = true)
    (a_Stretch_add : PySem.W.findIn K (.ref z_Stretch) "__add__" = some (some (.ref f_Stretch_add)))
    (i_Stretch_add : PySem.W.isFn K (.ref f_Stretch_add) = true)
    (l_Stretch_add : K.lookup f_Stretch_add = some ⟨oc_Stretch_add, od_Stretch_add, .func (PySem.W.fnOf "__add__" "Stretch.__add__" (defArgs s_Stretch_add) (defBody s_Stretch_add) (defScope s_Stretch_add) .none kV_Stretch_add dc_Stretch_add pm_Stretch_add an_Stretch_add cd_Stretch_add ct_Stretch_add), sl_Stretch_add⟩)
    (c_Stretch_add : PySem.W.codeIn K cd_Stretch_add "Stretch.__add__" = true)
    (k_Stretch_add : PySem.W.keepIn K (.ref f_Stretch_add) = true)
    (a_repeated : PySem.W.nsIn K mainGlobals "_repeated" = some (some (.ref f_repeated)))
    (l_repeated : K.lookup f_repeated = some ⟨oc_repeated, od_repeated, .func (PySem.W.fnOf "_repeated" "_repeated" (defArgs s_repeated) (defBody s_repeated) (defScope s_repeated) .none kV_repeated dc_repeated pm_repeated an_repeated cd_repeated ct_repeated), sl_repeated⟩)
    (c_repeated : PySem.W.codeIn K cd_repeated "_repeated" = true)
    (k_repeated : PySem.W.keepIn K (.ref f_repeated) = true)
    (sf_Stretch : PySem.W.selfFirst K z_Stretch = true)
    (a_Stretch_mul : PySem.W.findIn K (.ref z_Stretch) "__mul__" = some (some (.ref f_Stretch_mul)))
    (i_Stretch_mul : PySem.W.isFn K (.ref f_Stretch_mul) = true)
    (l_Stretch_mul : K.lookup f_Stretch_mul = some ⟨oc_Stretch_mul, od_Stretch_mul, .func (PySem.W.fnOf "__mul__" "Stretch.__mul__" (defArgs s_Stretch_mul) (defBody s_Stretch_mul) (defScope s_Stretch_mul) .none kV_Stretch_mul dc_Stretch_mul pm_Stretch_mul an_Stretch_mul cd_Stretch_mul ct_Stretch_mul), sl_Stretch_mul⟩)
    (c_Stretch_mul : PySem.W.codeIn K cd_Stretch_mul "Stretch.__mul__" = true)
    (k_Stretch_mul : PySem.W.keepIn K (.ref f_Stretch_mul) = true)
    (a_law : PySem.W.nsIn K mainGlobals "law" = some (some (.ref f_law)))
    (l_law : K.lookup f_law = some ⟨oc_law, od_law, .func (PySem.W.fnOf "law" "law" (defArgs s_law) (defBody s_law) (defScope s_law) .none kV_law dc_law pm_law an_law (.ref cc_law) ct_law), sl_law⟩)
    (c_law : PySem.W.codeIn K (.ref cc_law) "law" = true)
    (a_law_told : PySem.W.nsIn K mainGlobals "_law_told" = some (some (.ref f_law_told)))
    (l_law_told : K.lookup f_law_told = some ⟨oc_law_told, od_law_told, .func (PySem.W.fnOf "_law_told" "_law_told" (defArgs s_law_told) (defBody s_law_told) (defScope s_law_told) .none kV_law_told dc_law_told pm_law_told an_law_told cd_law_told ct_law_told), sl_law_told⟩)
    (c_law_told : PySem.W.codeIn K cd_law_told "_law_told" = true)
    (k_law_told : PySem.W.keepIn K (.ref f_law_told) = true)
    (rf_Stretch_mul : PySem.W.findIn K (.ref z_Stretch) "__rmul__" = some none)
    (t1_Stretch_mul_int : PySem.W.findIn K (.type "int") "__mul__" = some ot1_Stretch_mul_int)
    (t2_Stretch_mul_int : PySem.W.findIn K (.type "int") "__rmul__" = some ot2_Stretch_mul_int)
    (t3_Stretch_int : PySem.W.subIn K (.type "int") (.ref z_Stretch) = some false)
    (t1_Stretch_mul_NoneType : PySem.W.findIn K (.type "NoneType") "__mul__" = some ot1_Stretch_mul_NoneType)
    (t2_Stretch_mul_NoneType : PySem.W.findIn K (.type "NoneType") "__rmul__" = some ot2_Stretch_mul_NoneType)
    (t3_Stretch_NoneType : PySem.W.subIn K (.type "NoneType") (.ref z_Stretch) = some false)
    (t1_Stretch_mul_bool : PySem.W.findIn K (.type "bool") "__mul__" = some ot1_Stretch_mul_bool)
    (t2_Stretch_mul_bool : PySem.W.findIn K (.type "bool") "__rmul__" = some ot2_Stretch_mul_bool)
    (t3_Stretch_bool : PySem.W.subIn K (.type "bool") (.ref z_Stretch) = some false)
    (nPt : K.lookup Pt = none) (hdL : PySem.W.codeHdIn K cc_law Pt = true) :
    LamX.LawAtS l w K (L2.CX l.prog w) 77 63 "_law_script" mg fa h := by
  have T : Txt K mg ⟨z_WalkError, z_InvalidWay, z_UnknownPost, z_InvalidNumber, z_InvalidStretch, z_Stretch⟩ := ⟨PySem.W.mg_of KX G a_WalkError,
    PySem.W.mg_of KX G a_InvalidWay,
    PySem.W.mg_of KX G a_UnknownPost,
    PySem.W.mg_of KX G a_InvalidNumber,
    PySem.W.mg_of KX G a_InvalidStretch,
    PySem.W.mg_of KX G a_Stretch,
    ⟨_, PySem.W.mg_of KX G a_MOST_TIMES⟩,
    PySem.W.mg_none_of KX G n_ValueError,
    PySem.W.mg_none_of KX G n_bool,
    PySem.W.mg_none_of KX G n_int,
    PySem.W.mg_none_of KX G n_isinstance,
    PySem.W.mg_none_of KX G n_len,
    PySem.W.mg_none_of KX G n_max,
    PySem.W.mg_none_of KX G n_min,
    PySem.W.mg_none_of KX G n_range,
    ⟨⟨eg_InvalidNumber, ek_InvalidNumber, es_InvalidNumber, ed_InvalidNumber, ea_InvalidNumber, hn_oc, ht_oc, em_InvalidNumber⟩, kit_ref d0_InvalidNumber ic_InvalidWay ty_InvalidWay e0_InvalidNumber, kit_ref d1_InvalidNumber ic_InvalidStretch ty_InvalidStretch e1_InvalidNumber, kit_ref d2_InvalidNumber ic_UnknownPost ty_UnknownPost e2_InvalidNumber, kit_same, kit_ty rfl (by decide +kernel) ev_InvalidNumber, exm_own bb_WalkError ic_WalkError ty_WalkError ex_InvalidNumber⟩,
    ⟨⟨pgc_Stretch, hdc_Stretch, poc_Stretch, sac_Stretch⟩, hac_Stretch, hn_oc, ht_oc, hmc_Stretch⟩,
    notc_mk (kit_ref rfl ic_Stretch ty_Stretch nc_Stretch_NoneType) (kit_ref rfl ic_Stretch ty_Stretch nc_Stretch_bool) (kit_ref rfl ic_Stretch ty_Stretch nc_Stretch_int) (kit_ref rfl ic_Stretch ty_Stretch nc_Stretch_str) (kit_ref rfl ic_Stretch ty_Stretch nc_Stretch_tuple) (kit_ref rfl ic_Stretch ty_Stretch nc_Stretch_list),
    x_a_need,
    x_a_gain,
    x_a_top,
    x_x_InvalidNumber,
    x_k_InvalidNumber,
    x_b_InvalidNumber,
    x_t_InvalidNumber⟩
  have F_is_number := fun_mk (st := s_is_number) l_is_number c_is_number k_is_number
  have R_is_number : ∀ base : Heap, K.In base → base.Ns mainGlobals mg → FnR l.prog w K mg base (L2.CX l.prog w) 1 f_is_number (Sp1 (p_is_number K ⟨z_WalkError, z_InvalidWay, z_UnknownPost, z_InvalidNumber, z_InvalidStretch, z_Stretch⟩)) := fun base Kb Nb => ok_is_number F_is_number T
  have F_Stretch_need := fun_mk (st := s_Stretch_need) l_Stretch_need c_Stretch_need k_Stretch_need
  have R_Stretch_need : ∀ base : Heap, K.In base → base.Ns mainGlobals mg → FnR l.prog w K mg base (L2.CX l.prog w) 1 f_Stretch_need (Sp1 (p_Stretch_need K ⟨z_WalkError, z_InvalidWay, z_UnknownPost, z_InvalidNumber, z_InvalidStretch, z_Stretch⟩)) := fun base Kb Nb => ok_Stretch_need F_Stretch_need T
  have F_Stretch_gain := fun_mk (st := s_Stretch_gain) l_Stretch_gain c_Stretch_gain k_Stretch_gain
  have R_Stretch_gain : ∀ base : Heap, K.In base → base.Ns mainGlobals mg → FnR l.prog w K mg base (L2.CX l.prog w) 1 f_Stretch_gain (Sp1 (p_Stretch_gain K ⟨z_WalkError, z_InvalidWay, z_UnknownPost, z_InvalidNumber, z_InvalidStretch, z_Stretch⟩)) := fun base Kb Nb => ok_Stretch_gain F_Stretch_gain T
  have F_Stretch_eq := fun_mk (st := s_Stretch_eq) l_Stretch_eq c_Stretch_eq k_Stretch_eq
  have R_Stretch_eq : ∀ base : Heap, K.In base → base.Ns mainGlobals mg → FnR l.prog w K mg base (L2.CX l.prog w) 1 f_Stretch_eq (Sp2 (p_Stretch_eq K ⟨z_WalkError, z_InvalidWay, z_UnknownPost, z_InvalidNumber, z_InvalidStretch, z_Stretch⟩)) := fun base Kb Nb => ok_Stretch_eq F_Stretch_eq T
  have F_law_dice := fun_mk (st := s_law_dice) l_law_dice c_law_dice k_law_dice
  have R_law_dice : ∀ base : Heap, K.In base → base.Ns mainGlobals mg → FnR l.prog w K mg base (L2.CX l.prog w) 1 f_law_dice (Sp1 (q_dice K)) := fun base Kb Nb => ok_law_dice F_law_dice T
  have F_law_next := fun_mk (st := s_law_next) l_law_next c_law_next k_law_next
  have R_law_next : ∀ base : Heap, K.In base → base.Ns mainGlobals mg → FnR l.prog w K mg base (L2.CX l.prog w) 1 f_law_next (Sp2 (q_next K)) := fun base Kb Nb => ok_law_next F_law_next T
  have F_is_number_from := fun_mk (st := s_is_number_from) l_is_number_from c_is_number_from k_is_number_from
  have G_is_number__is_number_from : ∀ base : Heap, K.In base → base.Ns mainGlobals mg → Cal l.prog w K mg base 1 "is_number" (Sp1 (p_is_number K ⟨z_WalkError, z_InvalidWay, z_UnknownPost, z_InvalidNumber, z_InvalidStretch, z_Stretch⟩)) := fun base Kb Nb => ⟨f_is_number, PySem.W.mg_of KX G a_is_number, k_is_number, (R_is_number base Kb Nb)⟩
  have R_is_number_from : ∀ base : Heap, K.In base → base.Ns mainGlobals mg → FnR l.prog w K mg base (L2.CX l.prog w) 2 f_is_number_from (Sp2 (p_is_number_from K ⟨z_WalkError, z_InvalidWay, z_UnknownPost, z_InvalidNumber, z_InvalidStretch, z_Stretch⟩)) := fun base Kb Nb => ok_is_number_from F_is_number_from T (G_is_number__is_number_from base Kb Nb)
  have F_is_number_within := fun_mk (st := s_is_number_within) l_is_number_within c_is_number_within k_is_number_within
  have G_is_number__is_number_within : ∀ base : Heap, K.In base → base.Ns mainGlobals mg → Cal l.prog w K mg base 1 "is_number" (Sp1 (p_is_number K ⟨z_WalkError, z_InvalidWay, z_UnknownPost, z_InvalidNumber, z_InvalidStretch, z_Stretch⟩)) := fun base Kb Nb => ⟨f_is_number, PySem.W.mg_of KX G a_is_number, k_is_number, (R_is_number base Kb Nb)⟩
  have R_is_number_within : ∀ base : Heap, K.In base → base.Ns mainGlobals mg → FnR l.prog w K mg base (L2.CX l.prog w) 2 f_is_number_within (Sp3 (p_is_number_within K ⟨z_WalkError, z_InvalidWay, z_UnknownPost, z_InvalidNumber, z_InvalidStretch, z_Stretch⟩)) := fun base Kb Nb => ok_is_number_within F_is_number_within T (G_is_number__is_number_within base Kb Nb)
  have F_law_pick := fun_mk (st := s_law_pick) l_law_pick c_law_pick k_law_pick
  have G_law_next__law_pick : ∀ base : Heap, K.In base → base.Ns mainGlobals mg → Cal l.prog w K mg base 1 "_law_next" (Sp2 (q_next K)) := fun base Kb Nb => ⟨f_law_next, PySem.W.mg_of KX G a_law_next, k_law_next, (R_law_next base Kb Nb)⟩
  have R_law_pick : ∀ base : Heap, K.In base → base.Ns mainGlobals mg → FnR l.prog w K mg base (L2.CX l.prog w) 2 f_law_pick (Sp2 (q_pick K)) := fun base Kb Nb => ok_law_pick F_law_pick T (G_law_next__law_pick base Kb Nb)
  have F_check_number_from := fun_mk (st := s_check_number_from) l_check_number_from c_check_number_from k_check_number_from
  have G_is_number_from__check_number_from : ∀ base : Heap, K.In base → base.Ns mainGlobals mg → Cal l.prog w K mg base 2 "is_number_from" (Sp2 (p_is_number_from K ⟨z_WalkError, z_InvalidWay, z_UnknownPost, z_InvalidNumber, z_InvalidStretch, z_Stretch⟩)) := fun base Kb Nb => ⟨f_is_number_from, PySem.W.mg_of KX G a_is_number_from, k_is_number_from, (R_is_number_from base Kb Nb)⟩
  have R_check_number_from : ∀ base : Heap, K.In base → base.Ns mainGlobals mg → FnR l.prog w K mg base (L2.CX l.prog w) 3 f_check_number_from (Sp2 (p_check_number_from K ⟨z_WalkError, z_InvalidWay, z_UnknownPost, z_InvalidNumber, z_InvalidStretch, z_Stretch⟩)) := fun base Kb Nb => ok_check_number_from F_check_number_from T (G_is_number_from__check_number_from base Kb Nb)
  have F_check_number_within := fun_mk (st := s_check_number_within) l_check_number_within c_check_number_within k_check_number_within
  have G_is_number_within__check_number_within : ∀ base : Heap, K.In base → base.Ns mainGlobals mg → Cal l.prog w K mg base 2 "is_number_within" (Sp3 (p_is_number_within K ⟨z_WalkError, z_InvalidWay, z_UnknownPost, z_InvalidNumber, z_InvalidStretch, z_Stretch⟩)) := fun base Kb Nb => ⟨f_is_number_within, PySem.W.mg_of KX G a_is_number_within, k_is_number_within, (R_is_number_within base Kb Nb)⟩
  have R_check_number_within : ∀ base : Heap, K.In base → base.Ns mainGlobals mg → FnR l.prog w K mg base (L2.CX l.prog w) 3 f_check_number_within (Sp3 (p_check_number_within K ⟨z_WalkError, z_InvalidWay, z_UnknownPost, z_InvalidNumber, z_InvalidStretch, z_Stretch⟩)) := fun base Kb Nb => ok_check_number_within F_check_number_within T (G_is_number_within__check_number_within base Kb Nb)
  have F_Stretch_init := fun_mk (st := s_Stretch_init) l_Stretch_init c_Stretch_init k_Stretch_init
  have G_is_number__Stretch_init : ∀ base : Heap, K.In base → base.Ns mainGlobals mg → Cal l.prog w K mg base 1 "is_number" (Sp1 (p_is_number K ⟨z_WalkError, z_InvalidWay, z_UnknownPost, z_InvalidNumber, z_InvalidStretch, z_Stretch⟩)) := fun base Kb Nb => ⟨f_is_number, PySem.W.mg_of KX G a_is_number, k_is_number, (R_is_number base Kb Nb)⟩
  have G_is_number_from__Stretch_init : ∀ base : Heap, K.In base → base.Ns mainGlobals mg → Cal l.prog w K mg base 2 "is_number_from" (Sp2 (p_is_number_from K ⟨z_WalkError, z_InvalidWay, z_UnknownPost, z_InvalidNumber, z_InvalidStretch, z_Stretch⟩)) := fun base Kb Nb => ⟨f_is_number_from, PySem.W.mg_of KX G a_is_number_from, k_is_number_from, (R_is_number_from base Kb Nb)⟩
  have R_Stretch_init : ∀ base : Heap, K.In base → base.Ns mainGlobals mg → FnR l.prog w K mg base (L2.CX l.prog w) 3 f_Stretch_init (Sp4 (p_Stretch_init K ⟨z_WalkError, z_InvalidWay, z_UnknownPost, z_InvalidNumber, z_InvalidStretch, z_Stretch⟩)) := fun base Kb Nb => ok_Stretch_init F_Stretch_init T (G_is_number__Stretch_init base Kb Nb) (G_is_number_from__Stretch_init base Kb Nb)
  have F_Stretch_barred := fun_mk (st := s_Stretch_barred) l_Stretch_barred c_Stretch_barred k_Stretch_barred
  have M_Stretch__Stretch_barred : ∀ base : Heap, K.In base → base.Ns mainGlobals mg → Mak l.prog w K mg base 3 "Stretch" z_Stretch (Sp4 (p_Stretch_init K ⟨z_WalkError, z_InvalidWay, z_UnknownPost, z_InvalidNumber, z_InvalidStretch, z_Stretch⟩)) := fun base Kb Nb => ⟨PySem.W.mg_of KX G a_Stretch, f_Stretch_init, ⟨mk_Stretch, a_Stretch_init, i_Stretch_init, kc_Stretch⟩, (R_Stretch_init base Kb Nb)⟩
  have R_Stretch_barred : ∀ base : Heap, K.In base → base.Ns mainGlobals mg → FnR l.prog w K mg base (L2.CX l.prog w) 5 f_Stretch_barred (Sp1 (p_Stretch_barred K ⟨z_WalkError, z_InvalidWay, z_UnknownPost, z_InvalidNumber, z_InvalidStretch, z_Stretch⟩)) := fun base Kb Nb => ok_Stretch_barred F_Stretch_barred T (M_Stretch__Stretch_barred base Kb Nb)
  have F_Stretch_add := fun_mk (st := s_Stretch_add) l_Stretch_add c_Stretch_add k_Stretch_add
  have K_Stretch_barred__Stretch_add : ∀ base : Heap, K.In base → base.Ns mainGlobals mg → Cmt l.prog w K mg base 5 z_Stretch "barred" (Sp1 (p_Stretch_barred K ⟨z_WalkError, z_InvalidWay, z_UnknownPost, z_InvalidNumber, z_InvalidStretch, z_Stretch⟩)) := fun base Kb Nb => ⟨_, w_Stretch_barred, f_Stretch_barred, ⟨cr_Stretch, cg_Stretch⟩, ⟨ca_Stretch_barred, ⟨_, cc_Stretch_barred⟩, cf_Stretch_barred⟩, (R_Stretch_barred base Kb Nb)⟩
  have M_Stretch__Stretch_add : ∀ base : Heap, K.In base → base.Ns mainGlobals mg → Mak l.prog w K mg base 3 "Stretch" z_Stretch (Sp4 (p_Stretch_init K ⟨z_WalkError, z_InvalidWay, z_UnknownPost, z_InvalidNumber, z_InvalidStretch, z_Stretch⟩)) := fun base Kb Nb => ⟨PySem.W.mg_of KX G a_Stretch, f_Stretch_init, ⟨mk_Stretch, a_Stretch_init, i_Stretch_init, kc_Stretch⟩, (R_Stretch_init base Kb Nb)⟩
  have R_Stretch_add : ∀ base : Heap, K.In base → base.Ns mainGlobals mg → FnR l.prog w K mg base (L2.CX l.prog w) 6 f_Stretch_add (Sp2 (p_Stretch_add K ⟨z_WalkError, z_InvalidWay, z_UnknownPost, z_InvalidNumber, z_InvalidStretch, z_Stretch⟩)) := fun base Kb Nb => ok_Stretch_add F_Stretch_add T (K_Stretch_barred__Stretch_add base Kb Nb) (M_Stretch__Stretch_add base Kb Nb)
  have F_repeated := fun_mk (st := s_repeated) l_repeated c_repeated k_repeated
  have B_Add__repeated : ∀ base : Heap, K.In base → base.Ns mainGlobals mg → BinC l.prog w K mg base 6 z_Stretch .Add (Sp2 (p_Stretch_add K ⟨z_WalkError, z_InvalidWay, z_UnknownPost, z_InvalidNumber, z_InvalidStretch, z_Stretch⟩)) := fun base Kb Nb => ⟨sf_Stretch, f_Stretch_add, a_Stretch_add, i_Stretch_add, (R_Stretch_add base Kb Nb)⟩
  have R_repeated : ∀ base : Heap, K.In base → base.Ns mainGlobals mg → FnR l.prog w K mg base (L2.CX l.prog w) 70 f_repeated (Sp2 (p_repeated K ⟨z_WalkError, z_InvalidWay, z_UnknownPost, z_InvalidNumber, z_InvalidStretch, z_Stretch⟩ 60)) := fun base Kb Nb => by
    have go : ∀ k, FnR l.prog w K mg base (L2.CX l.prog w) (10 + k) f_repeated (Sp2 (p_repeated K ⟨z_WalkError, z_InvalidWay, z_UnknownPost, z_InvalidNumber, z_InvalidStretch, z_Stretch⟩ k)) := fun k => by
      induction k with
      | zero =>
        exact fun A outer s H us vs Q E hr e0 r hs => by
          obtain ⟨v, u, _, s, n, _, _, _, h1, h2, _⟩ := hs
          have h3 : n < 1 := h2
          omega
      | succ k ih => exact ok_repeated (j := 10 + k) (k := k) (by omega) F_repeated T ⟨f_repeated, PySem.W.mg_of KX G a_repeated, k_repeated, ih⟩ (B_Add__repeated base Kb Nb)
    exact go 60
  have F_Stretch_mul := fun_mk (st := s_Stretch_mul) l_Stretch_mul c_Stretch_mul k_Stretch_mul
  have G_repeated__Stretch_mul : ∀ base : Heap, K.In base → base.Ns mainGlobals mg → Cal l.prog w K mg base 70 "_repeated" (Sp2 (p_repeated K ⟨z_WalkError, z_InvalidWay, z_UnknownPost, z_InvalidNumber, z_InvalidStretch, z_Stretch⟩ 60)) := fun base Kb Nb => ⟨f_repeated, PySem.W.mg_of KX G a_repeated, k_repeated, (R_repeated base Kb Nb)⟩
  have G_check_number_within__Stretch_mul : ∀ base : Heap, K.In base → base.Ns mainGlobals mg → Cal l.prog w K mg base 3 "check_number_within" (Sp3 (p_check_number_within K ⟨z_WalkError, z_InvalidWay, z_UnknownPost, z_InvalidNumber, z_InvalidStretch, z_Stretch⟩)) := fun base Kb Nb => ⟨f_check_number_within, PySem.W.mg_of KX G a_check_number_within, k_check_number_within, (R_check_number_within base Kb Nb)⟩
  have R_Stretch_mul : ∀ base : Heap, K.In base → base.Ns mainGlobals mg → FnR l.prog w K mg base (L2.CX l.prog w) 71 f_Stretch_mul (Sp2 (p_Stretch_mul K ⟨z_WalkError, z_InvalidWay, z_UnknownPost, z_InvalidNumber, z_InvalidStretch, z_Stretch⟩)) := fun base Kb Nb => ok_Stretch_mul F_Stretch_mul T (G_repeated__Stretch_mul base Kb Nb) (G_check_number_within__Stretch_mul base Kb Nb)
  have K_Stretch_barred__law : ∀ base : Heap, K.In base → base.Ns mainGlobals mg → Cmt l.prog w K mg base 5 z_Stretch "barred" (Sp1 (p_Stretch_barred K ⟨z_WalkError, z_InvalidWay, z_UnknownPost, z_InvalidNumber, z_InvalidStretch, z_Stretch⟩)) := fun base Kb Nb => ⟨_, w_Stretch_barred, f_Stretch_barred, ⟨cr_Stretch, cg_Stretch⟩, ⟨ca_Stretch_barred, ⟨_, cc_Stretch_barred⟩, cf_Stretch_barred⟩, (R_Stretch_barred base Kb Nb)⟩
  have G_law_dice__law : ∀ base : Heap, K.In base → base.Ns mainGlobals mg → Cal l.prog w K mg base 1 "_law_dice" (Sp1 (q_dice K)) := fun base Kb Nb => ⟨f_law_dice, PySem.W.mg_of KX G a_law_dice, k_law_dice, (R_law_dice base Kb Nb)⟩
  have G_law_next__law : ∀ base : Heap, K.In base → base.Ns mainGlobals mg → Cal l.prog w K mg base 1 "_law_next" (Sp2 (q_next K)) := fun base Kb Nb => ⟨f_law_next, PySem.W.mg_of KX G a_law_next, k_law_next, (R_law_next base Kb Nb)⟩
  have G_law_pick__law : ∀ base : Heap, K.In base → base.Ns mainGlobals mg → Cal l.prog w K mg base 2 "_law_pick" (Sp2 (q_pick K)) := fun base Kb Nb => ⟨f_law_pick, PySem.W.mg_of KX G a_law_pick, k_law_pick, (R_law_pick base Kb Nb)⟩
  have Q_Stretch__law : ∀ base : Heap, K.In base → base.Ns mainGlobals mg → EqO l.prog w K mg base 1 z_Stretch (Sp2 (p_Stretch_eq K ⟨z_WalkError, z_InvalidWay, z_UnknownPost, z_InvalidNumber, z_InvalidStretch, z_Stretch⟩)) := fun base Kb Nb => ⟨f_Stretch_eq, a_Stretch_eq, i_Stretch_eq, (R_Stretch_eq base Kb Nb)⟩
  have M_Stretch__law : ∀ base : Heap, K.In base → base.Ns mainGlobals mg → Mak l.prog w K mg base 3 "Stretch" z_Stretch (Sp4 (p_Stretch_init K ⟨z_WalkError, z_InvalidWay, z_UnknownPost, z_InvalidNumber, z_InvalidStretch, z_Stretch⟩)) := fun base Kb Nb => ⟨PySem.W.mg_of KX G a_Stretch, f_Stretch_init, ⟨mk_Stretch, a_Stretch_init, i_Stretch_init, kc_Stretch⟩, (R_Stretch_init base Kb Nb)⟩
  have B_Stretch_Add__law : ∀ base : Heap, K.In base → base.Ns mainGlobals mg → BinC l.prog w K mg base 6 z_Stretch .Add (Sp2 (p_Stretch_add K ⟨z_WalkError, z_InvalidWay, z_UnknownPost, z_InvalidNumber, z_InvalidStretch, z_Stretch⟩)) := fun base Kb Nb => ⟨sf_Stretch, f_Stretch_add, a_Stretch_add, i_Stretch_add, (R_Stretch_add base Kb Nb)⟩
  have B_Stretch_Mult__law : ∀ base : Heap, K.In base → base.Ns mainGlobals mg → BinF l.prog w K mg base 71 z_Stretch .Mult ["int", "NoneType", "bool"] (Sp2 (p_Stretch_mul K ⟨z_WalkError, z_InvalidWay, z_UnknownPost, z_InvalidNumber, z_InvalidStretch, z_Stretch⟩)) := fun base Kb Nb => by
    refine ⟨⟨sf_Stretch, f_Stretch_mul, a_Stretch_mul, i_Stretch_mul, (R_Stretch_mul base Kb Nb)⟩, rf_Stretch_mul, ?_⟩
    intro T hT
    simp only [List.mem_cons, List.not_mem_nil, or_false] at hT
    rcases hT with rfl | rfl | rfl
    · exact ⟨Option.isSome_of_mem t1_Stretch_mul_int, Option.isSome_of_mem t2_Stretch_mul_int, t3_Stretch_int⟩
    · exact ⟨Option.isSome_of_mem t1_Stretch_mul_NoneType, Option.isSome_of_mem t2_Stretch_mul_NoneType, t3_Stretch_NoneType⟩
    · exact ⟨Option.isSome_of_mem t1_Stretch_mul_bool, Option.isSome_of_mem t2_Stretch_mul_bool, t3_Stretch_bool⟩
  have P_Stretch_gain__law : ∀ base : Heap, K.In base → base.Ns mainGlobals mg → Prp l.prog w K mg base 1 z_Stretch "gain" (Sp1 (p_Stretch_gain K ⟨z_WalkError, z_InvalidWay, z_UnknownPost, z_InvalidNumber, z_InvalidStretch, z_Stretch⟩)) := fun base Kb Nb => ⟨T.o_Stretch.cl, w_Stretch_gain, f_Stretch_gain, ⟨pa_Stretch_gain, pg_Stretch_gain, pt_Stretch_gain, ⟨_, pr_Stretch_gain⟩⟩, (R_Stretch_gain base Kb Nb)⟩
  have P_Stretch_need__law : ∀ base : Heap, K.In base → base.Ns mainGlobals mg → Prp l.prog w K mg base 1 z_Stretch "need" (Sp1 (p_Stretch_need K ⟨z_WalkError, z_InvalidWay, z_UnknownPost, z_InvalidNumber, z_InvalidStretch, z_Stretch⟩)) := fun base Kb Nb => ⟨T.o_Stretch.cl, w_Stretch_need, f_Stretch_need, ⟨pa_Stretch_need, pg_Stretch_need, pt_Stretch_need, ⟨_, pr_Stretch_need⟩⟩, (R_Stretch_need base Kb Nb)⟩
  have F_law_told := fun_mk (st := s_law_told) l_law_told c_law_told k_law_told
  have FL : FunC K "law" "law" s_law f_law (PySem.W.fnOf "law" "law" (defArgs s_law) (defBody s_law) (defScope s_law) .none kV_law dc_law pm_law an_law (.ref cc_law) ct_law) cc_law := ⟨⟨oc_law, od_law, kV_law, dc_law, pm_law, an_law, ct_law, sl_law, rfl, l_law, c_law⟩⟩
  have e := hfa.symm.trans (PySem.W.mg_of KX G a_law)
  cases e
  refine ⟨_, [(cc_law, Pt)], lawSp K Pt, fun p hp => ?_, fun p hp => ?_, fun p hp => ?_, fun s v => .of_eq rfl, fun H a ns hl _ ht hS => ⟨_, rfl, a, ns, rfl, hS, hl, ht _ (List.Mem.head _), fun _ => rfl⟩, fun base Kb Nb hTB => ok_law FL F_law_told (PySem.W.mg_of KX G a_law_told) (hTB _ (List.Mem.head _)) T (K_Stretch_barred__law base Kb Nb) (G_law_dice__law base Kb Nb) (G_law_next__law base Kb Nb) (G_law_pick__law base Kb Nb) (Q_Stretch__law base Kb Nb) (M_Stretch__law base Kb Nb) (B_Stretch_Add__law base Kb Nb) (B_Stretch_Mult__law base Kb Nb) (P_Stretch_gain__law base Kb Nb) (P_Stretch_need__law base Kb Nb)⟩
  · rw [List.mem_singleton.mp hp]
    exact hPt
  · rw [List.mem_singleton.mp hp]
    exact nPt
  · rw [List.mem_singleton.mp hp]
    exact PySem.W.codeHd_of_K KX hdL

end K02
open PySem PySem.W PyProof.Rows
set_option maxHeartbeats 0 in
theorem PySem.Challenge.cw_oilwalk_k02_stretches_repeated_holds : PySem.Challenge.rw_oilwalk_k02_stretches_repeated.Holds := by
  w_on; o_law; k_head; (case hw => w_witness2)
  k_fill
  refine LamX.walk_ofTs (l := PySem.Challenge.rw_oilwalk_k02_stretches_repeated) (n := 63) (k := 77) (x := "_law_script") (CX := fun w => L2.CX PySem.Challenge.rw_oilwalk_k02_stretches_repeated.prog w) rfl (by decide) rfl ⟨rfl, by decide, by decide⟩ (fun w h Y => PySem.W.km_in_of Y) ?F (fun w H s e s2 z => by obtain ⟨_, _, _, _, _, _, _, _, _, _, _, _, z⟩ := z; exact z)
  case F =>
    intro w mg fa h Y KX G hmg
    refine' K02.all_mk (Pt := 255) KX G hmg (PySem.W.km_tabs_of Y _ (List.Mem.head _)) ?a_WalkError ?a_InvalidWay ?a_UnknownPost ?a_InvalidNumber ?a_InvalidStretch ?a_Stretch ?a_MOST_TIMES ?n_ValueError ?n_bool ?n_int ?n_isinstance ?n_len ?n_max ?n_min ?n_range ?eg_InvalidNumber ?ek_InvalidNumber ?es_InvalidNumber ?ed_InvalidNumber ?ea_InvalidNumber ?hn_oc ?ht_oc ?em_InvalidNumber ?ic_InvalidWay ?ty_InvalidWay ?e0_InvalidNumber ?d0_InvalidNumber ?ic_InvalidStretch ?ty_InvalidStretch ?e1_InvalidNumber ?d1_InvalidNumber ?ic_UnknownPost ?ty_UnknownPost ?e2_InvalidNumber ?d2_InvalidNumber ?ev_InvalidNumber ?ic_WalkError ?ty_WalkError ?bb_WalkError ?ex_InvalidNumber ?pgc_Stretch ?hdc_Stretch ?poc_Stretch ?sac_Stretch ?hac_Stretch ?hmc_Stretch ?ic_Stretch ?ty_Stretch ?nc_Stretch_NoneType ?nc_Stretch_bool ?nc_Stretch_int ?nc_Stretch_str ?nc_Stretch_tuple ?nc_Stretch_list ?x_a_need ?x_a_gain ?x_a_top ?x_x_InvalidNumber ?x_k_InvalidNumber ?x_b_InvalidNumber ?x_t_InvalidNumber ?a_is_number ?l_is_number ?c_is_number ?k_is_number ?pa_Stretch_need ?pg_Stretch_need ?pt_Stretch_need ?pr_Stretch_need ?l_Stretch_need ?c_Stretch_need ?k_Stretch_need ?pa_Stretch_gain ?pg_Stretch_gain ?pt_Stretch_gain ?pr_Stretch_gain ?l_Stretch_gain ?c_Stretch_gain ?k_Stretch_gain ?a_Stretch_eq ?i_Stretch_eq ?l_Stretch_eq ?c_Stretch_eq ?k_Stretch_eq ?a_law_dice ?l_law_dice ?c_law_dice ?k_law_dice ?a_law_next ?l_law_next ?c_law_next ?k_law_next ?a_is_number_from ?l_is_number_from ?c_is_number_from ?k_is_number_from ?a_is_number_within ?l_is_number_within ?c_is_number_within ?k_is_number_within ?a_law_pick ?l_law_pick ?c_law_pick ?k_law_pick ?a_check_number_from ?l_check_number_from ?c_check_number_from ?k_check_number_from ?a_check_number_within ?l_check_number_within ?c_check_number_within ?k_check_number_within ?a_Stretch_init ?i_Stretch_init ?l_Stretch_init ?c_Stretch_init ?k_Stretch_init ?cr_Stretch ?cg_Stretch ?ca_Stretch_barred ?cc_Stretch_barred ?cf_Stretch_barred ?l_Stretch_barred ?c_Stretch_barred ?k_Stretch_barred ?mk_Stretch ?kc_Stretch ?a_Stretch_add ?i_Stretch_add ?l_Stretch_add ?c_Stretch_add ?k_Stretch_add ?a_repeated ?l_repeated ?c_repeated ?k_repeated ?sf_Stretch ?a_Stretch_mul ?i_Stretch_mul ?l_Stretch_mul ?c_Stretch_mul ?k_Stretch_mul ?a_law ?l_law ?c_law ?a_law_told ?l_law_told ?c_law_told ?k_law_told ?rf_Stretch_mul ?t1_Stretch_mul_int ?t2_Stretch_mul_int ?t3_Stretch_int ?t1_Stretch_mul_NoneType ?t2_Stretch_mul_NoneType ?t3_Stretch_NoneType ?t1_Stretch_mul_bool ?t2_Stretch_mul_bool ?t3_Stretch_bool ?nPt ?hdL
    (case a_WalkError => k_is)
    (case a_InvalidWay => k_is)
    (case a_UnknownPost => k_is)
    (case a_InvalidNumber => k_is)
    (case a_InvalidStretch => k_is)
    (case a_Stretch => k_is)
    (case a_MOST_TIMES => k_is)
    (case n_ValueError => k_is)
    (case n_bool => k_is)
    (case n_int => k_is)
    (case n_isinstance => k_is)
    (case n_len => k_is)
    (case n_max => k_is)
    (case n_min => k_is)
    (case n_range => k_is)
    (case eg_InvalidNumber => k_is)
    (case ek_InvalidNumber => k_is)
    (case es_InvalidNumber => k_is)
    (case ed_InvalidNumber => k_is)
    (case ea_InvalidNumber => k_is)
    (case hn_oc => k_is)
    (case ht_oc => k_is)
    (case em_InvalidNumber => k_is)
    (case ic_InvalidWay => k_is)
    (case ty_InvalidWay => k_is)
    (case e0_InvalidNumber => k_is)
    (case d0_InvalidNumber => rfl)
    (case ic_InvalidStretch => k_is)
    (case ty_InvalidStretch => k_is)
    (case e1_InvalidNumber => k_is)
    (case d1_InvalidNumber => rfl)
    (case ic_UnknownPost => k_is)
    (case ty_UnknownPost => k_is)
    (case e2_InvalidNumber => k_is)
    (case d2_InvalidNumber => rfl)
    (case ev_InvalidNumber => k_is)
    (case ic_WalkError => k_is)
    (case ty_WalkError => k_is)
    (case bb_WalkError => k_is)
    (case ex_InvalidNumber => k_is)
    (case pgc_Stretch => k_is)
    (case hdc_Stretch => k_is)
    (case poc_Stretch => k_is)
    (case sac_Stretch => k_is)
    (case hac_Stretch => k_is)
    (case hmc_Stretch => k_is)
    (case ic_Stretch => k_is)
    (case ty_Stretch => k_is)
    (case nc_Stretch_NoneType => k_is)
    (case nc_Stretch_bool => k_is)
    (case nc_Stretch_int => k_is)
    (case nc_Stretch_str => k_is)
    (case nc_Stretch_tuple => k_is)
    (case nc_Stretch_list => k_is)
    (case x_a_need => k_is)
    (case x_a_gain => k_is)
    (case x_a_top => k_is)
    (case x_x_InvalidNumber => k_exc)
    (case x_k_InvalidNumber => k_is)
    (case x_b_InvalidNumber => k_is)
    (case x_t_InvalidNumber => k_is)
    (case a_is_number => k_is)
    (case l_is_number => k_is)
    (case c_is_number => k_is)
    (case k_is_number => k_is)
    (case pa_Stretch_need => k_is)
    (case pg_Stretch_need => k_is)
    (case pt_Stretch_need => k_is)
    (case pr_Stretch_need => k_is)
    (case l_Stretch_need => k_is)
    (case c_Stretch_need => k_is)
    (case k_Stretch_need => k_is)
    (case pa_Stretch_gain => k_is)
    (case pg_Stretch_gain => k_is)
    (case pt_Stretch_gain => k_is)
    (case pr_Stretch_gain => k_is)
    (case l_Stretch_gain => k_is)
    (case c_Stretch_gain => k_is)
    (case k_Stretch_gain => k_is)
    (case a_Stretch_eq => k_is)
    (case i_Stretch_eq => k_is)
    (case l_Stretch_eq => k_is)
    (case c_Stretch_eq => k_is)
    (case k_Stretch_eq => k_is)
    (case a_law_dice => k_is)
    (case l_law_dice => k_is)
    (case c_law_dice => k_is)
    (case k_law_dice => k_is)
    (case a_law_next => k_is)
    (case l_law_next => k_is)
    (case c_law_next => k_is)
    (case k_law_next => k_is)
    (case a_is_number_from => k_is)
    (case l_is_number_from => k_is)
    (case c_is_number_from => k_is)
    (case k_is_number_from => k_is)
    (case a_is_number_within => k_is)
    (case l_is_number_within => k_is)
    (case c_is_number_within => k_is)
    (case k_is_number_within => k_is)
    (case a_law_pick => k_is)
    (case l_law_pick => k_is)
    (case c_law_pick => k_is)
    (case k_law_pick => k_is)
    (case a_check_number_from => k_is)
    (case l_check_number_from => k_is)
    (case c_check_number_from => k_is)
    (case k_check_number_from => k_is)
    (case a_check_number_within => k_is)
    (case l_check_number_within => k_is)
    (case c_check_number_within => k_is)
    (case k_check_number_within => k_is)
    (case a_Stretch_init => k_is)
    (case i_Stretch_init => k_is)
    (case l_Stretch_init => k_is)
    (case c_Stretch_init => k_is)
    (case k_Stretch_init => k_is)
    (case cr_Stretch => k_is)
    (case cg_Stretch => k_is)
    (case ca_Stretch_barred => k_is)
    (case cc_Stretch_barred => k_is)
    (case cf_Stretch_barred => k_is)
    (case l_Stretch_barred => k_is)
    (case c_Stretch_barred => k_is)
    (case k_Stretch_barred => k_is)
    (case mk_Stretch => k_is)
    (case kc_Stretch => k_is)
    (case a_Stretch_add => k_is)
    (case i_Stretch_add => k_is)
    (case l_Stretch_add => k_is)
    (case c_Stretch_add => k_is)
    (case k_Stretch_add => k_is)
    (case a_repeated => k_is)
    (case l_repeated => k_is)
    (case c_repeated => k_is)
    (case k_repeated => k_is)
    (case sf_Stretch => k_is)
    (case a_Stretch_mul => k_is)
    (case i_Stretch_mul => k_is)
    (case l_Stretch_mul => k_is)
    (case c_Stretch_mul => k_is)
    (case k_Stretch_mul => k_is)
    (case a_law => k_is)
    (case l_law => k_is)
    (case c_law => k_is)
    (case a_law_told => k_is)
    (case l_law_told => k_is)
    (case c_law_told => k_is)
    (case k_law_told => k_is)
    (case rf_Stretch_mul => k_is)
    (case t1_Stretch_mul_int => k_is)
    (case t2_Stretch_mul_int => k_is)
    (case t3_Stretch_int => k_is)
    (case t1_Stretch_mul_NoneType => k_is)
    (case t2_Stretch_mul_NoneType => k_is)
    (case t3_Stretch_NoneType => k_is)
    (case t1_Stretch_mul_bool => k_is)
    (case t2_Stretch_mul_bool => k_is)
    (case t3_Stretch_bool => k_is)
    (case nPt => rfl)
    (case hdL => rfl)

