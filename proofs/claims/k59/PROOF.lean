import PyProof.Rows.All
import Wide.All
import OpenK.AllK
import Wide.FinOn
import HandS.ForMost
import HandS.ForExc
import HandS.EndTab
import HandS.Property
import HandS.ClsMeth
import HandS.Star
import HandS.IsInst
import HandS.ExcIs
import HandS.SlotsOwn
import HandS.Wide
import HandS.TupAny
import HandS.Flow
import HandS.Steps
import HandS.WideBits
import HandS.TupMul
import HandS.SetFor
import HandS.ExcField
import HandS.ExcInit
import KE.KExcSuper
import KE.KSuper
import HandS.Lambda
import HandS.More
import HandS.ToBytes
import HandS.Style
import KE.GoesEnum
import KE.GoesMore
import HandS.Zip
import PyProof.Conv_bool
import PyProof.Rows.Range3
import HandS.Deep
import HandS.FStr
import KE.DataMinMax
import HandS.Dict
import HandS.Small
import HandS.Conv
import KE.KDictList
import OpenK.KMeth
import HandS.SuiteRaise
import KE.KExcRaise
import HandS.MethStar
import KE.KUnpackStar
import KE.KWithOwn
import HandS.Iter
import HandS.Text
import HandS.StrMore
import HandS.Bytes
import HandS.BytesMake
import PyProof.StrBlock2
import PyProof.Rows.StrIntSpec
import PyProof.FString3
import KE.GoesEnumKw
import PyProof.Rows.CallKwBuiltin
import KE.KIntText
import KE.KxText
import PySem.Challenge.RW_oilwalk_k59_whole_logs_and_stored_ways
set_option Elab.async false
set_option linter.all false
set_option maxRecDepth 100000
set_option maxHeartbeats 4000000
namespace Oil
open PySem PySem.Spec PyProof.Rows L2
section
variable {X : Cx} {CX : CXT} {C g : Addr} {n : Nat} {sp : Sp} {E : XK}
theorem inst_of {pins : List (Addr × Obj)} {σ : L2.St} {H : Hp} {s : Shared} {a dx : Addr} {fs : List (Str × V)} (I : Inv X pins σ H s) (h : H a = some (.ins C dx fs)) :
    ∃ ox od, PySem.W.InstAt s.heap a ox C od := by
  obtain ⟨mA, O, _⟩ := ins_get I.hok h
  obtain ⟨od, J, _⟩ := O.look
  exact ⟨_, _, J⟩
/-- the right operand is None, a bool, an int or a text -/
inductive Flat : V → String → Prop where
  | non : Flat .non "NoneType"
  | bl (b : Bool) : Flat (.bl b) "bool"
  | int (i : Int) : Flat (.int i) "int"
  | str (x : Str) : Flat (.str x) "str"
theorem Flat.type {y : V} {T : String} (f : Flat y T) {u : Value} (r : RelV y u) : typeOf u = pure (.type T) := by
  cases f with
  | non => cases (show u = Value.none from r); rfl
  | bl b => cases (show u = Value.bool b from r); rfl
  | int i => obtain ⟨t, e⟩ := (show ∃ t, u = Value.int i t from r); cases e; rfl
  | str x => obtain ⟨t, e⟩ := (show ∃ t, u = Value.str x t from r); cases e; rfl
/-- == by the class's own def; the right side an instance of it, or flat -/
def rEqO (K : PySem.W.Frag) (C : Addr) (sp : Sp) (E : XK) : R2 := fun x y H Q => ∃ (a dx : Addr) (fs : List (Str × V)), x = .ref a ∧ H a = some (.ins C dx fs) ∧
  ((∃ (b dy : Addr) (gs : List (Str × V)), y = .ref b ∧ H b = some (.ins C dy gs)) ∨ (∃ T, Flat y T ∧ PySem.W.notFirst K C (.type T) = true) ∨ (∃ t, TyX K H y t ∧ PySem.W.notFirst K C t = true)) ∧ sp [x, y] H Q E
theorem op_eqO (hs : PySem.W.findIn X.K (.ref C) "__eq__" = some (some (.ref g)))
    (hf : PySem.W.isFn X.K (.ref g) = true) (F : FnR X.prog X.w X.K X.mg X.base CX n g sp) (hr : Room n X.A) (hx : Passes CX X E) : OpR X (compareOp .Eq) (rEqO X.K C sp E) := by
  intro pins s σ H x y v u Q I rx ry h
  obtain ⟨a, dx, fs, rfl, ha, hy, q⟩ := h
  cases (show v = Value.ref a from rx)
  obtain ⟨ox, od, J⟩ := inst_of I ha
  obtain ⟨m, hF⟩ := I.fr
  have fin : ∀ w s', (∃ v H', Inv X pins σ H' s' ∧ RelV v w ∧ Q v H') → PySem.W.CmpBack (EP X pins σ Q) w s' := fun w s' z => by
    obtain ⟨z', H', I', rz, qz⟩ := z
    exact SlX.cmpback rz ⟨z', H', I', rz, qz⟩
  have call : wpAny (model X.prog X.w) X.A (call (.ref g) [.ref a, u]) (EP X pins σ Q) X.xe s :=
    wpAny_call (run_fnR (us := [.ref a, u]) (vs := [.ref a, y]) F hr hx I (.cons rfl (.cons ry .nil)) q)
  show wpAny _ _ (richCompare .Eq (.ref a) u) _ _ _
  rcases hy with ⟨b, dy, gs, rfl, hb⟩ | ⟨T, fl, hn⟩ | ⟨t, ty, hn⟩
  · cases (show u = Value.ref b from ry)
    obtain ⟨oy, oe, J'⟩ := inst_of I hb
    refine PySem.W.cmp_K (op := .Eq) (tb := .ref C) hr.units0 hF I.ok.mod.kin J J'.type ?_ hs hf (wpAny_mono call (fun w s' z => fin w s' z) fun _ _ x => x)
    unfold PySem.W.notFirst
    rw [beq_self_eq_true, Bool.true_or]
  · refine PySem.W.cmp_K (op := .Eq) (tb := .type T) hr.units0 hF I.ok.mod.kin J (PySem.W.Looks.of_pure (fl.type ry)) hn hs hf (wpAny_mono call (fun w s' z => fin w s' z) fun _ _ x => x)
  · obtain ⟨P, kx, hp, _⟩ := kit_of I ry ty
    exact PySem.W.cmp_K (op := .Eq) (tb := t) hr.units0 hF I.ok.mod.kin J (kx.ty _ _ I.kIn hp) hn hs hf (wpAny_mono call (fun w s' z => fin w s' z) fun _ _ x => x)
end
theorem fnR_of {P : Program} {w : World} {K : PySem.W.Frag} {mg : Str → Option Value} {base : Heap} {CX : CXT} {k : Nat} {f : Addr} {sp : Sp} {fd : FuncData} {ps : List Str} (F : FnOk P w K mg base CX k f fd ps sp) (hb : L2.Binds K fd ps []) : FnR P w K mg base CX k f sp :=
  (FnOk.raw F hb .nil).imp fun vs H Q E h => by
    rw [List.append_nil]
    exact h
section
variable (P : Program) (w : World) (K : PySem.W.Frag) (mg : Str → Option Value) (base : Heap) (k : Nat)
/-- a def of the module -/
structure Cal (x : Str) (sp : Sp) : Prop where
  ex : ∃ f, mg x = some (.ref f) ∧ PySem.W.keepIn K (.ref f) = true ∧ FnR P w K mg base (L2.CX P w) k f sp
/-- a class of the module, made by its __init__ -/
structure Mak (x : Str) (C : Addr) (sp : Sp) : Prop where
  gl : mg x = some (.ref C)
  ex : ∃ f, Mk K C f ∧ FnR P w K mg base (L2.CX P w) k f sp
structure Met (C : Addr) (m : Str) (sp : Sp) : Prop where
  cl : Cls K C
  ex : ∃ f, Meth K C m f ∧ FnR P w K mg base (L2.CX P w) k f sp
structure Prp (C : Addr) (f : Str) (sp : Sp) : Prop where
  cl : Cls K C
  ex : ∃ p g, PropOf K C f p g ∧ FnR P w K mg base (L2.CX P w) k g sp
structure Cmt (C : Addr) (m : Str) (sp : Sp) : Prop where
  ex : ∃ mc p g, ClX.CRead K C mc ∧ ClX.CMet K C mc m p g ∧ FnR P w K mg base (L2.CX P w) k g sp
structure EqO (C : Addr) (sp : Sp) : Prop where
  ex : ∃ g, PySem.W.findIn K (.ref C) "__eq__" = some (some (.ref g)) ∧ PySem.W.isFn K (.ref g) = true ∧ FnR P w K mg base (L2.CX P w) k g sp
end
section
variable {X : Cx} {C : Addr} {k j : Nat} {sp : Sp} {E : XK} {x m : Str} {p pos apos : Pos} {e o : Expr} {es : List Expr} {t : TA} {ta : TE}
theorem op_eqo (c : EqO X.prog X.w X.K X.mg X.base k C sp) (hr : Room j X.A) (hk : k ≤ j) (hx : Passes (L2.CX X.prog X.w) X E) : OpR X (compareOp .Eq) (rEqO X.K C sp E) := by
  obtain ⟨g, hs, hf, F⟩ := c.ex
  exact op_eqO hs hf F (hr.mono hk) hx
/-- f(e, ..) -/
def tCal (sp : Sp) (E : XK) (t : TA) : TE := fun σ H Q => t σ H fun vs H1 => sp vs H1 Q E
theorem pe_cal (c : Cal X.prog X.w X.K X.mg X.base k x sp) (hr : Room j X.A) (hk : k ≤ j) (hx : Passes (L2.CX X.prog X.w) X E) (ha : PA X (e :: es) t) (hg : Gl X x := by rfl)
    (hdb : (x == ("__debug__" : Str)) = false := by decide) (he : starEach (e :: es) X.env = (false, eval e X.env) :: starEach es X.env := by rfl) (hpl : (backTo pos (starEach es X.env)).any (·.1) = false := by rfl) :
    PE X (.Call (.Name x p) (e :: es) [] pos) (tCal sp E t) := by
  obtain ⟨f, hm, hkp, F⟩ := c.ex
  refine ⟨fun pins s σ H Q I h => ?_⟩
  refine wpAny_Call_Name_kw (ld_glob I hg hm ?_ hdb)
  refine PySem.W.callWith_K (h₀ := X.base) I.ok.mod.kin hkp (thn (ha.run pos pins s σ H _ I h) fun us s1 ⟨vs, H1, I1, r, q⟩ => ⟨I1.kIn, ?_⟩) he hpl
  exact wpAny_call (run_fnR F (hr.mono hk) hx I1 r q)
/-- c(e, ..), c a name of the def that holds the class -/
def tMakL (i : Nat) (C : Addr) (sp : Sp) (E : XK) (t : TA) : TE := fun σ H Q => σ[i]? = some (some (.ref C)) ∧ StX.tMakeR C sp E t σ H Q
/-- o.m(e, ..) -/
def tMt (C : Addr) (m : Str) (sp : Sp) (E : XK) (ta : TE) (t : TA) : TE := fun σ H Q => ta σ H fun x H1 => ∃ (a dx : Addr) (fs : List (Str × V)), x = .ref a ∧ H1 a = some (.ins C dx fs) ∧ fs.lookup m = none ∧ t σ H1 fun vs H2 => sp (.ref a :: vs) H2 Q E
theorem pe_mt {pl : Sem Bool} (he : PE X o ta) (c : Met X.prog X.w X.K X.mg X.base k C m sp) (hr : Room j X.A) (hk : k ≤ j) (hx : Passes (L2.CX X.prog X.w) X E) (ha : PA X (e :: es) t)
    (hst : starEach (e :: es) X.env = (false, eval e X.env) :: starEach es X.env := by rfl) (hpl : (backTo pos (starEach es X.env)).any (·.1) = false := by rfl)
    (ht : eval (.Call (.Attribute o m apos) (e :: es) [] pos) X.env = (do
      let ov ← eval o X.env
      standAt apos.atName
      let (f, first) ← holding [ov] (getMethod ov m pl)
      callWith pos f first (backTo pos (starEach (e :: es) X.env)) (backToKw pos (keywordEach [] X.env))) := by rfl) :
    PE X (.Call (.Attribute o m apos) (e :: es) [] pos) (tMt C m sp E ta t) := by
  obtain ⟨f, hm, F⟩ := c.ex
  refine ⟨fun pins s σ H Q I h => ?_⟩
  refine PySem.W.methodCall_KW (pl := pl) (thn (he.run pins s σ H _ I h) fun u s1 ⟨x, H1, I1, rx, a, dx, fs, ex, ea, l, q⟩ => ?_) ht
  subst ex
  obtain rfl : u = Value.ref a := rx
  refine getmeth_ok I1 ea c.cl hm l ?_
  refine PySem.W.callWith_K (first := [.ref a]) (h₀ := X.base) I.ok.mod.kin hm.kp (thn (ha.run pos pins s1 σ H1 _ I1 q) fun us s2 ⟨vs, H2, I2, r, q2⟩ => ⟨I2.kIn, ?_⟩) hst hpl
  exact wpAny_call (run_fnR (us := .ref a :: us) (vs := .ref a :: vs) F (hr.mono hk) hx I2 (.cons rfl r) q2)
/-- e.f, a property -/
def tPrp (C : Addr) (sp : Sp) (E : XK) (ta : TE) : TE := fun σ H Q => ta σ H fun x H1 => ∃ (a dx : Addr) (fs : List (Str × V)), x = .ref a ∧ H1 a = some (.ins C dx fs) ∧ sp [.ref a] H1 Q E
theorem pe_prp (he : PE X e ta) (c : Prp X.prog X.w X.K X.mg X.base k C m sp) (hr : Room j X.A) (hk : k + 1 ≤ j) (hx : Passes (L2.CX X.prog X.w) X.nox E)
    (hab : attributeBase e m X.env (eval e X.env) = eval e X.env := by rfl) : PE X (.Attribute e m pos) (tPrp C sp E ta) := by
  obtain ⟨pa, g, hp, F⟩ := c.ex
  refine ⟨fun pins s σ H Q I h => ?_⟩
  refine attr_of hab (thn (he.run pins s σ H _ I h) fun u s1 ⟨x, H1, I1, rx, a, dx, fs, ex, ea, q⟩ => ?_)
  subst ex
  obtain rfl : u = Value.ref a := rx
  obtain ⟨mA, O, _, _, _, _⟩ := ins_get I1.hok ea
  obtain ⟨od, J, _⟩ := O.look
  obtain ⟨rest, hrec⟩ := hp.rec_
  have I2 := I1.tok (s1.toks + 1)
  have hc : (PySem.W.clsIn X.K C).isSome = true := by
    obtain ⟨cd, hc, _⟩ := PySem.W.any_some c.cl.hd
    rw [hc]
    rfl
  have hr' : Room k X.A.in1 := (hr.mono hk).in1
  refine PySem.W.get_bind I1.kIn J (PySem.W.plainGet_of (c.cl.get m)).1 (PySem.W.findObj_data hc hp.at_ hp.get hp.tak) (PySem.W.plainGet_of (c.cl.get m)).2 (wpAny_call (PySem.W.prop_get (s := { s1 with toks := s1.toks + 1 }) I1.kIn hrec ?_))
  refine codeAny_mono (F X.A.in1 X.stack { s1 with toks := s1.toks + 1 } H1 [.ref a] [.ref a] Q E hr' I2.env0.in1 (.cons rfl .nil) q) fun r s' hq => ?_
  cases r with
  | error er => exact False.elim (hx pins σ H1 { s1 with toks := s1.toks + 1 } er s' (I2.wish _) hq)
  | ok fl =>
    cases fl with
    | ret u =>
      obtain ⟨v, H', I3, rv, q3⟩ := I2.after hq
      exact wpAny_of_eq (PySem.W.handedOut_of (handed_of rv)) ⟨v, H', I3, rv, q3⟩
    | next => exact False.elim hq
    | brk => exact False.elim hq
    | cont => exact False.elim hq
/-- o.m(..), o the class, m a classmethod -/
theorem pe_cmt (he : PE X o ta) (c : Cmt X.prog X.w X.K X.mg X.base k C m sp) (hr : Room j X.A) (hk : k ≤ j) (hx : Passes (L2.CX X.prog X.w) X E) (ha : PA X (e :: es) t) {pl : Sem Bool}
    (hst : starEach (e :: es) X.env = (false, eval e X.env) :: starEach es X.env := by rfl) (hpl : (backTo pos (starEach es X.env)).any (·.1) = false := by rfl)
    (ht : eval (.Call (.Attribute o m apos) (e :: es) [] pos) X.env = (do
      let ov ← eval o X.env
      standAt apos.atName
      let (f, first) ← holding [ov] (getMethod ov m pl)
      callWith pos f first (backTo pos (starEach (e :: es) X.env)) (backToKw pos (keywordEach [] X.env))) := by rfl) :
    PE X (.Call (.Attribute o m apos) (e :: es) [] pos) (ClX.tCMeth C sp E ta t) := by
  obtain ⟨mc, q, g, r, cm, F⟩ := c.ex
  exact ClX.pe_cmeth (pl := pl) he r cm F (hr.mono hk) hx ha hst hpl ht
end
end Oil
namespace Oil
open PySem PySem.Spec PyProof.Rows L2
abbrev F1 := V → Hp → VK → XK → Prop
abbrev F2 := V → V → Hp → VK → XK → Prop
abbrev F3 := V → V → V → Hp → VK → XK → Prop
abbrev F4 := V → V → V → V → Hp → VK → XK → Prop
abbrev F5 := V → V → V → V → V → Hp → VK → XK → Prop
def Sp1 (f : F1) : Sp := fun vs H Q E => ∃ a, vs = [a] ∧ f a H Q E
def Sp2 (f : F2) : Sp := fun vs H Q E => ∃ a b, vs = [a, b] ∧ f a b H Q E
def Sp3 (f : F3) : Sp := fun vs H Q E => ∃ a b c, vs = [a, b, c] ∧ f a b c H Q E
def Sp4 (f : F4) : Sp := fun vs H Q E => ∃ a b c d, vs = [a, b, c, d] ∧ f a b c d H Q E
def Sp5 (f : F5) : Sp := fun vs H Q E => ∃ a b c d e, vs = [a, b, c, d, e] ∧ f a b c d e H Q E
def cMax2 : List V → Hp → VK → Prop := fun xs H Q => ∃ i j, xs = [.int i, .int j] ∧ Q (.int (max i j)) H
def cMin2 : List V → Hp → VK → Prop := fun xs H Q => ∃ i j, xs = [.int i, .int j] ∧ Q (.int (min i j)) H
def cInt : List V → Hp → VK → Prop := fun xs H Q => (∃ i, xs = [.int i] ∧ Q (.int i) H) ∨ ∃ k, xs = [.bl k] ∧ Q (.int (if k then 1 else 0)) H
def cLen (K : PySem.W.Frag) : List V → Hp → VK → Prop := fun xs H Q => ∃ p ys, xs = [.ref p] ∧ (SqL K H p ys ∨ SqT K H p ys) ∧ Q (.int ys.length) H
def cTup (K : PySem.W.Frag) : List V → Hp → VK → Prop := fun xs H Q => ∃ p ys, xs = [.ref p] ∧ ((SqL K H p ys ∧ ∀ l, H l = none → Q (.ref l) (upd H l (.tup ys))) ∨ (SqT K H p ys ∧ Q (.ref p) H))
def TruQ (K : PySem.W.Frag) (x : V) (H : Hp) (Q : Bool → Hp → Prop) : Prop := ∃ k, TruV K x H k ∧ Q k H
def tTruN (K : PySem.W.Frag) (ta : TE) : TT := fun σ H Q => ta σ H fun x H' => TruQ K x H' Q
def tTruR (r : V → Hp → (Bool → Hp → Prop) → Prop) (ta : TE) : TT := fun σ H Q => ta σ H fun x H' => r x H' Q
def rOdd : R2 := fun x y H Q => ∃ n : Nat, x = .int (n : Int) ∧ y = .int 1 ∧ Q (.int ((n % 2 : Nat) : Int)) H
section
variable {X : Cx}
theorem call_mn (hc : X.calm = true) : CallR X (.builtin "min") cMin2 := fun pins s σ H xs us Q I r ⟨i, j, e, q⟩ => call_min2 hc pins s σ H xs us Q I r ⟨i, j, e, by rw [show (if j < i then j else i) = min i j by split <;> omega]; exact q⟩
theorem call_in : CallR X (.type "int") cInt := call_int1
theorem call_ln : CallR X (.builtin "len") (cLen X.K) := call_len_seq
theorem call_tu : CallR X (.type "tuple") (cTup X.K) := call_tuple_of
theorem pt_tru {e : Expr} {ta : TE} (he : PE X e ta) (h : ∀ whole, isTrue e X.env whole = (do let v ← whole; standAt e.pos; holding [v] (truthy v))) : PT X e (tTruN X.K ta) := pt_truth he h
end
section
variable {K : PySem.W.Frag} {σ : L2.St} {H : Hp} {Q : VK} {QT : Bool → Hp → Prop} {QA : List V → Hp → Prop} {E : XK} {D : Ends} {i j : Nat} {v x y z : V} {ta tb tc te tf : TE} {t u : TT} {tx ty : TS} {tl tr : TA} {a C dx : Addr} {fs : List (Str × V)} {b : Bool} {f m : Str} {n k : Int}
theorem r_var (h : σ[i]? = some (some v)) (q : Q v H) : tVar i σ H Q := ⟨v, h, q⟩
theorem r_c (q : Q v H) : tC v σ H Q := q
theorem r_op {r : R2} (q : ta σ H fun x H1 => tb σ H1 fun y H2 => r x y H2 Q) : tOp r ta tb σ H Q := q
theorem r_un {r : V → Hp → VK → Prop} (q : ta σ H fun x H1 => r x H1 Q) : tUn r ta σ H Q := q
theorem r_I0 {g : Int → Int → V} (q : Q (g n k) H) : rI0 g (.int n) (.int k) H Q := ⟨n, k, rfl, rfl, q⟩
theorem r_I {c : Int → Int → Prop} {g : Int → Int → V} (hc : c n k) (q : Q (g n k) H) : rI c g (.int n) (.int k) H Q := ⟨n, k, rfl, rfl, hc, q⟩
theorem r_U {g : Int → V} (q : Q (g n) H) : rU g (.int n) H Q := ⟨n, rfl, q⟩
theorem r_eq (h : scal x y = true) (q : Q (.bl (decide (x = y))) H) : rEq x y H Q := ⟨h, q⟩
theorem r_ne (h : scal x y = true) (q : Q (.bl (!decide (x = y))) H) : rNe x y H Q := ⟨h, q⟩
theorem r_test (q : te σ H fun x H' => ∃ k, x = .bl k ∧ QT k H') : tTest te σ H QT := q
theorem r_B (q : te σ H fun x H' => ∃ k, x = .bl k ∧ QT k H') : tB te σ H QT := q
theorem r_bl (q : QT b H) : ∃ k, V.bl b = .bl k ∧ QT k H := ⟨b, rfl, q⟩
theorem r_blQ {R : Bool → Prop} (q : R b) : ∃ k, V.bl b = .bl k ∧ R k := ⟨b, rfl, q⟩
theorem r_and (q : t σ H fun c H1 => if c = true then u σ H1 QT else QT false H1) : tAnd t u σ H QT := q
theorem r_or (q : t σ H fun c H1 => if c = true then QT true H1 else u σ H1 QT) : tOr t u σ H QT := q
theorem r_not (q : t σ H fun c H1 => QT (!c) H1) : tNot t σ H QT := q
theorem r_andV (q : ta σ H fun x H1 => ∃ c, x = .bl c ∧ if c = true then tb σ H1 Q else Q (.bl false) H1) : tAndV ta tb σ H Q := q
theorem r_orV (q : ta σ H fun x H1 => ∃ c, x = .bl c ∧ if c = true then Q (.bl true) H1 else tb σ H1 Q) : tOrV ta tb σ H Q := q
theorem r_notV (q : ta σ H fun x H1 => ∃ c, x = .bl c ∧ Q (.bl (!c)) H1) : tNotV ta σ H Q := q
theorem r_if (q : t σ H fun c H1 => if c = true then ta σ H1 Q else tb σ H1 Q) : tIf t ta tb σ H Q := q
theorem r_chain {r r' : R2} (q : ta σ H fun x H1 => tb σ H1 fun y H2 => r x y H2 fun z H3 => ∃ k, z = .bl k ∧ (if k = true then tc σ H3 fun w' H4 => r' y w' H4 Q else Q (.bl false) H3)) : tChain r r' ta tb tc σ H Q := q
theorem r_T {A B : Prop} (h : b = true) (q : A) : if b = true then A else B := by rw [if_pos h]; exact q
theorem r_F {A B : Prop} (h : b = false) (q : B) : if b = true then A else B := by rw [if_neg (by rw [h]; exact Bool.false_ne_true)]; exact q
theorem r_by {A B : Prop} (h1 : b = true → A) (h2 : b = false → B) : if b = true then A else B := by
  cases b with
  | true => exact h1 rfl
  | false => exact h2 rfl
theorem r_isn {Q : VK} (q : Q (.bl (decide (x = .non))) H) : rIsN x .non H Q := ⟨rfl, q⟩
theorem r_notn {Q : VK} (q : Q (.bl (!decide (x = .non))) H) : rNotN x .non H Q := ⟨rfl, q⟩
theorem r_truI (q : QT (n != 0) H) : TruQ K (.int n) H QT := ⟨_, rfl, q⟩
theorem r_truB (q : QT b H) : TruQ K (.bl b) H QT := ⟨_, rfl, q⟩
theorem r_truN (q : QT false H) : TruQ K .non H QT := ⟨_, rfl, q⟩
theorem r_tru (q : ta σ H fun x H' => TruQ K x H' QT) : tTruN K ta σ H QT := q
theorem r_truR {r : V → Hp → (Bool → Hp → Prop) → Prop} (q : ta σ H fun x H' => r x H' QT) : tTruR r ta σ H QT := q
theorem r_nx {p : L2.St → Hp → Prop} {q1 : VK} {r s : L2.St → Hp → Prop} (q : p σ H) : Ends.nx ⟨p, q1, r, s⟩ σ H := q
theorem r_rt {p : L2.St → Hp → Prop} {q1 : VK} {r s : L2.St → Hp → Prop} (q : q1 v H) : Ends.rt ⟨p, q1, r, s⟩ v H := q
theorem r_ct {p : L2.St → Hp → Prop} {q1 : VK} {r s : L2.St → Hp → Prop} (q : s σ H) : Ends.ct ⟨p, q1, r, s⟩ σ H := q
theorem r_bk {p : L2.St → Hp → Prop} {q1 : VK} {r s : L2.St → Hp → Prop} (q : r σ H) : Ends.bk ⟨p, q1, r, s⟩ σ H := q
theorem r_next (q : D.nx σ H) : tNext D σ H := q
theorem r_seq (q : tx { D with nx := ty D } σ H) : tSeq tx ty D σ H := q
theorem r_drop (q : te σ H fun _ H1 => D.nx σ H1) : tDrop te D σ H := q
theorem r_ret (q : te σ H fun v H1 => D.rt v H1) : tRet te D σ H := q
theorem r_retN (q : D.rt .non H) : tRetN D σ H := q
theorem r_ifS (q : t σ H fun b H1 => if b = true then tx D σ H1 else ty D σ H1) : tIfS t tx ty D σ H := q
theorem r_asg {g : TG} (q : te σ H fun x H1 => g x σ H1 D.nx) : tAsg te g D σ H := q
theorem r_gname {R : L2.St → Hp → Prop} (q : R (σ.set i (some v)) H) : gName i v σ H R := q
theorem r_par (q : tl σ H fun vs H1 => ∃ v w, vs = [v, w] ∧ D.nx ((σ.set i (some v)).set j (some w)) H1) : tPar i j tl D σ H := q
theorem r_par2 {R : V → V → Prop} (q : R x y) : ∃ v w, [x, y] = [v, w] ∧ R v w := ⟨x, y, rfl, q⟩
theorem r_nil (q : QA [] H) : tNil σ H QA := q
theorem r_cons (q : ta σ H fun x H1 => tr σ H1 fun xs H2 => QA (x :: xs) H2) : tCons ta tr σ H QA := q
theorem r_cb {r : List V → Hp → VK → Prop} (q : tl σ H fun vs H1 => r vs H1 Q) : tCB r tl σ H Q := q
theorem r_tup (q : tl σ H fun xs H1 => xs.length ≤ sizeLine ∧ ∀ p, H1 p = none → Q (.ref p) (upd H1 p (.tup xs))) : tTup tl σ H Q := q
theorem r_lst (q : tl σ H fun xs H1 => xs.length ≤ sizeLine ∧ ∀ p, H1 p = none → Q (.ref p) (upd H1 p (.lst xs))) : tLst tl σ H Q := q
theorem r_cal {sp : Sp} (q : tl σ H fun vs H1 => sp vs H1 Q E) : tCal sp E tl σ H Q := q
theorem r_mak {sp : Sp} (q : tl σ H fun vs H1 => ∀ x dx, H1 x = Option.none → H1 dx = Option.none → dx ≠ x → sp (.ref x :: vs) (upd (upd H1 dx (.own x)) x (.ins C dx [])) (fun v H2 => v = .non ∧ Q (.ref x) H2) E) : StX.tMakeR C sp E tl σ H Q := q
theorem r_makL {sp : Sp} (h : σ[i]? = some (some (.ref C))) (q : StX.tMakeR C sp E tl σ H Q) : tMakL i C sp E tl σ H Q := ⟨h, q⟩
theorem r_prp {sp : Sp} (q : ta σ H fun x H1 => ∃ (a dx : Addr) (fs : List (Str × V)), x = .ref a ∧ H1 a = some (.ins C dx fs) ∧ sp [.ref a] H1 Q E) : tPrp C sp E ta σ H Q := q
theorem r_mt {sp : Sp} (q : ta σ H fun x H1 => ∃ (a dx : Addr) (fs : List (Str × V)), x = .ref a ∧ H1 a = some (.ins C dx fs) ∧ fs.lookup m = none ∧ tl σ H1 fun vs H2 => sp (.ref a :: vs) H2 Q E) : tMt C m sp E ta tl σ H Q := q
theorem r_cmt {sp : Sp} (q : ta σ H fun x H1 => x = .ref C ∧ tl σ H1 fun vs H2 => sp (.ref C :: vs) H2 Q E) : ClX.tCMeth C sp E ta tl σ H Q := q
theorem r_clo {X : Cx} {sp : Sp} (q : tf σ H fun y H1 => ∃ a, y = V.ref a ∧ tl σ H1 fun vs H2 => StX.InsC X H2 a C ∧ sp (V.ref a :: vs) H2 Q E) : StX.tCallO X C sp E tf tl σ H Q := q
theorem r_fld (q : ta σ H fun x H1 => ∃ a C dx fs v, x = .ref a ∧ H1 a = some (.ins C dx fs) ∧ Cls K C ∧ NoAttr K C f ∧ fs.lookup f = some v ∧ Q v H1) : tFld K ta f σ H Q := q
theorem r_sfld (q : tb σ H fun y H1 => ta σ H1 fun x H2 => ∃ a C dx fs, x = .ref a ∧ H2 a = some (.ins C dx fs) ∧ Cls K C ∧ NoAttr K C f ∧ fs.length < 1000 ∧ D.nx σ (upd H2 a (.ins C dx (putF f y fs)))) : sFld K ta tb f D σ H := q
theorem r_rfl {α : Type} {a : α} {R : Prop} (q : R) : a = a ∧ R := ⟨rfl, q⟩
theorem r_max2 (q : Q (.int (max n k)) H) : cMax2 [.int n, .int k] H Q := ⟨n, k, rfl, q⟩
theorem r_min2 (q : Q (.int (min n k)) H) : cMin2 [.int n, .int k] H Q := ⟨n, k, rfl, q⟩
theorem r_int1 (q : Q (.int n) H) : cInt [.int n] H Q := .inl ⟨n, rfl, q⟩
theorem r_int1b (q : Q (.int (if b then 1 else 0)) H) : cInt [.bl b] H Q := .inr ⟨b, rfl, q⟩
theorem r_odd {c : Nat} (q : Q (.int ((c % 2 : Nat) : Int)) H) : rOdd (.int (c : Int)) (.int 1) H Q := ⟨c, rfl, rfl, q⟩
theorem r_sp1 {g : F1} (q : g x H Q E) : Sp1 g [x] H Q E := ⟨x, rfl, q⟩
theorem r_sp2 {g : F2} (q : g x y H Q E) : Sp2 g [x, y] H Q E := ⟨x, y, rfl, q⟩
theorem r_sp3 {g : F3} (q : g x y z H Q E) : Sp3 g [x, y, z] H Q E := ⟨x, y, z, rfl, q⟩
theorem r_sp4 {g : F4} {c : V} (q : g x y z c H Q E) : Sp4 g [x, y, z, c] H Q E := ⟨x, y, z, c, rfl, q⟩
theorem r_sp5 {g : F5} {c d : V} (q : g x y z c d H Q E) : Sp5 g [x, y, z, c, d] H Q E := ⟨x, y, z, c, d, rfl, q⟩
end
end Oil
namespace Oil
open PySem PySem.Spec PyProof.Rows L2
/-- a value of a known built-in kind -/
inductive Kn (K : PySem.W.Frag) (H : Hp) : V → String → Prop where
  | non : Kn K H .non "NoneType"
  | bl (b : Bool) : Kn K H (.bl b) "bool"
  | int (i : Int) : Kn K H (.int i) "int"
  | str (x : Str) : Kn K H (.str x) "str"
  | tup {a : Addr} {xs : List V} (e : H a = some (.tup xs)) : Kn K H (.ref a) "tuple"
  | lst {a : Addr} {xs : List V} (e : H a = some (.lst xs)) : Kn K H (.ref a) "list"
theorem Kn.ty {K : PySem.W.Frag} {H : Hp} {v : V} {T : String} (k : Kn K H v T) : TyX K H v (.type T) := by
  cases k with
  | non => exact .base .non
  | bl b => exact .base (.bl b)
  | int i => exact .base (.int i)
  | str x => exact .base (.str x)
  | tup e => exact .base (.tup e)
  | lst e => exact .base (.lst e)
theorem Kn.mono {K : PySem.W.Frag} {H H' : Hp} {v : V} {T : String} (e : Same H H') (k : Kn K H v T) : Kn K H' v T := by
  cases k with
  | non => exact .non
  | bl b => exact .bl b
  | int i => exact .int i
  | str x => exact .str x
  | tup h => exact .tup (e _ _ h)
  | lst h => exact .lst (e _ _ h)
section
variable {K : PySem.W.Frag} {H : Hp} {Q : VK} {v : V} {T c : String} {b : Bool}
theorem r_isi (k : Kn K H v T) (h : kitB T c = some b) (q : Q (.bl b) H) : rIsi K [v, .ty c] H Q :=
  ⟨v, .ty c, .type T, .type c, b, rfl, .ty c, k.ty, kit_ty h, q⟩
end
section
variable {K : PySem.W.Frag} {H : Hp} {Q : VK} {v : V} {T c : String}
theorem r_isiT (k : Kn K H v T) (h : kitB T c = some true) (q : Q (.bl true) H) : rIsi K [v, .ty c] H Q := r_isi k h q
theorem r_isiF (k : Kn K H v T) (h : kitB T c = some false) (q : Q (.bl false) H) : rIsi K [v, .ty c] H Q := r_isi k h q
end
/-- what isinstance asks of an own class whose instances it is given -/
structure Oc (K : PySem.W.Frag) (C : Addr) : Prop where
  cl : Cls K C
  ha : PySem.W.findIn K (.ref C) "__class__" = some (some (.builtin "object.__class__"))
  hn : PySem.W.specialIn K (.builtin "object.__class__") "__get__" = some (some (.builtin "getset_descriptor.__get__"))
  ht : PySem.W.takesIn K (.builtin "object.__class__") = some true
  hm : PySem.W.mroIn K C (.type "object") = some true
/-- values of the built-in kinds are none of the class -/
def NotC (K : PySem.W.Frag) (C : Addr) : Prop := ∀ T ∈ ["NoneType", "bool", "int", "str", "tuple", "list"], PySem.W.kitOne K (.type T) (.ref C) = some false
section
variable {K : PySem.W.Frag} {H : Hp} {Q : VK} {v : V} {T : String} {a C dx : Addr} {fs : List (Str × V)}
theorem Kn.mem (k : Kn K H v T) : T ∈ ["NoneType", "bool", "int", "str", "tuple", "list"] := by cases k <;> decide
theorem Kn.kind (k : Kn K H v T) : T = "NoneType" ∨ T = "bool" ∨ T = "int" ∨ T = "str" ∨ T = "tuple" ∨ T = "list" := by
  have h := k.mem
  simp only [List.mem_cons, List.not_mem_nil, or_false] at h
  exact h
theorem r_isiO (o : Oc K C) (h : H a = some (.ins C dx fs)) (q : Q (.bl true) H) : rIsi K [.ref a, .ref C] H Q :=
  ⟨.ref a, .ref C, .ref C, .ref C, true, rfl, .own C, .base (.ins h o.cl o.ha o.hn o.ht o.hm), by unfold PySem.W.kitOne; rw [if_pos (beq_self_eq_true _)], q⟩
theorem r_isiN (o : NotC K C) (k : Kn K H v T) (q : Q (.bl false) H) : rIsi K [v, .ref C] H Q :=
  ⟨v, .ref C, .type T, .ref C, false, rfl, .own C, k.ty, o T k.mem, q⟩
end
theorem putF_ne {f g : Str} {v w : V} {r : List (Str × V)} (h : ¬ g = f) : putF f v ((g, w) :: r) = (g, w) :: putF f v r := by
  show (if g = f then _ else _) = _
  rw [if_neg h]
theorem Same.new {H : Hp} {p : Addr} {o : HO} (h : H p = none) : Same H (upd H p o) := fun a u e => by
  rw [upd_ne (ne_of_none e h)]
  exact e
end Oil
namespace Oil
open PySem PySem.Spec PyProof.Rows L2
section
variable {K : PySem.W.Frag} {σ : L2.St} {H : Hp} {Q : VK} {D : Ends} {i j : Nat} {tl : TE} {ta : TA} {a : Addr} {xs : List V} {g : TG} {tb : TS} {n lo : Int}
/-- a loop at its start -/
def ForW (J : It) (g : TG) (tb : TS) (D : Ends) (σ : L2.St) (H1 : Hp) : Prop := ∃ W : Nat → Nat → L2.St → Hp → Prop, (∃ m, W 0 m σ H1) ∧ ∀ i m σ H, W i m σ H →
  (J.stop i H ∧ D.nx σ H) ∨ (J.go i H ∧ ∃ N : L2.St → Hp → Prop, (∀ σ' H', N σ' H' → ∃ m', m' < m ∧ W (i + 1) m' σ' H') ∧ ∀ x H', J.yld i H x H' → g x σ H' fun σ2 H2 => tb { D with nx := N, ct := N, bk := D.nx } σ2 H2)
theorem r_for {wi : TI} (q : wi σ H fun J H1 => ForW J g tb D σ H1) : tFor wi g tb D σ H := q
def qLst (K : PySem.W.Frag) (R : It → Hp → Prop) (x : V) (H1 : Hp) : Prop := ∃ a, x = .ref a ∧ (∃ xs, SqL K H1 a xs) ∧ R (Itl K a) H1
def qTup (K : PySem.W.Frag) (R : It → Hp → Prop) (x : V) (H1 : Hp) : Prop := ∃ a, x = .ref a ∧ (∃ xs, SqT K H1 a xs) ∧ R (Itt K a) H1
def qRg1 (R : It → Hp → Prop) (vs : List V) (H1 : Hp) : Prop := ∃ j : Int, vs = [.int j] ∧ -(2 ^ 62) ≤ j ∧ j < 2 ^ 62 ∧ R (Itr 0 j.toNat) H1
def qRg2 (R : It → Hp → Prop) (vs : List V) (H1 : Hp) : Prop := ∃ i j : Int, vs = [.int i, .int j] ∧ (-(2 ^ 62) ≤ i ∧ i < 2 ^ 62 ∧ -(2 ^ 62) ≤ j ∧ j < 2 ^ 62) ∧ R (Itr i (j - i).toNat) H1
theorem r_ilist {R : It → Hp → Prop} (q : tl σ H (qLst K R)) : iList K tl σ H R := q
theorem r_itup {R : It → Hp → Prop} (q : tl σ H (qTup K R)) : iTup K tl σ H R := q
theorem r_irng1 {R : It → Hp → Prop} (q : ta σ H (qRg1 R)) : iRng1 ta σ H R := q
theorem r_irng2 {R : It → Hp → Prop} (q : ta σ H (qRg2 R)) : iRng2 ta σ H R := q
end
structure Dice (K : PySem.W.Frag) (H : Hp) (d : Addr) : Prop where
  ex : ∃ (sa : Addr) (ns : List Int) (p m c : Int), H d = some (.lst [.ref sa, .int p, .int m, .int c]) ∧ 0 ≤ p ∧ 0 ≤ m ∧ m < 2147483647 ∧ ns.length ≤ 63 ∧ ∀ o, SqL K (upd H d o) sa (ns.map V.int)
/-- the same, the script's list said -/
structure DiceS (K : PySem.W.Frag) (H : Hp) (d sa : Addr) : Prop where
  ex : ∃ (ns : List Int) (p m c : Int), H d = some (.lst [.ref sa, .int p, .int m, .int c]) ∧ 0 ≤ p ∧ 0 ≤ m ∧ m < 2147483647 ∧ ns.length ≤ 63 ∧ ∀ o, SqL K (upd H d o) sa (ns.map V.int)
theorem Dice.s {K : PySem.W.Frag} {H : Hp} {d : Addr} (h : Dice K H d) : ∃ sa, DiceS K H d sa := by
  obtain ⟨sa, ns, p, m, c, z⟩ := h.ex
  exact ⟨sa, ns, p, m, c, z⟩
theorem DiceS.dice {K : PySem.W.Frag} {H : Hp} {d sa : Addr} (h : DiceS K H d sa) : Dice K H d := by
  obtain ⟨ns, p, m, c, z⟩ := h.ex
  exact ⟨sa, ns, p, m, c, z⟩
/-- all but the dice is as it was -/
structure Nx (K : PySem.W.Frag) (d : Addr) (H H' : Hp) : Prop where
  keep : ∀ a o, a ≠ d → H a = some o → H' a = some o
  dice : Dice K H' d
  same_ : ∀ sa, DiceS K H d sa → DiceS K H' d sa
theorem sq_mono {K : PySem.W.Frag} {H H' : Hp} {a : Addr} {xs : List V} (e : Same H H') (h : SqL K H a xs) : SqL K H' a xs := Same.seq e h
theorem Dice.same {K : PySem.W.Frag} {H H' : Hp} {d : Addr} (h : Dice K H d) (e : Same H H') : Dice K H' d := by
  obtain ⟨sa, ns, p, m, c, h1, h2, h3, h4, h5, h6⟩ := h.ex
  refine ⟨sa, ns, p, m, c, e _ _ h1, h2, h3, h4, h5, fun o => sq_mono (fun b u q => ?_) (h6 o)⟩
  by_cases hb : b = d
  · rw [hb, upd_same] at q ⊢
    exact q
  · rw [upd_ne hb] at q ⊢
    exact e _ _ q
theorem DiceS.same {K : PySem.W.Frag} {H H' : Hp} {d sa : Addr} (h : DiceS K H d sa) (e : Same H H') : DiceS K H' d sa := by
  obtain ⟨ns, p, m, c, h1, h2, h3, h4, h5, h6⟩ := h.ex
  refine ⟨ns, p, m, c, e _ _ h1, h2, h3, h4, h5, fun o => sq_mono (fun b u q => ?_) (h6 o)⟩
  by_cases hb : b = d
  · rw [hb, upd_same] at q ⊢
    exact q
  · rw [upd_ne hb] at q ⊢
    exact e _ _ q
theorem Nx.of {K : PySem.W.Frag} {d : Addr} {H H' : Hp} (h : Dice K H d) (e : Same H H') : Nx K d H H' := ⟨fun a o _ q => e a o q, h.same e, fun _ z => z.same e⟩
theorem Nx.refl {K : PySem.W.Frag} {d : Addr} {H : Hp} (h : Dice K H d) : Nx K d H H := .of h (Same.refl H)
theorem Nx.trans {K : PySem.W.Frag} {d : Addr} {H H1 H2 : Hp} (a : Nx K d H H1) (b : Nx K d H1 H2) : Nx K d H H2 := ⟨fun x o n q => b.keep x o n (a.keep x o n q), b.dice, fun sa z => b.same_ sa (a.same_ sa z)⟩
theorem Nx.same {K : PySem.W.Frag} {d : Addr} {H H1 H2 : Hp} (a : Nx K d H H1) (e : Same H1 H2) : Nx K d H H2 := a.trans (.of a.dice e)
/-- what is no list is not the dice -/
theorem Dice.ne {K : PySem.W.Frag} {H : Hp} {d a : Addr} {o : HO} (h : Dice K H d) (e : H a = some o) (n : ∀ xs, o ≠ .lst xs) : a ≠ d := by
  obtain ⟨sa, ns, p, m, c, h1, _⟩ := h.ex
  exact ne_of e h1 (n _)
theorem Nx.at {K : PySem.W.Frag} {H H' : Hp} {d a : Addr} {o : HO} (x : Nx K d H H') (h : Dice K H d) (e : H a = some o) (n : ∀ xs, o ≠ .lst xs) : H' a = some o := x.keep a o (h.ne e n) e
theorem Dice.fresh {K : PySem.W.Frag} {H : Hp} {d a : Addr} (h : Dice K H d) (e : H a = none) : a ≠ d := by
  obtain ⟨sa, ns, p, m, c, h1, _⟩ := h.ex
  exact (ne_of_none h1 e).symm
/-- the dice written anew -/
theorem Dice.put {K : PySem.W.Frag} {H : Hp} {d sa : Addr} {ns : List Int} {p m c p0 m0 c0 : Int} (hd : H d = some (.lst [.ref sa, .int p0, .int m0, .int c0])) (h2 : 0 ≤ p) (h3 : 0 ≤ m) (h4 : m < 2147483647) (h5 : ns.length ≤ 63) (h6 : ∀ o, SqL K (upd H d o) sa (ns.map V.int)) :
    Nx K d H (upd H d (.lst [.ref sa, .int p, .int m, .int c])) :=
  ⟨fun a o n e => by rw [upd_ne n]; exact e, ⟨sa, ns, p, m, c, upd_same, h2, h3, h4, h5, fun o => by rw [upd_upd]; exact h6 o⟩, fun sb z => by
    obtain ⟨_, _, _, _, z1, _⟩ := z.ex
    rw [hd] at z1
    have z2 : V.ref sa = V.ref sb := by
      have := Option.some.inj z1
      injection this with z3
      injection z3
    cases z2
    exact ⟨ns, p, m, c, upd_same, h2, h3, h4, h5, fun o => by rw [upd_upd]; exact h6 o⟩⟩
/-- a list of the law's own, new since H, may be written -/
theorem Nx.write {K : PySem.W.Frag} {H G : Hp} {d D : Addr} {o1 : HO} (x : Nx K d H G) (hD : Dice K H d) (nD : H D = none) : Nx K d H (upd G D o1) := by
  have key : ∀ sa, DiceS K H d sa → DiceS K (upd G D o1) d sa := fun sa z => by
    obtain ⟨ns0, p0, m0, c0, a1, _, _, _, a5, a6⟩ := z.ex
    obtain ⟨ns, p, m, c, b1, b2, b3, b4, b5, b6⟩ := (x.same_ sa z).ex
    have dD : d ≠ D := ne_of_none a1 nD
    have at_d : upd G D o1 d = some (.lst [.ref sa, .int p, .int m, .int c]) := by rw [upd_ne dD]; exact b1
    have old : ∀ u, upd H d (.own d) sa = some u → u ≠ .own d → sa ≠ D := fun u e n => by
      by_cases h : sa = d
      · rw [h, upd_same] at e
        exact absurd (Option.some.inj e).symm n
      · rw [upd_ne h] at e
        exact ne_of_none e nD
    have go : sa ≠ D → DiceS K (upd G D o1) d sa := fun nD2 => by
      refine ⟨ns, p, m, c, at_d, b2, b3, b4, b5, fun o => ?_⟩
      have e : upd (upd G D o1) d o sa = upd G d o sa := by
        by_cases h : sa = d
        · rw [h, upd_same, upd_same]
        · rw [upd_ne h, upd_ne h, upd_ne nD2]
      rcases b6 o with (w | ⟨y, w⟩) | w
      · exact .inl (.inl (e.trans w))
      · exact .inl (.inr ⟨y, e.trans w⟩)
      · exact .inr w
    rcases a6 (.own d) with (w | ⟨y, w⟩) | w
    · exact go (old _ w (fun q => by cases q))
    · exact go (old _ w (fun q => by cases q))
    · exact ⟨ns0, p, m, c, at_d, b2, b3, b4, a5, fun o => .inr w⟩
  obtain ⟨sa, hs⟩ := hD.s
  exact ⟨fun a o n e => by rw [upd_ne (ne_of_none e nD)]; exact x.keep a o n e, (key sa hs).dice, key⟩
theorem Dice.new {K : PySem.W.Frag} {H : Hp} {d sa : Addr} {ns : List Int} {p m c : Int} (hd : H d = none) (h2 : 0 ≤ p) (h3 : 0 ≤ m) (h4 : m < 2147483647) (h5 : ns.length ≤ 63) (h6 : SqL K H sa (ns.map V.int)) :
    Dice K (upd H d (.lst [.ref sa, .int p, .int m, .int c])) d :=
  ⟨sa, ns, p, m, c, upd_same, h2, h3, h4, h5, fun o => by rw [upd_upd]; exact sq_mono (Same.new hd) h6⟩
def q_next (K : PySem.W.Frag) : F2 := fun a b H Q _ => ∃ (d : Addr) (n : Int), a = .ref d ∧ b = .int n ∧ 0 < n ∧ n < 2 ^ 100 ∧ Dice K H d ∧ ∀ r H', 0 ≤ r → r < n → Nx K d H H' → Q (.int r) H'
section
variable {K : PySem.W.Frag} {H : Hp} {Q : VK} {a : Addr} {xs : List V} {k : Int} {v : V} {j : Nat}
theorem r_ixL (h : SqL K H a xs) (e : atI xs k = some v) (q : Q v H) : rIxL K (.ref a) (.int k) H Q := ⟨a, xs, k, v, rfl, rfl, h, e, q⟩
theorem r_setL {R : Hp → Prop} (h : H a = some (.lst xs)) (e : ixN xs.length k = some j) (q : R (upd H a (.lst (xs.set j v)))) : rSetL (.ref a) (.int k) v H R := ⟨a, xs, k, j, rfl, rfl, h, e, q⟩
theorem r_gsub {ta tb : TE} {t : TSet} {σ : L2.St} {R : L2.St → Hp → Prop} (q : ta σ H fun o H1 => tb σ H1 fun i H2 => t o i v H2 fun H3 => R σ H3) : gSub ta tb t v σ H R := q
theorem at_nat {xs : List V} {j : Nat} {v : V} (h : xs[j]? = some v) : atI xs (j : Int) = some v := atI_nat h
end
end Oil
namespace Oil
open PySem PySem.Spec PyProof.Rows L2
section
variable {K : PySem.W.Frag} {a D : Addr} {d : Option Addr} {H : Hp} {Q : VK} {cW cS cU cN cB : Addr} {b1 b2 b3 b4 : Bool}
theorem r_bm {T : String} {r : V → List V → Hp → VK → Prop} {to : TE} {t : TA} {σ : L2.St} (q : to σ H fun x H1 => tyV K T x H1 ∧ t σ H1 fun xs H2 => r x xs H2 Q) : tBM K T r to t σ H Q := q
end
end Oil
namespace Oil
open PySem PySem.Spec PyProof.Rows L2
/-- a def of the module whose code object is at c -/
structure FunC (K : PySem.W.Frag) (x qual : Str) (st : Stmt) (f : Addr) (fd : FuncData) (c : Addr) : Prop where
  ex : ∃ (oc : Value) (od : Option Addr) (kV doc pm : Value) (an : Option Addr) (ct : Value) (osl : Array (Option Value)),
    fd = PySem.W.fnOf x qual (defArgs st) (defBody st) (defScope st) .none kV doc pm an (.ref c) ct ∧ K.lookup f = some ⟨oc, od, .func fd, osl⟩ ∧ PySem.W.codeIn K (.ref c) qual = true
section
variable {P : Program} {w : World} {K : PySem.W.Frag} {mg : Str → Option Value} {base : Heap}
theorem FunC.okX {x qual : Str} {st : Stmt} {f c : Addr} {fd : FuncData} {N ps : List Str} {k : Nat} {sp : Sp} (F : FunC K x qual st f fd c) (S : FnScope N ps (defScope st)) (len : ∀ vs H Q E, sp vs H Q E → vs.length = ps.length)
    (hbody : ∀ (A : Around) (outer : List Env) (s : Shared) (H : Hp) (vs : List V) (Q : VK) (E : XK), Room k (A.deeper (envOfC qual (defScope st) s.heap.objs.size f (.ref c))) → sp vs H Q E →
      ∃ t, PSs (cxOf (L2.CX P w) P w K mg base N qual (defScope st) f (.ref c) A outer s H E) (defBody st) t ∧ t { nx := fun _ H' => Q .non H', rt := Q } (start N vs) H) : FnOk P w K mg base (L2.CX P w) (k + 1) f fd ps sp := by
  obtain ⟨oc, od, kV, doc, pm, an, ct, osl, rfl, lk, hcd⟩ := F.ex
  exact fn_of lk hcd S len fun A outer s H vs Q E hr hsp => hbody A outer s H vs Q E hr hsp
end
section
variable {K : PySem.W.Frag} {H H' : Hp} {d : Addr} {T : List (Addr × Str)}
theorem Dice.ext (h : Dice K H d) (e : LamX.ExtN H H') : Dice K H' d := by
  obtain ⟨sa, ns, p, m, c, h1, h2, h3, h4, h5, h6⟩ := h.ex
  refine ⟨sa, ns, p, m, c, e _ _ h1 (fun _ z => by cases z), h2, h3, h4, h5, fun o => ?_⟩
  have key : ∀ (b : Addr) (u : HO), (∀ ps, u ≠ .tbl ps) → upd H d o b = some u → upd H' d o b = some u := fun b u n q => by
    by_cases hb : b = d
    · rw [hb, upd_same] at q ⊢
      exact q
    · rw [upd_ne hb] at q ⊢
      exact e _ _ q n
  rcases h6 o with (z | ⟨y, z⟩) | z
  · exact .inl (.inl (key _ _ (fun _ z => by cases z) z))
  · exact .inl (.inr ⟨y, key _ _ (fun _ z => by cases z) z⟩)
  · exact .inr z
end
section
variable {σ : L2.St} {H : Hp} {p : L2.St → Hp → Prop} {q1 : VK} {r s : L2.St → Hp → Prop} {tx ty : TS} {te : TE} {tl : TA} {g : TG} {tb : TS} {K : PySem.W.Frag} {a : Addr} {xs : List V} {i j : Nat} {wi : TI} {n lo : Int} {t : TT}
theorem f_seq (q : tx ⟨ty ⟨p, q1, r, s⟩, q1, r, s⟩ σ H) : tSeq tx ty ⟨p, q1, r, s⟩ σ H := q
theorem f_next (q : p σ H) : tNext ⟨p, q1, r, s⟩ σ H := q
theorem f_drop (q : te σ H fun _ H1 => p σ H1) : tDrop te ⟨p, q1, r, s⟩ σ H := q
theorem f_ret (q : te σ H q1) : tRet te ⟨p, q1, r, s⟩ σ H := q
theorem f_retN (q : q1 .non H) : tRetN ⟨p, q1, r, s⟩ σ H := q
theorem f_asg (q : te σ H fun x H1 => g x σ H1 p) : tAsg te g ⟨p, q1, r, s⟩ σ H := q
theorem f_par (q : tl σ H fun vs H1 => ∃ v w, vs = [v, w] ∧ p ((σ.set i (some v)).set j (some w)) H1) : tPar i j tl ⟨p, q1, r, s⟩ σ H := q
end
end Oil
namespace Oil
open PySem PySem.Spec PyProof.Rows L2
section
variable {X : Cx} {pins : List (Addr × Obj)} {σ : L2.St} {H : Hp} {s : Shared} {a C u : Addr} {A : Around} {E : Value → Shared → Prop}
/-- the bound built-in called: nothing of it is told -/
theorem call_mw {us : List Value} {Q : Value → Shared → Prop} (T : OexC X.K C) (I : Inv X pins σ H s) (e : H a = some (exo a C none)) (hu : s.heap.get? u = some (PySem.W.kxs_mw "ValueError.__init__" a)) (hl : us.length ≤ sizeLine)
    (h : ∀ s', Inv X pins σ H s' → Q .none s') : wpAny (model X.prog X.w) A (call (.ref u) us) Q E s := by
  obtain ⟨nm, q, N, bs, bm, sn, sub, ab, col, dd, k0, k1, k2, k3, k5, hC, hbm⟩ := T.cls
  obtain ⟨t1, ho⟩ := exo_at I.hok e
  obtain ⟨hp, g, d, t, os⟩ := s
  have b1 : (Value.type "method-wrapper" == Value.type "method" || Value.type "method-wrapper" == Value.type "builtin_function_or_method" || Value.type "method-wrapper" == Value.type "method-wrapper") = true := by decide
  refine wpAny_call (codeAny_of_tree ?_)
  show wpAny (model X.prog X.w) A.in1 (callAny (.ref u) ⟨us, []⟩) _ _ ⟨hp, g, d, t, os⟩
  simp only [callAny]
  refine wpAny_bind (wpAny_load (o := PySem.W.kxs_mw "ValueError.__init__" a) hu ?_)
  simp only [PySem.W.kxs_mw, b1, if_true]
  refine PySem.W.KFB.if_so (by decide) ?_
  refine wpAny_bind (PySem.W.check_bound_init F.excBase_ValueError.toExcCallFacts (I.kIn _ _ hC) ho rfl ?_)
  refine wpAny_bind (wpAny_pure (wpAny_pure ⟨plainId_quiet F.excBase_ValueError.init.plain _, codeAny_builtin F.excBase_ValueError.initEntry ?_⟩))
  refine PySem.W.exc_init_tree (cls := .ref C) (t0 := t1) (dv := none) (c2 := .none) (c3 := .none) (b4 := .bool false) ho hl fun h' k hx _ => ?_
  have J := I.write (t' := t) (x := a) (e := a) (o := exo a C none) (by rw [e]; exact True.intro) (.inl rfl) k ⟨_, hx⟩ (exo_ok hx)
  have eu : upd H a (exo a C none) = H := funext fun b => by
    by_cases hb : b = a
    · rw [hb, upd_same, e]
    · rw [upd_ne hb]
  rw [eu] at J
  exact h _ J
end
/-- what super().__init__(..) asks of the def at f (its code object at cda, its cell of the class at cc), of the class at C -/
structure SupF (P : Program) (K : PySem.W.Frag) (mg : Str → Option Value) (C f cc cda : Addr) (me : Str) : Prop where
  fn : ∃ (of : Obj) (fd : FuncData) (ar : Arg), K.lookup f = some of ∧ of.data = .func fd ∧ (fd.params.posonlyargs ++ fd.params.args).head? = some ar ∧ ar.arg = me
  cd : ∃ (oc : Obj) (vs : Array Value) (file : Str) (tf : Tok), K.lookup cda = some oc ∧ oc.data = .fields vs ∧ vs[2]? = some (.str file tf) ∧ ((P.main.file : Str) == file) = true
  top : (P.main.scope.names.lookup ("super" : Str)).isSome = false
  cell : ∃ oc : Obj, K.lookup cc = some oc ∧ oc.data = .cell (some (.ref C))
  sup : mg "super" = none
  boot : bootBuiltins "super" = some (.type "super")
  oex : OexC K C
  any : PySem.W.nsIn K cStatics "thirdparty.any" = some none
  mro : PySem.W.mroIn K C (.ref C) = some true
  ini : PySem.W.ks_superIn K C C "__init__" = some (some (.builtin "ValueError.__init__"))
  ve : PySem.W.subIn K (.ref C) (.type "ValueError") = some true
section
variable {X : Cx} {pins : List (Addr × Obj)} {σ : L2.St} {H : Hp} {s : Shared} {C f cc cda x : Addr} {me : Str} {e : Expr} {es : List Expr} {ta : TA} {p0 p1 p2 p3 p4 : Pos} {body : List Stmt} {R : Hp → Prop}
theorem sup_stmt {pl : Sem Bool} (S : SupF X.prog X.K X.mg C f cc cda me) (I : Inv X pins σ H s) (hfun : X.env.func = some f) (hcode : X.env.code = .ref cda) (hcl : X.env.cells.lookup ("__class__" : Str) = some cc)
    (hks : X.env.kindOf "super" = some .globalImplicit) (hkc : X.env.kindOf "__class__" = some .free) (hka : X.env.kindOf me = some .local) (i0 : X.N[0]? = some me) (e0 : σ[0]? = some (some (.ref x)))
    (ex : H x = some (exo x C none)) (ha : PA X (e :: es) ta) (q : ta σ H fun vs H1 => vs.length ≤ 1000 ∧ H1 x = some (exo x C none) ∧ R H1)
    (hi : interactive X.env = false) (hs : swapsWith (.Call (.Attribute (.Call (.Name "super" p0) [] [] p1) "__init__" p2) (e :: es) [] p3) none p4.line X.env = pure false)
    (he : eval (.Call (.Attribute (.Call (.Name "super" p0) [] [] p1) "__init__" p2) (e :: es) [] p3) X.env = (do
      let ov ← attributeBase (.Call (.Name "super" p0) [] [] p1) "__init__" X.env (eval (.Call (.Name "super" p0) [] [] p1) X.env)
      standAt p2.atName
      let (m, first) ← holding [ov] (getMethod ov "__init__" pl)
      callWith p3 m first (backTo p3 (starEach (e :: es) X.env)) []))
    (hse : starEach (e :: es) X.env = (false, eval e X.env) :: starEach es X.env) (hpl : (backTo p3 (starEach es X.env)).any (·.1) = false) :
    _root_.PySem.wpAt (model X.prog X.w) X.A (.func body X.env) (exec (.Expr (.Call (.Attribute (.Call (.Name "super" p0) [] [] p1) "__init__" p2) (e :: es) [] p3) p4) X.env) (fun fl s' => fl = .next ∧ ∃ H1, Inv X pins σ H1 s' ∧ R H1) X.xe s := by
  obtain ⟨of, fd, ar, lf, hfd, hp, rfl⟩ := S.fn
  obtain ⟨oc, vs, file, tf, lcd, hoc, hvs, hfile⟩ := S.cd
  obtain ⟨ocl, lcc, hcell⟩ := S.cell
  obtain ⟨nm, qn, N, bs, bm, sn, sub, ab, col, dd, k0, k1, k2, k3, k5, hC, hbm⟩ := S.oex.cls
  have hcd : PySem.W.clsIn X.K C = some { name := nm, bases := bs, mro := .ref C :: bm, ns := N, qualname := qn, hasDict := true, slotNames := sn, subclasses := sub, abstract := ab, collection := col, hasDel := false } := by
    unfold PySem.W.clsIn
    rw [hC] <;> rfl
  refine ks_wpAt_Expr_any ?_ hi hs
  refine ks_wpAt_MethodCall (pl := pl) ?_ he
  refine ks_wpAt_super_base hks hkc (by decide) hfun (I.kIn _ _ lf) hfd hp hcode (I.kIn _ _ lcd) hoc hvs hfile S.top ?_
  obtain ⟨mb, hb1, hb2⟩ := I.mod.blt
  refine PySem.W.ks_loadName_global I.ok.kind hks (PySem.Calls.loadGlobal_builtin (by rw [I.ok.glob]; exact I.mod.glob.keeps I.bk) S.sup (by rw [I.ok.blt]; exact hb1.keeps I.bk) ((hb2 "super" (by decide)).trans S.boot) ⟨rfl, ?_⟩)
  refine wpAny_loadName_free I.ok.kind hkc hcl ⟨_, I.kIn _ _ lcc, hcell⟩ ?_
  obtain ⟨m, hn, hl⟩ := I.loc
  obtain ⟨u, r, lk⟩ := hl 0 _ (.ref x) i0 e0 (.inl hka)
  obtain rfl : u = Value.ref x := r
  have hm : m ar.arg = some (.ref x) := by
    rcases lk with ⟨_, z⟩ | ⟨hk, _⟩
    · exact z
    · rcases hk with hk | hk
      · rw [hka] at hk
        cases hk
      · rw [hka] at hk
        cases hk
  refine wpAny_loadName_local I.ok.kind hka hn hm ?_
  obtain ⟨t1, ho⟩ := exo_at I.hok ex
  have KX := I.kIn
  obtain ⟨hp', g, d, t, os⟩ := s
  have hC1 := KX _ _ hC
  have xC : x ≠ C := fun z => by
    subst z
    have z2 := Option.some.inj (ho.symm.trans hC1)
    have z3 := congrArg Obj.data z2
    cases z3
  refine ks_wpAny_isType_cls hC1 rfl ⟨rfl, ?_⟩
  refine ks_wpAny_call_super hC1 rfl ho rfl (fun c z => by cases z) (PySem.W.looks_mroIn KX S.mro) fun h1 e1 k1 => ?_
  have I1 : Inv X pins σ H ⟨h1, g, d, t, os⟩ := I.kept (t' := t) k1
  have hf : PySem.W.alongIn X.K "__init__" (((Value.ref C :: bm).dropWhile (· != .ref C)).drop 1) = some (some (.builtin "ValueError.__init__")) := by
    have z := S.ini
    unfold PySem.W.ks_superIn at z
    rw [hcd] at z
    exact z
  have Ix : PySem.W.InstAt h1 x { cls := .ref C, dict := none, data := .fields #[.ref t1, .none, .none, .none, .bool false, .none] } C none := ⟨k1 _ _ ho, rfl, rfl, trivial⟩
  refine PySem.W.kxs_getMethod PySem.W.kxs_ValueError e1 (PySem.W.looks_opaque I1.kIn S.any) (l₀ := .ref C :: bm) (fun A Q E s k q => wpAny_bind ((PySem.W.looks_clsIn I1.kIn hcd) A _ E s k (wpAny_pure q))) rfl I1.kIn hf
    (Ix.type.andThen (PySem.W.looks_subIn I1.kIn S.ve)) xC (by decide) ?_
  have k2 : ∀ b o, h1.get? b = some o → (h1.push (PySem.W.kxs_mw "ValueError.__init__" x)).get? b = some o := fun b o z => Heap.get?_push_of_some _ z
  have I2 : Inv X pins σ H ⟨h1.push (PySem.W.kxs_mw "ValueError.__init__" x), g, d, t + 1, os⟩ := I1.kept (t' := t + 1) k2
  have hu : (h1.push (PySem.W.kxs_mw "ValueError.__init__" x)).get? h1.objs.size = some (PySem.W.kxs_mw "ValueError.__init__" x) := Heap.get?_push_at rfl rfl
  have nu : H h1.objs.size = none := I1.hok.fresh (Nat.le_refl _)
  have I3 : Inv X ((h1.objs.size, PySem.W.kxs_mw "ValueError.__init__" x) :: pins) σ H ⟨h1.push (PySem.W.kxs_mw "ValueError.__init__" x), g, d, t + 1, os⟩ := I2.pins_of fun p hp => by
    rcases List.mem_cons.mp hp with rfl | hp
    · refine ⟨hu, nu, fun z => ?_, fun z => ?_, fun v z => by cases z⟩
      · obtain ⟨m1, ⟨oL, _, _, hL, _⟩, _⟩ := I1.loc
        have := Heap.lt_size hL
        rw [← z] at this
        exact Nat.lt_irrefl _ this
      · obtain ⟨_, oz, hz, _⟩ := I1.ok.funs.mem z
        obtain ⟨m1, ⟨oL, _, _, hL, _⟩, _⟩ := I1.loc
        have w1 : h1.objs.size < X.s_0.heap.objs.size := Heap.lt_size hz
        have w2 : X.env.locals < h1.objs.size := Heap.lt_size hL
        exact Nat.lt_irrefl _ (Nat.lt_of_lt_of_le w1 (Nat.le_trans I1.ok.above (Nat.le_of_lt w2)))
    · exact I2.pin p (List.mem_append_right _ hp)
  refine (?_ : wpAny (model X.prog X.w) X.A (callWith p3 (.ref h1.objs.size) [] (backTo p3 (starEach (e :: es) X.env)) []) _ X.xe _)
  have ev : wpAny (model X.prog X.w) X.A (spliced (backTo p3 (starEach (e :: es) X.env))) (fun us s2 => PySem.W.KxsAt "ValueError.__init__" h1.objs.size x s2.heap ∧ wpAny (model X.prog X.w) X.A (call (.ref h1.objs.size) ([] ++ us)) (fun _ s' => Flow.next = Flow.next ∧ ∃ H1, Inv X pins σ H1 s' ∧ R H1) X.xe s2) X.xe ⟨h1.push (PySem.W.kxs_mw "ValueError.__init__" x), g, d, t + 1, os⟩ :=
    thn (ha.run p3 _ _ σ H _ I3 q) fun us s2 z => by
      obtain ⟨vs, H1, I4, r1, hz, hx1, hR⟩ := z
      have pu := (I4.pin _ (List.mem_append_right _ (List.mem_cons_self ..))).1
      have hlen : us.length ≤ sizeLine := by
        rw [← Paired.length r1, sizeLine_eq]
        omega
      exact ⟨pu, call_mw S.oex (I4.pins_of fun p hp => I4.pin p (List.mem_append_right _ (List.mem_cons_of_mem _ hp))) hx1 pu hlen fun s' J => ⟨rfl, H1, J, hR⟩⟩
  rw [hse] at ev ⊢
  exact PySem.W.kxs_callWith (i := "ValueError.__init__") (x := x) (by show (false || (backTo p3 (starEach es X.env)).any (·.1)) = false; rw [hpl]; rfl) (PySem.Calls.evalArgs_plain ev)
end
/-- the scope of a def that reads its class's cell -/
structure ClScope (N P : List Str) (sc : Scope) : Prop where
  kind : sc.kind = .function
  co : sc.isCoroutine = false
  gen : sc.isGenerator = false
  nd : N.Nodup
  pre : N.take P.length = P
  par : ∀ x ∈ P, sc.names.lookup x = some .local
  nocell : ∀ y ∈ sc.names, y.2 ≠ .cell
  free : ∀ y ∈ sc.names, y.2 = .free → y.1 = ("__class__" : Str)
abbrev envS (qual : Str) (scope : Scope) (L f cda cc : Addr) : Env := PySem.W.envX qual scope L f (.ref cda) [("__class__", cc)]
/-- its body's context at the entry -/
def cxS (P : Program) (w : World) (K : PySem.W.Frag) (mg : Str → Option Value) (base : Heap) (N : List Str) (qual : Str) (scope : Scope) (f cda cc : Addr) (A : Around) (outer : List Env) (s : Shared) (H : Hp) (E : XK) : Cx :=
  { prog := P, w := w, K := K, mg := mg, base := base, A := A.deeper (envS qual scope s.heap.objs.size f cda cc), N := N, s_0 := s, H_0 := H, env := envS qual scope s.heap.objs.size f cda cc, outer := outer,
    stack := envS qual scope s.heap.objs.size f cda cc :: outer, ex := [], calm := true, fn := fun _ => false, pn := [],
    xe := fun e s1 => wpAny (model P w) (A.deeper (envS qual scope s.heap.objs.size f cda cc)) (leaving (envS qual scope s.heap.objs.size f cda cc) e) (fun _ s2 => L2.CX P w outer H s E e s2) (fun e2 s2 => L2.CX P w outer H s E e2 s2) s1 }
theorem look_self2 {y : Str} {c : Addr} : ([(y, c)] : List (Str × Addr)).lookup y = some c := by simp [List.lookup]
theorem rev_look {P : List Str} {us : List Value} {i : Nat} {y : Str} {u : Value} (nd : P.Nodup) (hp : P[i]? = some y) (hu : us[i]? = some u) : (P.zip us).reverse.lookup y = some u := by
  have mem : (y, u) ∈ P.zip us := by
    refine List.mem_of_getElem? (i := i) ?_
    rw [List.getElem?_zip_eq_some]
    exact ⟨hp, hu⟩
  have uni : ∀ v, (y, v) ∈ P.zip us → v = u := fun v hv => by
    obtain ⟨j, hj⟩ := List.mem_iff_getElem?.mp hv
    rw [List.getElem?_zip_eq_some] at hj
    obtain ⟨h1, e1⟩ := List.getElem?_eq_some_iff.mp hj.1
    obtain ⟨h2, e2⟩ := List.getElem?_eq_some_iff.mp hp
    have : j = i := (List.getElem_inj nd).mp (e1.trans e2.symm)
    subst this
    exact Option.some.inj (hj.2.symm.trans hu)
  cases h : (P.zip us).reverse.lookup y with
  | none =>
    have := List.lookup_eq_none_iff.mp h (y, u) (List.mem_reverse.mpr mem)
    simp at this
  | some v =>
    have hm : (y, v) ∈ (P.zip us).reverse := PySem.mem_of_lookup h
    rw [uni v (List.mem_reverse.mp hm)]
section
variable {P : Program} {w : World} {K : PySem.W.Frag} {mg : Str → Option Value} {base : Heap} {N ps : List Str} {qual : Str} {scope : Scope} {f cda cc C : Addr} {A : Around} {outer : List Env} {s : Shared} {H : Hp} {E : XK} {us : List Value} {vs : List V}
theorem start_S {h1 : Heap} {tk : Nat} (S : ClScope N ps scope) (lcc : ∃ oc : Obj, K.lookup cc = some oc ∧ oc.data = .cell (some (.ref C))) (hd : A.handled = none) (e0 : Env0 P w K mg base A outer s H) (hl : vs.length = ps.length) (r : Vals vs us)
    (hns : h1.Ns s.heap.objs.size fun y => (ps.zip us).reverse.lookup y) (kp : ∀ b o, s.heap.get? b = some o → h1.get? b = some o) : Inv (cxS P w K mg base N qual scope f cda cc A outer s H E) [] (L2.start N vs) H { s with heap := h1, toks := tk } := by
  obtain ⟨oc, lc, hc⟩ := lcc
  have bc := e0.mod.kin _ _ lc
  have sc := e0.bs _ _ bc
  have one : ∀ {y : Str} {c : Addr}, ([(("__class__" : Str), cc)] : List (Str × Addr)).lookup y = some c → y = "__class__" ∧ c = cc := fun {y c} z => by
    have := List.mem_singleton.mp (PySem.mem_of_lookup z)
    exact ⟨congrArg Prod.fst this, congrArg Prod.snd this⟩
  have noA : ∀ b : Addr, b ∉ (cxS P w K mg base N qual scope f cda cc A outer s H E).ex := fun b z => absurd (show b ∈ ([] : List Addr) from z) (by simp)
  have hpl : ps.length ≤ N.length := by
    have := congrArg List.length S.pre
    rw [List.length_take] at this
    omega
  refine ⟨⟨e0.mod, S.kind, rfl, rfl, Nat.le_refl _, fun y z c q1 q2 => (one q1).1.trans (one q2).1.symm, fun y hy => ?_, fun y c z _ => ?_, fun _ => hd, Around.frames_deeper e0.frames, .inr ⟨rfl, rfl⟩, fun b z => absurd z (noA b), e0.bs, e0.bsz, fun b _ _ => noA b,
      fun b z => absurd z (noA b), e0.funs, e0.frf⟩,
    rfl, e0.bare, Un.kept kp, ⟨_, hns, fun i y v q1 q2 _ => ?_⟩, fun y c q1 => ?_, e0.hok.fresh (Nat.le_refl _), fun y c q1 => ?_, fun p hp => absurd (show p ∈ ([] : List (Addr × Obj)) from hp) (by simp), e0.hok.kept kp, ?_⟩
  · have hy : scope.names.lookup y = some .cell ∨ scope.names.lookup y = some .free := hy
    rcases hy with hy | hy
    · exact absurd rfl (S.nocell _ (PySem.mem_of_lookup hy))
    · have e := S.free _ (PySem.mem_of_lookup hy) rfl
      have e : y = "__class__" := e
      exact ⟨cc, by rw [e]; exact look_self2⟩
  · have z : false = true := z
    cases z
  · have hi : i < vs.length := by
      by_cases hi : i < vs.length
      · exact hi
      · unfold L2.start at q2
        rw [List.getElem?_append_right (by simpa using hi), List.getElem?_replicate] at q2
        split at q2 <;> cases q2
    have hv : vs[i]? = some v := by
      unfold L2.start at q2
      rw [List.getElem?_append_left (by simpa using hi), List.getElem?_map] at q2
      obtain ⟨a, ha, e⟩ := Option.map_eq_some_iff.mp q2
      rw [ha, Option.some.inj e]
    obtain ⟨u, hu, rv⟩ := r.get hv
    have hp : ps[i]? = some y := by
      rw [← S.pre, List.getElem?_take_of_lt (by omega)]
      exact q1
    have ndP : ps.Nodup := by
      rw [← S.pre]
      exact S.nd.sublist (List.take_sublist _ _)
    exact ⟨u, rv, .inl ⟨S.par y (List.mem_of_getElem? hp), rev_look ndP hp hu⟩⟩
  · obtain ⟨_, rfl⟩ := one q1
    exact ⟨_, oc, kp _ _ sc.1, hc⟩
  · obtain ⟨_, rfl⟩ := one q1
    exact sc.2
  · unfold L2.start
    show _ = N.length
    rw [List.length_append, List.length_map, List.length_replicate]
    omega
/-- THE RULE for a def whose first statement is super().__init__(e, ..) -/
theorem fn_sup {k : Nat} {name : Str} {params : Arguments} {rest : List Stmt} {dV kV doc pm ct ot : Value} {an od : Option Addr} {osl : Array (Option Value)} {sp : Sp} {me : Str} {e : Expr} {es : List Expr} {p0 p1 p2 p3 p4 : Pos} {pl : Sem Bool}
    (lk : K.lookup f = some ⟨ot, od, .func (PySem.W.fnX name qual params (.Expr (.Call (.Attribute (.Call (.Name "super" p0) [] [] p1) "__init__" p2) (e :: es) [] p3) p4 :: rest) scope [("__class__", cc)] dV kV doc pm an (.ref cda) ct), osl⟩)
    (hcd : PySem.W.codeIn K (.ref cda) qual = true) (S : ClScope N ps scope) (F : SupF P K mg C f cc cda me) (hks : scope.names.lookup ("super" : Str) = some .globalImplicit) (hkc : scope.names.lookup ("__class__" : Str) = some .free)
    (hka : scope.names.lookup me = some .local) (i0 : N[0]? = some me) (len : ∀ vs H Q E, sp vs H Q E → vs.length = ps.length)
    (hi : ∀ L : Addr, interactive (envS qual scope L f cda cc) = false) (hs : ∀ L : Addr, swapsWith (.Call (.Attribute (.Call (.Name "super" p0) [] [] p1) "__init__" p2) (e :: es) [] p3) none p4.line (envS qual scope L f cda cc) = pure false)
    (he : ∀ L : Addr, eval (.Call (.Attribute (.Call (.Name "super" p0) [] [] p1) "__init__" p2) (e :: es) [] p3) (envS qual scope L f cda cc) = (do
      let ov ← attributeBase (.Call (.Name "super" p0) [] [] p1) "__init__" (envS qual scope L f cda cc) (eval (.Call (.Name "super" p0) [] [] p1) (envS qual scope L f cda cc))
      standAt p2.atName
      let (m, first) ← holding [ov] (getMethod ov "__init__" pl)
      callWith p3 m first (backTo p3 (starEach (e :: es) (envS qual scope L f cda cc))) []))
    (hse : ∀ L : Addr, starEach (e :: es) (envS qual scope L f cda cc) = (false, eval e (envS qual scope L f cda cc)) :: starEach es (envS qual scope L f cda cc)) (hpl : ∀ L : Addr, (backTo p3 (starEach es (envS qual scope L f cda cc))).any (·.1) = false)
    (hbody : ∀ (A : Around) (outer : List Env) (s : Shared) (H : Hp) (vs : List V) (Q : VK) (E : XK), Room k (A.deeper (envS qual scope s.heap.objs.size f cda cc)) → sp vs H Q E →
      ∃ (x : Addr) (ta : TA) (t : TS), vs[0]? = some (.ref x) ∧ H x = some (exo x C none) ∧ PA (cxS P w K mg base N qual scope f cda cc A outer s H E) (e :: es) ta ∧ PSs (cxS P w K mg base N qual scope f cda cc A outer s H E) rest t ∧
        ta (L2.start N vs) H fun us H1 => us.length ≤ 1000 ∧ H1 x = some (exo x C none) ∧ t { nx := fun _ H' => Q .non H', rt := Q } (L2.start N vs) H1) :
    FnOk P w K mg base (L2.CX P w) (k + 1) f (PySem.W.fnX name qual params (.Expr (.Call (.Attribute (.Call (.Name "super" p0) [] [] p1) "__init__" p2) (e :: es) [] p3) p4 :: rest) scope [("__class__", cc)] dV kV doc pm an (.ref cda) ct) ps sp := by
  refine ⟨len, fun A outer s H args us vs Q E hr e0 hb r hsp => ?_⟩
  have hl := len _ _ _ _ hsp
  have KX : K.In s.heap := e0.mod.kin.keeps fun b o z => (e0.bs b o z).1
  have lim := e0.mod.nolimit.keeps fun b o z => (e0.bs b o z).1
  obtain ⟨x, ta, t, h0, hx, ha, ht, q⟩ := hbody A outer s H vs Q E (hr.deeper _) hsp
  refine ks_codeAny_call_defAt hr.depth (KX _ _ lk) rfl lim (PySem.W.codeRec_of KX hcd) rfl hb S.nocell (fun y hy => S.par _ (List.of_mem_zip hy).1) (fun h1 hns kp => ?_) S.co S.gen S.kind
  have I : Inv (cxS P w K mg base N qual scope f cda cc A outer s H E) [] (L2.start N vs) H { s with heap := h1, toks := s.toks + (ps.zip us).length } := start_S S F.cell hr.hd e0 hl r hns kp
  have s0 : (L2.start N vs)[0]? = some (some (.ref x)) := by
    unfold L2.start
    obtain ⟨lt, _⟩ := List.getElem?_eq_some_iff.mp h0
    rw [List.getElem?_append_left (by simpa using lt), List.getElem?_map, h0]
    rfl
  refine ks_wpAt_execs_cons (ks_wpAt_mono (sup_stmt (X := cxS P w K mg base N qual scope f cda cc A outer s H E) (body := _) (pl := pl) F I rfl rfl look_self2 hks hkc hka i0 s0 hx ha q (hi _) (hs _) (he _) (hse _) (hpl _)) (fun fl s2 z => ?_) fun _ _ z => z)
  obtain ⟨rfl, H1, I1, q1⟩ := z
  have back : ∀ {σ2 : L2.St} {H2 : Hp} {v : V} {u : Value} {s3 : Shared}, Inv (cxS P w K mg base N qual scope f cda cc A outer s H E) [] σ2 H2 s3 → RelV v u → Q v H2 → CE outer P w H s Q u s3 := fun {_ H2 v _ _} J rv qv => ⟨v, H2, J.os, J.bare, J.base, J.hok, rv, qv⟩
  refine wpAt_of_wpAny (wpAny_mono (ht.run [] s2 _ H1 _ I1 q1) (fun fl s3 z => ?_) fun _ _ z => z)
  cases fl with
  | next =>
    obtain ⟨_, _, J, qv⟩ := z
    exact back (v := V.non) (u := Value.none) J rfl qv
  | ret u =>
    obtain ⟨_, _, _, J, rv, qv⟩ := z
    exact back J rv qv
  | brk =>
    obtain ⟨_, _, _, qv⟩ := z
    exact (show False from qv).elim
  | cont =>
    obtain ⟨_, _, _, qv⟩ := z
    exact (show False from qv).elim
end
/-- an own error of the module, made by an __init__ that keeps sp -/
structure Exo (P : Program) (w : World) (K : PySem.W.Frag) (mg : Str → Option Value) (base : Heap) (k : Nat) (x : Str) (C : Addr) (sp : Sp) : Prop where
  gl : mg x = some (.ref C)
  ex : ∃ fI fd ps, OexC K C ∧ PySem.W.findIn K (.ref C) "__init__" = some (some (.ref fI)) ∧ PySem.W.typeIn K (.ref fI) = some (.type "function") ∧ FnOk P w K mg base (L2.CX P w) k fI fd ps sp ∧ L2.Binds K fd ps []
section
variable {X : Cx} {x : Str} {C : Addr} {k j : Nat} {sp : Sp} {e : Expr} {es : List Expr} {ta : TA} {p pos : Pos}
theorem pmk_exo (c : Exo X.prog X.w X.K X.mg X.base k x C sp) (hr : Room j X.A) (hk : k + 1 ≤ j) (ha : PA X (e :: es) ta) (hx : Passes (L2.CX X.prog X.w) X (fun _ _ _ => False)) (hg : Gl X x := by rfl)
    (hdb : (x == ("__debug__" : Str)) = false := by decide) (he : starEach (e :: es) X.env = (false, eval e X.env) :: starEach es X.env := by rfl) (hpl : (backTo pos (starEach es X.env)).any (·.1) = false := by rfl) :
    PMk X (.Call (.Name x p) (e :: es) [] pos) (tMkO C sp [] ta) := by
  obtain ⟨fI, fd, ps, T, iC, tI, F, hb⟩ := c.ex
  exact pmk_oex T iC tI F (hr.mono hk) hb .nil hx hg c.gl ha hdb he hpl
end
end Oil
namespace Oil
open PySem PySem.Spec PyProof.Rows L2 LamX
open PySem.W (kla_fn kla_obj tabObj CodeHd)
/-- a lambda's function object, its defaults at dv -/
abbrev fnL (q : Str) (pa : Arguments) (bd : Expr) (sc : Scope) (cl : List (Str × Addr)) (dv pm cd ct : Value) : FuncData := { kla_fn "<lambda>" q pa bd sc cl pm cd ct with defaults := dv }
abbrev obL (q : Str) (pa : Arguments) (bd : Expr) (sc : Scope) (cl : List (Str × Addr)) (dv pm : Value) (c1 : Addr) (ct : Value) : Obj := { cls := .type "function", data := .func (fnL q pa bd sc cl dv pm (.ref c1) ct) }
/-- what stands goes on standing -/
def ExA (H H' : Hp) : Prop := ∀ a, H a ≠ none → H' a ≠ none
theorem ExA.trans {H H1 H2 : Hp} (a : ExA H H1) (b : ExA H1 H2) : ExA H H2 := fun x n => b x (a x n)
/-- at f: the function of a lambda -/
def LamO (f : Addr) (q : Str) (pa : Arguments) (bd : Expr) (sc : Scope) (cl : List (Str × Addr)) (c1 : Addr) (dv : Value) : HO := .ext fun h => ∃ pm ct, h.get? f = some (obL q pa bd sc cl dv pm c1 ct)
/-- a lambda's scope: captured names, globals, and parameters whose names the maker does not bear -/
structure LamV (scm sc : Scope) (N : List Str) : Prop where
  kind : sc.kind = .function
  co : sc.isCoroutine = false
  gen : sc.isGenerator = false
  nocell : ∀ y ∈ sc.names, y.2 ≠ .cell
  own : ∀ y ∈ sc.names, y.2 = .local → y.1 ∉ N
  free : ∀ y ∈ sc.names, y.2 = .free → scm.names.lookup y.1 = some .cell ∨ scm.names.lookup y.1 = some .free
section
variable {X : Cx} {pins : List (Addr × Obj)} {σ : L2.St} {H HZ : Hp} {s s1 : Shared}
theorem LamV.has {sc : Scope} (L : LamV X.env.scope sc X.N) (ok : X.Ok) : ∀ y ∈ sc.names, y.2 = .free → ∃ c, X.env.cells.lookup y.1 = some c := fun y hy e => by
  rcases L.free y hy e with z | z
  · exact ok.has _ (.inl z)
  · exact ok.has _ (.inr z)
end
/-- what a lambda of the maker X does when it is called without arguments -/
structure LamK (X : Cx) (k : Nat) (pa : Arguments) (bd : Expr) (sc : Scope) (d : Option Int) (t : XK → TE) : Prop where
  L : LamV X.env.scope sc X.N
  bind0 : d = none → ∀ (pm cd ct : Value), bindArgs (fnL (X.env.qual ++ "<lambda>") pa bd sc (cloFrom X.env.cells sc.names []) .none pm cd ct) ⟨[], []⟩ = pure []
  bind1 : d ≠ none → ∃ y, sc.names.lookup y = some .local ∧ ∀ (T : Addr) (pm cd ct v : Value), ∃ kk, bindArgs (fnL (X.env.qual ++ "<lambda>") pa bd sc (cloFrom X.env.cells sc.names []) (.ref T) pm cd ct) ⟨[], []⟩ = seqItems? (.ref T) >>= kk ∧ kk (some #[v]) = pure [(y, v)]
  body : ∀ (A : Around) (outer : List Env) (s : Shared) (H : Hp) (E : XK) (f c1 : Addr), Room k (A.deeper (lamEnv X sc s.heap.objs.size f c1)) → PE (lamCx X A outer s H E sc f c1) bd (t E)
/-- at f: that lambda -/
def LamAt (X : Cx) (H : Hp) (f : Addr) (pa : Arguments) (bd : Expr) (sc : Scope) (d : Option Int) : Prop := ∃ c1 dv, H f = some (LamO f (X.env.qual ++ "<lambda>") pa bd sc (cloFrom X.env.cells sc.names []) c1 dv) ∧ H c1 = some (CodeO c1 (X.env.qual ++ "<lambda>")) ∧
  ((d = none ∧ dv = .none) ∨ ∃ n t, d = some n ∧ dv = .ref t ∧ H t = some (.tup [.int n]))
theorem LamAt.keeps {X : Cx} {H H1 : Hp} {f : Addr} {pa : Arguments} {bd : Expr} {sc : Scope} {d : Option Int} (e : ExtN H H1) (x : LamAt X H f pa bd sc d) : LamAt X H1 f pa bd sc d := by
  obtain ⟨c1, dv, z1, z2, z3⟩ := x
  refine ⟨c1, dv, e _ _ z1 (fun ps z => by unfold LamO at z; cases z), e _ _ z2 codeO_ne, ?_⟩
  rcases z3 with z | ⟨n, t, w1, w2, w3⟩
  · exact .inl z
  · exact .inr ⟨n, t, w1, w2, e _ _ w3 (fun ps z => by cases z)⟩
end Oil
namespace Oil
open PySem PySem.Spec PyProof.Rows L2 LamX
def rIxS (K : PySem.W.Frag) : R2 := fun x i H Q => rIxL K x i H Q ∨ rIxT K x i H Q
section
variable {X : Cx} {K : PySem.W.Frag}
theorem ix_any (hK : X.K = K) : IxR X (rIxS K) := by
  subst hK
  intro value slice pins s σ H x i v u Q I rx ri h hp
  rcases h with h | h
  · exact ix_list value slice pins s σ H x i v u Q I rx ri h hp
  · exact ix_tup value slice pins s σ H x i v u Q I rx ri h hp
end
/-- a comprehension at its start -/
def LcW (J : It) (g : TG) (tt : TT) (te : TE) (vs : List Nat) (Q : VK) (σ : L2.St) (H1 : Hp) : Prop := ∀ D, H1 D = none → ∃ W : Nat → Nat → Hp → Prop, (∃ m, W 0 m (upd H1 D (.lst []))) ∧ ∀ i m H, W i m H →
  (J.stop i H ∧ Q (.ref D) H) ∨ (J.go i H ∧ ∃ Nx : Hp → Prop, (∀ H2, Nx H2 → ∃ m2, m2 < m ∧ W (i + 1) m2 H2) ∧ ∀ x H2, J.yld i H x H2 → g x (wipe σ vs) H2 fun σ2 H3 => wipe σ2 vs = wipe σ vs ∧ tt σ2 H3 fun b H4 =>
    if b = true then te σ2 H4 fun y H5 => ∃ acc, H5 D = some (.lst acc) ∧ acc.length < sizeLine ∧ Nx (upd H5 D (.lst (acc ++ [y]))) else Nx H4)
section
variable {K : PySem.W.Frag} {wi : TI} {g : TG} {tt : TT} {te : TE} {vs : List Nat} {σ : L2.St} {H : Hp} {Q : VK} {lo : Int} {n : Nat} {a : Addr} {xs : List V}
theorem r_lc (q : wi σ H fun J H1 => LcW J g tt te vs Q σ H1) : tLc wi g tt te vs σ H Q := q
end
/-- two values that denote the same data, of depth n at most -/
def Alike (H : Hp) : Nat → V → V → Prop
  | 0, v, u => v = u ∧ flatV v = true
  | n + 1, v, u => (v = u ∧ flatV v = true) ∨ ∃ (a b : Addr) (xs ys : List V), v = .ref a ∧ u = .ref b ∧ ((H a = some (.tup xs) ∧ H b = some (.tup ys)) ∨ (H a = some (.lst xs) ∧ H b = some (.lst ys))) ∧ xs.length = ys.length ∧ xs.length ≤ 1000 ∧ ∀ (i : Nat) (x y : V), xs[i]? = some x → ys[i]? = some y → Alike H n x y
theorem Alike.mono {H H' : Hp} (e : Same H H') : ∀ {n : Nat} {v u : V}, Alike H n v u → Alike H' n v u
  | 0, _, _, h => h
  | n + 1, _, _, .inl h => .inl h
  | n + 1, _, _, .inr ⟨a, b, xs, ys, h1, h2, h3, h4, h5, h6⟩ => .inr ⟨a, b, xs, ys, h1, h2, h3.elim (fun z => .inl ⟨e _ _ z.1, e _ _ z.2⟩) (fun z => .inr ⟨e _ _ z.1, e _ _ z.2⟩), h4, h5, fun i x y q1 q2 => Alike.mono e (h6 i x y q1 q2)⟩
theorem r_yes {σ : L2.St} {H : Hp} {QT : Bool → Hp → Prop} (q : QT true H) : tYes σ H QT := q
/-- rows: pairs of ints, each a tuple of its own -/
def RowsAt (H : Hp) (as : List Addr) (rs : List (Int × Int)) : Prop := as.length = rs.length ∧ ∀ (i : Nat) (a : Addr) (r : Int × Int), as[i]? = some a → rs[i]? = some r → H a = some (.tup [.int r.1, .int r.2])
theorem RowsAt.keep {H H1 : Hp} {as : List Addr} {rs : List (Int × Int)} (x : RowsAt H as rs) (k : ∀ a ∈ as, ∀ ys, H a = some (.tup ys) → H1 a = some (.tup ys)) : RowsAt H1 as rs := ⟨x.1, fun i a r ha hr => k a (List.mem_of_getElem? ha) _ (x.2 i a r ha hr)⟩
end Oil
namespace Oil
open PySem PySem.Spec PyProof.Rows L2
/-- what a value denotes -/
inductive D where
  | non | bl (b : Bool) | int (i : Int) | str (s : Str) | tup (xs : List D) | lst (xs : List D)
  | ins (c : Nat) (ns : List Str) (xs : List D) | dice | cls (c : Nat) | ty (n : String)
  /-- a cell of the store, at its address -/
  | loc (a : Addr)
  /-- a dict that is not written any more -/
  | dct (ks : List Int) (xs : List D)
  /-- the same, its keys are strings -/
  | dcs (ks : List Str) (xs : List D)
  /-- bytes, by their values -/
  | byt (ns : List Int)
/-- an error: its class, its fields -/
structure Er where
  c : Nat
  ns : List Str
  fs : List D
/-- what a cell of the store holds -/
inductive Ob where
  | lst (xs : List D) | ins (c : Nat) (ns : List Str) (fs : List D) | dct (ks : List Str) (xs : List D)
abbrev Sto := List (Addr × Ob)
/-- a slot: not known, a value, a list of the frame's own, an instance that is being made -/
inductive Sl where
  | un | val (d : D) | own (xs : List D) | obj (c : Nat) (ns : List Str) (fs : List D)
  /-- the error that a suite holds -/
  | err (er : Er)
  /-- the store, in a slot that no name has -/
  | sto (cs : Sto)
  /-- a list of lambdas of the frame's own, each by its number -/
  | lams (ks : List Nat)
  /-- a lambda that was given, by its number -/
  | lam (k : Nat)
  /-- a dict of the frame's own; the one that was given, or another -/
  | dct (p : Bool) (ks : List Int) (xs : List D)
abbrev Ev := List Sl
structure KN where
  nx : Ev → Prop
  rt : D → Ev → Prop
  bk : Ev → Prop
  ct : Ev → Prop
  er : Er → Ev → Prop
abbrev QD := D → Prop
abbrev QR := Er → Prop
abbrev WE := Ev → QD → QR → Prop
abbrev WT := Ev → (Bool → Prop) → QR → Prop
abbrev WA := Ev → (List D → Prop) → QR → Prop
abbrev WS := Ev → KN → Prop
abbrev PSpec := List D → QD → QR → Prop
def LIM : Nat := 1000000
mutual
def D.pd : D → Option PyData
  | .non => some .none
  | .bl b => some (.bool b)
  | .int i => some (.int i)
  | .str s => some (.str s)
  | .tup xs => (D.pds xs).map .tuple
  | .lst xs => (D.pds xs).map .list
  | _ => none
def D.pds : List D → Option (List PyData)
  | [] => some []
  | x :: xs => match D.pd x, D.pds xs with
    | some a, some b => some (a :: b)
    | _, _ => none
end
def D.kind : D → Option String
  | .non => some "NoneType"
  | .bl _ => some "bool"
  | .int _ => some "int"
  | .str _ => some "str"
  | .tup _ => some "tuple"
  | .lst _ => some "list"
  | _ => none
/-- the place of a list -/
def ixD (n : Nat) (i : Int) : Option Nat := ixN n i
def cutD (xs : List D) (lo hi : Option Int) : List D := (xs.drop (HT.sIx xs.length 0 lo)).take (HT.sIx xs.length xs.length hi - HT.sIx xs.length 0 lo)
def D.items : D → Option (List D)
  | .tup xs => some xs
  | .lst xs => some xs
  | _ => none
def D.flat : D → Bool
  | .non => true
  | .bl _ => true
  | .int _ => true
  | .str _ => true
  | _ => false
abbrev O2 := D → D → QD → Prop
def oAdd : O2
  | .int i, .int j, Q => Q (.int (i + j))
  | .lst a, .lst b, Q => a.length + b.length ≤ LIM ∧ Q (.lst (a ++ b))
  | .tup a, .tup b, Q => a.length + b.length ≤ LIM ∧ Q (.tup (a ++ b))
  | _, _, _ => False
def oSub : O2
  | .int i, .int j, Q => Q (.int (i - j))
  | _, _, _ => False
def Big (i : Int) : Prop := i.natAbs < 2 ^ 300
def oMul : O2
  | .int i, .int j, Q => (Big i ∧ Big j) ∧ Q (.int (i * j))
  | .lst a, .int k, Q => (0 ≤ k ∧ k ≤ 1000 ∧ a.length ≤ 1000) ∧ Q (.lst (List.replicate k.toNat a).flatten)
  | .tup a, .int k, Q => (2 ≤ k ∧ k ≤ 1000 ∧ a.length ≤ 1000 ∧ a ≠ []) ∧ Q (.tup (List.replicate k.toNat a).flatten)
  | _, _, _ => False
def oMod : O2
  | .int i, .int j, Q => j ≠ 0 ∧ Q (.int (i.fmod j))
  | _, _, _ => False
def oPow : O2
  | .int i, .int j, Q => (0 ≤ j ∧ j ≤ 100 ∧ i.natAbs ≤ 1000) ∧ Q (.int (i ^ j.toNat))
  | _, _, _ => False
def oLt : O2
  | .int i, .int j, Q => Q (.bl (decide (i < j)))
  | _, _, _ => False
def oLe : O2
  | .int i, .int j, Q => Q (.bl (decide (i ≤ j)))
  | _, _, _ => False
def oGt : O2
  | .int i, .int j, Q => Q (.bl (decide (j < i)))
  | _, _, _ => False
def oGe : O2
  | .int i, .int j, Q => Q (.bl (decide (j ≤ i)))
  | _, _, _ => False
def D.isNon : D → Bool
  | .non => true
  | _ => false
def oIs : O2 := fun x y Q => y = .non ∧ Q (.bl x.isNon)
def oIsNot : O2 := fun x y Q => y = .non ∧ Q (.bl !x.isNon)
def oEq : O2 := fun x y Q => ∃ a b, x.pd = some a ∧ y.pd = some b ∧ SeqAt.shaped a = true ∧ SeqAt.shaped b = true ∧ Q (.bl (PyData.eqv a b))
def oNe : O2 := fun x y Q => ∃ a b, x.pd = some a ∧ y.pd = some b ∧ SeqAt.shaped a = true ∧ SeqAt.shaped b = true ∧ Q (.bl !PyData.eqv a b)
def oIx : O2
  | .lst xs, .int i, Q => ∃ j x, ixD xs.length i = some j ∧ xs[j]? = some x ∧ Q x
  | .tup xs, .int i, Q => ∃ j x, ixD xs.length i = some j ∧ xs[j]? = some x ∧ Q x
  | _, _, _ => False
/-- a flat value in flat values, as == tells -/
def D.sc : D → D → Bool
  | .non, .non => true
  | .bl a, .bl b => a == b
  | .bl a, .int j => (if a then 1 else 0) == j
  | .int i, .bl b => i == (if b then 1 else 0)
  | .int i, .int j => i == j
  | .str x, .str y => x == y
  | _, _ => false
def wName (i : Nat) : WE := fun env Q _ => match env[i]? with
  | some (.val d) => Q d
  | _ => False
/-- a name whose list may be the frame's own -/
def wOwn (i : Nat) : WE := fun env Q _ => match env[i]? with
  | some (.val d) => Q d
  | some (.own xs) => Q (.lst xs)
  | _ => False
def wC (d : D) : WE := fun _ Q _ => Q d
def wOp (g : O2) (a b : WE) : WE := fun env Q E => a env (fun x => b env (fun y => g x y Q) E) E
def wNeg (a : WE) : WE := fun env Q E => a env (fun x => match x with
  | .int i => Q (.int (-i))
  | _ => False) E
def wChain (g h : O2) (a b c : WE) : WE := fun env Q E => a env (fun x => b env (fun y => g x y (fun z => match z with
  | .bl true => c env (fun u => h y u Q) E
  | .bl false => Q (.bl false)
  | _ => False)) E) E
def wAnd (a b : WE) : WE := fun env Q E => a env (fun x => match x with
  | .bl true => b env Q E
  | .bl false => Q (.bl false)
  | _ => False) E
def wOr (a b : WE) : WE := fun env Q E => a env (fun x => match x with
  | .bl true => Q (.bl true)
  | .bl false => b env Q E
  | _ => False) E
def wNot (a : WE) : WE := fun env Q E => a env (fun x => match x with
  | .bl b => Q (.bl !b)
  | _ => False) E
def wIf (t : WT) (a b : WE) : WE := fun env Q E => t env (fun c => if c = true then a env Q E else b env Q E) E
def wNil : WA := fun _ Q _ => Q []
def wCons (a : WE) (r : WA) : WA := fun env Q E => a env (fun x => r env (fun xs => Q (x :: xs)) E) E
def wStar (a : WE) (r : WA) : WA := fun env Q E => a env (fun x => match x.items with
  | some ys => r env (fun xs => Q (ys ++ xs)) E
  | none => False) E
def wTup (t : WA) : WE := fun env Q E => t env (fun xs => xs.length ≤ LIM ∧ Q (.tup xs)) E
def wLst (t : WA) : WE := fun env Q E => t env (fun xs => xs.length ≤ LIM ∧ Q (.lst xs)) E
/-- a part of a slice -/
abbrev WO := Ev → (Option Int → Prop) → QR → Prop
def wNoPart : WO := fun _ Q _ => Q none
def wPart (a : WE) : WO := fun env Q E => a env (fun x => match x with
  | .int i => Q (some i)
  | _ => False) E
def wSlice (a : WE) (lo hi : WO) : WE := fun env Q E => a env (fun x => lo env (fun l => hi env (fun h => match x with
  | .lst xs => Q (.lst (cutD xs l h))
  | .tup xs => Q (.tup (cutD xs l h))
  | _ => False) E) E) E
def wFld (c : Nat) (f : Str) (a : WE) : WE := fun env Q E => a env (fun x => match x with
  | .ins c' ns xs => c' = c ∧ ∃ d, (ns.zip xs).lookup f = some d ∧ Q d
  | _ => False) E
def wCall (s : PSpec) (t : WA) : WE := fun env Q E => t env (fun ds => s ds Q E) E
/-- a method: the instance of the class c first -/
def wMeth (c : Nat) (m : Str) (s : PSpec) (a : WE) (t : WA) : WE := fun env Q E => a env (fun x => match x with
  | .ins c' ns xs => c' = c ∧ m ∉ ns ∧ t env (fun ds => s (.ins c' ns xs :: ds) Q E) E
  | _ => False) E
/-- the instance itself called -/
def wClo (c : Nat) (s : PSpec) (a : WE) (t : WA) : WE := fun env Q E => a env (fun x => match x with
  | .ins c' ns xs => c' = c ∧ t env (fun ds => s (.ins c' ns xs :: ds) Q E) E
  | _ => False) E
def wProp (c : Nat) (s : PSpec) (a : WE) : WE := fun env Q E => a env (fun x => match x with
  | .ins c' ns xs => c' = c ∧ s [.ins c' ns xs] Q (fun _ => False)
  | _ => False) E
/-- ~o, o of the class c -/
def wInv (c : Nat) (s : PSpec) (a : WE) : WE := fun env Q E => a env (fun x => match x with
  | .ins c' ns xs => c' = c ∧ s [.ins c' ns xs] Q E
  | _ => False) E
/-- o[i], o of the class c -/
def wGet (c : Nat) (s : PSpec) (a b : WE) : WE := fun env Q E => a env (fun x => b env (fun y => match x with
  | .ins c' ns xs => c' = c ∧ s [.ins c' ns xs, y] Q E
  | _ => False) E) E
/-- len(o), o of the class c -/
def wLenO (c : Nat) (s : PSpec) (a : WE) : WE := fun env Q E => a env (fun x => match x with
  | .ins c' ns xs => c' = c ∧ s [.ins c' ns xs] (fun d => match d with
    | .int n => (0 ≤ n ∧ n < 2 ^ 62) ∧ Q (.int n)
    | _ => False) E
  | _ => False) E
def wCMeth (c : Nat) (s : PSpec) (a : WE) (t : WA) : WE := fun env Q E => a env (fun x => match x with
  | .cls c' => c' = c ∧ t env (fun ds => s (x :: ds) Q E) E
  | _ => False) E
/-- the class in a slot, called -/
def wMakL (i c : Nat) (s : PSpec) (t : WA) : WE := fun env Q E => match env[i]? with
  | some (.val (.cls c')) => c' = c ∧ t env (fun ds => s ds Q E) E
  | _ => False
/-- an own operator -/
def wOpC (c : Nat) (s : PSpec) (a b : WE) : WE := fun env Q E => a env (fun x => b env (fun y => match x, y with
  | .ins c1 _ _, .ins c2 _ _ => (c1 = c ∧ c2 = c) ∧ s [x, y] Q E
  | _, _ => False) E) E
def wOpF (c : Nat) (s : PSpec) (a b : WE) : WE := fun env Q E => a env (fun x => b env (fun y => match x with
  | .ins c1 _ _ => c1 = c ∧ y.flat = true ∧ s [x, y] Q E
  | _ => False) E) E
def wEqO (c : Nat) (s : PSpec) (a b : WE) : WE := fun env Q E => a env (fun x => b env (fun y => match x with
  | .ins c1 _ _ => c1 = c ∧ (match y with
    | .ins c2 _ _ => c2 = c
    | y => y.kind.isSome = true) ∧ s [x, y] Q E
  | _ => False) E) E
abbrev WI := Ev → (List D → Prop) → QR → Prop
def wIter (a : WE) : WI := fun env Q E => a env (fun x => match x.items with
  | some xs => Q xs
  | none => False) E
def intD (lo : Int) (n : Nat) : List D := (List.range n).map fun (k : Nat) => D.int (lo + (k : Int))
def wRange1 (a : WE) : WI := fun env Q E => a env (fun x => match x with
  | .int n => (-(2 ^ 62) ≤ n ∧ n < 2 ^ 62) ∧ Q (intD 0 n.toNat)
  | _ => False) E
def wRange2 (a b : WE) : WI := fun env Q E => a env (fun x => b env (fun y => match x, y with
  | .int m, .int n => (-(2 ^ 62) ≤ m ∧ m < 2 ^ 62 ∧ -(2 ^ 62) ≤ n ∧ n < 2 ^ 62) ∧ Q (intD m (n - m).toNat)
  | _, _ => False) E) E
def wEnumT (a : WE) : WI := fun env Q E => a env (fun x => match x with
  | .tup xs => Q (xs.zipIdx.map fun p => .tup [.int (p.2 : Nat), p.1])
  | _ => False) E
def setMany : Ev → List Nat → List D → Ev
  | env, i :: is, d :: ds => setMany (env.set i (.val d)) is ds
  | env, _, _ => env
inductive Tgt where
  | nm (i : Nat)
  | tp (is : List Nat)
def Tgt.put : Tgt → Ev → D → (Ev → Prop) → Prop
  | .nm i, env, d, K => K (env.set i (.val d))
  | .tp is, env, .tup ds, K => ds.length = is.length ∧ K (setMany env is ds)
  | _, _, _, _ => False
def wipeE (env : Ev) : List Nat → Ev
  | [] => env
  | i :: is => (wipeE env is).set i .un
def wLcGo (g : Tgt) (t : WT) (e : WE) (env : Ev) : List D → List D → (List D → Prop) → Prop
  | [], acc, Q => Q acc
  | x :: xs, acc, Q => g.put env x fun env1 => t env1 (fun b => if b = true then e env1 (fun d => wLcGo g t e env xs (acc ++ [d]) Q) (fun _ => False) else wLcGo g t e env xs acc Q) (fun _ => False)
def wYes : WT := fun _ Q _ => Q true
def wLc (w : WI) (g : Tgt) (t : WT) (e : WE) (vs : List Nat) : WE := fun env Q E => w env (fun xs => xs.length ≤ LIM ∧ wLcGo g t e (wipeE env vs) xs [] fun ds => Q (.lst ds)) E
def D.tru : D → Option Bool
  | .non => some false
  | .bl b => some b
  | .int i => some (i != 0)
  | .tup xs => some !xs.isEmpty
  | .lst xs => some !xs.isEmpty
  | _ => none
def wtVal (a : WE) : WT := fun env Q E => a env (fun x => match x with
  | .bl b => Q b
  | _ => False) E
def wtTru (a : WE) : WT := fun env Q E => a env (fun x => match x.tru with
  | some b => Q b
  | none => False) E
def wtNot (t : WT) : WT := fun env Q E => t env (fun b => Q !b) E
def wtAnd (t u : WT) : WT := fun env Q E => t env (fun b => if b = true then u env Q E else Q false) E
def wtOr (t u : WT) : WT := fun env Q E => t env (fun b => if b = true then Q true else u env Q E) E
abbrev CB := List D → QD → Prop
def wCB (r : CB) (t : WA) : WE := fun env Q E => t env (fun ds => r ds Q) E
def bLen : CB
  | [.lst xs], Q => Q (.int xs.length)
  | [.tup xs], Q => Q (.int xs.length)
  | _, _ => False
def bInt : CB
  | [.int i], Q => Q (.int i)
  | [.bl b], Q => Q (.int (if b then 1 else 0))
  | _, _ => False
def bTuple : CB
  | [.lst xs], Q => Q (.tup xs)
  | [.tup xs], Q => Q (.tup xs)
  | _, _ => False
def bList : CB
  | [.lst xs], Q => Q (.lst xs)
  | [.tup xs], Q => Q (.lst xs)
  | _, _ => False
def bMax2 : CB
  | [.int i, .int j], Q => Q (.int (max i j))
  | _, _ => False
def bMin2 : CB
  | [.int i, .int j], Q => Q (.int (min i j))
  | _, _ => False
def intsOf : List D → Option (List Int)
  | [] => some []
  | .int i :: r => (intsOf r).map (i :: ·)
  | _ => none
def bSum : CB
  | [.lst xs], Q => ∃ ns, intsOf xs = some ns ∧ Q (.int ns.sum)
  | _, _ => False
/-- isinstance(x, T), T a built-in type; (x, C), C an own class -/
def bIsi : CB
  | [x, y], Q => match y with
    | .ty c => ∃ T b, x.kind = some T ∧ kitB T c = some b ∧ Q (.bl b)
    | .cls c => (match x with
      | .ins c' _ _ => c' = c ∧ Q (.bl true)
      | x => x.kind.isSome = true ∧ Q (.bl false))
    | _ => False
  | _, _ => False
/-- .. where the own classes that are asked for are known -/
def bIsiC (cs : List Nat) : CB := fun ds Q => (∀ c, D.cls c ∈ ds → c ∈ cs) ∧ bIsi ds Q
def wSkip : WS := fun env K => K.nx env
def wSeq (a b : WS) : WS := fun env K => a env ⟨fun env' => b env' K, K.rt, K.bk, K.ct, K.er⟩
def wSet (i : Nat) (e : WE) : WS := fun env K => e env (fun d => K.nx (env.set i (.val d))) (fun x => K.er x env)
/-- a new list, kept as the frame's own -/
def wSetO (i : Nat) (e : WE) : WS := fun env K => e env (fun d => match d with
  | .lst xs => K.nx (env.set i (.own xs))
  | _ => False) (fun x => K.er x env)
def wUnp (g : Tgt) (e : WE) : WS := fun env K => e env (fun d => g.put env d K.nx) (fun x => K.er x env)
/-- a, b, .. = x, y, ..: values, and new lists to be kept -/
abbrev WP := Ev → Ev → (Ev → Prop) → QR → Prop
def wpNil : WP := fun _ envL K _ => K envL
def wpVal (i : Nat) (e : WE) (r : WP) : WP := fun env envL K E => e env (fun d => r env (envL.set i (.val d)) K E) E
def wpOwn (i : Nat) (e : WE) (r : WP) : WP := fun env envL K E => e env (fun d => match d with
  | .lst xs => r env (envL.set i (.own xs)) K E
  | _ => False) E
def wParN (r : WP) : WS := fun env K => r env env K.nx (fun x => K.er x env)
def wExpr (e : WE) : WS := fun env K => e env (fun _ => K.nx env) (fun x => K.er x env)
def wRet (e : WE) : WS := fun env K => e env (fun d => K.rt d env) (fun x => K.er x env)
def wRetN : WS := fun env K => K.rt .non env
def wIfS (t : WT) (a b : WS) : WS := fun env K => t env (fun c => if c = true then a env K else b env K) (fun x => K.er x env)
def wApp (i : Nat) (e : WE) : WS := fun env K => match env[i]? with
  | some (.own xs) => e env (fun d => xs.length < LIM ∧ K.nx (env.set i (.own (xs ++ [d])))) (fun x => K.er x env)
  | _ => False
/-- x[j] = e -/
def wPutI (i : Nat) (j e : WE) : WS := fun env K => match env[i]? with
  | some (.own xs) => e env (fun d => j env (fun k => match k with
    | .int z => ∃ n, ixD xs.length z = some n ∧ K.nx (env.set i (.own (xs.set n d)))
    | _ => False) (fun x => K.er x env)) (fun x => K.er x env)
  | _ => False
def wFrz (i : Nat) (s : WS) : WS := fun env K => match env[i]? with
  | some (.own xs) => s (env.set i (.val (.lst xs))) K
  | _ => s env K
def wForGo (g : Tgt) (b : WS) (K : KN) : List D → Ev → Prop
  | [], env => K.nx env
  | x :: xs, env => g.put env x fun env1 => b env1 ⟨fun e => wForGo g b K xs e, K.rt, K.nx, fun e => wForGo g b K xs e, K.er⟩
def wFor (w : WI) (g : Tgt) (b : WS) : WS := fun env K => w env (fun xs => wForGo g b K xs env) (fun x => K.er x env)
def wWhile (t : WT) (b : WS) : WS := fun env K => ∃ I : Nat → Ev → Prop, (∃ m, I m env) ∧ ∀ m env, I m env → t env (fun c => if c = true then b env ⟨fun e => ∃ m', m' < m ∧ I m' e, K.rt, K.nx, fun e => ∃ m', m' < m ∧ I m' e, K.er⟩ else K.nx env) (fun x => K.er x env)
def wRaise (c : Nat) : WS := fun env K => K.er ⟨c, [], []⟩ env
/-- a field of an error: a short text or an int -/
def D.short : D → Prop
  | .str s => s.length ≤ 1000
  | .int i => Big i
  | _ => False
def wRaiseX (c : Nat) (ns : List Str) (t : WA) : WS := fun env K => t env (fun ds => ds.length = ns.length ∧ (∀ d ∈ ds, D.short d) ∧ K.er ⟨c, ns.reverse, ds.reverse⟩ env) (fun x => K.er x env)
/-- self.f = e, self being made -/
def wSelf (i : Nat) (f : Str) (e : WE) : WS := fun env K => match env[i]? with
  | some (.obj c ns fs) => f ∉ ns ∧ ns.length = fs.length ∧ ns.length < 900 ∧ e env (fun d => K.nx (env.set i (.obj c (ns ++ [f]) (fs ++ [d])))) (fun x => K.er x env)
  | _ => False
def wSelfC (c i : Nat) (f : Str) (e : WE) : WS := fun env K => (∃ ns fs, env[i]? = some (.obj c ns fs)) ∧ wSelf i f e env K
/-- the same of an __init__ whose last parameter takes what is left -/
def specIS (c n m : Nat) (b : WS) : PSpec := fun ds Q E => n ≤ ds.length ∧ ds.length ≤ 1000 ∧ b (.obj c [] [] :: ((ds.take n).map .val ++ .val (.tup (ds.drop n)) :: List.replicate (m - n - 2) .un)) ⟨fun env => match env with
  | .obj c' ns fs :: _ => c' = c ∧ Q (.ins c ns fs)
  | _ => False, fun _ _ => False, fun _ => False, fun _ => False, fun x _ => E x⟩
/-- a def's promise out of its body -/
def specOf (n m : Nat) (b : WS) : PSpec := fun ds Q E => ds.length = n ∧ b (ds.map .val ++ List.replicate (m - n) .un) ⟨fun _ => Q .non, fun d _ => Q d, fun _ => False, fun _ => False, fun x _ => E x⟩
end Oil
namespace Oil
open PySem PySem.Spec PyProof.Rows L2 LamX
/-- where the classes stand; the tables of code objects -/
structure ZG where
  cl : Nat → Addr
  tb : List (Addr × Str)
instance : CoeFun ZG fun _ => Nat → Addr := ⟨ZG.cl⟩
/-- .. and what a frame knows besides: its lambdas; the error that a suite holds -/
structure LamD where
  q : Str
  pa : Arguments
  bd : Expr
  sc : Scope
  cl : List (Str × Addr)
  d : Option Int
structure ZM where
  g : ZG
  lam : Nat → Option LamD
  er : Option (Addr × Value × Option Addr)
instance : CoeFun ZM fun _ => Nat → Addr := ⟨fun Z => Z.g.cl⟩
/-- a frame without lambdas -/
abbrev ZG.m (Z : ZG) : ZM := ⟨Z, fun _ => none, none⟩
/-- nothing -/
abbrev S0 : Addr → Prop := fun _ => False
/-- no table of code objects -/
def NT (o : HO) : Prop := ∀ ps, o ≠ .tbl ps
/-- an object that a frame may write -/
def NX (o : HO) : Prop := (∀ ps, o ≠ .tbl ps) ∧ ∀ p, o ≠ .ext p
/-- an object that may be written stands at a -/
def Has (H : Hp) (a : Addr) : Prop := ∃ o, H a = some o ∧ NX o
structure Nz (T : List (Addr × Str)) (K : PySem.W.Frag) (d : Addr) (S : Addr → Prop) (H H' : Hp) : Prop where
  keep : ∀ a o, a ≠ d → ¬ S a → NT o → H a = some o → H' a = some o
  ex : ∀ a, H a ≠ none → H' a ≠ none
  hx : ∀ a, Has H a → Has H' a
  dice : Dice K H' d
  same_ : ∀ sa, DiceS K H d sa → DiceS K H' d sa
  tabs : Tabs T H → Tabs T H'
abbrev N0 (T : List (Addr × Str)) (K : PySem.W.Frag) (d : Addr) (H H' : Hp) : Prop := Nz T K d S0 H H'
section
variable {T : List (Addr × Str)} {K : PySem.W.Frag} {d : Addr} {S : Addr → Prop} {H H' H1 H2 G : Hp} {a : Addr} {o : HO} {vs : List V}
theorem nt_lst : NT (.lst vs) := fun _ z => by cases z
theorem nt_tup : NT (.tup vs) := fun _ z => by cases z
theorem nt_ins {c dx : Addr} {fs : List (Str × V)} : NT (.ins c dx fs) := fun _ z => by cases z
theorem nt_xd {fs : List (Str × V)} : NT (.xd fs) := fun _ z => by cases z
theorem nt_dK {kvs : List (Key × V)} : NT (.dK kvs) := fun _ z => by cases z
theorem nx_dK {kvs : List (Key × V)} : NX (.dK kvs) := ⟨fun _ z => (by cases z), fun _ z => (by cases z)⟩
theorem nx_lst : NX (.lst vs) := ⟨fun _ z => (by cases z), fun _ z => (by cases z)⟩
theorem nx_ins {c dx : Addr} {fs : List (Str × V)} : NX (.ins c dx fs) := ⟨fun _ z => (by cases z), fun _ z => (by cases z)⟩
theorem Nz.of (h : Dice K H d) (e : Same H H') : Nz T K d S H H' := ⟨fun a o _ _ _ q => e a o q, fun a n z => (by
  cases q : H a with
  | none => exact n q
  | some o => rw [e a o q] at z; cases z), (fun a ⟨o, q, n⟩ => ⟨o, e a o q, n⟩), h.same e, fun _ z => z.same e, fun t => t.ext e⟩
theorem Nz.refl (h : Dice K H d) : Nz T K d S H H := .of h (Same.refl H)
theorem Nz.trans (a : Nz T K d S H H1) (b : Nz T K d S H1 H2) : Nz T K d S H H2 :=
  ⟨fun x o n m t q => b.keep x o n m t (a.keep x o n m t q), fun x n => b.ex x (a.ex x n), fun x n => b.hx x (a.hx x n), b.dice, fun sa z => b.same_ sa (a.same_ sa z), fun t => b.tabs (a.tabs t)⟩
theorem Nz.same (a : Nz T K d S H H1) (e : Same H1 H2) : Nz T K d S H H2 := a.trans (.of a.dice e)
theorem Nz.wk {S' : Addr → Prop} (a : Nz T K d S H H1) (h : ∀ x, S x → S' x) : Nz T K d S' H H1 := ⟨fun x o n m t q => a.keep x o n (fun z => m (h x z)) t q, a.ex, a.hx, a.dice, a.same_, a.tabs⟩
theorem Nz.w0 (a : N0 T K d H H1) : Nz T K d S H H1 := a.wk fun _ z => z.elim
theorem Dice.lst (h : Dice K H d) : ∃ xs, H d = some (.lst xs) := by
  obtain ⟨sa, ns, p, m, c, h1, _⟩ := h.ex
  exact ⟨_, h1⟩
theorem Dice.nn (h : Dice K H d) : H d ≠ none := by
  obtain ⟨xs, h1⟩ := h.lst
  rw [h1]
  exact fun z => by cases z
theorem Dice.has (h : Dice K H d) : Has H d := by
  obtain ⟨xs, h1⟩ := h.lst
  exact ⟨_, h1, nx_lst⟩
theorem Has.nn (h : Has H a) : H a ≠ none := by
  obtain ⟨o, e, _⟩ := h
  rw [e]
  exact fun z => by cases z
theorem Nz.ofNx (h : Dice K H d) (x : Nx K d H H') : Nz T K d S H H' := by
  have go : ∀ a o, (∀ xs, o ≠ .lst xs) → H a = some o → H' a = some o := fun a o n e => x.at h e n
  refine ⟨fun a o n _ _ q => x.keep a o n q, fun a n z => ?_, fun a ⟨o, q, n⟩ => ?_, x.dice, x.same_, fun t p hp => ?_⟩
  · by_cases e : a = d
    · rw [e] at z
      exact x.dice.nn z
    · cases q : H a with
      | none => exact n q
      | some o => rw [x.keep a o e q] at z; cases z
  · by_cases e : a = d
    · rw [e]
      exact x.dice.has
    · exact ⟨o, x.keep a o e q, n⟩
  · obtain ⟨ps, h1, h2, h3⟩ := t p hp
    refine ⟨ps, go _ _ (fun _ z => by cases z) h1, h2, fun pos cv hc => ?_⟩
    obtain ⟨c, e1, e2⟩ := h3 pos cv hc
    refine ⟨c, e1, go _ _ (fun _ z => ?_) e2⟩
    unfold CodeO at z
    cases z
/-- the cell at a is not the script's list, as far as that is told by the heap -/
def Ap (K : PySem.W.Frag) (H : Hp) (d a : Addr) : Prop := ∀ sa, DiceS K H d sa → a ≠ sa ∨ ∃ ns : List Int, ns.length ≤ 63 ∧ ∀ G, SqL K G sa (ns.map V.int)
theorem dice_sa {sa sb : Addr} (x : DiceS K H d sa) (y : DiceS K H d sb) : sa = sb := by
  obtain ⟨_, _, _, _, h1, _⟩ := x.ex
  obtain ⟨_, _, _, _, h2, _⟩ := y.ex
  rw [h1] at h2
  have := Option.some.inj h2
  injection this with z3
  injection z3 with z4
  injection z4
theorem Ap.mv (h : Dice K H d) (x : Nz T K d S H H') (p : Ap K H d a) : Ap K H' d a := fun sa z => by
  obtain ⟨sb, hb⟩ := h.s
  rw [dice_sa z (x.same_ sb hb)]
  exact p sb hb
theorem Ap.new (e : H a = none) : Ap K H d a := fun sa z => by
  by_cases h : a = sa
  · subst h
    refine .inr ?_
    obtain ⟨ns, p, m, c, h1, h2, h3, h4, h5, h6⟩ := z.ex
    refine ⟨ns, h5, fun G => ?_⟩
    have ad : a ≠ d := fun w => by rw [w, h1] at e; cases e
    rcases h6 (.own d) with (w | ⟨y, w⟩) | w
    · rw [upd_ne ad, e] at w
      cases w
    · rw [upd_ne ad, e] at w
      cases w
    · exact .inr w
  · exact .inl h
/-- a cell is written -/
theorem Nz.write {D : Addr} {o1 : HO} (x : Nz T K d S H G) (hD : Dice K H d) (ap : Ap K H d D) (nd : D ≠ d) (ho : ∃ o, G D = some o ∧ NX o) (n1 : NX o1) (hS : H D = none ∨ S D) : Nz T K d S H (upd G D o1) := by
  have key : ∀ sa, DiceS K H d sa → DiceS K (upd G D o1) d sa := fun sa z => by
    obtain ⟨ns, p, m, c, b1, b2, b3, b4, b5, b6⟩ := (x.same_ sa z).ex
    have at_d : upd G D o1 d = some (.lst [.ref sa, .int p, .int m, .int c]) := by rw [upd_ne (Ne.symm nd)]; exact b1
    rcases ap sa z with w | ⟨ns2, l2, w⟩
    · refine ⟨ns, p, m, c, at_d, b2, b3, b4, b5, fun o => ?_⟩
      have e : upd (upd G D o1) d o sa = upd G d o sa := by
        by_cases h : sa = d
        · rw [h, upd_same, upd_same]
        · rw [upd_ne h, upd_ne h, upd_ne (Ne.symm w)]
      rcases b6 o with (w | ⟨y, w⟩) | w
      · exact .inl (.inl (e.trans w))
      · exact .inl (.inr ⟨y, e.trans w⟩)
      · exact .inr w
    · exact ⟨ns2, p, m, c, at_d, b2, b3, b4, l2, fun o => w _⟩
  obtain ⟨o0, ho1, ho2, ho3⟩ := ho
  obtain ⟨sa, hs⟩ := hD.s
  refine ⟨fun a o n m t e => ?_, fun a n => ?_, fun a n => ?_, (key sa hs).dice, key, fun t p hp => ?_⟩
  · have : a ≠ D := fun z => by
      rw [z] at e m
      rcases hS with hS | hS
      · rw [hS] at e; cases e
      · exact m hS
    rw [upd_ne this]
    exact x.keep a o n m t e
  · by_cases h : a = D
    · rw [h, upd_same]
      exact fun z => by cases z
    · rw [upd_ne h]
      exact x.ex a n
  · by_cases h : a = D
    · rw [h]
      exact ⟨_, upd_same, n1⟩
    · obtain ⟨o, q, n⟩ := x.hx a n
      exact ⟨o, by rw [upd_ne h]; exact q, n⟩
  · obtain ⟨ps, h1, h2, h3⟩ := x.tabs t p hp
    have n1 : p.1 ≠ D := fun z => by
      rw [z, ho1] at h1
      exact ho2 _ (Option.some.inj h1)
    refine ⟨ps, by rw [upd_ne n1]; exact h1, h2, fun pos cv hc => ?_⟩
    obtain ⟨c, e1, e2⟩ := h3 pos cv hc
    refine ⟨c, e1, ?_⟩
    rw [upd_ne fun z => ?_]
    · exact e2
    · rw [z, ho1] at e2
      have e3 := Option.some.inj e2
      unfold CodeO at e3
      exact ho3 _ e3
end
end Oil
namespace Oil
open PySem PySem.Spec PyProof.Rows L2
mutual
/-- the value v denotes d; no cell of it is in M -/
inductive Rep (Z : ZG) (d0 : Addr) (M : Addr → Prop) (H : Hp) : V → D → Prop where
  | non : Rep Z d0 M H .non .non
  | bl (b : Bool) : Rep Z d0 M H (.bl b) (.bl b)
  | int (i : Int) : Rep Z d0 M H (.int i) (.int i)
  | str (s : Str) : Rep Z d0 M H (.str s) (.str s)
  | tup {a : Addr} {vs : List V} {ds : List D} : H a = some (.tup vs) → ¬ M a → Reps Z d0 M H vs ds → Rep Z d0 M H (.ref a) (.tup ds)
  | lst {a : Addr} {vs : List V} {ds : List D} : H a = some (.lst vs) → ¬ M a → Reps Z d0 M H vs ds → Rep Z d0 M H (.ref a) (.lst ds)
  | ins {a dx : Addr} {c : Nat} {ns : List Str} {vs : List V} {ds : List D} : H a = some (.ins (Z c) dx (ns.zip vs)) → ¬ M a → ns.length = vs.length → Reps Z d0 M H vs ds → Rep Z d0 M H (.ref a) (.ins c ns ds)
  | dice : Rep Z d0 M H (.ref d0) .dice
  | cls (c : Nat) : Rep Z d0 M H (.ref (Z c)) (.cls c)
  | ty (n : String) : Rep Z d0 M H (.ty n) (.ty n)
  | loc (a : Addr) : Rep Z d0 M H (.ref a) (.loc a)
  | dct {a : Addr} {ks : List Int} {vs : List V} {ds : List D} : H a = some (.dK ((ks.map Sum.inl).zip vs)) → ¬ M a → ks.length = vs.length → Reps Z d0 M H vs ds → Rep Z d0 M H (.ref a) (.dct ks ds)
  | dcs {a : Addr} {ks : List Str} {vs : List V} {ds : List D} : H a = some (.dK ((ks.map Sum.inr).zip vs)) → ¬ M a → ks.length = vs.length → Reps Z d0 M H vs ds → Rep Z d0 M H (.ref a) (.dcs ks ds)
  | byt (ns : List Int) : B8 ns → Rep Z d0 M H (.byt (byteArr ns)) (.byt ns)
inductive Reps (Z : ZG) (d0 : Addr) (M : Addr → Prop) (H : Hp) : List V → List D → Prop where
  | nil : Reps Z d0 M H [] []
  | cons {v : V} {d : D} {vs : List V} {ds : List D} : Rep Z d0 M H v d → Reps Z d0 M H vs ds → Reps Z d0 M H (v :: vs) (d :: ds)
end
/-- what stands apart from M stays, and stays apart -/
def Lat (M : Addr → Prop) (H : Hp) (M' : Addr → Prop) (H' : Hp) : Prop := ∀ a o, NT o → ¬ M a → H a = some o → H' a = some o ∧ ¬ M' a
section
variable {Z : ZG} {d0 : Addr} {M M' : Addr → Prop} {H H' : Hp} {v : V} {d : D} {vs us : List V} {ds es : List D} {n : Nat}
mutual
theorem Rep.lat (L : Lat M H M' H') : ∀ {v : V} {d : D}, Rep Z d0 M H v d → Rep Z d0 M' H' v d
  | _, _, .non => .non
  | _, _, .bl b => .bl b
  | _, _, .int i => .int i
  | _, _, .str s => .str s
  | _, _, .tup h n r => .tup (L _ _ nt_tup n h).1 (L _ _ nt_tup n h).2 (Reps.lat L r)
  | _, _, .lst h n r => .lst (L _ _ nt_lst n h).1 (L _ _ nt_lst n h).2 (Reps.lat L r)
  | _, _, .ins h n e r => .ins (L _ _ nt_ins n h).1 (L _ _ nt_ins n h).2 e (Reps.lat L r)
  | _, _, .dice => .dice
  | _, _, .cls c => .cls c
  | _, _, .ty c => .ty c
  | _, _, .loc a => .loc a
  | _, _, .dct h n e r => .dct (L _ _ nt_dK n h).1 (L _ _ nt_dK n h).2 e (Reps.lat L r)
  | _, _, .dcs h n e r => .dcs (L _ _ nt_dK n h).1 (L _ _ nt_dK n h).2 e (Reps.lat L r)
  | _, _, .byt ns h => .byt ns h
theorem Reps.lat (L : Lat M H M' H') : ∀ {vs : List V} {ds : List D}, Reps Z d0 M H vs ds → Reps Z d0 M' H' vs ds
  | _, _, .nil => .nil
  | _, _, .cons r t => .cons (Rep.lat L r) (Reps.lat L t)
end
theorem Lat.refl : Lat M H M H := fun _ _ _ n h => ⟨h, n⟩
theorem Lat.trans {M2 : Addr → Prop} {H2 : Hp} (a : Lat M H M' H') (b : Lat M' H' M2 H2) : Lat M H M2 H2 := fun x o t n h => b x o t (a x o t n h).2 (a x o t n h).1
theorem Lat.sub (h : ∀ a, M' a → M a) : Lat M H M' H := fun _ _ _ n e => ⟨e, fun z => n (h _ z)⟩
theorem Reps.length : ∀ {vs : List V} {ds : List D}, Reps Z d0 M H vs ds → vs.length = ds.length
  | _, _, .nil => rfl
  | _, _, .cons _ t => congrArg (· + 1) (Reps.length t)
theorem Reps.app : ∀ {vs us : List V} {ds es : List D}, Reps Z d0 M H vs ds → Reps Z d0 M H us es → Reps Z d0 M H (vs ++ us) (ds ++ es)
  | _, _, _, _, .nil, s => s
  | _, _, _, _, .cons r t, s => .cons r (Reps.app t s)
theorem Reps.take : ∀ {vs : List V} {ds : List D} (n : Nat), Reps Z d0 M H vs ds → Reps Z d0 M H (vs.take n) (ds.take n)
  | _, _, 0, _ => by simpa using Reps.nil
  | _, _, _ + 1, .nil => .nil
  | _, _, n + 1, .cons r t => .cons r (Reps.take n t)
theorem Reps.drop : ∀ {vs : List V} {ds : List D} (n : Nat), Reps Z d0 M H vs ds → Reps Z d0 M H (vs.drop n) (ds.drop n)
  | _, _, 0, r => r
  | _, _, _ + 1, .nil => .nil
  | _, _, n + 1, .cons _ t => Reps.drop n t
theorem Reps.rev : ∀ {vs : List V} {ds : List D}, Reps Z d0 M H vs ds → Reps Z d0 M H vs.reverse ds.reverse
  | _, _, .nil => .nil
  | _, _, .cons r t => by
    rw [List.reverse_cons, List.reverse_cons]
    exact (Reps.rev t).app (.cons r .nil)
theorem Reps.get : ∀ {vs : List V} {ds : List D} {i : Nat} {d : D}, Reps Z d0 M H vs ds → ds[i]? = some d → ∃ v, vs[i]? = some v ∧ Rep Z d0 M H v d
  | _, _, _, _, .nil, e => by simp at e
  | _, _, 0, _, .cons r _, e => by
    cases (Option.some.inj (by simpa using e))
    exact ⟨_, rfl, r⟩
  | _, _, i + 1, _, .cons _ t, e => by
    obtain ⟨v, h1, h2⟩ := Reps.get (i := i) t (by simpa using e)
    exact ⟨v, by simpa using h1, h2⟩
theorem Reps.set (r : Rep Z d0 M H v d) : ∀ {vs : List V} {ds : List D} (i : Nat), Reps Z d0 M H vs ds → Reps Z d0 M H (vs.set i v) (ds.set i d)
  | _, _, _, .nil => .nil
  | _, _, 0, .cons _ t => .cons r t
  | _, _, i + 1, .cons q t => .cons q (Reps.set r i t)
theorem Reps.rep {n : Nat} (r : Reps Z d0 M H vs ds) : ∀ k : Nat, Reps Z d0 M H (List.replicate k vs).flatten (List.replicate k ds).flatten
  | 0 => by simpa using Reps.nil
  | k + 1 => by
    rw [List.replicate_succ, List.replicate_succ, List.flatten_cons, List.flatten_cons]
    exact r.app (Reps.rep (n := n) r k)
theorem Reps.cut (r : Reps Z d0 M H vs ds) (lo hi : Option Int) : Reps Z d0 M H (cutV vs lo hi) (cutD ds lo hi) := by
  unfold cutV cutD
  rw [r.length]
  exact (r.drop _).take _
theorem Rep.ix {i : Int} (h : Rep Z d0 M H v (.int i)) : v = .int i := by cases h; rfl
/-- a list or a tuple -/
theorem Rep.seq (r : Rep Z d0 M H v d) (e : d.items = some ds) : ∃ a vs, v = .ref a ∧ ¬ M a ∧ (H a = some (.lst vs) ∧ d = .lst ds ∨ H a = some (.tup vs) ∧ d = .tup ds) ∧ Reps Z d0 M H vs ds := by
  cases r with
  | tup h n r =>
    cases e
    exact ⟨_, _, rfl, n, .inr ⟨h, rfl⟩, r⟩
  | lst h n r =>
    cases e
    exact ⟨_, _, rfl, n, .inl ⟨h, rfl⟩, r⟩
  | _ => cases e
mutual
theorem Rep.dp {K : PySem.W.Frag} : ∀ {v : V} {d : D} {p : PyData}, Rep Z d0 M H v d → d.pd = some p → Dp K H v p
  | _, _, _, .non, e => by cases e; exact .non
  | _, _, _, .bl b, e => by cases e; exact .bl b
  | _, _, _, .int b, e => by cases e; exact .int b
  | _, _, _, .str b, e => by cases e; exact .str b
  | _, _, _, .tup h n r, e => by
    obtain ⟨q, h1, rfl⟩ := Option.map_eq_some_iff.mp (show Option.map PyData.tuple (D.pds _) = _ from e)
    exact .tup (SqT.of h) (Reps.dp r h1)
  | _, _, _, .lst h n r, e => by
    obtain ⟨q, h1, rfl⟩ := Option.map_eq_some_iff.mp (show Option.map PyData.list (D.pds _) = _ from e)
    exact .lst (SqL.of h) (Reps.dp r h1)
  | _, _, _, .ins _ _ _ _, e => by cases e
  | _, _, _, .dice, e => by cases e
  | _, _, _, .cls _, e => by cases e
  | _, _, _, .ty _, e => by cases e
  | _, _, _, .loc _, e => by cases e
  | _, _, _, .dct _ _ _ _, e => by cases e
  | _, _, _, .dcs _ _ _ _, e => by cases e
  | _, _, _, .byt _ _, e => by cases e
theorem Reps.dp {K : PySem.W.Frag} : ∀ {vs : List V} {ds : List D} {ps : List PyData}, Reps Z d0 M H vs ds → D.pds ds = some ps → DpAll K H vs ps
  | _, _, _, .nil, e => by cases e; exact .nil
  | _, _, _, .cons (d := d) (ds := ds) r t, e => by
    cases h1 : d.pd with
    | none => simp [D.pds, h1] at e
    | some a =>
      cases h2 : D.pds ds with
      | none => simp [D.pds, h1, h2] at e
      | some b =>
        simp [D.pds, h1, h2] at e
        subst e
        exact .cons (Rep.dp r h1) (Reps.dp t h2)
end
theorem Rep.kn {K : PySem.W.Frag} {T : String} (r : Rep Z d0 M H v d) (e : d.kind = some T) : Kn K H v T := by
  cases r <;> first
    | (cases e; first | exact .non | exact .bl _ | exact .int _ | exact .str _ | exact .tup (by assumption) | exact .lst (by assumption))
    | cases e
theorem Reps.ints : ∀ {vs : List V} {ds : List D} {ns : List Int}, Reps Z d0 M H vs ds → intsOf ds = some ns → vs = ns.map V.int
  | _, _, _, .nil, e => by cases e; rfl
  | _, _, _, .cons (.int i) t, e => by
    obtain ⟨q, h1, rfl⟩ := Option.map_eq_some_iff.mp (show Option.map (i :: ·) (intsOf _) = _ from e)
    rw [Reps.ints t h1]
    rfl
  | _, _, _, .cons .non _, e => by cases e
  | _, _, _, .cons (.bl _) _, e => by cases e
  | _, _, _, .cons (.str _) _, e => by cases e
  | _, _, _, .cons (.tup _ _ _) _, e => by cases e
  | _, _, _, .cons (.lst _ _ _) _, e => by cases e
  | _, _, _, .cons (.ins _ _ _ _) _, e => by cases e
  | _, _, _, .cons .dice _, e => by cases e
  | _, _, _, .cons (.cls _) _, e => by cases e
  | _, _, _, .cons (.ty _) _, e => by cases e
  | _, _, _, .cons (.loc _) _, e => by cases e
  | _, _, _, .cons (.dct _ _ _ _) _, e => by cases e
  | _, _, _, .cons (.dcs _ _ _ _) _, e => by cases e
  | _, _, _, .cons (.byt _ _) _, e => by cases e
theorem Rep.flat (r : Rep Z d0 M H v d) (e : d.flat = true) : flatV v = true := by
  cases r <;> first | rfl | cases e
theorem Reps.flat : ∀ {vs : List V} {ds : List D}, Reps Z d0 M H vs ds → ds.all D.flat = true → vs.all flatV = true
  | _, _, .nil, _ => rfl
  | _, _, .cons r t, e => by
    rw [List.all_cons, Bool.and_eq_true] at e
    rw [List.all_cons, r.flat e.1, Reps.flat t e.2]
    rfl
theorem Rep.fresh_tup {p : Addr} (hp : H p = none) (hM : ¬ M p) (r : Reps Z d0 M H vs ds) : Rep Z d0 M (upd H p (.tup vs)) (.ref p) (.tup ds) :=
  .tup upd_same hM (r.lat fun a o _ n h => ⟨by rw [upd_ne (ne_of_none h hp)]; exact h, n⟩)
theorem Rep.fresh_lst {p : Addr} (hp : H p = none) (hM : ¬ M p) (r : Reps Z d0 M H vs ds) : Rep Z d0 M (upd H p (.lst vs)) (.ref p) (.lst ds) :=
  .lst upd_same hM (r.lat fun a o _ n h => ⟨by rw [upd_ne (ne_of_none h hp)]; exact h, n⟩)
end
/-- an error stands for er -/
def RepE (Z : ZG) (d0 : Addr) (M : Addr → Prop) (H : Hp) (er : Er) (cls : Value) (dd : Option Addr) : Prop :=
  cls = .ref (Z er.c) ∧ ((er.ns = [] ∧ er.fs = [] ∧ dd = none) ∨ ∃ x vs, dd = some x ∧ H x = some (.xd (er.ns.zip vs)) ∧ ¬ M x ∧ er.ns.length = vs.length ∧ Reps Z d0 M H vs er.fs)
theorem RepE.lat {Z : ZG} {d0 : Addr} {M M' : Addr → Prop} {H H' : Hp} {er : Er} {cls : Value} {dd : Option Addr} (L : Lat M H M' H') (r : RepE Z d0 M H er cls dd) : RepE Z d0 M' H' er cls dd :=
  ⟨r.1, r.2.imp id fun ⟨x, vs, e1, e2, e3, e4, e5⟩ => ⟨x, vs, e1, (L _ _ nt_xd e3 e2).1, (L _ _ nt_xd e3 e2).2, e4, e5.lat L⟩⟩
structure Fr where
  Z : ZM
  K : PySem.W.Frag
  d0 : Addr
  /-- what is the caller's -/
  M0 : Addr → Prop
  /-- what is apart besides -/
  av : Addr → Prop
  /-- the cells of the store that stood at the start -/
  S : Addr → Prop
  H0 : Hp
  /-- what stands still -/
  gH : Hp
  /-- the instance that is being made -/
  me : Addr
abbrev Ow := Nat → Option Addr
def MM (fr : Fr) (ow : Ow) : Addr → Prop := fun a => a = fr.d0 ∨ fr.M0 a ∨ fr.av a ∨ ∃ i, ow i = some a
/-- without the frame's own -/
def M1 (fr : Fr) : Addr → Prop := fun a => a = fr.d0 ∨ fr.M0 a
/-- from here on the store's cells are counted -/
def CBASE : Nat := 1000000
/-- at f: the lambda that D tells -/
def LamAtD (M : Addr → Prop) (H : Hp) (f : Addr) (D : LamD) : Prop := ¬ M f ∧ ∃ c1 dv, H f = some (LamO f D.q D.pa D.bd D.sc D.cl c1 dv) ∧ H c1 = some (LamX.CodeO c1 D.q) ∧ ¬ M c1 ∧
  ((D.d = none ∧ dv = .none) ∨ ∃ n t, D.d = some n ∧ dv = .ref t ∧ H t = some (.tup [.int n]) ∧ ¬ M t)
theorem nt_lamO {f : Addr} {q : Str} {pa : Arguments} {bd : Expr} {sc : Scope} {cl : List (Str × Addr)} {c1 : Addr} {dv : Value} : NT (LamO f q pa bd sc cl c1 dv) := fun _ z => by
  unfold LamO at z
  cases z
theorem LamAtD.lat {M M' : Addr → Prop} {H H' : Hp} {f : Addr} {D : LamD} (L : Lat M H M' H') (r : LamAtD M H f D) : LamAtD M' H' f D := by
  obtain ⟨h0, c1, dv, h1, h2, h3, h4⟩ := r
  refine ⟨(L _ _ nt_lamO h0 h1).2, c1, dv, (L _ _ nt_lamO h0 h1).1, (L _ _ LamX.codeO_ne h3 h2).1, (L _ _ LamX.codeO_ne h3 h2).2, h4.imp id fun ⟨n, t, e1, e2, e3, e4⟩ => ⟨n, t, e1, e2, (L _ _ nt_tup e4 e3).1, (L _ _ nt_tup e4 e3).2⟩⟩
/-- at fs: the lambdas of these numbers -/
inductive LamsOk (Z : ZM) (M : Addr → Prop) (H : Hp) : List Addr → List Nat → Prop where
  | nil : LamsOk Z M H [] []
  | cons {f : Addr} {k : Nat} {D : LamD} {fs : List Addr} {ks : List Nat} : Z.lam k = some D → LamAtD M H f D → LamsOk Z M H fs ks → LamsOk Z M H (f :: fs) (k :: ks)
theorem LamsOk.lat {Z : ZM} {M M' : Addr → Prop} {H H' : Hp} (L : Lat M H M' H') : ∀ {fs : List Addr} {ks : List Nat}, LamsOk Z M H fs ks → LamsOk Z M' H' fs ks
  | _, _, .nil => .nil
  | _, _, .cons h r t => .cons h (r.lat L) (t.lat L)
theorem LamsOk.app {Z : ZM} {M : Addr → Prop} {H : Hp} : ∀ {fs gs : List Addr} {ks ms : List Nat}, LamsOk Z M H fs ks → LamsOk Z M H gs ms → LamsOk Z M H (fs ++ gs) (ks ++ ms)
  | _, _, _, _, .nil, s => s
  | _, _, _, _, .cons h r t, s => .cons h r (t.app s)
theorem LamsOk.length {Z : ZM} {M : Addr → Prop} {H : Hp} : ∀ {fs : List Addr} {ks : List Nat}, LamsOk Z M H fs ks → fs.length = ks.length
  | _, _, .nil => rfl
  | _, _, .cons _ _ t => congrArg (· + 1) t.length
theorem LamsOk.get {Z : ZM} {M : Addr → Prop} {H : Hp} : ∀ {fs : List Addr} {ks : List Nat} {i k : Nat}, LamsOk Z M H fs ks → ks[i]? = some k → ∃ f D, fs[i]? = some f ∧ Z.lam k = some D ∧ LamAtD M H f D
  | _, _, _, _, .nil, e => by simp at e
  | _, _, 0, _, .cons h r _, e => by
    cases (Option.some.inj (by simpa using e))
    exact ⟨_, _, rfl, h, r⟩
  | _, _, i + 1, _, .cons _ _ t, e => by
    obtain ⟨f, D, h1, h2⟩ := LamsOk.get (i := i) t (by simpa using e)
    exact ⟨f, D, by simpa using h1, h2⟩
/-- a cell of the store, counted j -/
def StOk (fr : Fr) (ow : Ow) (H : Hp) (j : Nat) (a : Addr) : Ob → Prop
  | .lst xs => ow j = some a ∧ ∃ vs, H a = some (.lst vs) ∧ Reps fr.Z.g fr.d0 (MM fr ow) H vs xs
  | .ins c ns fs => ow j = some a ∧ ∃ dx vs, H a = some (.ins (fr.Z c) dx (ns.zip vs)) ∧ ns.length = vs.length ∧ Reps fr.Z.g fr.d0 (MM fr ow) H vs fs
  | .dct ks xs => ow j = some a ∧ ∃ vs, H a = some (.dK ((ks.map Sum.inr).zip vs)) ∧ ks.length = vs.length ∧ Reps fr.Z.g fr.d0 (MM fr ow) H vs xs
def SlOk (fr : Fr) (ow : Ow) (H : Hp) (σ : L2.St) (i : Nat) : Sl → Prop
  | .un => True
  | .val d => ∃ v, σ[i]? = some (some v) ∧ Rep fr.Z.g fr.d0 (MM fr ow) H v d
  | .own xs => ∃ a vs, σ[i]? = some (some (.ref a)) ∧ ow i = some a ∧ H a = some (.lst vs) ∧ Reps fr.Z.g fr.d0 (MM fr ow) H vs xs
  | .obj c ns fs => ∃ dx vs, σ[i]? = some (some (.ref fr.me)) ∧ ow i = some fr.me ∧ H fr.me = some (.ins (fr.Z c) dx (ns.zip vs)) ∧ ns.length = vs.length ∧ Reps fr.Z.g fr.d0 (MM fr ow) H vs fs
  | .err er => ∃ a cls dd, fr.Z.er = some (a, cls, dd) ∧ σ[i]? = some (some (.ref a)) ∧ RepE fr.Z.g fr.d0 (MM fr ow) H er cls dd
  | .sto cs => i + 1 = σ.length ∧ ∀ (k : Nat) (a : Addr) (ob : Ob), cs[k]? = some (a, ob) → StOk fr ow H (CBASE + k) a ob
  | .lams ks => ∃ a fs, σ[i]? = some (some (.ref a)) ∧ ow i = some a ∧ H a = some (.lst (fs.map V.ref)) ∧ LamsOk fr.Z (MM fr ow) H fs ks
  | .lam k => ∃ f D, σ[i]? = some (some (.ref f)) ∧ fr.Z.lam k = some D ∧ LamAtD (MM fr ow) H f D
  | .dct p ks xs => ∃ a vs, (p = true → a = fr.me) ∧ σ[i]? = some (some (.ref a)) ∧ ow i = some a ∧ H a = some (.dK ((ks.map Sum.inl).zip vs)) ∧ ks.length = vs.length ∧ Reps fr.Z.g fr.d0 (MM fr ow) H vs xs
structure Good (fr : Fr) (ow : Ow) (H : Hp) (σ : L2.St) (env : Ev) : Prop where
  nx : Nz fr.Z.g.tb fr.K fr.d0 fr.S fr.H0 H
  d00 : Dice fr.K fr.H0 fr.d0
  t0 : LamX.Tabs fr.Z.g.tb fr.H0
  mex : ∀ a, MM fr ow a → Has H a
  m0x : ∀ a, fr.M0 a → fr.H0 a ≠ none
  ss : ∀ a, fr.S a → a ≠ fr.d0 ∧ ¬ fr.M0 a ∧ Ap fr.K fr.H0 fr.d0 a
  owf : ∀ i a, ow i = some a → fr.H0 a = none ∨ fr.S a
  inj : ∀ i j a, ow i = some a → ow j = some a → i = j
  avo : ∀ i a, ow i = some a → ¬ fr.av a
  gh : ∀ a o, fr.gH a = some o → NT o ∧ H a = some o ∧ ¬ MM fr ow a
  len : σ.length = env.length
  lb : σ.length ≤ CBASE
  sl : ∀ i s, env[i]? = some s → SlOk fr ow H σ i s
section
variable {fr : Fr} {ow ow' : Ow} {H H' : Hp} {σ : L2.St} {env : Ev} {v : V} {d : D} {i j : Nat} {a : Addr} {o : HO} {vs : List V} {ds : List D} {s : Sl} {ob : Ob}
theorem Good.dice (G : Good fr ow H σ env) : Dice fr.K H fr.d0 := G.nx.dice
theorem MM.d0 : MM fr ow fr.d0 := .inl rfl
/-- only the dice may differ; new things may stand -/
theorem Nz.lat {T : List (Addr × Str)} {K : PySem.W.Frag} {d0 : Addr} {M : Addr → Prop} (x : N0 T K d0 H H') (h : M d0) : Lat M H M H' := fun a o t n e => ⟨x.keep a o (fun z => n (z ▸ h)) id t e, n⟩
theorem Good.lat (G : Good fr ow H σ env) (x : N0 fr.Z.g.tb fr.K fr.d0 H H') : Lat (MM fr ow) H (MM fr ow) H' := Nz.lat x MM.d0
theorem Good.ow_d0 (G : Good fr ow H σ env) (h : ow i = some a) : a ≠ fr.d0 := fun z => by
  rcases G.owf i a h with q | q
  · rw [z] at q
    exact G.d00.nn q
  · exact (G.ss a q).1 z
theorem Good.ow_m0 (G : Good fr ow H σ env) (h : ow i = some a) : ¬ fr.M0 a := fun z => by
  rcases G.owf i a h with q | q
  · exact G.m0x a z q
  · exact (G.ss a q).2.1 z
theorem Good.ow_ap (G : Good fr ow H σ env) (h : ow i = some a) : Ap fr.K fr.H0 fr.d0 a := by
  rcases G.owf i a h with q | q
  · exact .new q
  · exact (G.ss a q).2.2
theorem Good.own (G : Good fr ow H σ env) (i : Nat) (a : Addr) (h : ow i = some a) : ∃ o, H a = some o ∧ NX o := G.mex a (.inr (.inr (.inr ⟨i, h⟩)))
/-- what a slot holds stays where all that is apart, and the slot's own, stays -/
theorem SlOk.mv (L : Lat (MM fr ow) H (MM fr ow') H') (ho : ∀ a o, ow i = some a → H a = some o → H' a = some o ∧ ow' i = some a) (hc : ∀ (k : Nat) (a : Addr) (o : HO), ow (CBASE + k) = some a → H a = some o → H' a = some o ∧ ow' (CBASE + k) = some a)
    (hs : ∀ cs, s ≠ .sto cs ∨ True) (h : SlOk fr ow H σ i s) : SlOk fr ow' H' σ i s := by
  cases s with
  | un => trivial
  | val d =>
    obtain ⟨v, h1, h2⟩ := h
    exact ⟨v, h1, h2.lat L⟩
  | own xs =>
    obtain ⟨a, vs, h1, h2, h3, h4⟩ := h
    exact ⟨a, vs, h1, (ho a _ h2 h3).2, (ho a _ h2 h3).1, h4.lat L⟩
  | obj c ns fs =>
    obtain ⟨dx, vs, h1, h2, h3, hl, h4⟩ := h
    exact ⟨dx, vs, h1, (ho _ _ h2 h3).2, (ho _ _ h2 h3).1, hl, h4.lat L⟩
  | err er =>
    obtain ⟨a, cls, dd, h1, h2, h3⟩ := h
    exact ⟨a, cls, dd, h1, h2, h3.lat L⟩
  | lams ks =>
    obtain ⟨a, fs, h1, h2, h3, h4⟩ := h
    exact ⟨a, fs, h1, (ho a _ h2 h3).2, (ho a _ h2 h3).1, h4.lat L⟩
  | lam k =>
    obtain ⟨f, D, h1, h2, h3⟩ := h
    exact ⟨f, D, h1, h2, h3.lat L⟩
  | dct p ks xs =>
    obtain ⟨a, vs, h0, h1, h2, h3, h4, h5⟩ := h
    exact ⟨a, vs, h0, h1, (ho a _ h2 h3).2, (ho a _ h2 h3).1, h4, h5.lat L⟩
  | sto cs =>
    refine ⟨h.1, fun k a ob e => ?_⟩
    have z := h.2 k a ob e
    cases ob with
    | lst xs =>
      obtain ⟨h1, vs, h2, h3⟩ := z
      exact ⟨(hc k a _ h1 h2).2, vs, (hc k a _ h1 h2).1, h3.lat L⟩
    | ins c ns fs =>
      obtain ⟨h1, dx, vs, h2, h3, h4⟩ := z
      exact ⟨(hc k a _ h1 h2).2, dx, vs, (hc k a _ h1 h2).1, h3, h4.lat L⟩
    | dct ks xs =>
      obtain ⟨h1, vs, h2, h3, h4⟩ := z
      exact ⟨(hc k a _ h1 h2).2, vs, (hc k a _ h1 h2).1, h3, h4.lat L⟩
/-- the same, of what is no store -/
theorem SlOk.mvL (L : Lat (MM fr ow) H (MM fr ow') H') (ho : ∀ a o, ow i = some a → H a = some o → H' a = some o ∧ ow' i = some a) (hs : ∀ cs, s ≠ .sto cs) (h : SlOk fr ow H σ i s) : SlOk fr ow' H' σ i s := by
  cases s with
  | un => trivial
  | val d =>
    obtain ⟨v, h1, h2⟩ := h
    exact ⟨v, h1, h2.lat L⟩
  | own xs =>
    obtain ⟨a, vs, h1, h2, h3, h4⟩ := h
    exact ⟨a, vs, h1, (ho a _ h2 h3).2, (ho a _ h2 h3).1, h4.lat L⟩
  | obj c ns fs =>
    obtain ⟨dx, vs, h1, h2, h3, hl, h4⟩ := h
    exact ⟨dx, vs, h1, (ho _ _ h2 h3).2, (ho _ _ h2 h3).1, hl, h4.lat L⟩
  | err er =>
    obtain ⟨a, cls, dd, h1, h2, h3⟩ := h
    exact ⟨a, cls, dd, h1, h2, h3.lat L⟩
  | lams ks =>
    obtain ⟨a, fs, h1, h2, h3, h4⟩ := h
    exact ⟨a, fs, h1, (ho a _ h2 h3).2, (ho a _ h2 h3).1, h4.lat L⟩
  | lam k =>
    obtain ⟨f, D, h1, h2, h3⟩ := h
    exact ⟨f, D, h1, h2, h3.lat L⟩
  | dct p ks xs =>
    obtain ⟨a, vs, h0, h1, h2, h3, h4, h5⟩ := h
    exact ⟨a, vs, h0, h1, (ho a _ h2 h3).2, (ho a _ h2 h3).1, h4, h5.lat L⟩
  | sto cs => exact absurd rfl (hs cs)
/-- the same, in a frame with more apart -/
theorem SlOk.mvF {fr' : Fr} (hz : fr'.Z = fr.Z) (hd : fr'.d0 = fr.d0) (hm : fr'.me = fr.me) (L : Lat (MM fr ow) H (MM fr' ow') H') (ho : ∀ a o, ow i = some a → H a = some o → H' a = some o ∧ ow' i = some a) (hc : ∀ (k : Nat) (a : Addr) (o : HO), ow (CBASE + k) = some a → H a = some o → H' a = some o ∧ ow' (CBASE + k) = some a)
    (h : SlOk fr ow H σ i s) : SlOk fr' ow' H' σ i s := by
  obtain ⟨Z, K, d0, M0, av, S, H0, gH, me⟩ := fr
  obtain ⟨Z', K', d0', M0', av', S', H0', gH', me'⟩ := fr'
  dsimp only at hz hd hm
  subst hz hd hm
  cases s with
  | un => exact True.intro
  | val d =>
    obtain ⟨v, h1, h2⟩ := h
    exact ⟨v, h1, h2.lat L⟩
  | own xs =>
    obtain ⟨a, vs, h1, h2, h3, h4⟩ := h
    exact ⟨a, vs, h1, (ho a _ h2 h3).2, (ho a _ h2 h3).1, h4.lat L⟩
  | obj c ns fs =>
    obtain ⟨dx, vs, h1, h2, h3, hl, h4⟩ := h
    exact ⟨dx, vs, h1, (ho _ _ h2 h3).2, (ho _ _ h2 h3).1, hl, h4.lat L⟩
  | err er =>
    obtain ⟨a, cls, dd, h1, h2, h3⟩ := h
    exact ⟨a, cls, dd, h1, h2, h3.lat L⟩
  | lams ks =>
    obtain ⟨a, fs, h1, h2, h3, h4⟩ := h
    exact ⟨a, fs, h1, (ho a _ h2 h3).2, (ho a _ h2 h3).1, h4.lat L⟩
  | lam k =>
    obtain ⟨f, D, h1, h2, h3⟩ := h
    exact ⟨f, D, h1, h2, h3.lat L⟩
  | dct p ks xs =>
    obtain ⟨a, vs, h0, h1, h2, h3, h4, h5⟩ := h
    exact ⟨a, vs, h0, h1, (ho a _ h2 h3).2, (ho a _ h2 h3).1, h4, h5.lat L⟩
  | sto cs =>
    refine ⟨h.1, fun k a ob e => ?_⟩
    have z := h.2 k a ob e
    cases ob with
    | lst xs =>
      obtain ⟨h1, vs, h2, h3⟩ := z
      exact ⟨(hc k a _ h1 h2).2, vs, (hc k a _ h1 h2).1, h3.lat L⟩
    | ins c ns fs =>
      obtain ⟨h1, dx, vs, h2, h3, h4⟩ := z
      exact ⟨(hc k a _ h1 h2).2, dx, vs, (hc k a _ h1 h2).1, h3, h4.lat L⟩
    | dct ks xs =>
      obtain ⟨h1, vs, h2, h3, h4⟩ := z
      exact ⟨(hc k a _ h1 h2).2, vs, (hc k a _ h1 h2).1, h3, h4.lat L⟩
/-- another slot written -/
theorem SlOk.put {w : Option V} (hj : j ≠ i) (h : SlOk fr ow H σ j s) : SlOk fr ow H (σ.set i w) j s := by
  cases s with
  | un => exact True.intro
  | val d =>
    obtain ⟨u, h1, h2⟩ := h
    exact ⟨u, by rw [List.getElem?_set, if_neg (Ne.symm hj)]; exact h1, h2⟩
  | own xs =>
    obtain ⟨a, vs, h1, h2, h3, h4⟩ := h
    exact ⟨a, vs, by rw [List.getElem?_set, if_neg (Ne.symm hj)]; exact h1, h2, h3, h4⟩
  | obj c ns fs =>
    obtain ⟨dx, vs, h1, h2, h3, hl, h4⟩ := h
    exact ⟨dx, vs, by rw [List.getElem?_set, if_neg (Ne.symm hj)]; exact h1, h2, h3, hl, h4⟩
  | err er =>
    obtain ⟨a, cls, dd, h1, h2, h3⟩ := h
    exact ⟨a, cls, dd, h1, by rw [List.getElem?_set, if_neg (Ne.symm hj)]; exact h2, h3⟩
  | sto cs => exact ⟨by rw [List.length_set]; exact h.1, h.2⟩
  | lams ks =>
    obtain ⟨a, fs, h1, h2, h3, h4⟩ := h
    exact ⟨a, fs, by rw [List.getElem?_set, if_neg (Ne.symm hj)]; exact h1, h2, h3, h4⟩
  | lam k =>
    obtain ⟨f, D, h1, h2, h3⟩ := h
    exact ⟨f, D, by rw [List.getElem?_set, if_neg (Ne.symm hj)]; exact h1, h2, h3⟩
  | dct p ks xs =>
    obtain ⟨a, vs, h0, h1, h2, h3, h4⟩ := h
    exact ⟨a, vs, h0, by rw [List.getElem?_set, if_neg (Ne.symm hj)]; exact h1, h2, h3, h4⟩
theorem N0.at_own (G : Good fr ow H σ env) (x : N0 fr.Z.g.tb fr.K fr.d0 H H') (h : ow i = some a) (e : H a = some o) : H' a = some o := by
  obtain ⟨o1, e1, n1⟩ := G.own i a h
  rw [e] at e1
  cases e1
  exact x.keep a o (G.ow_d0 h) id n1.1 e
theorem Good.mv (G : Good fr ow H σ env) (x : N0 fr.Z.g.tb fr.K fr.d0 H H') : Good fr ow H' σ env where
  nx := G.nx.trans (Nz.w0 x)
  d00 := G.d00
  t0 := G.t0
  mex a h := x.hx a (G.mex a h)
  m0x := G.m0x
  ss := G.ss
  owf := G.owf
  inj := G.inj
  avo := G.avo
  gh a o h := ⟨(G.gh a o h).1, x.keep a o (fun z => (G.gh a o h).2.2 (.inl z)) id (G.gh a o h).1 (G.gh a o h).2.1, (G.gh a o h).2.2⟩
  len := G.len
  lb := G.lb
  sl i s e := (G.sl i s e).mv (G.lat x) (fun a o h e => ⟨N0.at_own G x h e, h⟩) (fun k a o h e => ⟨N0.at_own G x h e, h⟩) (fun _ => .inr trivial)
theorem Good.ib (G : Good fr ow H σ env) (e : env[i]? = some s) : i < CBASE := by
  have h1 := G.lb
  rw [G.len] at h1
  exact Nat.lt_of_lt_of_le (List.getElem?_eq_some_iff.mp e).1 h1
theorem Good.fresh (G : Good fr ow H σ env) {p : Addr} (hp : H p = none) : ¬ MM fr ow p := fun z => (G.mex p z).nn hp
theorem Good.same (G : Good fr ow H σ env) (e : Same H H') : N0 fr.Z.g.tb fr.K fr.d0 H H' := .of G.dice e
/-- a slot is given a value -/
theorem Good.set (G : Good fr ow H σ env) (i : Nat) (r : Rep fr.Z.g fr.d0 (MM fr ow) H v d) : Good fr ow H (σ.set i (some v)) (env.set i (.val d)) := by
  refine ⟨G.nx, G.d00, G.t0, G.mex, G.m0x, G.ss, G.owf, G.inj, G.avo, G.gh, by simp [G.len], (by simpa using G.lb), fun j s e => ?_⟩
  by_cases hj : j = i
  · subst hj
    rw [List.getElem?_set, if_pos rfl] at e
    split at e
    · rename_i lt
      cases e
      exact ⟨v, by rw [List.getElem?_set, if_pos rfl, if_pos (by rw [G.len]; exact lt)], r⟩
    · cases e
  · rw [List.getElem?_set, if_neg (Ne.symm hj)] at e
    exact (G.sl j s e).put hj
/-- a slot forgotten -/
theorem Good.un (G : Good fr ow H σ env) (i : Nat) (w : Option V) : Good fr ow H (σ.set i w) (env.set i .un) := by
  refine ⟨G.nx, G.d00, G.t0, G.mex, G.m0x, G.ss, G.owf, G.inj, G.avo, G.gh, by simp [G.len], (by simpa using G.lb), fun j s e => ?_⟩
  by_cases hj : j = i
  · subst hj
    rw [List.getElem?_set, if_pos rfl] at e
    split at e
    · cases e
      trivial
    · cases e
  · rw [List.getElem?_set, if_neg (Ne.symm hj)] at e
    exact (G.sl j s e).put hj
/-- a new list, kept, told by any slot -/
theorem Good.setN {Hs : Hp} {s1 : Sl} (Gs : Good fr ow Hs σ env) (n : N0 fr.Z.g.tb fr.K fr.d0 Hs H) (i : Nat) (hi : i < CBASE) (ha : Hs a = none) (h : H a = some (.lst vs))
    (hs1 : ∀ σ', σ'[i]? = some (some (.ref a)) → Lat (fun b => MM fr ow b ∨ b = a) H (MM fr (fun j => if j = i then some a else ow j)) H → SlOk fr (fun j => if j = i then some a else ow j) H σ' i s1) :
    Good fr (fun j => if j = i then some a else ow j) H (σ.set i (some (.ref a))) (env.set i s1) := by
  have G := Gs.mv n
  have na : ¬ MM fr ow a := Gs.fresh ha
  have h0a : fr.H0 a = none := by
    cases z : fr.H0 a with
    | none => rfl
    | some o => exact absurd ha (Gs.nx.ex a (by rw [z]; exact fun y => by cases y))
  have sub : ∀ b, MM fr (fun j => if j = i then some a else ow j) b → MM fr ow b ∨ b = a := fun b h => by
    rcases h with h | h | h | ⟨j, h⟩
    · exact .inl (.inl h)
    · exact .inl (.inr (.inl h))
    · exact .inl (.inr (.inr (.inl h)))
    · dsimp only at h
      split at h
      · exact .inr (Option.some.inj h).symm
      · exact .inl (.inr (.inr (.inr ⟨j, h⟩)))
  have L : Lat (MM fr ow) Hs (MM fr (fun j => if j = i then some a else ow j)) H := fun b o t nb e => by
    refine ⟨n.keep b o (fun z => nb (z ▸ MM.d0)) id t e, fun z => ?_⟩
    rcases sub b z with z | z
    · exact nb z
    · rw [z, ha] at e
      cases e
  have hg : fr.gH a = none := by
    cases z : fr.gH a with
    | none => rfl
    | some o =>
      have := (Gs.gh a o z).2.1
      rw [ha] at this
      cases this
  refine ⟨G.nx, G.d00, G.t0, fun b hb => ?_, G.m0x, G.ss, fun j b hb => ?_, fun j k b h1 h2 => ?_, fun j b hb hv => ?_, fun b o e => ⟨(G.gh b o e).1, (G.gh b o e).2.1, fun z => ?_⟩, by simp [G.len], (by simpa using G.lb), fun j s e => ?_⟩
  · rcases sub b hb with z | z
    · exact G.mex b z
    · rw [z]
      exact ⟨_, h, nx_lst⟩
  · split at hb
    · cases hb
      exact .inl h0a
    · exact G.owf j b hb
  · split at h1
    · rename_i e1
      cases h1
      split at h2
      · rename_i e2
        rw [e1, e2]
      · exact absurd (.inr (.inr (.inr ⟨k, h2⟩))) na
    · split at h2
      · cases h2
        exact absurd (.inr (.inr (.inr ⟨j, h1⟩))) na
      · exact G.inj j k b h1 h2
  · split at hb
    · cases hb
      exact na (.inr (.inr (.inl hv)))
    · exact G.avo j b hb hv
  · rcases sub b z with z | z
    · exact (G.gh b o e).2.2 z
    · rw [z, hg] at e
      cases e
  · by_cases hj : j = i
    · subst hj
      rw [List.getElem?_set, if_pos rfl] at e
      split at e
      · rename_i lt
        cases e
        exact hs1 _ (by rw [List.getElem?_set, if_pos rfl, if_pos (by rw [G.len]; exact lt)]) (.sub sub)
      · cases e
    · rw [List.getElem?_set, if_neg (Ne.symm hj)] at e
      exact ((Gs.sl j s e).mv L (fun b o h1 h2 => ⟨N0.at_own Gs n h1 h2, by rw [if_neg hj]; exact h1⟩) (fun k b o h1 h2 => ⟨N0.at_own Gs n h1 h2, by rw [if_neg (by omega)]; exact h1⟩) (fun _ => .inr trivial)).put hj
/-- a new list, kept -/
theorem Good.setO {Hs : Hp} {xs : List D} (Gs : Good fr ow Hs σ env) (n : N0 fr.Z.g.tb fr.K fr.d0 Hs H) (i : Nat) (hi : i < CBASE) (ha : Hs a = none) (h : H a = some (.lst vs)) (r : Reps fr.Z.g fr.d0 (fun b => MM fr ow b ∨ b = a) H vs xs) :
    Good fr (fun j => if j = i then some a else ow j) H (σ.set i (some (.ref a))) (env.set i (.own xs)) :=
  Gs.setN n i hi ha h fun σ' hs L => ⟨a, vs, hs, by simp, h, r.lat L⟩
/-- one of the frame's own is written -/
theorem Good.wr {o1 : HO} {env' : Ev} (G : Good fr ow H σ env) (i : Nat) (h2 : ow i = some a) (n : NX o1) (L : Lat (MM fr ow) H (MM fr ow) (upd H a o1)) (hl : env'.length = env.length) (hs : ∀ j s, env'[j]? = some s → SlOk fr ow (upd H a o1) σ j s) : Good fr ow (upd H a o1) σ env' := by
  obtain ⟨o0, e0, n0⟩ := G.own i a h2
  refine ⟨G.nx.write G.d00 (G.ow_ap h2) (G.ow_d0 h2) ⟨o0, e0, n0⟩ n (G.owf i a h2), G.d00, G.t0, fun b hb => ?_, G.m0x, G.ss, G.owf, G.inj, G.avo, fun b o q => ⟨(G.gh b o q).1, (L b o (G.gh b o q).1 (G.gh b o q).2.2 (G.gh b o q).2.1).1, (G.gh b o q).2.2⟩, by rw [G.len, hl], G.lb, hs⟩
  by_cases hb2 : b = a
  · rw [hb2]
    exact ⟨_, upd_same, n⟩
  · obtain ⟨o, q, n⟩ := G.mex b hb
    exact ⟨o, by rw [upd_ne hb2]; exact q, n⟩
theorem wr_lat (h2 : ow i = some a) : Lat (MM fr ow) H (MM fr ow) (upd H a o) := fun b o' t nb q => ⟨by rw [upd_ne (fun z => nb (by rw [z]; exact .inr (.inr (.inr ⟨i, h2⟩))))]; exact q, nb⟩
/-- the other slots, where one of the frame's own is written -/
theorem SlOk.wr {env : Ev} (G : Good fr ow H σ env) (h2 : ow i = some a) (hj : j ≠ i) (hi : i < CBASE) (h : SlOk fr ow H σ j s) : SlOk fr ow (upd H a o) σ j s :=
  h.mv (wr_lat h2) (fun b o' q1 q2 => ⟨by rw [upd_ne fun z => hj (G.inj j i a (by rw [← z]; exact q1) h2)]; exact q2, q1⟩) (fun k b o' q1 q2 => ⟨by rw [upd_ne fun z => absurd (G.inj (CBASE + k) i a (by rw [← z]; exact q1) h2) (by omega)]; exact q2, q1⟩) (fun _ => .inr trivial)
/-- the frame's own list written -/
theorem Good.wrO {ys : List D} {us : List V} (G : Good fr ow H σ env) (i : Nat) (hi : i < CBASE) (h1 : σ[i]? = some (some (.ref a))) (h2 : ow i = some a) (hu : Reps fr.Z.g fr.d0 (MM fr ow) H us ys) : Good fr ow (upd H a (.lst us)) σ (env.set i (.own ys)) := by
  refine G.wr i h2 nx_lst (wr_lat h2) (by simp) fun j s q => ?_
  by_cases hj : j = i
  · subst hj
    rw [List.getElem?_set, if_pos rfl] at q
    split at q
    · cases q
      exact ⟨a, us, h1, h2, upd_same, hu.lat (wr_lat h2)⟩
    · cases q
  · rw [List.getElem?_set, if_neg (Ne.symm hj)] at q
    exact (G.sl j s q).wr G h2 hj hi
/-- a field of the instance that is being made -/
theorem Good.wrF {c : Nat} {ns : List Str} {dx : Addr} {ys : List D} {us : List V} (hc : ns.length = us.length) (G : Good fr ow H σ env) (i : Nat) (hi : i < CBASE) (hm : a = fr.me) (h1 : σ[i]? = some (some (.ref a))) (h2 : ow i = some a) (hu : Reps fr.Z.g fr.d0 (MM fr ow) H us ys) : Good fr ow (upd H a (.ins (fr.Z c) dx (ns.zip us))) σ (env.set i (.obj c ns ys)) := by
  refine G.wr i h2 nx_ins (wr_lat h2) (by simp) fun j s q => ?_
  by_cases hj : j = i
  · subst hj
    rw [List.getElem?_set, if_pos rfl] at q
    split at q
    · cases q
      subst hm
      exact ⟨dx, us, h1, h2, upd_same, hc, hu.lat (wr_lat h2)⟩
    · cases q
  · rw [List.getElem?_set, if_neg (Ne.symm hj)] at q
    exact (G.sl j s q).wr G h2 hj hi
/-- the frame's own list let go -/
theorem Good.frz {xs : List D} (G : Good fr ow H σ env) (i : Nat) (hi : i < CBASE) (e : env[i]? = some (.own xs)) : Good fr (fun j => if j = i then none else ow j) H σ (env.set i (.val (.lst xs))) := by
  obtain ⟨a, vs, h1, h2, h3, h4⟩ := G.sl i _ e
  have sub : ∀ b, MM fr (fun j => if j = i then none else ow j) b → MM fr ow b ∧ b ≠ a := fun b h => by
    rcases h with h | h | h | ⟨j, h⟩
    · exact ⟨.inl h, fun z => G.ow_d0 h2 (z.symm.trans h)⟩
    · exact ⟨.inr (.inl h), fun z => G.ow_m0 h2 (z ▸ h)⟩
    · exact ⟨.inr (.inr (.inl h)), fun z => G.avo i a h2 (z ▸ h)⟩
    · dsimp only at h
      split at h
      · cases h
      · rename_i hj
        exact ⟨.inr (.inr (.inr ⟨j, h⟩)), fun z => hj (G.inj j i b h (z ▸ h2))⟩
  have L : Lat (MM fr ow) H (MM fr (fun j => if j = i then none else ow j)) H := .sub fun b z => (sub b z).1
  refine ⟨G.nx, G.d00, G.t0, fun b hb => G.mex b (sub b hb).1, G.m0x, G.ss, fun j b hb => ?_, fun j k b q1 q2 => ?_, fun j b hb => ?_, fun b o q => ⟨(G.gh b o q).1, (G.gh b o q).2.1, fun z => (G.gh b o q).2.2 (sub b z).1⟩, by simp [G.len], (by simpa using G.lb), fun j s q => ?_⟩
  · split at hb
    · cases hb
    · exact G.owf j b hb
  · split at q1
    · cases q1
    · split at q2
      · cases q2
      · exact G.inj j k b q1 q2
  · split at hb
    · cases hb
    · exact G.avo j b hb
  · by_cases hj : j = i
    · subst hj
      rw [List.getElem?_set, if_pos rfl] at q
      split at q
      · cases q
        exact ⟨_, h1, .lst h3 (fun z => (sub a z).2 rfl) (h4.lat L)⟩
      · cases q
    · rw [List.getElem?_set, if_neg (Ne.symm hj)] at q
      exact (G.sl j s q).mv L (fun b o h1 h2 => ⟨h2, by rw [if_neg hj]; exact h1⟩) (fun k b o h1 h2 => ⟨h2, by rw [if_neg (by omega)]; exact h1⟩) (fun _ => .inr trivial)
end
end Oil
namespace Oil
open PySem PySem.Spec PyProof.Rows L2
/-- a value, or a list of the frame's own -/
def RepB (fr : Fr) (ow : Ow) (H : Hp) (v : V) (d : D) : Prop :=
  Rep fr.Z.g fr.d0 (MM fr ow) H v d ∨ ∃ i xs a vs, d = .lst xs ∧ v = .ref a ∧ ow i = some a ∧ H a = some (.lst vs) ∧ a ≠ fr.d0 ∧ Reps fr.Z.g fr.d0 (MM fr ow) H vs xs
structure At (Z : ZM) (K : PySem.W.Frag) (E : XK) (fr : Fr) (ow : Ow) (H : Hp) (σ : L2.St) (env : Ev) (Ep : QR) : Prop where
  z : fr.Z = Z
  k : fr.K = K
  g : Good fr ow H σ env
  er : ∀ er cls dd H', N0 fr.Z.g.tb fr.K fr.d0 H H' → RepE fr.Z.g fr.d0 (MM fr ow) H' er cls dd → Ep er → E cls dd H'
section
variable {Z : ZM} {X : Cx} {E : XK} {fr : Fr} {ow : Ow} {H H' : Hp} {σ : L2.St} {env : Ev} {Ep : QR} {v : V} {d : D} {ds : List D}
theorem At.mv (A : At Z X.K E fr ow H σ env Ep) (x : N0 fr.Z.g.tb fr.K fr.d0 H H') : At Z X.K E fr ow H' σ env Ep := ⟨A.z, A.k, A.g.mv x, fun er cls dd H' n r q => A.er er cls dd H' (x.trans n) r q⟩
theorem RepB.of (r : Rep fr.Z.g fr.d0 (MM fr ow) H v d) : RepB fr ow H v d := .inl r
theorem RepB.mv (r : RepB fr ow H v d) (x : N0 fr.Z.g.tb fr.K fr.d0 H H') : RepB fr ow H' v d := by
  rcases r with r | ⟨i, xs, a, vs, h1, h2, h3, h4, h5, h6⟩
  · exact .inl (r.lat (Nz.lat x MM.d0))
  · exact .inr ⟨i, xs, a, vs, h1, h2, h3, x.keep a _ h5 id nt_lst h4, h5, h6.lat (Nz.lat x MM.d0)⟩
theorem RepB.seq (r : RepB fr ow H v d) (e : d.items = some ds) : ∃ a vs, v = .ref a ∧ a ≠ fr.d0 ∧ (H a = some (.lst vs) ∧ d = .lst ds ∨ H a = some (.tup vs) ∧ d = .tup ds) ∧ Reps fr.Z.g fr.d0 (MM fr ow) H vs ds := by
  rcases r with r | ⟨i, xs, a, vs, h1, h2, h3, h4, h5, h6⟩
  · obtain ⟨a, vs, h1, h2, h3, h4⟩ := r.seq e
    exact ⟨a, vs, h1, fun z => h2 (z ▸ MM.d0), h3, h4⟩
  · subst h1
    cases e
    exact ⟨a, vs, h2, h5, .inl ⟨h4, rfl⟩, h6⟩
/-- what is no list of the frame's own -/
theorem RepB.rep (r : RepB fr ow H v d) (h : ∀ xs, d ≠ .lst xs) : Rep fr.Z.g fr.d0 (MM fr ow) H v d := by
  rcases r with r | ⟨i, xs, a, vs, h1, _⟩
  · exact r
  · exact absurd h1 (h xs)
theorem RepB.int {i : Int} (r : RepB fr ow H v (.int i)) : v = .int i := (r.rep fun _ z => by cases z).ix
theorem RepB.dp {K : PySem.W.Frag} {p : PyData} (r : RepB fr ow H v d) (e : d.pd = some p) : Dp K H v p := by
  rcases r with r | ⟨i, xs, a, vs, h1, h2, h3, h4, h5, h6⟩
  · exact r.dp e
  · subst h1 h2
    obtain ⟨q, h1, rfl⟩ := Option.map_eq_some_iff.mp (show Option.map PyData.list (D.pds _) = _ from e)
    exact .lst (SqL.of h4) (Reps.dp h6 h1)
theorem RepB.kn {K : PySem.W.Frag} {T : String} (r : RepB fr ow H v d) (e : d.kind = some T) : Kn K H v T := by
  rcases r with r | ⟨i, xs, a, vs, h1, h2, h3, h4, h5, h6⟩
  · exact r.kn e
  · subst h1 h2
    cases e
    exact .lst h4
theorem RepB.flat (r : RepB fr ow H v d) (e : d.flat = true) : flatV v = true := by
  rcases r with r | ⟨i, xs, a, vs, h1, _⟩
  · exact r.flat e
  · subst h1
    cases e
end
/-- readings by data: a value; a value or an own list; a test; arguments -/
def RdE (Z : ZM) (K : PySem.W.Frag) (E : XK) (w : WE) : TE := fun σ H Q => ∃ fr ow env Qp Ep, At Z K E fr ow H σ env Ep ∧ w env Qp Ep ∧ ∀ d v H', N0 fr.Z.g.tb fr.K fr.d0 H H' → Rep fr.Z.g fr.d0 (MM fr ow) H' v d → Qp d → Q v H'
def RdB (Z : ZM) (K : PySem.W.Frag) (E : XK) (w : WE) : TE := fun σ H Q => ∃ fr ow env Qp Ep, At Z K E fr ow H σ env Ep ∧ w env Qp Ep ∧ ∀ d v H', N0 fr.Z.g.tb fr.K fr.d0 H H' → RepB fr ow H' v d → Qp d → Q v H'
/-- a new list -/
def New (fr : Fr) (ow : Ow) (H H' : Hp) (v : V) (xs : List D) : Prop := ∃ a vs, v = .ref a ∧ H a = none ∧ H' a = some (.lst vs) ∧ Reps fr.Z.g fr.d0 (fun b => MM fr ow b ∨ b = a) H' vs xs
def RdF (Z : ZM) (K : PySem.W.Frag) (E : XK) (w : WE) : TE := fun σ H Q => ∃ fr ow env Qp Ep, At Z K E fr ow H σ env Ep ∧ w env Qp Ep ∧ ∀ xs v H', N0 fr.Z.g.tb fr.K fr.d0 H H' → New fr ow H H' v xs → Qp (.lst xs) → Q v H'
def RdT (Z : ZM) (K : PySem.W.Frag) (E : XK) (w : WT) : TT := fun σ H Q => ∃ fr ow env Qp Ep, At Z K E fr ow H σ env Ep ∧ w env Qp Ep ∧ ∀ b H', N0 fr.Z.g.tb fr.K fr.d0 H H' → Qp b → Q b H'
def RdA (Z : ZM) (K : PySem.W.Frag) (E : XK) (w : WA) : TA := fun σ H Q => ∃ fr ow env Qp Ep, At Z K E fr ow H σ env Ep ∧ w env Qp Ep ∧ ∀ ds vs H', N0 fr.Z.g.tb fr.K fr.d0 H H' → Reps fr.Z.g fr.d0 (MM fr ow) H' vs ds → Qp ds → Q vs H'
/-- arguments that may be own lists -/
inductive RepsB (fr : Fr) (ow : Ow) (H : Hp) : List V → List D → Prop where
  | nil : RepsB fr ow H [] []
  | cons {v : V} {d : D} {vs : List V} {ds : List D} : RepB fr ow H v d → RepsB fr ow H vs ds → RepsB fr ow H (v :: vs) (d :: ds)
def RdAB (Z : ZM) (K : PySem.W.Frag) (E : XK) (w : WA) : TA := fun σ H Q => ∃ fr ow env Qp Ep, At Z K E fr ow H σ env Ep ∧ w env Qp Ep ∧ ∀ ds vs H', N0 fr.Z.g.tb fr.K fr.d0 H H' → RepsB fr ow H' vs ds → Qp ds → Q vs H'
abbrev QE (Z : ZM) (X : Cx) (E : XK) (e : Expr) (w : WE) : Prop := PE X e (RdE Z X.K E w)
abbrev QB (Z : ZM) (X : Cx) (E : XK) (e : Expr) (w : WE) : Prop := PE X e (RdB Z X.K E w)
abbrev QF (Z : ZM) (X : Cx) (E : XK) (e : Expr) (w : WE) : Prop := PE X e (RdF Z X.K E w)
abbrev QT (Z : ZM) (X : Cx) (E : XK) (e : Expr) (w : WT) : Prop := PT X e (RdT Z X.K E w)
abbrev QW (Z : ZM) (X : Cx) (E : XK) (e : Expr) (w : WT) : Prop := PW X e (RdT Z X.K E w)
abbrev QA (Z : ZM) (X : Cx) (E : XK) (es : List Expr) (w : WA) : Prop := PA X es (RdA Z X.K E w)
abbrev QAB (Z : ZM) (X : Cx) (E : XK) (es : List Expr) (w : WA) : Prop := PA X es (RdAB Z X.K E w)
theorem _root_.L2.PE.wk {X : Cx} {e : Expr} {t t' : TE} (h : PE X e t) (k : ∀ σ H Q, t' σ H Q → t σ H Q) : PE X e t' := ⟨fun pins s σ H Q I q => h.run pins s σ H Q I (k σ H Q q)⟩
theorem _root_.L2.PT.wk {X : Cx} {e : Expr} {t t' : TT} (h : PT X e t) (k : ∀ σ H Q, t' σ H Q → t σ H Q) : PT X e t' := ⟨fun pins s σ H Q I q => h.run pins s σ H Q I (k σ H Q q)⟩
theorem _root_.L2.PW.wk {X : Cx} {e : Expr} {t t' : TT} (h : PW X e t) (k : ∀ σ H Q, t' σ H Q → t σ H Q) : PW X e t' := ⟨fun wh pins s σ H Q I q => h.run wh pins s σ H Q I (k σ H Q q)⟩
theorem _root_.L2.PA.wk {X : Cx} {es : List Expr} {t t' : TA} (h : PA X es t) (k : ∀ σ H Q, t' σ H Q → t σ H Q) : PA X es t' := ⟨fun p pins s σ H Q I q => h.run p pins s σ H Q I (k σ H Q q)⟩
section
variable {Z : ZM} {X : Cx} {E : XK} {e e1 e2 e3 : Expr} {es : List Expr} {w w1 w2 w3 : WE} {t : WA} {u u2 : WT} {pos p : Pos} {i : Nat} {x : Str}
theorem qb_of (h : QE Z X E e w) : QB Z X E e w := PE.wk h fun σ H Q ⟨fr, ow, env, Qp, Ep, A, hw, post⟩ => ⟨fr, ow, env, Qp, Ep, A, hw, fun d v H' n r q => post d v H' n (.inl r) q⟩
theorem New.rep {fr : Fr} {ow : Ow} {H H' : Hp} {v : V} {xs : List D} {σ : L2.St} {env : Ev} (G : Good fr ow H σ env) (n : New fr ow H H' v xs) : Rep fr.Z.g fr.d0 (MM fr ow) H' v (.lst xs) := by
  obtain ⟨a, vs, rfl, h1, h2, h3⟩ := n
  exact .lst h2 (G.fresh h1) (h3.lat (.sub fun b z => .inl z))
theorem qe_new (h : QF Z X E e w) : QE Z X E e w := PE.wk h fun σ H Q ⟨fr, ow, env, Qp, Ep, A, hw, post⟩ => ⟨fr, ow, env, Qp, Ep, A, hw, fun xs v H' n r q => post _ v H' n (r.rep A.g) q⟩
theorem qe_name (i : Nat) (hN : X.N[i]? = some x := by rfl) (hv : Vis X.env.scope x := by first | exact Or.inl rfl | exact Or.inr (Or.inl rfl) | exact Or.inr (Or.inr rfl)) (hd : (x == ("__debug__" : Str)) = false := by decide) (hcd : (x == ("__classdict__" : Str)) = false := by decide) : QE Z X E (.Name x pos) (wName i) :=
  (pe_var hN hv hd hcd).wk fun σ H Q ⟨fr, ow, env, Qp, Ep, A, hw, post⟩ => by
    unfold wName at hw
    split at hw
    · rename_i d e
      obtain ⟨v, h1, h2⟩ := A.g.sl i _ e
      exact ⟨v, h1, post d v H (.refl A.g.dice) h2 hw⟩
    · exact hw.elim
theorem qb_own (i : Nat) (hN : X.N[i]? = some x := by rfl) (hv : Vis X.env.scope x := by first | exact Or.inl rfl | exact Or.inr (Or.inl rfl) | exact Or.inr (Or.inr rfl)) (hd : (x == ("__debug__" : Str)) = false := by decide) (hcd : (x == ("__classdict__" : Str)) = false := by decide) : QB Z X E (.Name x pos) (wOwn i) :=
  (pe_var hN hv hd hcd).wk fun σ H Q ⟨fr, ow, env, Qp, Ep, A, hw, post⟩ => by
    unfold wOwn at hw
    split at hw
    · rename_i d e
      obtain ⟨v, h1, h2⟩ := A.g.sl i _ e
      exact ⟨v, h1, post d v H (.refl A.g.dice) (.inl h2) hw⟩
    · rename_i xs e
      obtain ⟨a, vs, h1, h2, h3, h4⟩ := A.g.sl i _ e
      refine ⟨_, h1, post _ _ H (.refl A.g.dice) (.inr ⟨i, xs, a, vs, rfl, rfl, h2, h3, A.g.ow_d0 h2, h4⟩) hw⟩
    · exact hw.elim
theorem qe_c {v : V} {d : D} (h : PE X e (tC v)) (r : ∀ (d0 : Addr) (M : Addr → Prop) (H : Hp), Rep Z.g d0 M H v d) : QE Z X E e (wC d) :=
  h.wk fun σ H Q ⟨fr, ow, env, Qp, Ep, A, hw, post⟩ => post d v H (.refl A.g.dice) (by rw [A.z]; exact r _ _ _) hw
/-- the rule r of an operator answers by data as g does -/
def OpS (r : R2) (g : O2) : Prop := ∀ (fr : Fr) (ow : Ow) (H : Hp) (x y : V) (dx dy : D) (Qp : QD) (Q : VK), (∀ p, H p = none → ¬ MM fr ow p) → RepB fr ow H x dx → RepB fr ow H y dy → g dx dy Qp →
  (∀ d v H', Same H H' → Rep fr.Z.g fr.d0 (MM fr ow) H' v d → Qp d → Q v H') → r x y H Q
theorem op_cat2 {f : Value → Value → Sem Value} {r r' : R2} (h : OpR X f r) (h' : OpR X f r') : OpR X f (fun x y H Q => r x y H Q ∨ r' x y H Q) := fun pins s σ H x y v u Q I rx ry q => q.elim (h pins s σ H x y v u Q I rx ry) (h' pins s σ H x y v u Q I rx ry)
theorem rd_two {r : R2} {g : O2} (s : OpS r g) : ∀ σ H Q, RdE Z X.K E (wOp g w1 w2) σ H Q → tOp r (RdB Z X.K E w1) (RdB Z X.K E w2) σ H Q := fun σ H Q ⟨fr, ow, env, Qp, Ep, A, hw, post⟩ =>
  ⟨fr, ow, env, _, Ep, A, hw, fun dx x H1 n1 r1 q1 => ⟨fr, ow, env, _, Ep, A.mv n1, q1, fun dy y H2 n2 r2 q2 =>
    s fr ow H2 x y dx dy Qp Q (fun p hp => (A.g.mv (n1.trans n2)).fresh hp) (r1.mv n2) r2 q2 fun d v H' e r q => post d v H' (n1.trans (n2.trans (.of n2.dice e))) r q⟩⟩
theorem qe_op {op : Operator} {r : R2} {g : O2} (ho : OpR X (binaryOp op) r) (s : OpS r g) (ha : QB Z X E e1 w1) (hb : QB Z X E e2 w2) : QE Z X E (.BinOp e1 op e2 pos) (wOp g w1 w2) := (pe_op ho ha hb).wk (rd_two s)
theorem qe_cmp {op : CmpOp} {r : R2} {g : O2} (ho : OpR X (compareOp op) r) (s : OpS r g) (ha : QB Z X E e1 w1) (hb : QB Z X E e2 w2) (hm : behindInMarks op e2 = false) : QE Z X E (.Compare e1 [op] [e2] pos) (wOp g w1 w2) := (pe_cmpR ho ha hb hm).wk (rd_two s)
theorem qe_ix {r : R2} {g : O2} (ho : IxR X r) (s : OpS r g) (ha : QB Z X E e1 w1) (hb : QB Z X E e2 w2) (hs : PlainIx e2) : QE Z X E (.Subscript e1 e2 pos) (wOp g w1 w2) := (pe_ix ho ha hb hs).wk (rd_two s)
theorem ops_int {C : Int → Int → Prop} {f : Int → Int → V} {g : O2} (hg : ∀ x y Q, g x y Q → ∃ i j d, x = .int i ∧ y = .int j ∧ C i j ∧ Q d ∧ ∀ (Z : ZG) (d0 : Addr) (M : Addr → Prop) (H : Hp), Rep Z d0 M H (f i j) d) : OpS (rI C f) g := fun fr ow H x y dx dy Qp Q _ rx ry h k => by
  obtain ⟨i, j, d, rfl, rfl, c, q, r⟩ := hg _ _ _ h
  exact ⟨i, j, rx.int, ry.int, c, k d _ H (.refl H) (r _ _ _ _) q⟩
theorem ops_int0 {f : Int → Int → V} {g : O2} (hg : ∀ x y Q, g x y Q → ∃ i j d, x = .int i ∧ y = .int j ∧ Q d ∧ ∀ (Z : ZG) (d0 : Addr) (M : Addr → Prop) (H : Hp), Rep Z d0 M H (f i j) d) : OpS (rI0 f) g := fun fr ow H x y dx dy Qp Q _ rx ry h k => by
  obtain ⟨i, j, d, rfl, rfl, q, r⟩ := hg _ _ _ h
  exact ⟨i, j, rx.int, ry.int, k d _ H (.refl H) (r _ _ _ _) q⟩
theorem ops_sub : OpS (rI0 fun i j => .int (i - j)) oSub := ops_int0 fun x y Q h => by
  cases x <;> cases y <;> first | exact ⟨_, _, _, rfl, rfl, h, fun _ _ _ _ => .int _⟩ | exact (show False from h).elim
theorem ops_lt : OpS (rI0 fun i j => .bl (decide (i < j))) oLt := ops_int0 fun x y Q h => by
  cases x <;> cases y <;> first | exact ⟨_, _, _, rfl, rfl, h, fun _ _ _ _ => .bl _⟩ | exact (show False from h).elim
theorem ops_le : OpS (rI0 fun i j => .bl (decide (i ≤ j))) oLe := ops_int0 fun x y Q h => by
  cases x <;> cases y <;> first | exact ⟨_, _, _, rfl, rfl, h, fun _ _ _ _ => .bl _⟩ | exact (show False from h).elim
theorem ops_gt : OpS (rI0 fun i j => .bl (decide (j < i))) oGt := ops_int0 fun x y Q h => by
  cases x <;> cases y <;> first | exact ⟨_, _, _, rfl, rfl, h, fun _ _ _ _ => .bl _⟩ | exact (show False from h).elim
theorem ops_ge : OpS (rI0 fun i j => .bl (decide (j ≤ i))) oGe := ops_int0 fun x y Q h => by
  cases x <;> cases y <;> first | exact ⟨_, _, _, rfl, rfl, h, fun _ _ _ _ => .bl _⟩ | exact (show False from h).elim
theorem ops_mod : OpS (rI (fun _ j => j ≠ 0) fun i j => .int (i.fmod j)) oMod := ops_int fun x y Q h => by
  cases x <;> cases y <;> first | exact ⟨_, _, _, rfl, rfl, h.1, h.2, fun _ _ _ _ => .int _⟩ | exact (show False from h).elim
theorem ops_pow : OpS (rI CPow fun i j => .int (i ^ j.toNat)) oPow := ops_int fun x y Q h => by
  cases x <;> cases y <;> first | exact ⟨_, _, _, rfl, rfl, ⟨h.1.1, by have := h.1.2.1; omega, by have := h.1.2.2; omega⟩, h.2, fun _ _ _ _ => .int _⟩ | exact (show False from h).elim
def rAddU (K : PySem.W.Frag) : R2 := fun x y H Q => rI0 (fun i j => .int (i + j)) x y H Q ∨ (rCat x y H Q ∨ rCatA K x y H Q)
theorem op_addU : OpR X (binaryOp .Add) (rAddU X.K) := op_cat2 op_add (op_cat2 op_cat op_catA)
theorem lim_line {n : Nat} (h : n ≤ LIM) : n ≤ sizeLine := by
  rw [sizeLine_eq]
  unfold LIM at h
  omega
theorem ops_add {K : PySem.W.Frag} : OpS (rAddU K) oAdd := fun fr ow H x y dx dy Qp Q fre rx ry h k => by
  cases dx <;> cases dy <;> try exact (show False from h).elim
  · exact .inl ⟨_, _, rx.int, ry.int, k _ _ H (.refl H) (.int _) h⟩
  · rename_i a b
    obtain ⟨p, vs, rfl, n1, e1, r1⟩ := rx.seq rfl
    obtain ⟨q, us, rfl, n2, e2, r2⟩ := ry.seq rfl
    have e1 : H p = some (.tup vs) := by rcases e1 with ⟨_, z⟩ | ⟨z, _⟩; cases z; exact z
    have e2 : H q = some (.tup us) := by rcases e2 with ⟨_, z⟩ | ⟨z, _⟩; cases z; exact z
    refine .inr (.inr ⟨p, q, vs, us, rfl, rfl, SqT.of e1, SqT.of e2, by rw [r1.length, r2.length]; exact lim_line h.1, fun z => ?_, fun z1 z => ?_, fun _ _ l hl => ?_⟩)
    · subst z
      cases r1
      exact k _ _ H (.refl H) (ry.rep fun _ z => by cases z) (by simpa using h.2)
    · subst z
      cases r2
      exact k _ _ H (.refl H) (rx.rep fun _ z => by cases z) (by simpa using h.2)
    · exact k _ _ _ (Same.new hl) (.fresh_tup hl (fre l hl) (r1.app r2)) h.2
  · rename_i a b
    obtain ⟨p, vs, rfl, n1, e1, r1⟩ := rx.seq rfl
    obtain ⟨q, us, rfl, n2, e2, r2⟩ := ry.seq rfl
    have e1 : H p = some (.lst vs) := by rcases e1 with ⟨z, _⟩ | ⟨_, z⟩; exact z; cases z
    have e2 : H q = some (.lst us) := by rcases e2 with ⟨z, _⟩ | ⟨_, z⟩; exact z; cases z
    exact .inr (.inl ⟨p, q, vs, us, rfl, rfl, e1, e2, by rw [r1.length, r2.length]; exact lim_line h.1, fun l hl => k _ _ _ (Same.new hl) (.fresh_lst hl (fre l hl) (r1.app r2)) h.2⟩)
def rMulU (K : PySem.W.Frag) : R2 := fun x y H Q => rI CMulW (fun i j => .int (i * j)) x y H Q ∨ (rRep x y H Q ∨ rRepT K x y H Q)
theorem op_mulU : OpR X (binaryOp .Mult) (rMulU X.K) := op_cat2 op_mulW (op_cat2 op_rep op_repT)
theorem ops_mul {K : PySem.W.Frag} : OpS (rMulU K) oMul := fun fr ow H x y dx dy Qp Q fre rx ry h k => by
  cases dx <;> cases dy <;> try exact (show False from h).elim
  · exact .inl ⟨_, _, rx.int, ry.int, wide_mul (a := 300) (b := 300) h.1.1 h.1.2 (by decide) (by decide) (by decide), k _ _ H (.refl H) (.int _) h.2⟩
  · rename_i a b
    obtain ⟨p, vs, rfl, n1, e1, r1⟩ := rx.seq rfl
    obtain rfl := ry.int
    have e1 : H p = some (.tup vs) := by rcases e1 with ⟨_, z⟩ | ⟨z, _⟩; cases z; exact z
    obtain ⟨⟨h1, h2, h3, h4⟩, h5⟩ := h
    refine .inr (.inr ⟨p, b, vs, rfl, rfl, SqT.of e1, fun z => h4 ?_, h1, h2, by rw [r1.length]; exact h3, fun l hl => k _ _ _ (Same.new hl) (.fresh_tup hl (fre l hl) (r1.rep (n := 0) _)) h5⟩)
    subst z
    cases r1
    rfl
  · rename_i a b
    obtain ⟨p, vs, rfl, n1, e1, r1⟩ := rx.seq rfl
    obtain rfl := ry.int
    have e1 : H p = some (.lst vs) := by rcases e1 with ⟨z, _⟩ | ⟨_, z⟩; exact z; cases z
    obtain ⟨⟨h1, h2, h3⟩, h4⟩ := h
    refine .inr (.inl ⟨p, b, vs, rfl, rfl, e1, by omega, by omega, ?_, fun l hl => k _ _ _ (Same.new hl) (.fresh_lst hl (fre l hl) (r1.rep (n := 0) _)) h4⟩)
    rw [r1.length]
    refine lim_line (Nat.le_trans (Nat.mul_le_mul h3 (show b.toNat ≤ 1000 by omega)) (by unfold LIM; decide))
theorem ops_is : OpS rIsN oIs := fun fr ow H x y dx dy Qp Q fre rx ry h k => by
  obtain ⟨rfl, h⟩ := h
  have e : y = V.non := by cases (ry.rep fun _ z => by cases z); rfl
  refine ⟨e, ?_⟩
  have e2 : decide (x = V.non) = dx.isNon := by
    rcases rx with r | ⟨i, xs, a, vs, rfl, rfl, _⟩
    · cases r <;> rfl
    · rfl
  rw [e2]
  exact k _ _ H (.refl H) (.bl _) h
theorem ops_isNot : OpS rNotN oIsNot := fun fr ow H x y dx dy Qp Q fre rx ry h k => by
  obtain ⟨rfl, h⟩ := h
  have e : y = V.non := by cases (ry.rep fun _ z => by cases z); rfl
  refine ⟨e, ?_⟩
  have e2 : decide (x = V.non) = dx.isNon := by
    rcases rx with r | ⟨i, xs, a, vs, rfl, rfl, _⟩
    · cases r <;> rfl
    · rfl
  rw [e2]
  exact k _ _ H (.refl H) (.bl _) h
theorem ops_eq {K : PySem.W.Frag} : OpS (rEqD K) oEq := fun fr ow H x y dx dy Qp Q fre rx ry h k => by
  obtain ⟨a, b, h1, h2, h3, h4, h5⟩ := h
  exact ⟨a, b, rx.dp h1, ry.dp h2, h3, h4, k _ _ H (.refl H) (.bl _) h5⟩
theorem ops_ne {K : PySem.W.Frag} : OpS (rNeD K) oNe := fun fr ow H x y dx dy Qp Q fre rx ry h k => by
  obtain ⟨a, b, h1, h2, h3, h4, h5⟩ := h
  exact ⟨a, b, rx.dp h1, ry.dp h2, h3, h4, k _ _ H (.refl H) (.bl _) h5⟩
theorem ops_ix {K : PySem.W.Frag} : OpS (rIxS K) oIx := fun fr ow H x y dx dy Qp Q fre rx ry h k => by
  cases dx <;> cases dy <;> try exact (show False from h).elim
  · obtain ⟨j, d, h1, h2, h3⟩ := h
    obtain ⟨p, vs, rfl, n1, e1, r1⟩ := rx.seq rfl
    obtain rfl := ry.int
    have e1 : H p = some (.tup vs) := by rcases e1 with ⟨_, z⟩ | ⟨z, _⟩; cases z; exact z
    obtain ⟨v, q1, q2⟩ := r1.get h2
    exact .inr ⟨p, vs, _, v, rfl, rfl, SqT.of e1, by unfold atI; rw [r1.length, show ixN _ _ = some j from h1]; exact q1, k _ _ H (.refl H) q2 h3⟩
  · obtain ⟨j, d, h1, h2, h3⟩ := h
    obtain ⟨p, vs, rfl, n1, e1, r1⟩ := rx.seq rfl
    obtain rfl := ry.int
    have e1 : H p = some (.lst vs) := by rcases e1 with ⟨z, _⟩ | ⟨_, z⟩; exact z; cases z
    obtain ⟨v, q1, q2⟩ := r1.get h2
    exact .inl ⟨p, vs, _, v, rfl, rfl, SqL.of e1, by unfold atI; rw [r1.length, show ixN _ _ = some j from h1]; exact q1, k _ _ H (.refl H) q2 h3⟩
end
end Oil
namespace Oil
open PySem PySem.Spec PyProof.Rows L2
section
variable {Z : ZM} {X : Cx} {E : XK} {e e1 e2 e3 : Expr} {es : List Expr} {w w1 w2 w3 : WE} {t t2 : WA} {u u1 u2 : WT} {pos p : Pos} {i : Nat} {x : Str}
theorem qe_neg (ha : QE Z X E e w) : QE Z X E (.UnaryOp .USub e pos) (wNeg w) := (pe_un un_neg ha).wk fun σ H Q ⟨fr, ow, env, Qp, Ep, A, hw, post⟩ =>
  ⟨fr, ow, env, _, Ep, A, hw, fun d v H1 n1 r1 q1 => by
    cases d <;> try exact (show False from q1).elim
    exact ⟨_, r1.ix, post _ _ H1 n1 (.int _) q1⟩⟩
theorem qe_chain {op op' : CmpOp} {r r' : R2} {g g' : O2} (ho : OpR X (compareOp op) r) (s : OpS r g) (ho' : OpR X (compareOp op') r') (s' : OpS r' g') (ha : QB Z X E e1 w1) (hb : QB Z X E e2 w2) (hc : QB Z X E e3 w3) (hm : lastMarks [op, op'] [e2, e3] = false := by rfl) :
    QE Z X E (.Compare e1 [op, op'] [e2, e3] pos) (wChain g g' w1 w2 w3) := (pe_chain ho ho' ha hb hc hm).wk fun σ H Q ⟨fr, ow, env, Qp, Ep, A, hw, post⟩ =>
  ⟨fr, ow, env, _, Ep, A, hw, fun dx x H1 n1 r1 q1 => ⟨fr, ow, env, _, Ep, A.mv n1, q1, fun dy y H2 n2 r2 q2 => by
    refine s fr ow H2 x y dx dy _ _ (fun p hp => (A.g.mv (n1.trans n2)).fresh hp) (r1.mv n2) r2 q2 fun d v H' e' r q => ?_
    have n3 := n1.trans (n2.trans (.of n2.dice e'))
    cases r <;> try exact (show False from q).elim
    rename_i b
    cases b with
    | true => exact ⟨true, rfl, by rw [if_pos rfl]; exact ⟨fr, ow, env, _, Ep, A.mv n3, q, fun du u H4 n4 r4 q4 =>
        s' fr ow H4 y u dy du Qp Q (fun p hp => (A.g.mv (n3.trans n4)).fresh hp) ((r2.mv (.of n2.dice e')).mv n4) r4 q4 fun d v H' e r q => post d v H' (n3.trans (n4.trans (.of n4.dice e))) r q⟩⟩
    | false => exact ⟨false, rfl, (by rw [if_neg Bool.false_ne_true]; exact post _ _ _ n3 (.bl _) q)⟩⟩⟩
theorem qe_one {op} (h : QE Z X E e w) : QE Z X E (.BoolOp op [e] pos) w := pe_one h
theorem qe_and (ha : QE Z X E e w) (hb : QE Z X E (.BoolOp .And (e1 :: es) pos) w1) : QE Z X E (.BoolOp .And (e :: e1 :: es) pos) (wAnd w w1) := (pe_and ha hb).wk fun σ H Q ⟨fr, ow, env, Qp, Ep, A, hw, post⟩ =>
  ⟨fr, ow, env, _, Ep, A, hw, fun d v H1 n1 r1 q1 => by
    cases r1 <;> try exact (show False from q1).elim
    rename_i b
    cases b with
    | true => exact ⟨true, rfl, ⟨fr, ow, env, _, Ep, A.mv n1, q1, fun d v H2 n2 r2 q2 => post d v H2 (n1.trans n2) r2 q2⟩⟩
    | false => exact ⟨false, rfl, post _ _ _ n1 (.bl _) q1⟩⟩
theorem qe_or (ha : QE Z X E e w) (hb : QE Z X E (.BoolOp .Or (e1 :: es) pos) w1) : QE Z X E (.BoolOp .Or (e :: e1 :: es) pos) (wOr w w1) := (pe_or ha hb).wk fun σ H Q ⟨fr, ow, env, Qp, Ep, A, hw, post⟩ =>
  ⟨fr, ow, env, _, Ep, A, hw, fun d v H1 n1 r1 q1 => by
    cases r1 <;> try exact (show False from q1).elim
    rename_i b
    cases b with
    | false => exact ⟨false, rfl, ⟨fr, ow, env, _, Ep, A.mv n1, q1, fun d v H2 n2 r2 q2 => post d v H2 (n1.trans n2) r2 q2⟩⟩
    | true => exact ⟨true, rfl, post _ _ _ n1 (.bl _) q1⟩⟩
theorem qe_not (ha : QE Z X E e w) : QE Z X E (.UnaryOp .Not e pos) (wNot w) := (pe_not ha).wk fun σ H Q ⟨fr, ow, env, Qp, Ep, A, hw, post⟩ =>
  ⟨fr, ow, env, _, Ep, A, hw, fun d v H1 n1 r1 q1 => by
    cases r1 <;> try exact (show False from q1).elim
    exact ⟨_, rfl, post _ _ _ n1 (.bl _) q1⟩⟩
theorem qe_if (hc : QT Z X E e u) (ha : QE Z X E e1 w1) (hb : QE Z X E e2 w2) : QE Z X E (.IfExp e e1 e2 pos) (wIf u w1 w2) := (pe_ifExp hc ha hb).wk fun σ H Q ⟨fr, ow, env, Qp, Ep, A, hw, post⟩ =>
  ⟨fr, ow, env, _, Ep, A, hw, fun b H1 n1 q1 => by
    cases b with
    | true => exact ⟨fr, ow, env, _, Ep, A.mv n1, q1, fun d v H2 n2 r2 q2 => post d v H2 (n1.trans n2) r2 q2⟩
    | false => exact ⟨fr, ow, env, _, Ep, A.mv n1, q1, fun d v H2 n2 r2 q2 => post d v H2 (n1.trans n2) r2 q2⟩⟩
theorem qt_val (h : QE Z X E e w) (he : ∀ whole, isTrue e X.env whole = (do let v ← whole; standAt e.pos; holding [v] (truthy v)) := by intro _; rfl) : QT Z X E e (wtVal w) := (pt_val h he).wk fun σ H Q ⟨fr, ow, env, Qp, Ep, A, hw, post⟩ =>
  ⟨fr, ow, env, _, Ep, A, hw, fun d v H1 n1 r1 q1 => by
    cases r1 <;> try exact (show False from q1).elim
    exact ⟨_, rfl, post _ _ n1 q1⟩⟩
theorem tru_b {fr : Fr} {ow : Ow} {H : Hp} {v : V} {d : D} {b : Bool} {K : PySem.W.Frag} (r : RepB fr ow H v d) (e : d.tru = some b) : TruV K v H b := by
  cases hd : d.items with
  | some xs =>
    obtain ⟨a, vs, rfl, _, h1, h2⟩ := r.seq hd
    have e2 : b = !vs.isEmpty := by
      rcases h1 with ⟨_, rfl⟩ | ⟨_, rfl⟩ <;> (cases e; cases h2 <;> rfl)
    rcases h1 with ⟨h1, rfl⟩ | ⟨h1, rfl⟩
    · exact .inl ⟨vs, SqL.of h1, e2⟩
    · exact .inr (.inl ⟨vs, SqT.of h1, e2⟩)
  | none =>
    have r2 := r.rep fun xs z => by subst z; cases hd
    cases r2 <;> first | (cases e; first | exact rfl | done) | cases hd
theorem qt_tru (h : QB Z X E e w) (he : ∀ whole, isTrue e X.env whole = (do let v ← whole; standAt e.pos; holding [v] (truthy v)) := by intro _; rfl) : QT Z X E e (wtTru w) := (pt_tru h he).wk fun σ H Q ⟨fr, ow, env, Qp, Ep, A, hw, post⟩ =>
  ⟨fr, ow, env, _, Ep, A, hw, fun d v H1 n1 r1 q1 => by
    split at q1
    · rename_i b e
      exact ⟨b, tru_b r1 e, post _ _ n1 q1⟩
    · exact q1.elim⟩
theorem qt_cmp {op : CmpOp} {r : R2} {g : O2} (ho : OpR X (compareOp op) r) (s : OpS r g) (ha : QB Z X E e1 w1) (hb : QB Z X E e2 w2) (hm : behindInMarks op e2 = false := by exact nomark _) : QT Z X E (.Compare e1 [op] [e2] pos) (wtVal (wOp g w1 w2)) :=
  (pt_cmpR ho ha hb hm).wk fun σ H Q ⟨fr, ow, env, Qp, Ep, A, hw, post⟩ => rd_two s σ H _ ⟨fr, ow, env, _, Ep, A, hw, fun d v H1 n1 r1 q1 => by
    cases r1 <;> try exact (show False from q1).elim
    exact ⟨_, rfl, post _ _ n1 q1⟩⟩
theorem qt_chain {op op' : CmpOp} {r r' : R2} {g g' : O2} (ho : OpR X (compareOp op) r) (s : OpS r g) (ho' : OpR X (compareOp op') r') (s' : OpS r' g') (ha : QB Z X E e1 w1) (hb : QB Z X E e2 w2) (hc : QB Z X E e3 w3) (hm : lastMarks [op, op'] [e2, e3] = false := by rfl) : QT Z X E (.Compare e1 [op, op'] [e2, e3] pos) (wtVal (wChain g g' w1 w2 w3)) := by
  refine PT.wk (pt_chain ho ho' ha hb hc hm) fun σ H Q ⟨fr, ow, env, Qp, Ep, A, hw, post⟩ => ?_
  exact ⟨fr, ow, env, _, Ep, A, hw, fun dx x H1 n1 r1 q1 => ⟨fr, ow, env, _, Ep, A.mv n1, q1, fun dy y H2 n2 r2 q2 => by
    refine s fr ow H2 x y dx dy _ _ (fun p hp => (A.g.mv (n1.trans n2)).fresh hp) (r1.mv n2) r2 q2 fun d v H' e' r q => ?_
    have n3 := n1.trans (n2.trans (.of n2.dice e'))
    cases r <;> try exact (show False from q).elim
    rename_i b
    cases b with
    | true => exact ⟨true, rfl, by rw [if_pos rfl]; exact ⟨fr, ow, env, _, Ep, A.mv n3, q, fun du u H4 n4 r4 q4 => by
        refine s' fr ow H4 y u dy du _ _ (fun p hp => (A.g.mv (n3.trans n4)).fresh hp) ((r2.mv (.of n2.dice e')).mv n4) r4 q4 fun d v H' e r q => ?_
        cases r <;> try exact (show False from q).elim
        exact ⟨_, rfl, post _ _ (n3.trans (n4.trans (.of n4.dice e))) q⟩⟩⟩
    | false => exact ⟨false, rfl, (by rw [if_neg Bool.false_ne_true]; exact ⟨_, rfl, post _ _ n3 q⟩)⟩⟩⟩
theorem qt_not (h : QT Z X E e u) : QT Z X E (.UnaryOp .Not e pos) (wtNot u) := (pt_not h).wk fun σ H Q ⟨fr, ow, env, Qp, Ep, A, hw, post⟩ =>
  ⟨fr, ow, env, _, Ep, A, hw, fun b H1 n1 q1 => post _ _ n1 q1⟩
theorem qw_and1 (h : QT Z X E e u) : QW Z X E (.BoolOp .And [e] pos) u := pw_and1 h
theorem qw_or1 (h : QT Z X E e u) : QW Z X E (.BoolOp .Or [e] pos) u := pw_or1 h
theorem qw_and (ha : QT Z X E e u) (hb : QW Z X E (.BoolOp .And (e1 :: es) pos) u1) : QW Z X E (.BoolOp .And (e :: e1 :: es) pos) (wtAnd u u1) := (pw_and ha hb).wk fun σ H Q ⟨fr, ow, env, Qp, Ep, A, hw, post⟩ =>
  ⟨fr, ow, env, _, Ep, A, hw, fun b H1 n1 q1 => by
    cases b with
    | true => exact ⟨fr, ow, env, _, Ep, A.mv n1, q1, fun b H2 n2 q2 => post b H2 (n1.trans n2) q2⟩
    | false => exact post _ _ n1 q1⟩
theorem qw_or (ha : QT Z X E e u) (hb : QW Z X E (.BoolOp .Or (e1 :: es) pos) u1) : QW Z X E (.BoolOp .Or (e :: e1 :: es) pos) (wtOr u u1) := (pw_or ha hb).wk fun σ H Q ⟨fr, ow, env, Qp, Ep, A, hw, post⟩ =>
  ⟨fr, ow, env, _, Ep, A, hw, fun b H1 n1 q1 => by
    cases b with
    | true => exact post _ _ n1 q1
    | false => exact ⟨fr, ow, env, _, Ep, A.mv n1, q1, fun b H2 n2 q2 => post b H2 (n1.trans n2) q2⟩⟩
theorem qt_w (h : QW Z X E e u) : QT Z X E e u := h.pt
theorem qa_nil : QA Z X E [] wNil := pa_nil.wk fun σ H Q ⟨fr, ow, env, Qp, Ep, A, hw, post⟩ => post [] [] H (.refl A.g.dice) .nil hw
theorem qa_cons (ha : QE Z X E e w) (hr : QA Z X E es t) (hs : starEach (e :: es) X.env = (false, eval e X.env) :: starEach es X.env := by rfl) : QA Z X E (e :: es) (wCons w t) := (pa_cons ha hr hs).wk fun σ H Q ⟨fr, ow, env, Qp, Ep, A, hw, post⟩ =>
  ⟨fr, ow, env, _, Ep, A, hw, fun d v H1 n1 r1 q1 => ⟨fr, ow, env, _, Ep, A.mv n1, q1, fun ds vs H2 n2 r2 q2 => post _ _ H2 (n1.trans n2) (.cons (r1.lat (Nz.lat n2 MM.d0)) r2) q2⟩⟩
theorem qa_star (ha : QB Z X E e w) (hr : QA Z X E es t) (hs : starEach (.Starred e p :: es) X.env = (true, eval e X.env) :: starEach es X.env := by rfl) : QA Z X E (.Starred e p :: es) (wStar w t) := (StX.pa_star ha hr hs).wk fun σ H Q ⟨fr, ow, env, Qp, Ep, A, hw, post⟩ =>
  ⟨fr, ow, env, _, Ep, A, hw, fun d v H1 n1 r1 q1 => by
    split at q1
    · rename_i ys e
      obtain ⟨a, vs, rfl, _, h1, h2⟩ := r1.seq e
      refine ⟨a, vs, rfl, ?_, ⟨fr, ow, env, _, Ep, A.mv n1, q1, fun ds us H2 n2 r2 q2 => post _ _ H2 (n1.trans n2) ((h2.lat (Nz.lat n2 MM.d0)).app r2) q2⟩⟩
      rcases h1 with ⟨z, _⟩ | ⟨z, _⟩
      · exact .inr (SqL.of z)
      · exact .inl (SqT.of z)
    · exact q1.elim⟩
theorem qab_nil : QAB Z X E [] wNil := pa_nil.wk fun σ H Q ⟨fr, ow, env, Qp, Ep, A, hw, post⟩ => post [] [] H (.refl A.g.dice) .nil hw
theorem RepsB.mv {fr : Fr} {ow : Ow} {H H' : Hp} (x : N0 fr.Z.g.tb fr.K fr.d0 H H') : ∀ {vs : List V} {ds : List D}, RepsB fr ow H vs ds → RepsB fr ow H' vs ds
  | _, _, .nil => .nil
  | _, _, .cons r t => .cons (r.mv x) (RepsB.mv x t)
theorem qab_cons (ha : QB Z X E e w) (hr : QAB Z X E es t) (hs : starEach (e :: es) X.env = (false, eval e X.env) :: starEach es X.env := by rfl) : QAB Z X E (e :: es) (wCons w t) := (pa_cons ha hr hs).wk fun σ H Q ⟨fr, ow, env, Qp, Ep, A, hw, post⟩ =>
  ⟨fr, ow, env, _, Ep, A, hw, fun d v H1 n1 r1 q1 => ⟨fr, ow, env, _, Ep, A.mv n1, q1, fun ds vs H2 n2 r2 q2 => post _ _ H2 (n1.trans n2) (.cons (r1.mv n2) r2) q2⟩⟩
theorem qe_tup {x1} (h : QA Z X E es t) : QE Z X E (.Tuple es x1 pos) (wTup t) := (pe_tup h).wk fun σ H Q ⟨fr, ow, env, Qp, Ep, A, hw, post⟩ =>
  ⟨fr, ow, env, _, Ep, A, hw, fun ds vs H1 n1 r1 q1 => ⟨by rw [r1.length]; exact lim_line q1.1, fun l hl => post _ _ _ (n1.same (Same.new hl)) (.fresh_tup hl ((A.g.mv n1).fresh hl) r1) q1.2⟩⟩
theorem New.of {fr : Fr} {ow : Ow} {H H1 : Hp} {l : Addr} {vs : List V} {ds : List D} (n1 : N0 fr.Z.g.tb fr.K fr.d0 H H1) (hl : H1 l = none) (r1 : Reps fr.Z.g fr.d0 (MM fr ow) H1 vs ds) : New fr ow H (upd H1 l (.lst vs)) (.ref l) ds := by
  refine ⟨l, vs, rfl, ?_, upd_same, r1.lat fun a o _ n h => ⟨by rw [upd_ne (ne_of_none h hl)]; exact h, fun z => ?_⟩⟩
  · cases z : H l with
    | none => rfl
    | some o => exact absurd hl (n1.ex _ (by rw [z]; exact fun y => by cases y))
  · rcases z with z | z
    · exact n z
    · exact ne_of_none h hl z
theorem qf_lst (h : QA Z X E es t) : QF Z X E (.List es pos) (wLst t) := (pe_lst h).wk fun σ H Q ⟨fr, ow, env, Qp, Ep, A, hw, post⟩ =>
  ⟨fr, ow, env, _, Ep, A, hw, fun ds vs H1 n1 r1 q1 => ⟨by rw [r1.length]; exact lim_line q1.1, fun l hl => post _ _ _ (n1.same (Same.new hl)) (.of n1 hl r1) q1.2⟩⟩
def RdO (Z : ZM) (K : PySem.W.Frag) (E : XK) (w : WO) : TO := fun σ H Q => ∃ fr ow env Qp Ep, At Z K E fr ow H σ env Ep ∧ w env Qp Ep ∧ ∀ o H', N0 fr.Z.g.tb fr.K fr.d0 H H' → Qp o → Q o H'
theorem _root_.L2.PO.wk {X : Cx} {e : Option Expr} {t t' : TO} (h : PO X e t) (k : ∀ σ H Q, t' σ H Q → t σ H Q) : PO X e t' := ⟨fun pins s σ H Q I q => h.run pins s σ H Q I (k σ H Q q)⟩
theorem qo_none : PO X none (RdO Z X.K E wNoPart) := po_none.wk fun σ H Q ⟨fr, ow, env, Qp, Ep, A, hw, post⟩ => post _ H (.refl A.g.dice) hw
theorem qo_some (h : QE Z X E e w) : PO X (some e) (RdO Z X.K E (wPart w)) := (po_some h).wk fun σ H Q ⟨fr, ow, env, Qp, Ep, A, hw, post⟩ =>
  ⟨fr, ow, env, _, Ep, A, hw, fun d v H1 n1 r1 q1 => by
    cases d <;> try exact (show False from q1).elim
    exact ⟨_, r1.ix, post _ H1 n1 q1⟩⟩
theorem qe_slice {lo hi : Option Expr} {tl th : WO} {p2 : Pos} (ha : QB Z X E e w) (hl : PO X lo (RdO Z X.K E tl)) (hu : PO X hi (RdO Z X.K E th)) : QE Z X E (.Subscript e (.Slice lo hi none p2) pos) (wSlice w tl th) :=
  (pe_slice (SlR.or (sl_list (X := X)) sl_tupA) ha hl hu).wk fun σ H Q ⟨fr, ow, env, Qp, Ep, A, hw, post⟩ =>
  ⟨fr, ow, env, _, Ep, A, hw, fun d v H1 n1 r1 q1 => ⟨fr, ow, env, _, Ep, A.mv n1, q1, fun l H2 n2 q2 => ⟨fr, ow, env, _, Ep, (A.mv n1).mv n2, q2, fun h H3 n3 q3 => by
    have r3 := (r1.mv n2).mv n3
    have n4 := n1.trans (n2.trans n3)
    cases d <;> try exact (show False from q3).elim
    · rename_i xs
      obtain ⟨a, vs, rfl, _, h1, h2⟩ := r3.seq rfl
      have h1 : H3 a = some (.tup vs) := by rcases h1 with ⟨_, z⟩ | ⟨z, _⟩; cases z; exact z
      refine .inr ⟨a, vs, rfl, SqT.of h1, fun z => ?_, fun z p hp => post _ _ _ (n4.same (Same.new hp)) (.fresh_tup hp ((A.g.mv n4).fresh hp) (h2.cut l h)) q3⟩
      have e : cutD xs l h = xs := by
        unfold cutD
        rw [← h2.length, z.1, z.2, List.drop_zero, Nat.sub_zero, h2.length, List.take_length]
      have q3 : Qp (.tup (cutD xs l h)) := q3
      rw [e] at q3
      exact post _ _ _ n4 (r3.rep fun _ z => by cases z) q3
    · obtain ⟨a, vs, rfl, _, h1, h2⟩ := r3.seq rfl
      have h1 : H3 a = some (.lst vs) := by rcases h1 with ⟨z, _⟩ | ⟨_, z⟩; exact z; cases z
      exact .inl ⟨a, vs, rfl, SqL.of h1, fun p hp => post _ _ _ (n4.same (Same.new hp)) (.fresh_lst hp ((A.g.mv n4).fresh hp) (h2.cut l h)) q3⟩⟩⟩⟩
theorem zip_look {f : Str} {d : D} {M : Addr → Prop} {Z : ZG} {d0 : Addr} {H : Hp} : ∀ {ns : List Str} {vs : List V} {ds : List D}, Reps Z d0 M H vs ds → (ns.zip ds).lookup f = some d → ∃ v, (ns.zip vs).lookup f = some v ∧ Rep Z d0 M H v d
  | [], _, _, _, e => by simp at e
  | _ :: _, _, _, .nil, e => by simp at e
  | n :: ns, _, _, .cons (v := v) (d := d2) (vs := vs) (ds := ds) r t, e => by
    rw [List.zip_cons_cons] at e
    by_cases h : f = n
    · subst h
      rw [look1] at e
      cases e
      exact ⟨v, by rw [List.zip_cons_cons, look1], r⟩
    · rw [look2 h] at e
      obtain ⟨v2, q1, q2⟩ := zip_look (ns := ns) t e
      exact ⟨v2, by rw [List.zip_cons_cons, look2 h]; exact q1, q2⟩
where
  look1 {α : Type} {f : Str} {v : α} {r : List (Str × α)} : ((f, v) :: r).lookup f = some v := by simp [List.lookup]
  look2 {α : Type} {f g : Str} {v : α} {r : List (Str × α)} (h : ¬ f = g) : ((g, v) :: r).lookup f = r.lookup f := by
    have q : (f == g) = false := by simpa using h
    simp [List.lookup, q]
theorem qe_fld {c : Nat} {f : Str} (hC : Cls X.K (Z c)) (hn : NoAttr X.K (Z c) f) (ha : QE Z X E e w) (hb : attributeBase e f X.env (eval e X.env) = eval e X.env := by rfl) : QE Z X E (.Attribute e f pos) (wFld c f w) := (pe_fld ha hb).wk fun σ H Q ⟨fr, ow, env, Qp, Ep, A, hw, post⟩ =>
  ⟨fr, ow, env, _, Ep, A, hw, fun d v H1 n1 r1 q1 => by
    cases d <;> try exact (show False from q1).elim
    obtain ⟨rfl, d, h1, h2⟩ := q1
    cases r1 with
    | ins h3 h4 h5 h6 =>
      obtain ⟨u, q1, q2⟩ := zip_look h6 h1
      rw [A.z] at h3
      exact ⟨_, _, _, _, u, rfl, h3, hC, hn, q1, post _ _ H1 n1 q2 h2⟩⟩
/-- a promise by data -/
def SpD (Z : ZG) (K : PySem.W.Frag) (P : PSpec) : Sp := fun vs H Q E => ∃ (d0 : Addr) (M : Addr → Prop) (ds : List D) (Qp : QD) (Ep : QR), Dice K H d0 ∧ LamX.Tabs Z.tb H ∧ (∀ a, M a → Has H a) ∧ Reps Z d0 (fun a => a = d0 ∨ M a) H vs ds ∧ P ds Qp Ep ∧
  (∀ d v H', N0 Z.tb K d0 H H' → Rep Z d0 (fun a => a = d0 ∨ M a) H' v d → Qp d → Q v H') ∧ (∀ er cls dd H', N0 Z.tb K d0 H H' → RepE Z d0 (fun a => a = d0 ∨ M a) H' er cls dd → Ep er → E cls dd H')
theorem Good.tabs {fr : Fr} {ow : Ow} {H : Hp} {σ : L2.St} {env : Ev} (G : Good fr ow H σ env) : LamX.Tabs fr.Z.g.tb H := G.nx.tabs G.t0
theorem spd_of {P : PSpec} {fr : Fr} {ow : Ow} {H H1 : Hp} {σ : L2.St} {env : Ev} {Qp : QD} {Ep : QR} {Q : VK} {vs : List V} {ds : List D} (A : At Z X.K E fr ow H σ env Ep) (n1 : N0 fr.Z.g.tb fr.K fr.d0 H H1) (r : Reps fr.Z.g fr.d0 (MM fr ow) H1 vs ds) (h : P ds Qp Ep)
    (post : ∀ d v H', N0 fr.Z.g.tb fr.K fr.d0 H H' → Rep fr.Z.g fr.d0 (MM fr ow) H' v d → Qp d → Q v H') : SpD Z.g X.K P vs H1 Q E := by
  have A1 := A.mv n1
  refine ⟨fr.d0, fun a => MM fr ow a, ds, Qp, Ep, by rw [← A.k]; exact A1.g.dice, by rw [← A.z]; exact A1.g.tabs, A1.g.mex, ?_, h, fun d v H' n r q => ?_, fun er cls dd H' n r q => ?_⟩
  · rw [← A.z]
    exact r.lat (.sub fun a z => z.elim (fun z => z ▸ MM.d0) id)
  · rw [← A.z] at r n
    rw [← A.k] at n
    exact post d v H' (n1.trans n) (r.lat (.sub fun a z => .inr z)) q
  · rw [← A.z] at r n
    rw [← A.k] at n
    exact A1.er er cls dd H' n (r.lat (.sub fun a z => .inr z)) q
variable {k j : Nat} {P : PSpec} {c : Nat} {m : Str} {apos : Pos}
theorem qe_call (g : Cal X.prog X.w X.K X.mg X.base k x (SpD Z.g X.K P)) (hr : Room j X.A) (hk : k ≤ j) (hx : Passes (L2.CX X.prog X.w) X E) (ha : QA Z X E (e :: es) t) (hg : Gl X x := by rfl)
    (hdb : (x == ("__debug__" : Str)) = false := by decide) (he : starEach (e :: es) X.env = (false, eval e X.env) :: starEach es X.env := by rfl) (hpl : (backTo pos (starEach es X.env)).any (·.1) = false := by rfl) :
    QE Z X E (.Call (.Name x p) (e :: es) [] pos) (wCall P t) := (pe_cal g hr hk hx ha hg hdb he hpl).wk fun σ H Q ⟨fr, ow, env, Qp, Ep, A, hw, post⟩ =>
  ⟨fr, ow, env, _, Ep, A, hw, fun ds vs H1 n1 r1 q1 => spd_of A n1 r1 q1 post⟩
/-- the instance of c at v -/
theorem Rep.insAt {fr : Fr} {M : Addr → Prop} {H : Hp} {v : V} {ns : List Str} {xs : List D} (r : Rep fr.Z.g fr.d0 M H v (.ins c ns xs)) (hz : fr.Z = Z) : ∃ a dx vs, v = .ref a ∧ H a = some (.ins (Z c) dx (ns.zip vs)) := by
  cases r with
  | ins h3 h4 h5 h6 => exact ⟨_, _, _, rfl, by rw [← hz]; exact h3⟩
theorem At.e0 {fr : Fr} {ow : Ow} {H : Hp} {σ : L2.St} {env : Ev} {Ep : QR} {K : PySem.W.Frag} (A : At Z K E fr ow H σ env Ep) : At Z K E0 fr ow H σ env (fun _ => False) := ⟨A.z, A.k, A.g, fun _ _ _ _ _ _ z => z.elim⟩
theorem qe_prop {f : Str} (ha : QE Z X E e w) (g : Prp X.prog X.w X.K X.mg X.base k (Z c) f (SpD Z.g X.K P)) (hr : Room j X.A) (hk : k + 1 ≤ j) (hab : attributeBase e f X.env (eval e X.env) = eval e X.env := by rfl) : QE Z X E (.Attribute e f pos) (wProp c P w) :=
  (pe_prp ha g hr hk (passL (X := X.nox)) hab).wk fun σ H Q ⟨fr, ow, env, Qp, Ep, A, hw, post⟩ =>
  ⟨fr, ow, env, _, Ep, A, hw, fun d v H1 n1 r1 q1 => by
    cases d <;> try exact (show False from q1).elim
    obtain ⟨rfl, q1⟩ := q1
    obtain ⟨a, dx, vs, rfl, ha⟩ := r1.insAt A.z
    exact ⟨a, dx, _, rfl, ha, spd_of A.e0 n1 (.cons r1 .nil) q1 post⟩⟩
theorem zip_no {m : Str} : ∀ {ns : List Str} {vs : List V}, m ∉ ns → (ns.zip vs).lookup m = none
  | [], _, _ => by simp
  | _ :: _, [], _ => by simp
  | n :: ns, v :: vs, h => by
    rw [List.zip_cons_cons]
    have h1 : ¬ m = n := fun z => h (z ▸ List.mem_cons_self ..)
    have h2 : (m == n) = false := by simpa using h1
    simp only [List.lookup, h2]
    exact zip_no fun z => h (List.mem_cons_of_mem _ z)
theorem qe_meth {pl : Sem Bool} (ha : QE Z X E e w) (g : Met X.prog X.w X.K X.mg X.base k (Z c) m (SpD Z.g X.K P)) (hr : Room j X.A) (hk : k ≤ j) (hx : Passes (L2.CX X.prog X.w) X E) (ht : QA Z X E (e1 :: es) t)
    (hst : starEach (e1 :: es) X.env = (false, eval e1 X.env) :: starEach es X.env := by rfl) (hpl : (backTo pos (starEach es X.env)).any (·.1) = false := by rfl)
    (hev : eval (.Call (.Attribute e m apos) (e1 :: es) [] pos) X.env = (do
      let ov ← eval e X.env
      standAt apos.atName
      let (f, first) ← holding [ov] (getMethod ov m pl)
      callWith pos f first (backTo pos (starEach (e1 :: es) X.env)) (backToKw pos (keywordEach [] X.env))) := by rfl) :
    QE Z X E (.Call (.Attribute e m apos) (e1 :: es) [] pos) (wMeth c m P w t) := (pe_mt ha g hr hk hx ht hst hpl hev).wk fun σ H Q ⟨fr, ow, env, Qp, Ep, A, hw, post⟩ =>
  ⟨fr, ow, env, _, Ep, A, hw, fun d v H1 n1 r1 q1 => by
    cases d <;> try exact (show False from q1).elim
    obtain ⟨rfl, hm, q1⟩ := q1
    obtain ⟨a, dx, vs, rfl, ha⟩ := r1.insAt A.z
    exact ⟨a, dx, _, rfl, ha, zip_no hm, ⟨fr, ow, env, _, Ep, A.mv n1, q1, fun ds us H2 n2 r2 q2 => spd_of A (n1.trans n2) (.cons (r1.lat (Nz.lat n2 MM.d0)) r2) q2 post⟩⟩⟩
theorem qe_cmeth {pl : Sem Bool} (ha : QE Z X E e w) (g : Cmt X.prog X.w X.K X.mg X.base k (Z c) m (SpD Z.g X.K P)) (hr : Room j X.A) (hk : k ≤ j) (hx : Passes (L2.CX X.prog X.w) X E) (ht : QA Z X E (e1 :: es) t)
    (hst : starEach (e1 :: es) X.env = (false, eval e1 X.env) :: starEach es X.env := by rfl) (hpl : (backTo pos (starEach es X.env)).any (·.1) = false := by rfl)
    (hev : eval (.Call (.Attribute e m apos) (e1 :: es) [] pos) X.env = (do
      let ov ← eval e X.env
      standAt apos.atName
      let (f, first) ← holding [ov] (getMethod ov m pl)
      callWith pos f first (backTo pos (starEach (e1 :: es) X.env)) (backToKw pos (keywordEach [] X.env))) := by rfl) :
    QE Z X E (.Call (.Attribute e m apos) (e1 :: es) [] pos) (wCMeth c P w t) := (pe_cmt (pl := pl) ha g hr hk hx ht hst hpl hev).wk fun σ H Q ⟨fr, ow, env, Qp, Ep, A, hw, post⟩ =>
  ⟨fr, ow, env, _, Ep, A, hw, fun d v H1 n1 r1 q1 => by
    cases d <;> try exact (show False from q1).elim
    obtain ⟨rfl, q1⟩ := q1
    obtain rfl : v = .ref (Z _) := by rw [← A.z]; cases r1; rfl
    exact ⟨rfl, ⟨fr, ow, env, _, Ep, A.mv n1, q1, fun ds us H2 n2 r2 q2 => spd_of A (n1.trans n2) (.cons (r1.lat (Nz.lat n2 MM.d0)) r2) q2 post⟩⟩⟩
end
end Oil
namespace Oil
open PySem PySem.Spec PyProof.Rows L2
section
variable {Z : ZM} {X : Cx} {E : XK} {e e1 e2 e3 : Expr} {es : List Expr} {w w1 w2 w3 : WE} {t t2 : WA} {u u1 u2 : WT} {pos p : Pos} {i : Nat} {x : Str}
def CbS (r : List V → Hp → VK → Prop) (g : CB) : Prop := ∀ (fr : Fr) (ow : Ow) (H : Hp) (vs : List V) (ds : List D) (Qp : QD) (Q : VK), (∀ p, H p = none → ¬ MM fr ow p) → RepsB fr ow H vs ds → g ds Qp →
  (∀ d v H', Same H H' → Rep fr.Z.g fr.d0 (MM fr ow) H' v d → Qp d → Q v H') → r vs H Q
theorem rd_cb {r : List V → Hp → VK → Prop} {g : CB} (s : CbS r g) : ∀ σ H Q, RdE Z X.K E (wCB g t) σ H Q → tCB r (RdAB Z X.K E t) σ H Q := fun σ H Q ⟨fr, ow, env, Qp, Ep, A, hw, post⟩ =>
  ⟨fr, ow, env, _, Ep, A, hw, fun ds vs H1 n1 r1 q1 => s fr ow H1 vs ds Qp Q (fun p hp => (A.g.mv n1).fresh hp) r1 q1 fun d v H' e r q => post d v H' (n1.trans (.of n1.dice e)) r q⟩
theorem qe_cb {id : String} {r : List V → Hp → VK → Prop} {g : CB} (hc : CallR X (.builtin id) r) (s : CbS r g) (hg : Gl X x) (hm : X.mg x = none) (hv : bootBuiltins x = some (.builtin id)) (ha : QAB Z X E (e :: es) t) (hn : x ≠ "__name__" := by decide) (hdb : (x == ("__debug__" : Str)) = false := by decide)
    (he : starEach (e :: es) X.env = (false, eval e X.env) :: starEach es X.env := by rfl) (hpl : (backTo pos (starEach es X.env)).any (·.1) = false := by rfl) : QE Z X E (.Call (.Name x p) (e :: es) [] pos) (wCB g t) := (pe_callB hc hg hm hv ha hn hdb he hpl).wk (rd_cb s)
theorem qe_cty {T : String} {r : List V → Hp → VK → Prop} {g : CB} (hc : CallR X (.type T) r) (s : CbS r g) (hg : Gl X x) (hm : X.mg x = none) (hv : bootBuiltins x = some (.type T)) (ha : QAB Z X E (e :: es) t) (hn : x ≠ "__name__" := by decide) (hdb : (x == ("__debug__" : Str)) = false := by decide)
    (he : starEach (e :: es) X.env = (false, eval e X.env) :: starEach es X.env := by rfl) (hpl : (backTo pos (starEach es X.env)).any (·.1) = false := by rfl) : QE Z X E (.Call (.Name x p) (e :: es) [] pos) (wCB g t) := (pe_callTy hc hg hm hv ha hn hdb he hpl).wk (rd_cb s)
theorem RepsB.one {fr : Fr} {ow : Ow} {H : Hp} {vs : List V} {d : D} (r : RepsB fr ow H vs [d]) : ∃ v, vs = [v] ∧ RepB fr ow H v d := by
  cases r with
  | cons r t => cases t; exact ⟨_, rfl, r⟩
theorem RepsB.two {fr : Fr} {ow : Ow} {H : Hp} {vs : List V} {d d2 : D} (r : RepsB fr ow H vs [d, d2]) : ∃ v u, vs = [v, u] ∧ RepB fr ow H v d ∧ RepB fr ow H u d2 := by
  cases r with
  | cons r t =>
    obtain ⟨u, rfl, r2⟩ := t.one
    exact ⟨_, u, rfl, r, r2⟩
theorem RepB.lst {fr : Fr} {ow : Ow} {H : Hp} {v : V} {xs : List D} (r : RepB fr ow H v (.lst xs)) : ∃ a vs, v = .ref a ∧ H a = some (.lst vs) ∧ Reps fr.Z.g fr.d0 (MM fr ow) H vs xs := by
  obtain ⟨a, vs, rfl, _, h1, h2⟩ := r.seq rfl
  rcases h1 with ⟨z, _⟩ | ⟨_, z⟩
  · exact ⟨a, vs, rfl, z, h2⟩
  · cases z
theorem RepB.tup {fr : Fr} {ow : Ow} {H : Hp} {v : V} {xs : List D} (r : RepB fr ow H v (.tup xs)) : ∃ a vs, v = .ref a ∧ H a = some (.tup vs) ∧ Reps fr.Z.g fr.d0 (MM fr ow) H vs xs := by
  obtain ⟨a, vs, rfl, _, h1, h2⟩ := r.seq rfl
  rcases h1 with ⟨_, z⟩ | ⟨z, _⟩
  · cases z
  · exact ⟨a, vs, rfl, z, h2⟩
theorem cbs_len {K : PySem.W.Frag} : CbS (cLen K) bLen := fun fr ow H vs ds Qp Q fre r h k => by
  match ds, h with
  | [.lst xs], h =>
    obtain ⟨v, rfl, rr⟩ := r.one
    obtain ⟨a, us, rfl, h1, h2⟩ := rr.lst
    exact ⟨a, us, rfl, .inl (SqL.of h1), by rw [h2.length]; exact k _ _ H (.refl H) (.int _) h⟩
  | [.tup xs], h =>
    obtain ⟨v, rfl, rr⟩ := r.one
    obtain ⟨a, us, rfl, h1, h2⟩ := rr.tup
    exact ⟨a, us, rfl, .inr (SqT.of h1), by rw [h2.length]; exact k _ _ H (.refl H) (.int _) h⟩
theorem cbs_int : CbS cInt bInt := fun fr ow H vs ds Qp Q fre r h k => by
  match ds, h with
  | [.int i], h =>
    obtain ⟨v, rfl, rr⟩ := r.one
    exact .inl ⟨i, by rw [rr.int], k _ _ H (.refl H) (.int _) h⟩
  | [.bl b], h =>
    obtain ⟨v, rfl, rr⟩ := r.one
    refine .inr ⟨b, ?_, k _ _ H (.refl H) (.int _) h⟩
    cases (rr.rep fun _ z => by cases z)
    rfl
theorem cbs_tuple {K : PySem.W.Frag} : CbS (cTup K) bTuple := fun fr ow H vs ds Qp Q fre r h k => by
  match ds, h with
  | [.lst xs], h =>
    obtain ⟨v, rfl, rr⟩ := r.one
    obtain ⟨a, us, rfl, h1, h2⟩ := rr.lst
    exact ⟨a, us, rfl, .inl ⟨SqL.of h1, fun l hl => k _ _ _ (Same.new hl) (.fresh_tup hl (fre l hl) h2) h⟩⟩
  | [.tup xs], h =>
    obtain ⟨v, rfl, rr⟩ := r.one
    obtain ⟨a, us, rfl, h1, h2⟩ := rr.tup
    exact ⟨a, us, rfl, .inr ⟨SqT.of h1, k _ _ H (.refl H) (rr.rep fun _ z => by cases z) h⟩⟩
def cList (K : PySem.W.Frag) : List V → Hp → VK → Prop := fun xs H Q => ∃ p ys, xs = [.ref p] ∧ (SqL K H p ys ∨ SqT K H p ys) ∧ ∀ l, H l = none → Q (.ref l) (upd H l (.lst ys))
theorem seq_ofB {K : PySem.W.Frag} {fr : Fr} {ow : Ow} {H : Hp} {v : V} {d : D} {xs : List D} (r : RepB fr ow H v d) (e : d.items = some xs) : ∃ a vs, v = .ref a ∧ (SqL K H a vs ∨ SqT K H a vs) ∧ Reps fr.Z.g fr.d0 (MM fr ow) H vs xs := by
  obtain ⟨a, vs, rfl, _, h1, h2⟩ := r.seq e
  refine ⟨a, vs, rfl, ?_, h2⟩
  rcases h1 with ⟨z, _⟩ | ⟨z, _⟩
  · exact .inl (SqL.of z)
  · exact .inr (SqT.of z)
theorem qf_list (hg : Gl X x) (hm : X.mg x = none) (hv : bootBuiltins x = some (.type "list")) (ha : QAB Z X E [e] t) (hn : x ≠ "__name__" := by decide) (hdb : (x == ("__debug__" : Str)) = false := by decide)
    (he : starEach [e] X.env = (false, eval e X.env) :: starEach [] X.env := by rfl) (hpl : (backTo pos (starEach [] X.env)).any (·.1) = false := by rfl) : QF Z X E (.Call (.Name x p) [e] [] pos) (wCB bList t) :=
  (pe_callTy (r := cList X.K) call_list_of hg hm hv ha hn hdb he hpl).wk fun σ H Q ⟨fr, ow, env, Qp, Ep, A, hw, post⟩ =>
  ⟨fr, ow, env, _, Ep, A, hw, fun ds vs H1 n1 r1 q1 => by
    match ds, q1 with
    | [.lst xs], q1 =>
      obtain ⟨v, rfl, rr⟩ := r1.one
      obtain ⟨a, us, rfl, h1, h2⟩ := seq_ofB (K := X.K) rr rfl
      exact ⟨a, us, rfl, h1, fun l hl => post _ _ _ (n1.same (Same.new hl)) (.of n1 hl h2) q1⟩
    | [.tup xs], q1 =>
      obtain ⟨v, rfl, rr⟩ := r1.one
      obtain ⟨a, us, rfl, h1, h2⟩ := seq_ofB (K := X.K) rr rfl
      exact ⟨a, us, rfl, h1, fun l hl => post _ _ _ (n1.same (Same.new hl)) (.of n1 hl h2) q1⟩⟩
theorem cbs_min2 : CbS cMin2 bMin2 := fun fr ow H vs ds Qp Q fre r h k => by
  match ds, h with
  | [.int i, .int j], h =>
    obtain ⟨v, u, rfl, rr, r2⟩ := r.two
    exact ⟨i, j, by rw [rr.int, r2.int], k _ _ H (.refl H) (.int _) h⟩
theorem ints_sq {K : PySem.W.Frag} {fr : Fr} {ow : Ow} {H : Hp} {v : V} {xs : List D} {ns : List Int} (r : RepB fr ow H v (.lst xs)) (e : intsOf xs = some ns) : ∃ a, v = .ref a ∧ SqL K H a (ns.map V.int) := by
  obtain ⟨a, us, rfl, h1, h2⟩ := r.lst
  exact ⟨a, rfl, by rw [← h2.ints e]; exact SqL.of h1⟩
theorem cbs_sum {K : PySem.W.Frag} : CbS (rSum K) bSum := fun fr ow H vs ds Qp Q fre r h k => by
  match ds, h with
  | [.lst xs], h =>
    obtain ⟨ns, e, h⟩ := h
    obtain ⟨v, rfl, rr⟩ := r.one
    obtain ⟨a, rfl, h1⟩ := ints_sq (K := K) rr e
    exact ⟨a, ns, rfl, h1, k _ _ H (.refl H) (.int _) h⟩
/-- isinstance: the classes that it is asked with are plain, no built-in value is theirs -/
theorem cbs_isi {K : PySem.W.Frag} (cs : List Nat) : ∀ (fr : Fr) (ow : Ow) (H : Hp) (vs : List V) (ds : List D) (Qp : QD) (Q : VK), (∀ c ∈ cs, Oc K (fr.Z c) ∧ NotC K (fr.Z c)) → RepsB fr ow H vs ds → bIsi ds Qp → (∀ c, .cls c ∈ ds → c ∈ cs) →
    (∀ d v H', Same H H' → Rep fr.Z.g fr.d0 (MM fr ow) H' v d → Qp d → Q v H') → rIsi K vs H Q := fun fr ow H vs ds Qp Q hc r h hm k => by
  have two : ∃ x y, ds = [x, y] := by
    match ds, h with
    | [x, y], _ => exact ⟨x, y, rfl⟩
    | [], h => exact h.elim
    | [_], h => exact h.elim
    | _ :: _ :: _ :: _, h => exact h.elim
  obtain ⟨x, y, rfl⟩ := two
  obtain ⟨v, u, rfl, rr, r2⟩ := r.two
  cases y with
  | ty c =>
    obtain ⟨T, b, h1, h2, h3⟩ := h
    obtain rfl : u = .ty c := by cases (r2.rep fun _ z => by cases z); rfl
    exact r_isi (rr.kn h1) h2 (k _ _ H (.refl H) (.bl _) h3)
  | cls c =>
    obtain ⟨hO, hN⟩ := hc c (hm c (by simp))
    obtain rfl : u = .ref (fr.Z c) := by cases (r2.rep fun _ z => by cases z); rfl
    cases hx : x.kind with
    | some T =>
      have h9 : x.kind.isSome = true ∧ Qp (.bl false) := by cases x <;> first | exact h | (cases hx; done)
      exact r_isiN hN (rr.kn hx) (k _ _ H (.refl H) (.bl _) h9.2)
    | none =>
      cases x with
      | ins c' ns xs =>
        obtain ⟨h8, h9⟩ := (show c' = c ∧ Qp (.bl true) from h)
        subst h8
        obtain ⟨a, dx, ws, rfl, ha⟩ := (rr.rep fun _ z => by cases z).insAt rfl
        exact r_isiO hO ha (k _ _ H (.refl H) (.bl _) h9)
      | _ => first | (cases hx; done) | exact absurd h.1 (by simp [D.kind])
  | _ => exact (show False from h).elim
/-- isinstance(e1, e2) -/
theorem qe_isi {cs : List Nat} (hcs : ∀ c ∈ cs, Oc X.K (Z c) ∧ NotC X.K (Z c)) (hg : Gl X x) (hm : X.mg x = none) (hv : bootBuiltins x = some (.builtin "isinstance")) (ha : QAB Z X E (e :: es) t) (hn : x ≠ "__name__" := by decide) (hdb : (x == ("__debug__" : Str)) = false := by decide)
    (he : starEach (e :: es) X.env = (false, eval e X.env) :: starEach es X.env := by rfl) (hpl : (backTo pos (starEach es X.env)).any (·.1) = false := by rfl) : QE Z X E (.Call (.Name x p) (e :: es) [] pos) (wCB (bIsiC cs) t) :=
  (pe_callB call_isi hg hm hv ha hn hdb he hpl).wk fun σ H Q ⟨fr, ow, env, Qp, Ep, A, hw, post⟩ =>
  ⟨fr, ow, env, _, Ep, A, hw, fun ds vs H1 n1 r1 q1 => cbs_isi cs fr ow H1 vs ds Qp Q (by rw [A.z]; exact hcs) r1 q1.2 q1.1 fun d v H' e r q => post d v H' (n1.trans (.of n1.dice e)) r q⟩
/-- the iterator J walks xs, as long as what stands apart from M (with own: all but the dice) stays -/
def ItOk (Z : ZG) (d0 : Addr) (own : Bool) (M : Addr → Prop) (J : It) (H1 : Hp) (xs : List D) : Prop := ∀ (M2 : Addr → Prop) (H2 : Hp), Lat M H1 M2 H2 → (own = true → ∀ a o, NT o → a ≠ d0 → H1 a = some o → H2 a = some o) → (∀ p, H2 p = none → ¬ M2 p) →
  ∀ i, (xs.length ≤ i → J.stop i H2) ∧ ∀ x, xs[i]? = some x → J.go i H2 ∧ ∀ v H3, J.yld i H2 v H3 → Same H2 H3 ∧ Rep Z d0 M2 H3 v x
def RdI (Z : ZM) (K : PySem.W.Frag) (E : XK) (own : Bool) (w : WI) : TI := fun σ H R => ∃ fr ow env Qp Ep, At Z K E fr ow H σ env Ep ∧ w env Qp Ep ∧ ∀ xs J H', N0 fr.Z.g.tb fr.K fr.d0 H H' → ItOk fr.Z.g fr.d0 own (MM fr ow) J H' xs → Qp xs → R J H'
theorem _root_.L2.PI.wk {X : Cx} {tg e : Expr} {t t' : TI} (h : PI X tg e t) (k : ∀ σ H Q, t' σ H Q → t σ H Q) : PI X tg e t' := ⟨fun pins s σ H Q I q => h.run pins s σ H Q I (k σ H Q q)⟩
abbrev QI (Z : ZM) (X : Cx) (E : XK) (own : Bool) (tg e : Expr) (w : WI) : Prop := PI X tg e (RdI Z X.K E own w)
theorem itl_ok {K : PySem.W.Frag} {Z : ZG} {d0 a : Addr} {own : Bool} {M : Addr → Prop} {H : Hp} {vs : List V} {xs : List D} (h : H a = some (.lst vs)) (hm : ¬ M a ∨ (own = true ∧ a ≠ d0)) (r : Reps Z d0 M H vs xs) : ItOk Z d0 own M (Itl K a) H xs := fun M2 H2 L ho _ i => by
  have h2 : H2 a = some (.lst vs) := hm.elim (fun n => (L a _ nt_lst n h).1) fun z => ho z.1 a _ nt_lst z.2 h
  have r2 := r.lat L
  refine ⟨fun hi => ⟨vs, SqL.of h2, by rw [r.length]; exact hi⟩, fun x hx => ?_⟩
  obtain ⟨v, q1, q2⟩ := r2.get hx
  refine ⟨⟨vs, v, SqL.of h2, q1⟩, fun v' H3 y => ?_⟩
  obtain ⟨rfl, y⟩ := y
  have := y vs (SqL.of h2)
  rw [q1] at this
  cases this
  exact ⟨.refl _, q2⟩
theorem itt_ok {K : PySem.W.Frag} {Z : ZG} {d0 a : Addr} {own : Bool} {M : Addr → Prop} {H : Hp} {vs : List V} {xs : List D} (h : H a = some (.tup vs)) (hm : ¬ M a) (r : Reps Z d0 M H vs xs) : ItOk Z d0 own M (Itt K a) H xs := fun M2 H2 L ho _ i => by
  have h2 : H2 a = some (.tup vs) := (L a _ nt_tup hm h).1
  have r2 := r.lat L
  refine ⟨fun hi => ⟨vs, SqT.of h2, by rw [r.length]; exact hi⟩, fun x hx => ?_⟩
  obtain ⟨v, q1, q2⟩ := r2.get hx
  refine ⟨⟨vs, v, SqT.of h2, q1⟩, fun v' H3 y => ?_⟩
  obtain ⟨rfl, y⟩ := y
  have := y vs (SqT.of h2)
  rw [q1] at this
  cases this
  exact ⟨.refl _, q2⟩
theorem intD_get {lo : Int} {n i : Nat} {x : D} (h : (intD lo n)[i]? = some x) : i < n ∧ x = .int (lo + (i : Int)) := by
  unfold intD at h
  rw [List.getElem?_map] at h
  obtain ⟨k, h1, rfl⟩ := Option.map_eq_some_iff.mp h
  obtain ⟨h2, h3⟩ := List.getElem?_eq_some_iff.mp h1
  rw [List.length_range] at h2
  rw [List.getElem_range] at h3
  subst h3
  exact ⟨h2, rfl⟩
theorem intD_len {lo : Int} {n : Nat} : (intD lo n).length = n := by
  unfold intD
  rw [List.length_map, List.length_range]
theorem itr_ok {Z : ZG} {d0 : Addr} {own : Bool} {M : Addr → Prop} {H : Hp} {lo : Int} {n : Nat} : ItOk Z d0 own M (Itr lo n) H (intD lo n) := fun M2 H2 L ho _ i => by
  refine ⟨fun hi => by rw [intD_len] at hi; exact hi, fun x hx => ?_⟩
  obtain ⟨h1, rfl⟩ := intD_get hx
  refine ⟨h1, fun v H3 y => ?_⟩
  obtain ⟨rfl, rfl⟩ := y
  exact ⟨.refl _, .int _⟩
end
end Oil
namespace Oil
open PySem PySem.Spec PyProof.Rows L2
def gNs : List Nat → TGs
  | [] => gNil
  | i :: is => gCons (gName i) (gNs is)
def Tgt.raw (K : PySem.W.Frag) : Tgt → TG
  | .nm i => gName i
  | .tp is => gTup K is.length (gNs is)
def Tgt.slots : Tgt → List Nat
  | .nm i => [i]
  | .tp is => is
theorem wipe_set {σ : L2.St} {i : Nat} {x : Option V} : ∀ {vs : List Nat}, i ∈ vs → wipe (σ.set i x) vs = wipe σ vs
  | v :: vs, h => by
    unfold wipe
    by_cases e : i = v
    · subst e
      by_cases h2 : i ∈ vs
      · rw [wipe_set h2]
      · rw [wipe_comm h2, List.set_set]
    · rcases List.mem_cons.mp h with h | h
      · exact absurd h e
      · rw [wipe_set h]
where
  wipe_comm {σ : L2.St} {i : Nat} {x : Option V} : ∀ {vs : List Nat}, i ∉ vs → wipe (σ.set i x) vs = (wipe σ vs).set i x
  | [], _ => rfl
  | v :: vs, h => by
    unfold wipe
    rw [wipe_comm (fun z => h (List.mem_cons_of_mem _ z)), List.set_comm _ _ (fun z => h (by rw [z]; exact List.mem_cons_self ..))]
section
variable {fr : Fr} {ow : Ow} {H : Hp} {σ : L2.St} {env : Ev} {v : V} {d : D}
theorem Good.many {vs : List V} {ds : List D} : ∀ {is : List Nat} {σ : L2.St} {env : Ev} {R : L2.St → Hp → Prop}, Good fr ow H σ env → Reps fr.Z.g fr.d0 (MM fr ow) H vs ds → ds.length = is.length →
    (∀ σ', Good fr ow H σ' (setMany env is ds) → (∀ ws, (∀ i ∈ is, i ∈ ws) → wipe σ' ws = wipe σ ws) → R σ' H) → gNs is vs σ H R := by
  intro is
  induction is generalizing vs ds with
  | nil =>
    intro σ env R G r hl k
    cases r with
    | nil => exact ⟨rfl, k σ G fun _ _ => rfl⟩
    | cons _ _ => simp at hl
  | cons i is ih =>
    intro σ env R G r hl k
    cases r with
    | nil => simp at hl
    | cons r t =>
      refine ⟨_, _, rfl, ih (G.set i r) t (by simpa using hl) fun σ' G' e => k σ' G' fun ws hw => ?_⟩
      rw [e ws fun j hj => hw j (List.mem_cons_of_mem _ hj), wipe_set (hw i (List.mem_cons_self ..))]
theorem Tgt.ok {g : Tgt} {K' : Ev → Prop} {R : L2.St → Hp → Prop} {K : PySem.W.Frag} (G : Good fr ow H σ env) (r : Rep fr.Z.g fr.d0 (MM fr ow) H v d) (h : g.put env d K')
    (k : ∀ σ' env', Good fr ow H σ' env' → (∀ ws, (∀ i ∈ g.slots, i ∈ ws) → wipe σ' ws = wipe σ ws) → K' env' → R σ' H) : g.raw K v σ H R := by
  cases g with
  | nm i => exact k _ _ (G.set i r) (fun ws hw => wipe_set (hw i (List.mem_cons_self ..))) h
  | tp is =>
    cases d <;> try exact (show False from h).elim
    obtain ⟨h1, h2⟩ := h
    cases r with
    | tup e1 e2 e3 =>
      exact ⟨_, _, rfl, SqT.of e1, by rw [e3.length]; exact h1, Good.many G e3 h1 fun σ' G' e => k σ' _ G' e h2⟩
theorem Good.wipe (G : Good fr ow H σ env) : ∀ vs : List Nat, Good fr ow H (wipe σ vs) (wipeE env vs)
  | [] => G
  | v :: vs => (Good.wipe G vs).un v none
/-- one more cell apart -/
def Fr.plus (fr : Fr) (D : Addr) : Fr := { fr with av := fun a => fr.av a ∨ a = D }
theorem MM.plus {D a : Addr} : MM (fr.plus D) ow a ↔ MM fr ow a ∨ a = D := by
  constructor
  · rintro (h | h | (h | h) | h)
    · exact .inl (.inl h)
    · exact .inl (.inr (.inl h))
    · exact .inl (.inr (.inr (.inl h)))
    · exact .inr h
    · exact .inl (.inr (.inr (.inr h)))
  · rintro ((h | h | h | h) | h)
    · exact .inl h
    · exact .inr (.inl h)
    · exact .inr (.inr (.inl (.inl h)))
    · exact .inr (.inr (.inr h))
    · exact .inr (.inr (.inl (.inr h)))
/-- a cell that has come, apart -/
theorem Good.plusN {D : Addr} {H1 : Hp} (Gs : Good fr ow H σ env) (n : N0 fr.Z.g.tb fr.K fr.d0 H H1) (hD : H D = none) (h1 : Has H1 D) : Good (fr.plus D) ow H1 σ env := by
  have G := Gs.mv n
  have L : Lat (MM fr ow) H (MM (fr.plus D) ow) H1 := fun a o' t nb e => ⟨n.keep a o' (fun z => nb (by rw [z]; exact MM.d0)) id t e, fun z => (MM.plus.mp z).elim nb (ne_of_none e hD)⟩
  refine ⟨G.nx, G.d00, G.t0, fun a h => ?_, G.m0x, G.ss, G.owf, G.inj, fun i a h z => ?_, fun a o' h => ⟨(G.gh a o' h).1, (G.gh a o' h).2.1, fun z => ?_⟩, G.len, G.lb, fun i s e => ?_⟩
  · rcases MM.plus.mp h with h | h
    · exact G.mex a h
    · rw [h]; exact h1
  · rcases z with z | z
    · exact G.avo i a h z
    · exact (Gs.mex a (.inr (.inr (.inr ⟨i, h⟩)))).nn (by rw [z]; exact hD)
  · rcases MM.plus.mp z with z | z
    · exact (G.gh a o' h).2.2 z
    · have := (Gs.gh a o' h).2.1
      rw [z, hD] at this
      cases this
  · exact (Gs.sl i s e).mvF (fr := fr) (fr' := fr.plus D) rfl rfl rfl L (fun a o h e => ⟨N0.at_own Gs n h e, h⟩) (fun k a o h e => ⟨N0.at_own Gs n h e, h⟩)
/-- a new cell, apart -/
theorem Good.plus {D : Addr} {o : HO} (G : Good fr ow H σ env) (hD : H D = none) (ho : NX o) : Good (fr.plus D) ow (upd H D o) σ env :=
  G.plusN (.of G.dice (Same.new hD)) hD ⟨_, upd_same, ho⟩
/-- a cell that is apart may be written -/
theorem Good.wrA {D : Addr} {o o0 : HO} {H1 : Hp} (G : Good fr ow H σ env) (x : N0 fr.Z.g.tb fr.K fr.d0 H1 H) (hD : H1 D = none) (x0 : Nz fr.Z.g.tb fr.K fr.d0 fr.S fr.H0 H1) (hv : fr.av D) (e0 : H D = some o0) (n0 : NX o0) (n1 : NX o) : Good fr ow (upd H D o) σ env := by
  have L : Lat (MM fr ow) H (MM fr ow) (upd H D o) := fun a o' _ n e => ⟨by rw [upd_ne (fun z => n (by rw [z]; exact .inr (.inr (.inl hv))))]; exact e, n⟩
  have h0 : fr.H0 D = none := by
    cases z : fr.H0 D with
    | none => rfl
    | some o' => exact absurd hD (x0.ex _ (by rw [z]; exact fun y => by cases y))
  have nD : D ≠ fr.d0 := fun z => by rw [z] at h0; exact G.d00.nn h0
  refine ⟨G.nx.write G.d00 (.new h0) nD ⟨o0, e0, n0⟩ n1 (.inl h0), G.d00, G.t0, fun a h => ?_, G.m0x, G.ss, G.owf, G.inj, G.avo, fun a o' h => ⟨(G.gh a o' h).1, (L a o' (G.gh a o' h).1 (G.gh a o' h).2.2 (G.gh a o' h).2.1).1, (G.gh a o' h).2.2⟩, G.len, G.lb, fun i s e => ?_⟩
  · by_cases hb : a = D
    · rw [hb]
      exact ⟨_, upd_same, n1⟩
    · obtain ⟨o, q, n⟩ := G.mex a h
      exact ⟨o, by rw [upd_ne hb]; exact q, n⟩
  · exact (G.sl i s e).mv L (fun a o h e => ⟨by rw [upd_ne (fun z => G.avo i a h (by rw [z]; exact hv))]; exact e, h⟩) (fun k a o h e => ⟨by rw [upd_ne (fun z => G.avo _ a h (by rw [z]; exact hv))]; exact e, h⟩) (fun _ => .inr trivial)
end
section
variable {Z : ZM} {X : Cx} {E : XK} {e e1 e2 e3 : Expr} {es : List Expr} {w w1 w2 w3 : WE} {t t2 : WA} {u u1 u2 : WT} {pos p : Pos} {i : Nat} {x : Str}
theorem _root_.L2.PTs.wk {X : Cx} {ifs : List Expr} {t t' : TT} (h : PTs X ifs t) (k : ∀ σ H Q, t' σ H Q → t σ H Q) : PTs X ifs t' := ⟨fun pins s σ H Q I q => h.run pins s σ H Q I (k σ H Q q)⟩
theorem qts_nil : PTs X [] (RdT Z X.K E wYes) := pts_nil.wk fun σ H Q ⟨fr, ow, env, Qp, Ep, A, hw, post⟩ => post _ H (.refl A.g.dice) hw
/-- a comprehension's reading by data -/
theorem lc_rd {own : List (Str × Nat)} {wi : WI} {g : Tgt} (hs : ∀ i ∈ g.slots, i ∈ own.map (·.2)) : ∀ σ H Q, RdF Z X.K E (wLc wi g u w (own.map (·.2))) σ H Q → tLc (RdI Z X.K E true wi) (g.raw X.K) (RdT Z X.K E0 u) (RdE Z X.K E0 w) (own.map (·.2)) σ H Q := fun σ H Q ⟨fr, ow, env, Qp, Ep, A, hw, post⟩ =>
  ⟨fr, ow, env, _, Ep, A, hw, fun xs J H1 n1 io ⟨hl, q1⟩ D nD => by
    have G1 := A.g.mv n1
    have nMD : ¬ MM fr ow D := G1.fresh nD
    have Dd : D ≠ fr.d0 := fun z => nMD (z ▸ MM.d0)
    have Gp : Good (fr.plus D) ow (upd H1 D (.lst [])) σ env := G1.plus nD nx_lst
    refine ⟨fun i m G => m = xs.length - i ∧ i ≤ xs.length ∧ ∃ acc ds, G D = some (.lst acc) ∧ acc.length ≤ i ∧ Reps fr.Z.g fr.d0 (MM (fr.plus D) ow) G acc ds ∧ N0 fr.Z.g.tb fr.K fr.d0 H1 G ∧ Good (fr.plus D) ow G σ env ∧ wLcGo g u w (wipeE env (own.map (·.2))) (xs.drop i) ds fun ds => Qp (.lst ds), ⟨_, rfl, Nat.zero_le _, [], [], upd_same, Nat.le_refl _, .nil, .of G1.dice (Same.new nD), Gp, q1⟩, ?_⟩
    rintro i m G ⟨rfl, hi, acc, ds, hD, hacc, hR, nG, GG, q⟩
    have L : Lat (MM fr ow) H1 (MM (fr.plus D) ow) G := fun a o t n e => by
      have aD : a ≠ D := ne_of_none e nD
      exact ⟨nG.keep a o (fun z => n (z ▸ MM.d0)) id t e, fun z => (MM.plus.mp z).elim n aD⟩
    have ioi := io (MM (fr.plus D) ow) G L (fun _ a o t na e => nG.keep a o na id t e) (fun p hp => GG.fresh hp) i
    by_cases hi2 : i = xs.length
    · refine .inl ⟨ioi.1 (by omega), ?_⟩
      rw [hi2, List.drop_length] at q
      exact post _ _ G (n1.trans nG) ⟨D, acc, rfl, by
        cases z : H D with
        | none => rfl
        | some o => exact absurd nD (n1.ex _ (by rw [z]; exact fun y => by cases y)), hD, hR.lat (.sub fun a z => MM.plus.mpr z)⟩ q
    · have lt : i < xs.length := by omega
      have hx : xs[i]? = some xs[i] := List.getElem?_eq_getElem lt
      obtain ⟨go, yl⟩ := ioi.2 _ hx
      refine .inr ⟨go, fun G' => i + 1 ≤ xs.length ∧ ∃ acc ds, G' D = some (.lst acc) ∧ acc.length ≤ i + 1 ∧ Reps fr.Z.g fr.d0 (MM (fr.plus D) ow) G' acc ds ∧ N0 fr.Z.g.tb fr.K fr.d0 H1 G' ∧ Good (fr.plus D) ow G' σ env ∧ wLcGo g u w (wipeE env (own.map (·.2))) (xs.drop (i + 1)) ds fun ds => Qp (.lst ds), fun H2 z => ⟨xs.length - (i + 1), by omega, rfl, z⟩, fun v H2 y => ?_⟩
      obtain ⟨sm, rv⟩ := yl v H2 y
      have x2 : N0 fr.Z.g.tb fr.K fr.d0 G H2 := .of nG.dice sm
      have G2 : Good (fr.plus D) ow H2 σ env := GG.mv x2
      have G2w := G2.wipe (own.map (·.2))
      rw [List.drop_eq_getElem_cons lt] at q
      have q : g.put (wipeE env (own.map (·.2))) xs[i] _ := q
      refine Tgt.ok (K := X.K) G2w (by exact rv) q fun σ' env' G3 hw3 q3 => ⟨?_, ?_⟩
      · rw [hw3 _ hs]
        exact wipe_idem _ _
      · have A3 : At Z X.K E0 (fr.plus D) ow H2 σ' env' (fun _ => False) := ⟨A.z, A.k, G3, fun _ _ _ _ _ _ z => z.elim⟩
        refine ⟨fr.plus D, ow, env', _, _, A3, q3, fun b H3 n3 q4 => ?_⟩
        have hD3 : ∀ {H4 : Hp}, N0 fr.Z.g.tb fr.K fr.d0 H2 H4 → H4 D = some (.lst acc) := fun n4 => n4.keep D _ Dd id nt_lst (x2.keep D _ Dd id nt_lst hD)
        have G3' := G2.mv n3
        cases b with
        | false =>
          show (if false = true then _ else _)
          have q4 := (show (if false = true then _ else _) from q4)
          rw [if_neg Bool.false_ne_true] at q4 ⊢
          exact ⟨lt, acc, ds, hD3 n3, Nat.le_succ_of_le hacc, hR.lat ((GG.lat x2).trans (G2.lat n3)), nG.trans (x2.trans n3), G3', q4⟩
        | true =>
          show (if true = true then _ else _)
          have q4 := (show (if true = true then _ else _) from q4)
          rw [if_pos rfl] at q4 ⊢
          refine ⟨fr.plus D, ow, env', _, _, A3.mv n3, q4, fun d y H4 n4 r4 q5 => ?_⟩
          have n5 := n3.trans n4
          have G4 := G2.mv n5
          have n14 : N0 fr.Z.g.tb fr.K fr.d0 H1 H4 := nG.trans (x2.trans n5)
          have Dav : (fr.plus D).av D := .inr rfl
          have Lw : Lat (MM (fr.plus D) ow) H4 (MM (fr.plus D) ow) (upd H4 D (.lst (acc ++ [y]))) := fun a o _ n e => ⟨by rw [upd_ne (fun z => n (by rw [z]; exact .inr (.inr (.inl Dav))))]; exact e, n⟩
          refine ⟨acc, hD3 n5, ?_, lt, acc ++ [y], ds ++ [d], upd_same, by rw [List.length_append]; show acc.length + 1 ≤ i + 1; omega, ?_, n14.write G1.dice (.new nD) Dd ⟨_, hD3 n5, nx_lst⟩ nx_lst (.inl nD), ?_, q5⟩
          · rw [sizeLine_eq]
            unfold LIM at hl
            omega
          · exact ((hR.lat ((GG.lat x2).trans (G2.lat n5))).app (.cons r4 .nil)).lat Lw
          · exact G4.wrA (H1 := H1) n14 nD G1.nx Dav (hD3 n5) nx_lst nx_lst⟩
where
  wipe_idem (σ : L2.St) (vs : List Nat) : wipe (wipe σ vs) vs = wipe σ vs := by
    have key : ∀ us : List Nat, (∀ i ∈ us, i ∈ vs) → wipe (wipe σ us) vs = wipe σ vs := fun us => by
      induction us with
      | nil => intro _; rfl
      | cons i us ih =>
        intro h
        show wipe ((wipe σ us).set i none) vs = _
        rw [wipe_set (h i (List.mem_cons_self ..)), ih fun j hj => h j (List.mem_cons_of_mem _ hj)]
    exact key vs fun _ h => h
/-- [elt for tg in iter if ..] is a new list -/
theorem qf_lc {tg iter elt : Expr} {ifs : List Expr} {sc : Scope} {own : List (Str × Nat)} {wi : WI} (g : Tgt) (hc : X.calm = true) (hN : X.N.Nodup) (hi : QI Z X E true tg iter wi) (ok : BlkOk X.N X.env.scope sc own)
    (hg : ∀ (s : Shared) (H : Hp) (C : Addr) (cl : List (Str × Addr)) (fp : List Addr), PG (X.blk s H sc (compEnvC sc cl C X.env) fp) tg (g.raw X.K))
    (ht : ∀ (s : Shared) (H : Hp) (C : Addr) (cl : List (Str × Addr)) (fp : List Addr), PTs (X.blk s H sc (compEnvC sc cl C X.env) fp) ifs (RdT Z X.K E0 u))
    (he : ∀ (s : Shared) (H : Hp) (C : Addr) (cl : List (Str × Addr)) (fp : List Addr), PE (X.blk s H sc (compEnvC sc cl C X.env) fp) elt (RdE Z X.K E0 w))
    (hs : ∀ i ∈ g.slots, i ∈ own.map (·.2)) (hf : ∀ x, foldedSetIterable iter X.env x = pure x := by intro _; rfl) :
    QF Z X E (.ListComp elt [⟨tg, iter, ifs, 0⟩] sc pos) (wLc wi g u w (own.map (·.2))) :=
  (pe_lc (own := own) (g := g.raw X.K) (tt := RdT Z X.K E0 u) hc hN hi ok hg ht he hf).wk (lc_rd hs)
end
end Oil
namespace Oil
open PySem PySem.Spec PyProof.Rows L2
structure Post (fr : Fr) (Kn : KN) (D : Ends) (E : XK) : Prop where
  nx : ∀ ow' env' σ' H', Good fr ow' H' σ' env' → Kn.nx env' → D.nx σ' H'
  rt : ∀ d v ow' env' σ' H', Good fr ow' H' σ' env' → Rep fr.Z.g fr.d0 (MM fr ow') H' v d → Kn.rt d env' → D.rt v H'
  bk : ∀ ow' env' σ' H', Good fr ow' H' σ' env' → Kn.bk env' → D.bk σ' H'
  ct : ∀ ow' env' σ' H', Good fr ow' H' σ' env' → Kn.ct env' → D.ct σ' H'
  er : ∀ er cls dd ow' env' σ' H', Good fr ow' H' σ' env' → RepE fr.Z.g fr.d0 (MM fr ow') H' er cls dd → Kn.er er env' → E cls dd H'
def RdS (Z : ZM) (K : PySem.W.Frag) (E : XK) (w : WS) : TS := fun D σ H => ∃ fr ow env Kn, At Z K E fr ow H σ env (fun x => Kn.er x env) ∧ w env Kn ∧ Post fr Kn D E
abbrev QS (Z : ZM) (X : Cx) (E : XK) (s : Stmt) (w : WS) : Prop := PS X s (RdS Z X.K E w)
abbrev QSs (Z : ZM) (X : Cx) (E : XK) (s : List Stmt) (w : WS) : Prop := PSs X s (RdS Z X.K E w)
theorem _root_.L2.PS.wk {X : Cx} {s : Stmt} {t t' : TS} (h : PS X s t) (k : ∀ D σ H, t' D σ H → t D σ H) : PS X s t' := ⟨fun pins sh σ H D I q => h.run pins sh σ H D I (k D σ H q)⟩
theorem _root_.L2.PSs.wk {X : Cx} {s : List Stmt} {t t' : TS} (h : PSs X s t) (k : ∀ D σ H, t' D σ H → t D σ H) : PSs X s t' := ⟨fun pins sh σ H D I q => h.run pins sh σ H D I (k D σ H q)⟩
section
variable {Z : ZM} {X : Cx} {E : XK} {e e1 e2 e3 : Expr} {es : List Expr} {w w1 w2 w3 : WE} {t t2 : WA} {u u1 u2 : WT} {pos p : Pos} {i : Nat} {x : Str} {s : Stmt} {ss ss2 : List Stmt} {a b : WS}
theorem At.go {K : PySem.W.Frag} {fr : Fr} {ow ow' : Ow} {H H' : Hp} {σ σ' : L2.St} {env env' : Ev} {Ep : QR} {Kn : KN} {D : Ends} (A : At Z K E fr ow H σ env Ep) (P : Post fr Kn D E) (G : Good fr ow' H' σ' env') : At Z K E fr ow' H' σ' env' (fun x => Kn.er x env') := ⟨A.z, A.k, G, fun er cls dd H' n r q => P.er er cls dd _ _ _ H' (G.mv n) r q⟩
theorem qss_nil : QSs Z X E [] wSkip := pss_nil.wk fun D σ H ⟨fr, ow, env, Kn, A, hw, P⟩ => P.nx _ _ _ _ A.g hw
theorem qss_cons (h : QS Z X E s a) (hr : QSs Z X E ss b) : QSs Z X E (s :: ss) (wSeq a b) := (pss_cons h hr).wk fun D σ H ⟨fr, ow, env, Kn, A, hw, P⟩ =>
  ⟨fr, ow, env, ⟨fun env' => b env' Kn, Kn.rt, Kn.bk, Kn.ct, Kn.er⟩, A, hw, fun ow' env' σ' H' G q => ⟨fr, ow', env', Kn, A.go P G, q, P⟩, P.rt, P.bk, P.ct, P.er⟩
theorem qss_one (h : QS Z X E s a) : QSs Z X E [s] a := pss_one h
theorem qs_expr (h : QE Z X E e w) (hs : swapsWith e none pos.line X.env = pure false := by rfl) : QS Z X E (.Expr e pos) (wExpr w) := (ps_expr h hs).wk fun D σ H ⟨fr, ow, env, Kn, A, hw, P⟩ =>
  ⟨fr, ow, env, _, _, A, hw, fun d v H' n r q => P.nx _ _ _ _ (A.g.mv n) q⟩
theorem Rep.m1 {fr : Fr} {ow : Ow} {H : Hp} {v : V} {d : D} (r : Rep fr.Z.g fr.d0 (MM fr ow) H v d) : Rep fr.Z.g fr.d0 (M1 fr) H v d := r.lat (.sub fun a z => z.elim .inl fun z => .inr (.inl z))
theorem qs_ret (h : QE Z X E e w) : QS Z X E (.Return (some e) pos) (wRet w) := (ps_ret h).wk fun D σ H ⟨fr, ow, env, Kn, A, hw, P⟩ =>
  ⟨fr, ow, env, _, _, A, hw, fun d v H' n r q => P.rt d v _ _ _ H' (A.g.mv n) r q⟩
theorem qs_if (hc : QT Z X E e u) (ha : QSs Z X E ss a) (hb : QSs Z X E ss2 b) : QS Z X E (.If e ss ss2 pos) (wIfS u a b) := (ps_if hc ha hb).wk fun D σ H ⟨fr, ow, env, Kn, A, hw, P⟩ =>
  ⟨fr, ow, env, _, _, A, hw, fun c H' n q => by
    cases c with
    | true => exact ⟨fr, ow, env, Kn, A.mv n, q, P⟩
    | false => exact ⟨fr, ow, env, Kn, A.mv n, q, P⟩⟩
theorem qs_set {pos' : Pos} (i : Nat) (hN : X.N.Nodup) (hi : X.N[i]? = some x) (hx : Loc X.env.scope x) (he : QE Z X E e w) (hs : swapsWith e (some (.Name x pos')) pos.line X.env = pure false := by rfl) (hf : X.fn x = true ∨ X.env.scope.names.lookup x = some .local := by first | exact .inl rfl | exact .inr rfl | assumption) :
    QS Z X E (.Assign [.Name x pos'] e pos) (wSet i w) := (ps_set (i := i) hN hi hx he hs hf).wk fun D σ H ⟨fr, ow, env, Kn, A, hw, P⟩ =>
  ⟨fr, ow, env, _, _, A, hw, fun d v H' n r q => P.nx _ _ _ _ ((A.g.mv n).set i r) q⟩
theorem qs_setO {pos' : Pos} (i : Nat) (hN : X.N.Nodup) (hi : X.N[i]? = some x) (hx : Loc X.env.scope x) (he : QF Z X E e w) (hs : swapsWith e (some (.Name x pos')) pos.line X.env = pure false := by rfl) (hf : X.fn x = true ∨ X.env.scope.names.lookup x = some .local := by first | exact .inl rfl | exact .inr rfl | assumption) (hb : i < CBASE := by decide) :
    QS Z X E (.Assign [.Name x pos'] e pos) (wSetO i w) := (ps_set (i := i) hN hi hx he hs hf).wk fun D σ H ⟨fr, ow, env, Kn, A, hw, P⟩ =>
  ⟨fr, ow, env, _, _, A, hw, fun xs v H' n ⟨a, vs, e1, e2, e3, e4⟩ q => by
    subst e1
    exact P.nx _ _ _ _ (A.g.setO n i hb e2 e3 e4) q⟩
theorem qs_unp {tg : Expr} (g : Tgt) (he : QE Z X E e w) (hg : PG X tg (g.raw X.K)) (hs : swapsWithSole [tg] e pos.line X.env = pure false := by rfl) (hw : swappedStores [tg] e X.env = pure none := by rfl) (hz : (assignEach [tg] X.env).map (·.2) = [assign tg X.env] := by rfl) : QS Z X E (.Assign [tg] e pos) (wUnp g w) :=
  (ps_asg he hg hs hw hz).wk fun D σ H ⟨fr, ow, env, Kn, A, hw, P⟩ =>
  ⟨fr, ow, env, _, _, A, hw, fun d v H' n r q => Tgt.ok (A.g.mv n) r q fun σ' env' G _ k => P.nx _ _ _ _ G k⟩
theorem qs_setLc {tg iter elt : Expr} {ifs : List Expr} {sc : Scope} {own : List (Str × Nat)} {wi : WI} {py spos : Pos} {y : Str} (i : Nat) (g : Tgt) (hc : X.calm = true) (hN : X.N.Nodup) (hy : X.N[i]? = some y) (hyl : X.env.scope.names.lookup y = some .local)
    (hsw : swapsWith (.ListComp elt [⟨tg, iter, ifs, 0⟩] sc pos) (some (.Name y py)) spos.line X.env = pure true) (hi : QI Z X E true tg iter wi) (ok : BlkOk X.N X.env.scope sc own)
    (hg : ∀ (s : Shared) (H : Hp) (C : Addr) (cl : List (Str × Addr)) (fp : List Addr), PG (X.blk s H sc (compEnvC sc cl C X.env) fp) tg (g.raw X.K))
    (ht : ∀ (s : Shared) (H : Hp) (C : Addr) (cl : List (Str × Addr)) (fp : List Addr), PTs (X.blk s H sc (compEnvC sc cl C X.env) fp) ifs (RdT Z X.K E0 u))
    (he : ∀ (s : Shared) (H : Hp) (C : Addr) (cl : List (Str × Addr)) (fp : List Addr), PE (X.blk s H sc (compEnvC sc cl C X.env) fp) elt (RdE Z X.K E0 w))
    (hs : ∀ i ∈ g.slots, i ∈ own.map (·.2)) (hf : ∀ x, foldedSetIterable iter X.env x = pure x := by intro _; rfl) :
    QS Z X E (.Assign [.Name y py] (.ListComp elt [⟨tg, iter, ifs, 0⟩] sc pos) spos) (wSet i (wLc wi g u w (own.map (·.2)))) :=
  (ps_setLc (i := i) (g := g.raw X.K) (tt := RdT Z X.K E0 u) hc hN hy hyl hsw hi ok hg ht he hf).wk fun D σ H ⟨fr, ow, env, Kn, A, hw, P⟩ =>
  lc_rd hs σ H _ ⟨fr, ow, env, _, _, A, hw, fun xs v H' n r q => P.nx _ _ _ _ ((A.g.mv n).set i (r.rep A.g)) q⟩
theorem qs_setLcO {tg iter elt : Expr} {ifs : List Expr} {sc : Scope} {own : List (Str × Nat)} {wi : WI} {py spos : Pos} {y : Str} (i : Nat) (g : Tgt) (hc : X.calm = true) (hN : X.N.Nodup) (hy : X.N[i]? = some y) (hyl : X.env.scope.names.lookup y = some .local)
    (hsw : swapsWith (.ListComp elt [⟨tg, iter, ifs, 0⟩] sc pos) (some (.Name y py)) spos.line X.env = pure true) (hi : QI Z X E true tg iter wi) (ok : BlkOk X.N X.env.scope sc own)
    (hg : ∀ (s : Shared) (H : Hp) (C : Addr) (cl : List (Str × Addr)) (fp : List Addr), PG (X.blk s H sc (compEnvC sc cl C X.env) fp) tg (g.raw X.K))
    (ht : ∀ (s : Shared) (H : Hp) (C : Addr) (cl : List (Str × Addr)) (fp : List Addr), PTs (X.blk s H sc (compEnvC sc cl C X.env) fp) ifs (RdT Z X.K E0 u))
    (he : ∀ (s : Shared) (H : Hp) (C : Addr) (cl : List (Str × Addr)) (fp : List Addr), PE (X.blk s H sc (compEnvC sc cl C X.env) fp) elt (RdE Z X.K E0 w))
    (hs : ∀ i ∈ g.slots, i ∈ own.map (·.2)) (hf : ∀ x, foldedSetIterable iter X.env x = pure x := by intro _; rfl) (hb : i < CBASE := by decide) :
    QS Z X E (.Assign [.Name y py] (.ListComp elt [⟨tg, iter, ifs, 0⟩] sc pos) spos) (wSetO i (wLc wi g u w (own.map (·.2)))) :=
  (ps_setLc (i := i) (g := g.raw X.K) (tt := RdT Z X.K E0 u) hc hN hy hyl hsw hi ok hg ht he hf).wk fun D σ H ⟨fr, ow, env, Kn, A, hw, P⟩ =>
  lc_rd hs σ H _ ⟨fr, ow, env, _, _, A, hw, fun xs v H' n ⟨a, vs, e1, e2, e3, e4⟩ q => by
    subst e1
    exact P.nx _ _ _ _ (A.g.setO n i hb e2 e3 e4) q⟩
def setS : L2.St → List Nat → List V → L2.St
  | σ, i :: is, v :: vs => setS (σ.set i (some v)) is vs
  | σ, _, _ => σ
/-- the frame as the elements see it, and as it will be -/
structure Par (fr frp : Fr) (ow owL : Ow) (H : Hp) (σ σL : L2.St) (env envL : Ev) : Prop where
  a : Good frp ow H σ env
  b : Good fr owL H σL envL
  sub : ∀ x, MM fr owL x → MM frp ow x
  z : frp.Z = fr.Z
  k : frp.K = fr.K
  d : frp.d0 = fr.d0
  h : frp.H0 = fr.H0
  m : frp.M0 = fr.M0
def RdP (Z : ZM) (K : PySem.W.Frag) (E : XK) (is : List Nat) (wp : WP) : TA := fun σ H Q => ∃ fr frp ow owL σL env envL Kq Ep, Par fr frp ow owL H σ σL env envL ∧ At Z K E frp ow H σ env Ep ∧ wp env envL Kq Ep ∧
  ∀ owL' envL' vs H', vs.length = is.length → Good fr owL' H' (setS σL is vs) envL' → Kq envL' → Q vs H'
theorem par_nil : PA X [] (RdP Z X.K E [] wpNil) := pa_nil.wk fun σ H Q ⟨fr, frp, ow, owL, σL, env, envL, Kq, Ep, P, A, hw, post⟩ => post owL envL [] H rfl P.b hw
theorem par_val {is : List Nat} {r : WP} (i : Nat) (he : QE Z X E e w) (hr : PA X es (RdP Z X.K E is r)) (hs : starEach (e :: es) X.env = (false, eval e X.env) :: starEach es X.env := by rfl) : PA X (e :: es) (RdP Z X.K E (i :: is) (wpVal i w r)) :=
  (pa_cons he hr hs).wk fun σ H Q ⟨fr, frp, ow, owL, σL, env, envL, Kq, Ep, P, A, hw, post⟩ =>
  ⟨frp, ow, env, _, Ep, A, hw, fun d v H1 n1 r1 q1 => by
    have n1' : N0 fr.Z.g.tb fr.K fr.d0 H H1 := by rw [← P.z, ← P.k, ← P.d]; exact n1
    have rL : Rep fr.Z.g fr.d0 (MM fr owL) H1 v d := by rw [← P.z, ← P.d]; exact r1.lat (.sub P.sub)
    exact ⟨fr, frp, ow, owL, σL.set i (some v), env, envL.set i (.val d), Kq, Ep, ⟨P.a.mv n1, (P.b.mv n1').set i rL, P.sub, P.z, P.k, P.d, P.h, P.m⟩, A.mv n1, q1, fun owL' envL' vs H' hl G' q => post owL' envL' (v :: vs) H' (by simp [hl]) G' q⟩⟩
theorem par_own {is : List Nat} {r : WP} (i : Nat) (he : QF Z X E e w) (hr : PA X es (RdP Z X.K E is r)) (hs : starEach (e :: es) X.env = (false, eval e X.env) :: starEach es X.env := by rfl) (hb : i < CBASE := by decide) : PA X (e :: es) (RdP Z X.K E (i :: is) (wpOwn i w r)) :=
  (pa_cons he hr hs).wk fun σ H Q ⟨fr, frp, ow, owL, σL, env, envL, Kq, Ep, P, A, hw, post⟩ =>
  ⟨frp, ow, env, _, Ep, A, hw, fun xs v H1 n1 ⟨a, us, ev, ha, h1, r1⟩ q1 => by
    subst ev
    have n1' : N0 fr.Z.g.tb fr.K fr.d0 H H1 := by rw [← P.z, ← P.k, ← P.d]; exact n1
    have rL : Reps fr.Z.g fr.d0 (fun b => MM fr owL b ∨ b = a) H1 us xs := by
      rw [← P.z, ← P.d]
      exact r1.lat (.sub fun b z => z.imp (P.sub b) id)
    have hne : Has H1 a := ⟨_, h1, nx_lst⟩
    have GA := P.a.plusN n1 ha hne
    refine ⟨fr, frp.plus a, ow, _, σL.set i (some (.ref a)), env, envL.set i (.own xs), Kq, Ep, ⟨GA, P.b.setO n1' i hb ha h1 rL, fun b z => MM.plus.mpr ?_, P.z, P.k, P.d, P.h, P.m⟩, ⟨A.z, A.k, GA, fun er cls dd H' n r q => A.er er cls dd H' (n1.trans n) (r.lat (.sub fun b z => MM.plus.mpr (.inl z))) q⟩, q1, fun owL' envL' vs H' hl G' q => post owL' envL' (V.ref a :: vs) H' (by simp [hl]) G' q⟩
    rcases z with z | z | z | ⟨j, z⟩
    · exact .inl (P.sub b (.inl z))
    · exact .inl (P.sub b (.inr (.inl z)))
    · exact .inl (P.sub b (.inr (.inr (.inl z))))
    · dsimp only at z
      split at z
      · exact .inr (Option.some.inj z).symm
      · exact .inl (P.sub b (.inr (.inr (.inr ⟨j, z⟩))))⟩
theorem par_go {is : List Nat} {r : WP} {D : Ends} {σ : L2.St} {H : Hp} {Q : List V → Hp → Prop} (h : RdS Z X.K E (wParN r) D σ H) (k : ∀ vs H', vs.length = is.length → D.nx (setS σ is vs) H' → Q vs H') : RdP Z X.K E is r σ H Q := by
  obtain ⟨fr, ow, env, Kn, A, hw, P⟩ := h
  exact ⟨fr, fr, ow, ow, σ, env, env, Kn.nx, _, ⟨A.g, A.g, fun _ z => z, rfl, rfl, rfl, rfl, rfl⟩, A, hw, fun owL' envL' vs H' hl G q => k vs H' hl (P.nx _ _ _ _ G q)⟩
theorem qs_par2 {i j : Nat} {y : Str} {r : WP} {px py pt : Pos} {kt k2 pt2} (hc : X.calm = true) (hN : X.N.Nodup) (hi : X.N[i]? = some x) (hj : X.N[j]? = some y) (hij : i ≠ j)
    (hx : X.env.scope.names.lookup x = some .local) (hy : X.env.scope.names.lookup y = some .local) (ha : PA X [e1, e2] (RdP Z X.K E [i, j] r))
    (hw : swappedStores [.Tuple [.Name x px, .Name y py] kt pt] (.Tuple [e1, e2] k2 pt2) X.env = pure (some [x, y]))
    (hs : swapsWithSole [.Tuple [.Name x px, .Name y py] kt pt] (.Tuple [e1, e2] k2 pt2) pos.line X.env = pure false := by rfl) :
    QS Z X E (.Assign [.Tuple [.Name x px, .Name y py] kt pt] (.Tuple [e1, e2] k2 pt2) pos) (wParN r) := (ps_par (i := i) (j := j) hc hN hi hj hij hx hy ha hw hs).wk fun D σ H h => par_go h fun vs H' hl q => by
  match vs, hl with
  | [v, u], _ => exact ⟨v, u, rfl, q⟩
theorem qs_par3 {i j l : Nat} {y z : Str} {r : WP} {px py pz pt : Pos} {kt k2 pt2} (hc : X.calm = true) (hN : X.N.Nodup) (hi : X.N[i]? = some x) (hj : X.N[j]? = some y) (hl : X.N[l]? = some z) (hij : i ≠ j) (hil : i ≠ l) (hjl : j ≠ l)
    (hx : X.env.scope.names.lookup x = some .local) (hy : X.env.scope.names.lookup y = some .local) (hz : X.env.scope.names.lookup z = some .local) (ha : PA X [e1, e2, e3] (RdP Z X.K E [i, j, l] r))
    (hw : swappedStores [.Tuple [.Name x px, .Name y py, .Name z pz] kt pt] (.Tuple [e1, e2, e3] k2 pt2) X.env = pure (some [x, y, z]))
    (hs : swapsWithSole [.Tuple [.Name x px, .Name y py, .Name z pz] kt pt] (.Tuple [e1, e2, e3] k2 pt2) pos.line X.env = pure false := by rfl) :
    QS Z X E (.Assign [.Tuple [.Name x px, .Name y py, .Name z pz] kt pt] (.Tuple [e1, e2, e3] k2 pt2) pos) (wParN r) := (ps_par3 (i := i) (j := j) (l := l) hc hN hi hj hl hij hil hjl hx hy hz ha hw hs).wk fun D σ H h => par_go h fun vs H' hl q => by
  match vs, hl with
  | [v, u, w], _ => exact ⟨v, u, w, rfl, q⟩
theorem rd_app {v : V} {d : D} {fr : Fr} {ow : Ow} {H : Hp} {σ : L2.St} {env : Ev} {xs : List D} (G : Good fr ow H σ env) (r : Rep fr.Z.g fr.d0 (MM fr ow) H v d) (e : env[i]? = some (.own xs)) :
    ∃ a vs, σ[i]? = some (some (.ref a)) ∧ H a = some (.lst vs) ∧ vs.length = xs.length ∧ Good fr ow (upd H a (.lst (vs ++ [v]))) σ (env.set i (.own (xs ++ [d]))) := by
  obtain ⟨a, vs, q1, q2, q3, q4⟩ := G.sl i _ e
  exact ⟨a, vs, q1, q3, q4.length, G.wrO i (G.ib e) q1 q2 (q4.app (.cons r .nil))⟩
/-- x.append(e), x the frame's own -/
theorem qs_app {p1 apos cpos : Pos} (i : Nat) (hN : X.N[i]? = some x) (hv : Vis X.env.scope x) (he : QE Z X E e w) (hd : (x == ("__debug__" : Str)) = false := by decide) (hcd : (x == ("__classdict__" : Str)) = false := by decide)
    (hbase : attributeBase (.Name x p1) "append" X.env (eval (.Name x p1) X.env) = eval (.Name x p1) X.env := by rfl)
    (hfew : ((backTo cpos (starEach [e] X.env)).all (fun x => !x.1) && (backToKw cpos (keywordEach [] X.env)).all (fun x => x.1.isSome) && decide ([e].length + ([] : List Keyword).length + (if ([] : List Keyword).isEmpty then 0 else 1) < 30)) = true := by rfl)
    (hline : (apos.endLine == cpos.line) = true := by rfl) (hse : starEach [e] X.env = (false, eval e X.env) :: starEach [] X.env := by rfl) (hplain : (backTo cpos (starEach [] X.env)).any (·.1) = false := by rfl)
    (hs : swapsWith (.Call (.Attribute (.Name x p1) "append" apos) [e] [] cpos) none pos.line X.env = pure false := by rfl) :
    QS Z X E (.Expr (.Call (.Attribute (.Name x p1) "append" apos) [e] [] cpos) pos) (wApp i w) :=
  (ps_expr (pe_bm PySem.F.plainAttrs_list PySem.F.slot_list_append PySem.F.type_list_append mt_append (pe_var hN hv hd hcd) (pa_cons he pa_nil hse) hbase hfew hline hse hplain) hs).wk fun D σ H ⟨fr, ow, env, Kn, A, hw, P⟩ => by
  unfold wApp at hw
  split at hw
  · rename_i xs ho
    obtain ⟨a, vs, q1, q2, q3, q4⟩ := A.g.sl i _ ho
    refine ⟨_, q1, .inl ⟨rfl, vs, SqL.of q3⟩, fr, ow, env, _, _, A, hw, fun d v H' n r ⟨q5, q6⟩ => ?_⟩
    obtain ⟨a', vs', z1, z2, z3, z4⟩ := rd_app (A.g.mv n) r ho
    rw [q1] at z1
    cases z1
    refine ⟨a, vs', v, rfl, rfl, z2, ?_, P.nx _ _ _ _ z4 q6⟩
    rw [z3, sizeLine_eq]
    unfold LIM at q5
    omega
  · exact hw.elim
/-- x[j] = e, x the frame's own -/
theorem qs_put {p1 pos2 : Pos} (i : Nat) (hN : X.N[i]? = some x) (hv : Vis X.env.scope x) (hj : QE Z X E e1 w1) (he : QE Z X E e w) (hd : (x == ("__debug__" : Str)) = false := by decide) (hcd : (x == ("__classdict__" : Str)) = false := by decide)
    (ha : ∀ v, assign (.Subscript (.Name x p1) e1 pos2) X.env v = (do
      let ov ← holding [v] (eval (.Name x p1) X.env)
      let iv ← holding [v, ov] (eval e1 X.env)
      standAt pos2
      holding [v, ov, iv] (setItem ov iv v)
      release [v, ov, iv] []) := by intro _; rfl)
    (hs : swapsWithSole [.Subscript (.Name x p1) e1 pos2] e pos.line X.env = pure false := by rfl) (hw : swappedStores [.Subscript (.Name x p1) e1 pos2] e X.env = pure none := by rfl) (hz : (assignEach [.Subscript (.Name x p1) e1 pos2] X.env).map (·.2) = [assign (.Subscript (.Name x p1) e1 pos2) X.env] := by rfl) :
    QS Z X E (.Assign [.Subscript (.Name x p1) e1 pos2] e pos) (wPutI i w1 w) :=
  (ps_asg he (pg_sub (pe_var hN hv hd hcd) hj set_list ha) hs hw hz).wk fun D σ H ⟨fr, ow, env, Kn, A, hw, P⟩ => by
  unfold wPutI at hw
  split at hw
  · rename_i xs ho
    obtain ⟨a, vs, q1, q2, q3, q4⟩ := A.g.sl i _ ho
    refine ⟨fr, ow, env, _, _, A, hw, fun d v H' n r q => ⟨_, q1, fr, ow, env, _, _, A.mv n, q, fun d2 k H2 n2 r2 q6 => ?_⟩⟩
    cases d2 <;> try exact (show False from q6).elim
    obtain ⟨m, hm, q7⟩ := q6
    obtain ⟨a', vs', z1, z2, z3, z4⟩ := (A.g.mv (n.trans n2)).sl i _ ho
    rw [q1] at z1
    cases z1
    exact ⟨a, vs', _, m, rfl, r2.ix, z3, by rw [z4.length]; exact hm, P.nx _ _ _ _ ((A.g.mv (n.trans n2)).wrO i (A.g.ib ho) q1 z2 (Reps.set (r.lat (Nz.lat n2 MM.d0)) m z4)) q7⟩
  · exact hw.elim
theorem qs_frz (i : Nat) (h : QS Z X E s a) : QS Z X E s (wFrz i a) := h.wk fun D σ H ⟨fr, ow, env, Kn, A, hw, P⟩ => by
  unfold wFrz at hw
  split at hw
  · rename_i xs ho
    exact ⟨fr, _, _, Kn, A.go P (A.g.frz i (A.g.ib ho) ho), hw, P⟩
  · exact ⟨fr, ow, env, Kn, A, hw, P⟩
/-- what stands apart stands still -/
noncomputable def Fr.still (fr : Fr) (ow : Ow) (H : Hp) : Fr := { fr with gH := fun a => open Classical in if MM fr ow a ∨ ∃ ps, H a = some (.tbl ps) then none else H a }
theorem Fr.stillAt {fr : Fr} {ow : Ow} {H : Hp} {a : Addr} {o : HO} (n : ¬ MM fr ow a) (t : NT o) (e : H a = some o) : (fr.still ow H).gH a = some o := by
  unfold Fr.still
  dsimp only
  rw [if_neg]
  · exact e
  · rintro (z | ⟨ps, z⟩)
    · exact n z
    · rw [e] at z
      exact t ps (Option.some.inj z)
theorem Good.still {fr : Fr} {ow : Ow} {H : Hp} {σ : L2.St} {env : Ev} (G : Good fr ow H σ env) : Good (fr.still ow H) ow H σ env := ⟨G.nx, G.d00, G.t0, G.mex, G.m0x, G.ss, G.owf, G.inj, G.avo, fun a o h => by
  unfold Fr.still at h
  dsimp only at h
  split at h
  · cases h
  · rename_i n
    exact ⟨fun ps z => n (.inr ⟨ps, by rw [h, z]⟩), h, fun z => n (.inl z)⟩, G.len, G.lb, fun i s e => (G.sl i s e).mvF (fr' := fr.still ow H) rfl rfl rfl .refl (fun a o h e => ⟨e, h⟩) (fun k a o h e => ⟨e, h⟩)⟩
theorem Good.unstill {fr : Fr} {ow ow' : Ow} {H H' : Hp} {σ σ' : L2.St} {env env' : Ev} (G : Good fr ow H σ env) (G' : Good (fr.still ow H) ow' H' σ' env') : Good fr ow' H' σ' env' := ⟨G'.nx, G'.d00, G'.t0, G'.mex, G'.m0x, G'.ss, G'.owf, G'.inj, G'.avo, fun a o h => by
  obtain ⟨h0, h1, h2⟩ := G.gh a o h
  exact G'.gh a o (Fr.stillAt h2 h0 h1), G'.len, G'.lb, fun i s e => (G'.sl i s e).mvF (fr := fr.still ow H) (fr' := fr) rfl rfl rfl .refl (fun a o h e => ⟨e, h⟩) (fun k a o h e => ⟨e, h⟩)⟩
theorem Good.stillLat {fr : Fr} {ow ow' : Ow} {H H' : Hp} {σ' : L2.St} {env' : Ev} (G' : Good (fr.still ow H) ow' H' σ' env') : Lat (MM fr ow) H (MM fr ow') H' := fun a o t n e => (G'.gh a o (Fr.stillAt n t e)).2
theorem qs_for {tg iter : Expr} {wi : WI} (g : Tgt) (hp : PassesOwn (model X.prog X.w) X.A X.env X.xe) (hc : X.calm = true) (hi : QI Z X E false tg iter wi) (hg : PG X tg (g.raw X.K)) (hb : QSs Z X E ss b)
    (hs : ∀ x, foldedSetIterable iter X.env x = pure x := by intro _; rfl) : QS Z X E (.For tg iter ss [] pos) (wFor wi g b) := (ps_for hp hc hi hg hb hs).wk fun D σ H ⟨fr, ow, env, Kn, A, hw, P⟩ =>
  ⟨fr, ow, env, _, _, A, hw, fun xs J H1 n1 io q => by
    have G1 := A.g.mv n1
    refine ⟨fun i m σ' H' => m = xs.length - i ∧ i ≤ xs.length ∧ ∃ ow' env', Good (fr.still ow H1) ow' H' σ' env' ∧ wForGo g b Kn (xs.drop i) env', ⟨_, rfl, Nat.zero_le _, ow, env, G1.still, q⟩, ?_⟩
    rintro i m σ' H' ⟨rfl, hi, ow', env', G', q'⟩
    have ioi := io (MM fr ow') H' G'.stillLat (fun z => by cases z) (fun p hp => G'.fresh hp) i
    by_cases hi2 : i = xs.length
    · refine .inl ⟨ioi.1 (by omega), ?_⟩
      rw [hi2, List.drop_length] at q'
      exact P.nx _ _ _ _ (G1.unstill G') q'
    · have lt : i < xs.length := by omega
      obtain ⟨go, yl⟩ := ioi.2 _ (List.getElem?_eq_getElem lt)
      refine .inr ⟨go, fun σ'' H'' => i + 1 ≤ xs.length ∧ ∃ ow' env', Good (fr.still ow H1) ow' H'' σ'' env' ∧ wForGo g b Kn (xs.drop (i + 1)) env', fun σ'' H'' z => ⟨xs.length - (i + 1), by omega, rfl, z⟩, fun v H2 y => ?_⟩
      obtain ⟨sm, rv⟩ := yl v H2 y
      rw [List.drop_eq_getElem_cons lt] at q'
      have q' : g.put env' xs[i] _ := q'
      have G2 := G'.mv (.of G'.dice sm)
      refine Tgt.ok (K := X.K) G2 (by exact rv) q' fun σ3 env3 G3 _ q3 => ?_
      refine ⟨fr.still ow H1, ow', env3, ⟨fun e => wForGo g b Kn (xs.drop (i + 1)) e, Kn.rt, Kn.nx, fun e => wForGo g b Kn (xs.drop (i + 1)) e, Kn.er⟩, ⟨A.z, A.k, G3, fun er cls dd H' n r q => P.er _ _ _ _ _ _ _ (G1.unstill (G3.mv n)) r q⟩, q3, fun ow4 env4 σ4 H4 G4 q4 => ⟨lt, ow4, env4, G4, q4⟩, fun d v ow4 env4 σ4 H4 G4 r q4 => P.rt _ _ _ _ _ _ (G1.unstill G4) r q4, fun ow4 env4 σ4 H4 G4 q4 => P.nx _ _ _ _ (G1.unstill G4) q4, fun ow4 env4 σ4 H4 G4 q4 => ⟨lt, ow4, env4, G4, q4⟩, fun er cls dd ow4 env4 σ4 H4 G4 r q4 => P.er _ _ _ _ _ _ _ (G1.unstill G4) r q4⟩⟩
theorem qs_while (hp : PassesOwn (model X.prog X.w) X.A X.env X.xe) (hc : QT Z X E e u) (hb : QSs Z X E ss b) : QS Z X E (.While e ss [] pos) (wWhile u b) := (ps_while hp hc hb).wk fun D σ H ⟨fr, ow, env, Kn, A, ⟨I, ⟨m0, i0⟩, turn⟩, P⟩ =>
  ⟨fun m σ' H' => ∃ ow' env', Good fr ow' H' σ' env' ∧ I m env', ⟨m0, ow, env, A.g, i0⟩, fun m σ' H' ⟨ow', env', G', im⟩ => ⟨fr, ow', env', _, _, A.go P G', turn m env' im, fun c H2 n q => by
    cases c with
    | false => exact P.nx _ _ _ _ (G'.mv n) q
    | true =>
      refine ⟨fun σ3 H3 => ∃ m', m' < m ∧ ∃ ow3 env3, Good fr ow3 H3 σ3 env3 ∧ I m' env3, fun σ3 H3 z => z, ?_⟩
      exact ⟨fr, ow', env', ⟨fun e => ∃ m', m' < m ∧ I m' e, Kn.rt, Kn.nx, fun e => ∃ m', m' < m ∧ I m' e, Kn.er⟩, (A.go P G').mv n, q, fun ow4 env4 σ4 H4 G4 ⟨m', l, q4⟩ => ⟨m', l, ow4, env4, G4, q4⟩, P.rt, P.nx, fun ow4 env4 σ4 H4 G4 ⟨m', l, q4⟩ => ⟨m', l, ow4, env4, G4, q4⟩, P.er⟩⟩⟩
/-- raise C('..'), C an own class without fields -/
theorem qs_raise {c : Nat} (hc : X.calm = true) (tk : Takes X (fun cls d _ H => E cls d H)) (hm : PMk X e (fun _ H Q => Q (.ref (Z c)) none H)) : QS Z X E (.Raise (some e) none pos) (wRaise c) := (ps_raise hc tk hm).wk fun D σ H ⟨fr, ow, env, Kn, A, hw, P⟩ =>
  A.er _ _ _ _ (.refl A.g.dice) ⟨by rw [A.z], .inl ⟨rfl, rfl, rfl⟩⟩ hw
/-- the start of a body -/
theorem start_good {K : PySem.W.Frag} {d0 : Addr} {M : Addr → Prop} {H : Hp} {vs : List V} {ds : List D} {N : List Str} (hD : Dice K H d0) (hT : LamX.Tabs Z.g.tb H) (hM : ∀ a, M a → Has H a) (r : Reps Z.g d0 (fun a => a = d0 ∨ M a) H vs ds) (hl : vs.length ≤ N.length) (hb : N.length ≤ CBASE) :
    Good ⟨Z, K, d0, M, fun _ => False, fun _ => False, H, fun _ => none, d0⟩ (fun _ => none) H (L2.start N vs) (ds.map .val ++ List.replicate (N.length - ds.length) .un) := by
  have dx : H d0 ≠ none := by
    obtain ⟨sa, ns, p, m, c, h1, _⟩ := hD.ex
    rw [h1]
    exact fun z => by cases z
  have mm : ∀ a, MM ⟨Z, K, d0, M, fun _ => False, fun _ => False, H, fun _ => none, d0⟩ (fun _ => none) a → a = d0 ∨ M a := fun a h => by
    rcases h with h | h | h | ⟨i, h⟩
    · exact .inl h
    · exact .inr h
    · exact h.elim
    · cases h
  refine ⟨.refl hD, hD, hT, fun a h => ?_, fun a h => (hM a h).nn, fun a h => h.elim, fun i a h => (by cases h), fun i j a h => (by cases h), fun i a h => (by cases h), fun a o h => (by cases h), ?_, ?_, fun i s e => ?_⟩
  · rcases mm a h with h | h
    · rw [h]; exact hD.has
    · exact hM a h
  · unfold L2.start
    simp [r.length]
  · unfold L2.start
    simp
    omega
  · by_cases hi : i < ds.length
    · rw [List.getElem?_append_left (by simpa using hi), List.getElem?_map] at e
      obtain ⟨d, h1, rfl⟩ := Option.map_eq_some_iff.mp e
      obtain ⟨v, q1, q2⟩ := r.get h1
      refine ⟨v, ?_, q2.lat (.sub mm)⟩
      unfold L2.start
      rw [List.getElem?_append_left (by rw [List.length_map, r.length]; exact hi), List.getElem?_map, q1]
      rfl
    · rw [List.getElem?_append_right (by simpa using Nat.le_of_not_lt hi), List.getElem?_replicate] at e
      split at e
      · cases e
        exact True.intro
      · cases e
/-- a def's promise by data, read into its body -/
theorem def_rd {K : PySem.W.Frag} {N : List Str} {n : Nat} {H : Hp} {vs : List V} {Q : VK} (hn : n ≤ N.length) (hb9 : N.length ≤ CBASE) (h : SpD Z.g K (specOf n N.length b) vs H Q E) :
    RdS Z K E b { nx := fun _ H' => Q .non H', rt := Q } (L2.start N vs) H := by
  obtain ⟨d0, M, ds, Qp, Ep, hD, hT, hM, r, ⟨hl, hb⟩, post, per⟩ := h
  refine ⟨⟨Z, K, d0, M, fun _ => False, fun _ => False, H, fun _ => none, d0⟩, fun _ => none, _, ⟨fun _ => Qp .non, fun d _ => Qp d, fun _ => False, fun _ => False, fun x _ => Ep x⟩, ⟨rfl, rfl, start_good hD hT hM r (by rw [r.length, hl]; exact hn) hb9, fun er cls dd H' nx re q => per er cls dd H' nx (re.lat (.sub fun a z => z.elim .inl fun z => .inr (.inl z))) q⟩, by rw [hl]; exact hb,
    fun ow' env' σ' H' G q => post .non .non H' G.nx .non q, fun d v ow' env' σ' H' G r q => post d v H' G.nx r.m1 q, fun _ _ _ _ _ z => z.elim, fun _ _ _ _ _ z => z.elim, fun er cls dd ow' env' σ' H' G re q => per er cls dd H' G.nx (re.lat (.sub fun a z => z.elim .inl fun z => .inr (.inl z))) q⟩
theorem def_len {K : PySem.W.Frag} {N : List Str} {n : Nat} {H : Hp} {vs : List V} {Q : VK} (h : SpD Z.g K (specOf n N.length b) vs H Q E) : vs.length = n := by
  obtain ⟨d0, M, ds, Qp, Ep, hD, hT, hM, r, ⟨hl, hb⟩, post, per⟩ := h
  rw [r.length, hl]
/-- a weaker promise by data -/
theorem SpD.imp {K : PySem.W.Frag} {P P' : PSpec} (h : ∀ ds Q E, P' ds Q E → P ds Q E) {vs : List V} {H : Hp} {Q : VK} {E : XK} (q : SpD Z.g K P' vs H Q E) : SpD Z.g K P vs H Q E := by
  obtain ⟨d0, M, ds, Qp, Ep, hD, hT, hM, r, hb, post, per⟩ := q
  exact ⟨d0, M, ds, Qp, Ep, hD, hT, hM, r, h _ _ _ hb, post, per⟩
end
end Oil
namespace Oil
open PySem PySem.Spec PyProof.Rows L2
theorem meets_enum1 {v : Value} {o : Obj} {HH : Heap → Prop} (B : Begins v o HH) :
    Meets (Builtin.«enumerate.__new__» ⟨[.type "enumerate", v], []⟩) (fun _ R s => HH s.heap ∧
      R (.ok (.ret (.ref (s.heap.push o).objs.size))) { s with heap := (s.heap.push o).push { cls := .type "enumerate", data := .fields #[.none, .bool false, .ref s.heap.objs.size, rawInt 0, .none, .none] } }) :=
  .of_wp fun prog w A R s h => by
    obtain ⟨hp, g, d, tk, os⟩ := s; obtain ⟨h1, h⟩ := h
    have hsub := sub_enumerate
    have q1 : ∀ {A' : Around} {E : Value → Shared → Prop} {Q : Value → Shared → Prop}, Q (.ref hp.objs.size) ⟨hp.push o, g, d, tk, os⟩ → wpAny (model prog w) A' (pyIter v) Q E ⟨hp, g, d, tk, os⟩ :=
      fun q => B.iter prog w _ _ ⟨hp, g, d, tk, os⟩ _ h1 q
    wp_walk using q1
    refine wpAny_stack_any fun st => wpAny_pure ?_
    split
    · rename_i c _ _ _ _ _
      cases (c == Value.type "enumerate")
      · wp_walk using q1
        exact ⟨_, rfl, h⟩
      · wp_walk using q1
        exact ⟨_, rfl, h⟩
    · wp_walk using q1
      exact ⟨_, rfl, h⟩
theorem call_enumT {prog : Program} {w : World} {A : Around} {E : Value → Shared → Prop} {s : Shared} {l : Addr} {items : Array Value} {Q : Value → Shared → Prop} (hL : s.heap.IsTuple l items)
    (h : ∀ h', IsEnum h' (s.heap.objs.size + 1) s.heap.objs.size 0 .none → h'.IsTupleIter s.heap.objs.size l 0 → h'.objs.size = s.heap.objs.size + 2 →
      (∀ b o, s.heap.get? b = some o → h'.get? b = some o) → Q (.ref (s.heap.objs.size + 1)) { s with heap := h' }) :
    wpAny (model prog w) A (call (.type "enumerate") [.ref l]) Q E s := by
  refine callType_new F.called_enumerate (by decide) (F.typeCall_enumerate_1 _) (F.newCall_enumerate_1 _) (fun obj => F.args_object_init_2 obj _) F.entry_enumerate_new
    (meets_enum1 (begins_tuple l items)) ⟨hL, ?_⟩
  have hz : (s.heap.push { cls := .type "tuple_iterator", data := .fields #[.ref l, .int 0 0] }).objs.size = s.heap.objs.size + 1 := Heap.size_push ..
  show _ ∧ _
  rw [hz]
  have he : IsEnum ((s.heap.push { cls := .type "tuple_iterator", data := .fields #[.ref l, .int 0 0] }).push
      { cls := .type "enumerate", data := .fields #[.none, .bool false, .ref s.heap.objs.size, rawInt 0, .none, .none] }) (s.heap.objs.size + 1) s.heap.objs.size 0 .none := by
    have := Heap.get?_push_size (s.heap.push { cls := .type "tuple_iterator", data := .fields #[.ref l, .int 0 0] })
      (o := { cls := .type "enumerate", data := .fields #[.none, .bool false, .ref s.heap.objs.size, rawInt 0, .none, .none] }) rfl
    rw [hz] at this; exact this
  refine ⟨⟨_, he, rfl⟩, h _ he ⟨_, Heap.get?_push_of_some _ (Heap.get?_push_size _ rfl), rfl, rfl⟩ (by rw [Heap.size_push, hz]) fun b o x => Heap.get?_push_of_some _ (Heap.get?_push_of_some _ x)⟩
/-- the tuple at a as it stands at each turn, each item in a new pair -/
def IteT (K : PySem.W.Frag) (a : Addr) : It :=
  ⟨fun i H => ∃ (xs : List V) (x : V), SqT K H a xs ∧ xs[i]? = some x, fun i H v H' => ∃ T x, v = .ref T ∧ H T = none ∧ H' = upd H T (.tup [.int (i : Nat), x]) ∧ ∀ xs, SqT K H a xs → xs[i]? = some x, fun i H => ∃ xs : List V, SqT K H a xs ∧ xs.length ≤ i⟩
theorem turn_enumT {P : Program} {w : World} {K : PySem.W.Frag} {elts : List Expr} {kk : Nat} {tpos : Pos} (a e it : Addr) (hae : a ≠ it) :
    Turn P w K (.Tuple elts kk tpos) (IteT K a) [e, it] e (fun i h => (∃ old, IsEnum h e it ((i : Nat) : Int) old) ∧ h.IsTupleIter it a i ∧ e ≠ it) where
  mem := by simp
  obj := fun i h st b hb => by
    obtain ⟨⟨old, he⟩, ⟨o, ho, hc, hd⟩, _⟩ := st
    have e' : b = e ∨ b = it := by simpa using hb
    rcases e' with z | z
    · rw [z]; exact ⟨_, he, fun v q => nomatch q⟩
    · rw [z]; exact ⟨o, ho, fun v q => by rw [hd] at q; cases q⟩
  keep := fun i h h' st k => let ⟨⟨old, he⟩, hi, hne⟩ := st; ⟨⟨old, k e (by simp) _ he⟩, hi.at fun o q => k it (by simp) o q, hne⟩
  item := by
    intro X hP hw hK hc i pins s σ H E I hf st hg
    subst hP hw hK
    obtain ⟨⟨old, he⟩, hit, hne⟩ := st
    obtain ⟨xs, x, hq, hx⟩ := hg
    obtain ⟨its, rv, p, hz⟩ := I.tuple hq
    have p : s.heap.IsTuple a its.toArray := p
    obtain ⟨u, hu, ru⟩ := rv.get hx
    have hel : e < s.heap.objs.size := Heap.lt_size he
    have hil : it < s.heap.objs.size := by obtain ⟨_, q, _⟩ := hit; exact Heap.lt_size q
    have hau : (its.toArray)[i]? = some u := by simpa using hu
    have hlt : i < its.toArray.size := by
      obtain ⟨h1, _⟩ := Array.getElem?_eq_some_iff.mp hau
      exact h1
    have hf5 : e ≠ a := fun z => by
      obtain ⟨ol, hol, hcl, _⟩ := p
      rw [← z] at hol
      have he' : s.heap.get? e = _ := he
      rw [hol] at he'
      have := Option.some.inj he'
      rw [this] at hcl
      have hcl : Value.type "enumerate" = Value.type "tuple" := hcl
      injection hcl with z2
      exact absurd z2 (by decide)
    have D := Draws.tuple (prog := X.prog) (w := X.w) (A := X.A.in1) (I.ok.hd hc) it a hae its.toArray
    refine wpAny_pyNext_enum_itemD D he ⟨hit, p⟩ hlt hne (by simp [hne, hf5]) fun x' h' tk hx' ho hst hT hsz hk => ?_
    obtain rfl : x' = u := by
      rw [hau] at hx'
      exact (Option.some.inj hx').symm
    obtain ⟨hit', _⟩ := hst
    refine ⟨_, rfl, wpAny_letOwnedTupleGo_enum (s := { s with heap := h', toks := tk + 1 }) ho fun h'' he' sb => ?_⟩
    have hT2 : h''.get? s.heap.objs.size = some { cls := .type "tuple", data := .seq #[.int i tk, x'] } := (sb.2 _ (Nat.ne_of_gt hel)).trans hT
    have new : ObjOk X.prog X.w (upd H s.heap.objs.size (.tup [.int (i : Nat), x])) h'' s.heap.objs.size (.tup [.int (i : Nat), x]) :=
      ⟨by show 2 ≤ sizeLine; decide, [.int i tk, x'], .cons ⟨_, rfl⟩ (.cons ru .nil), ⟨_, hT2, rfl, _, rfl⟩⟩
    have I1 : Inv X pins σ (upd H s.heap.objs.size (.tup [.int (i : Nat), x])) { s with heap := h'', toks := tk + 1 } :=
      I.turnedNew (ch := [e, it]) (fun b ob hb q => (sb.2 b (fun z => hb (by simp [z]))).trans (hk b ob (fun z => hb (by simp [z])) (fun z => hb (by simp [z])) q)) hf (Nat.le_refl _) new
    refine ⟨.ref s.heap.objs.size, _, I1, rfl, ⟨_, x, rfl, I.hok.fresh (Nat.le_refl _), rfl, fun ys hy => by rw [I.tuple_inj hy hq]; exact hx⟩, ⟨⟨x', ?_⟩, hit'.at fun o q => (sb.2 it (Ne.symm hne)).trans q, hne⟩, fun b hb => ?_⟩
    · have e1 : ((i + 1 : Nat) : Int) = (i : Int) + 1 := by omega
      rw [e1]; exact he'
    · have hb' : b < s.heap.objs.size := by
        have e' : b = e ∨ b = it := by simpa using hb
        rcases e' with z | z
        · rw [z]; exact hel
        · rw [z]; exact hil
      rw [upd_ne (Nat.ne_of_lt hb')]
      exact (hf b hb).1
  done := by
    intro X hP hw hK hc i pins s σ H E I hf st hg
    subst hP hw hK
    obtain ⟨⟨old, he⟩, hit, hne⟩ := st
    obtain ⟨xs, hq, hx⟩ := hg
    obtain ⟨its, rv, p, hz⟩ := I.tuple hq
    have p : s.heap.IsTuple a its.toArray := p
    obtain ⟨f0, f1, f2, f3, f4, f5⟩ := hf it (by simp)
    have hl := rv.length
    have hT : s.TypeIs (.ref e) "enumerate" := ⟨_, he, rfl⟩
    unfold pyNext
    refine wpAny_bind (wpAny_attempt (wpAny_callSpecial?_slot (name := Str.ofString "__next__") hT F.slot_enumerate_next
      (wpAny_call_entry F.slot_enumerate_next hT F.entry_enumerate_next ?_ (F.args_enumerate_next_1 _))))
    show wpAny _ _ (field (.ref e) 2 >>= _) _ _ _
    refine wpAny_bind (wpAny_field he rfl (x := .ref it) rfl ?_)
    refine wpAny_bind (wpAny_nextOf_tuple_end (I.ok.hd hc) hit p (by simp; omega) fun h' x he' hx' => ?_)
    obtain ⟨o, ho, hc'⟩ := hx'
    refine wpAny_bind (wpAny_isInstance (T := "StopIteration") (b := true) ⟨o, ho, hc'⟩ isSubtype_stop ?_)
    exact wpAny_pure ⟨rfl, I.turned (t' := s.toks) (fun b o hb q => he' b o hb q) f0 f1 f3 f4 f5⟩
  self := fun A i s Q E st h => let ⟨⟨_, he⟩, _⟩ := st; wpAny_pyIter_enum he h
def iEnumT (K : PySem.W.Frag) (ta : TA) : TI := fun σ H R => ta σ H fun vs H1 => ∃ a xs, vs = [.ref a] ∧ SqT K H1 a xs ∧ R (IteT K a) H1
theorem pi_enumT {X : Cx} {e : Expr} {ta : TA} {p pos tpos : Pos} {elts : List Expr} {kk : Nat} (hg : Gl X "enumerate") (hm : X.mg "enumerate" = none) (ha : PA X [e] ta) (hs : starEach [e] X.env = [(false, eval e X.env)] := by rfl) :
    PI X (.Tuple elts kk tpos) (.Call (.Name "enumerate" p) [e] [] pos) (iEnumT X.K ta) := by
  refine ⟨fun pins s σ H R I h => ?_⟩
  refine Call_ (ld_blt I hg hm boot_enumerate (PyProof.Rows.callWith_type1 (thn (ha.run pos pins s σ H _ I h) fun us s1 ⟨vs, H1, I1, r1, q1⟩ => ?_) hs rfl))
  obtain ⟨a, xs, ex, hq, q⟩ := q1
  subst ex
  cases r1 with
  | cons r rr =>
    cases rr
    cases r
    obtain ⟨its, rv, p', hz⟩ := I1.tuple hq
    have p' : s1.heap.IsTuple a its.toArray := p'
    have ha : a < s1.heap.objs.size := by obtain ⟨_, q, _⟩ := p'; exact Heap.lt_size q
    refine call_enumT p' fun h' he hit hsz hk => wpAny_pyIter_enum he ?_
    have I2 : Inv X pins σ H1 { s1 with heap := h' } := I1.kept (t' := s1.toks) hk
    refine ⟨s1.heap.objs.size + 1, [s1.heap.objs.size + 1, s1.heap.objs.size], _, _, H1, rfl, I2, turn_enumT a (s1.heap.objs.size + 1) s1.heap.objs.size (Nat.ne_of_lt ha), ⟨⟨.none, he⟩, hit, Nat.succ_ne_self _⟩, fun b hb => ?_, q⟩
    have e' : b = s1.heap.objs.size + 1 ∨ b = s1.heap.objs.size := by simpa using hb
    have hle : s1.heap.objs.size ≤ b := by
      rcases e' with z | z
      · rw [z]; exact Nat.le_add_right _ _
      · rw [z]; exact Nat.le_refl _
    exact I1.fpOk hle (I1.hok.fresh hle)
end Oil
namespace Oil
open PySem PySem.Spec PyProof.Rows L2
section
variable {Z : ZM} {X : Cx} {E : XK} {e e1 e2 e3 : Expr} {es : List Expr} {w w1 w2 w3 : WE} {t t2 : WA} {u u1 u2 : WT} {pos p : Pos} {i : Nat} {x : Str} {tg : Expr}
/-- a list or a tuple -/
def iSeq (K : PySem.W.Frag) (tl : TE) : TI := fun σ H R => tl σ H fun x H1 => ∃ a, x = .ref a ∧ (((∃ xs, SqL K H1 a xs) ∧ R (Itl K a) H1) ∨ ((∃ xs, SqT K H1 a xs) ∧ R (Itt K a) H1))
theorem pi_seq {l : Expr} {tl : TE} (hl : PE X l tl) : PI X tg l (iSeq X.K tl) := by
  refine ⟨fun pins s σ H R I h => ?_⟩
  refine thn (hl.run pins s σ H _ I h) fun v s1 ⟨x, H1, I1, r1, q1⟩ => ?_
  obtain ⟨a, e, q1⟩ := q1
  subst e
  cases r1
  rcases q1 with ⟨⟨xs, hq⟩, q⟩ | ⟨⟨xs, hq⟩, q⟩
  · obtain ⟨its, rv, p, hz⟩ := I1.list hq
    refine wpAny_pyIter_list p.isList ?_
    refine ⟨s1.heap.objs.size, [s1.heap.objs.size], _, _, H1, rfl, I1.kept (t' := s1.toks) fun b o e => Heap.get?_push_of_some _ e, turn_list a _, ⟨_, Heap.get?_push_size _ rfl, rfl, rfl⟩, fun b hb => ?_, q⟩
    have e : b = s1.heap.objs.size := by simpa using hb
    subst e
    exact I1.fpOk (Nat.le_refl _) (I1.hok.fresh (Nat.le_refl _))
  · obtain ⟨its, rv, p, hz⟩ := I1.tuple hq
    refine wpAny_pyIter_tuple (show s1.heap.IsTuple a its.toArray from p) ?_
    refine ⟨s1.heap.objs.size, [s1.heap.objs.size], _, _, H1, rfl, I1.kept (t' := s1.toks) fun b o e => Heap.get?_push_of_some _ e, turn_tuple a _, ⟨_, Heap.get?_push_size _ rfl, rfl, rfl⟩, fun b hb => ?_, q⟩
    have e : b = s1.heap.objs.size := by simpa using hb
    subst e
    exact I1.fpOk (Nat.le_refl _) (I1.hok.fresh (Nat.le_refl _))
theorem qi_seq {own : Bool} (h : QE Z X E e w) : QI Z X E own tg e (wIter w) := (pi_seq h).wk fun σ H R ⟨fr, ow, env, Qp, Ep, A, hw, post⟩ =>
  ⟨fr, ow, env, _, Ep, A, hw, fun d v H1 n1 r1 q1 => by
    split at q1
    · rename_i xs e
      obtain ⟨a, vs, rfl, hm, h1, h2⟩ := r1.seq e
      rcases h1 with ⟨h1, _⟩ | ⟨h1, _⟩
      · exact ⟨a, rfl, .inl ⟨⟨_, SqL.of h1⟩, post _ _ H1 n1 (itl_ok h1 (.inl hm) h2) q1⟩⟩
      · exact ⟨a, rfl, .inr ⟨⟨_, SqT.of h1⟩, post _ _ H1 n1 (itt_ok h1 hm h2) q1⟩⟩
    · exact q1.elim⟩
theorem qi_own (h : QB Z X E e w) : QI Z X E true tg e (wIter w) := (pi_seq h).wk fun σ H R ⟨fr, ow, env, Qp, Ep, A, hw, post⟩ =>
  ⟨fr, ow, env, _, Ep, A, hw, fun d v H1 n1 r1 q1 => by
    split at q1
    · rename_i xs e
      rcases r1 with r1 | ⟨i, ys, a, vs, rfl, rfl, h1, h2, h3, h4⟩
      · obtain ⟨a, vs, rfl, hm, h1, h2⟩ := r1.seq e
        rcases h1 with ⟨h1, _⟩ | ⟨h1, _⟩
        · exact ⟨a, rfl, .inl ⟨⟨_, SqL.of h1⟩, post _ _ H1 n1 (itl_ok h1 (.inl hm) h2) q1⟩⟩
        · exact ⟨a, rfl, .inr ⟨⟨_, SqT.of h1⟩, post _ _ H1 n1 (itt_ok h1 hm h2) q1⟩⟩
      · cases e
        exact ⟨a, rfl, .inl ⟨⟨_, SqL.of h2⟩, post _ _ H1 n1 (itl_ok h2 (.inr ⟨rfl, h3⟩) h4) q1⟩⟩
    · exact q1.elim⟩
theorem qi_range1 {own : Bool} (hg : Gl X "range") (hm : X.mg "range" = none) (ha : QE Z X E e w) (hs : starEach [e] X.env = [(false, eval e X.env)] := by rfl) : QI Z X E own tg (.Call (.Name "range" p) [e] [] pos) (wRange1 w) :=
  (pi_range1 hg hm (pa_cons ha pa_nil hs) hs).wk fun σ H R ⟨fr, ow, env, Qp, Ep, A, hw, post⟩ =>
  ⟨fr, ow, env, _, Ep, A, hw, fun d v H1 n1 r1 q1 => by
    cases d <;> try exact (show False from q1).elim
    exact ⟨_, by rw [r1.ix], q1.1.1, q1.1.2, post _ _ H1 n1 itr_ok q1.2⟩⟩
theorem qi_range2 {own : Bool} (hg : Gl X "range") (hm : X.mg "range" = none) (ha : QE Z X E e w) (hb : QE Z X E e1 w1) (hs : starEach [e, e1] X.env = [(false, eval e X.env), (false, eval e1 X.env)] := by rfl) (hs2 : starEach [e1] X.env = [(false, eval e1 X.env)] := by rfl) : QI Z X E own tg (.Call (.Name "range" p) [e, e1] [] pos) (wRange2 w w1) :=
  (pi_range2 hg hm (pa_cons ha (pa_cons hb pa_nil hs2) (by rw [hs, hs2])) hs hs2).wk fun σ H R ⟨fr, ow, env, Qp, Ep, A, hw, post⟩ =>
  ⟨fr, ow, env, _, Ep, A, hw, fun d v H1 n1 r1 q1 => ⟨fr, ow, env, _, Ep, A.mv n1, q1, fun d2 v2 H2 n2 r2 q2 => by
    cases d <;> cases d2 <;> try exact (show False from q2).elim
    exact ⟨_, _, by rw [r1.ix, r2.ix], q2.1, post _ _ H2 (n1.trans n2) itr_ok q2.2⟩⟩⟩
theorem qi_enum {own : Bool} {elts : List Expr} {kk : Nat} {tpos : Pos} (hg : Gl X "enumerate") (hm : X.mg "enumerate" = none) (ha : QE Z X E e w) (hs : starEach [e] X.env = [(false, eval e X.env)] := by rfl) :
    QI Z X E own (.Tuple elts kk tpos) (.Call (.Name "enumerate" p) [e] [] pos) (wEnumT w) := (pi_enumT hg hm (pa_cons ha pa_nil hs) hs).wk fun σ H R ⟨fr, ow, env, Qp, Ep, A, hw, post⟩ =>
  ⟨fr, ow, env, _, Ep, A, hw, fun d v H1 n1 r1 q1 => by
    cases d <;> try exact (show False from q1).elim
    cases r1 with
    | tup h1 h2 h3 =>
      rename_i xs a vs
      refine ⟨a, vs, rfl, SqT.of h1, post _ _ H1 n1 (fun M2 H2 L _ fre i => ?_) q1⟩
      have e2 : H2 a = some (.tup vs) := (L a _ nt_tup h2 h1).1
      have r2 := h3.lat L
      refine ⟨fun hi => ⟨vs, SqT.of e2, by rw [r2.length]; simpa using hi⟩, fun y hy => ?_⟩
      rw [List.getElem?_map, List.getElem?_zipIdx] at hy
      obtain ⟨p, hp, rfl⟩ := Option.map_eq_some_iff.mp hy
      obtain ⟨z, hz, rfl⟩ := Option.map_eq_some_iff.mp hp
      obtain ⟨v, q1, q2⟩ := r2.get hz
      refine ⟨⟨vs, v, SqT.of e2, q1⟩, fun v' H3 y => ?_⟩
      obtain ⟨T, x, rfl, hT, rfl, y⟩ := y
      have := y vs (SqT.of e2)
      rw [q1] at this
      cases this
      refine ⟨Same.new hT, ?_⟩
      have := Rep.fresh_tup (Z := fr.Z.g) (d0 := fr.d0) hT (fre T hT) (.cons (.int ((i : Nat) : Int)) (.cons q2 .nil))
      simpa using this⟩
variable {k j : Nat} {P : PSpec} {c : Nat}
/-- == by an own def: on the right an instance of the same class, or a built-in value -/
theorem qe_eqO (g : EqO X.prog X.w X.K X.mg X.base k (Z c) (SpD Z.g X.K P)) (hr : Room j X.A) (hk : k ≤ j) (hx : Passes (L2.CX X.prog X.w) X E) (hn : ∀ T ∈ ["NoneType", "bool", "int", "str", "tuple", "list"], PySem.W.notFirst X.K (Z c) (.type T) = true) (ha : QE Z X E e1 w1) (hb : QE Z X E e2 w2) (hm : behindInMarks .Eq e2 = false := by exact nomark _) : QE Z X E (.Compare e1 [.Eq] [e2] pos) (wEqO c P w1 w2) :=
  (pe_cmpR (op_eqo g hr hk hx) ha hb hm).wk fun σ H Q ⟨fr, ow, env, Qp, Ep, A, hw, post⟩ =>
  ⟨fr, ow, env, _, Ep, A, hw, fun d v H1 n1 r1 q1 => ⟨fr, ow, env, _, Ep, A.mv n1, q1, fun d2 v2 H2 n2 r2 q2 => by
    have r1 := r1.lat (Nz.lat n2 MM.d0)
    cases d <;> try exact (show False from q2).elim
    obtain ⟨rfl, hf, q2⟩ := q2
    obtain ⟨a, dx, vs, rfl, ha⟩ := r1.insAt A.z
    have sp := spd_of A (n1.trans n2) (.cons r1 (.cons r2 .nil)) q2 post
    refine ⟨a, dx, _, rfl, ha, ?_, sp⟩
    cases hk : d2.kind with
    | some T =>
      have kn := r2.kn (K := X.K) hk
      exact .inr (.inr ⟨_, kn.ty, hn T kn.mem⟩)
    | none =>
      cases d2 <;> first | (cases hk; done) | skip
      · obtain rfl := hf
        obtain ⟨b, dy, us, rfl, hb⟩ := r2.insAt A.z
        exact .inl ⟨b, dy, _, rfl, hb⟩
      all_goals exact absurd (show (none : Option String).isSome = true from hk ▸ hf) (by decide)⟩⟩
/-- what an __init__ promises by data: the new instance, made behind H1, holds what P says -/
def SpI (Z : ZG) (K : PySem.W.Frag) (c : Nat) (P : PSpec) : Sp := fun vs H Q E => ∃ (x dx : Addr) (us : List V) (d0 : Addr) (M : Addr → Prop) (ds : List D) (Qp : QD) (Ep : QR) (H1 : Hp), vs = .ref x :: us ∧ H1 x = none ∧ H1 dx = none ∧ dx ≠ x ∧ H = upd (upd H1 dx (.own x)) x (.ins (Z c) dx []) ∧
  Dice K H1 d0 ∧ LamX.Tabs Z.tb H1 ∧ (∀ a, M a → Has H1 a) ∧ Reps Z d0 (fun a => a = d0 ∨ M a) H1 us ds ∧ P ds Qp Ep ∧
  (∀ d H', N0 Z.tb K d0 H1 H' → Rep Z d0 (fun a => a = d0 ∨ M a) H' (.ref x) d → Qp d → Q .non H') ∧ (∀ er cls dd H', N0 Z.tb K d0 H1 H' → RepE Z d0 (fun a => a = d0 ∨ M a) H' er cls dd → Ep er → E cls dd H')
theorem make_rd {σ : L2.St} {H : Hp} {Q : VK} (h : RdE Z X.K E (wCall P t) σ H Q) : StX.tMakeR (Z c) (SpI Z.g X.K c P) E (RdA Z X.K E t) σ H Q := by
  obtain ⟨fr, ow, env, Qp, Ep, A, hw, post⟩ := h
  refine ⟨fr, ow, env, _, Ep, A, hw, fun ds vs H1 n1 r1 q1 a dx ha hdx hne => ?_⟩
  have A1 := A.mv n1
  refine ⟨a, dx, vs, fr.d0, MM fr ow, ds, Qp, Ep, H1, rfl, ha, hdx, hne, rfl, by rw [← A.k]; exact A1.g.dice, by rw [← A.z]; exact A1.g.tabs, A1.g.mex, ?_, q1, fun d H' n r q => ⟨rfl, ?_⟩, fun er cls dd H' n r q => ?_⟩
  · rw [← A.z]
    exact r1.lat (.sub fun a z => z.elim (fun z => z ▸ MM.d0) id)
  · rw [← A.z] at r n
    rw [← A.k] at n
    exact post _ _ H' (n1.trans n) (r.lat (.sub fun a z => .inr z)) q
  · rw [← A.z] at r n
    rw [← A.k] at n
    exact A1.er er cls dd H' n (r.lat (.sub fun a z => .inr z)) q
/-- C(e, .., *y) -/
theorem qe_makeS (g : Mak X.prog X.w X.K X.mg X.base k x (Z c) (SpI Z.g X.K c P)) (hr : Room j X.A) (hk : k + 1 ≤ j) (hx : Passes (L2.CX X.prog X.w) X E) (ha : QA Z X E (e :: es) t) (hg : Gl X x := by rfl)
    (hdb : (x == ("__debug__" : Str)) = false := by decide) (he : starEach (e :: es) X.env = (false, eval e X.env) :: starEach es X.env := by rfl) (hst : (backTo pos (starEach es X.env)).any (·.1) = true := by rfl) :
    QE Z X E (.Call (.Name x p) (e :: es) [] pos) (wCall P t) := by
  obtain ⟨f, M, F⟩ := g.ex
  refine L2.PE.wk (t := StX.tMakeR (Z c) (SpI Z.g X.K c P) E (RdA Z X.K E t)) ⟨fun pins s σ H Q I h => ?_⟩ fun σ H Q h => make_rd h
  refine wpAny_Call_Name_kw (ld_glob I hg g.gl ?_ hdb)
  refine PySem.W.callWith_S2 (h₀ := X.base) I.ok.mod.kin M.kp (thn (ha.run pos pins s σ H _ I h) fun us s1 ⟨vs, H1, I1, r, q⟩ => ⟨I1.kIn, ?_⟩) he hst
  exact StX.run_makeR M F (hr.mono hk) hx I1 r q
/-- c(e, ..), c a name of the def that holds the class -/
theorem makl_at {σ : L2.St} {H : Hp} {Q : VK} (h : RdE Z X.K E (wMakL i c P t) σ H Q) : σ[i]? = some (some (.ref (Z c))) ∧ RdE Z X.K E (wCall P t) σ H Q := by
  obtain ⟨fr, ow, env, Qp, Ep, A, hw, post⟩ := h
  unfold wMakL at hw
  split at hw
  · rename_i c' ho
    obtain ⟨rfl, hw⟩ := hw
    obtain ⟨v, h1, h2⟩ := A.g.sl i _ ho
    refine ⟨?_, fr, ow, env, Qp, Ep, A, hw, post⟩
    rw [h1, ← A.z]
    cases h2
    rfl
  · exact hw.elim
theorem qe_makLS {y : Str} (i : Nat) (g : Mak X.prog X.w X.K X.mg X.base k y (Z c) (SpI Z.g X.K c P)) (hr : Room j X.A) (hk : k + 1 ≤ j) (hx : Passes (L2.CX X.prog X.w) X E) (ha : QA Z X E (e :: es) t) (hN : X.N[i]? = some x := by rfl)
    (hv : Vis X.env.scope x := by first | exact Or.inl rfl | exact Or.inr (Or.inl rfl) | exact Or.inr (Or.inr rfl))
    (hdb : (x == ("__debug__" : Str)) = false := by decide) (hcd : (x == ("__classdict__" : Str)) = false := by decide) (he : starEach (e :: es) X.env = (false, eval e X.env) :: starEach es X.env := by rfl) (hst : (backTo pos (starEach es X.env)).any (·.1) = true := by rfl) :
    QE Z X E (.Call (.Name x p) (e :: es) [] pos) (wMakL i c P t) := by
  obtain ⟨f, M, F⟩ := g.ex
  refine L2.PE.wk (t := fun σ H Q => σ[i]? = some (some (.ref (Z c))) ∧ StX.tMakeR (Z c) (SpI Z.g X.K c P) E (RdA Z X.K E t) σ H Q) ⟨fun pins s σ H Q I h => ?_⟩ fun σ H Q h => ⟨(makl_at h).1, make_rd (makl_at h).2⟩
  obtain ⟨hs, ht⟩ := h
  refine wpAny_Call_Name_kw (thn ((pe_var (pos := p) hN hv hdb hcd).run pins s σ H (fun v H1 => v = .ref (Z c) ∧ H1 = H) I ⟨.ref (Z c), hs, rfl, rfl⟩) fun u s1 ⟨v, H1, I1, r1, q1⟩ => ?_)
  obtain ⟨rfl, rfl⟩ := q1
  cases r1
  refine PySem.W.callWith_S2 (h₀ := X.base) I.ok.mod.kin M.kp (thn (ha.run pos pins s1 σ _ _ I1 ht) fun us s2 ⟨vs, H2, I2, r, q⟩ => ⟨I2.kIn, ?_⟩) he hst
  exact StX.run_makeR M F (hr.mono hk) hx I2 r q
theorem putF_new {f : Str} {y : V} : ∀ {ns : List Str} {vs : List V}, f ∉ ns → ns.length = vs.length → putF f y (ns.zip vs) = (ns ++ [f]).zip (vs ++ [y])
  | [], [], _, _ => rfl
  | n :: ns, v :: vs, h, hl => by
    rw [List.zip_cons_cons, putF_ne (fun z => h (by rw [z]; exact List.mem_cons_self ..)), putF_new (fun z => h (List.mem_cons_of_mem _ z)) (by simpa using hl)]
    rfl
/-- self.f = e, self being made -/
theorem qs_self {f : Str} {pos' p1 : Pos} (i : Nat) {c : Nat} (hC : Cls X.K (Z c)) (hn : NoAttr X.K (Z c) f) (hN : X.N[i]? = some x) (hv : Vis X.env.scope x) (he : QE Z X E e w) (hd : (x == ("__debug__" : Str)) = false := by decide) (hcd : (x == ("__classdict__" : Str)) = false := by decide)
    (hs : swapsWith e (some (.Attribute (.Name x p1) f pos')) pos.line X.env = pure false := by rfl) : QS Z X E (.Assign [.Attribute (.Name x p1) f pos'] e pos) (wSelfC c i f w) :=
  (ps_fld (pe_var hN hv hd hcd) he hs).wk fun D σ H ⟨fr, ow, env, Kn, A, ⟨⟨ns, fs, ho⟩, hw⟩, P⟩ => by
  unfold wSelf at hw
  rw [ho] at hw
  obtain ⟨hf, hl, hz, hw⟩ := hw
  obtain ⟨dx, vs, q1, q2, q3, ql, q4⟩ := A.g.sl i _ ho
  refine ⟨fr, ow, env, _, _, A, hw, fun d v H' n r q => ⟨_, q1, ?_⟩⟩
  obtain ⟨dx', vs', z1, z2, z3, zl, z4⟩ := (A.g.mv n).sl i _ ho
  rw [A.z] at z3
  refine ⟨fr.me, Z c, dx', _, rfl, z3, hC, hn, ?_, P.nx ow _ _ _ ?_ q⟩
  · rw [List.length_zip]
    omega
  · rw [putF_new hf zl]
    have := (A.g.mv n).wrF (c := c) (dx := dx') (us := vs' ++ [v]) (ns := ns ++ [f]) (ys := fs ++ [d]) (by rw [List.length_append, List.length_append, zl] <;> rfl) i (A.g.ib ho) rfl q1 z2 (z4.app (.cons r .nil))
    rw [A.z] at this
    exact this
theorem made_lat {K : PySem.W.Frag} {d0 x dx : Addr} {M : Addr → Prop} {H1 : Hp} {o1 o2 : HO} (hx : H1 x = none) (hdx : H1 dx = none) : Lat M H1 (fun a => M a ∨ a = x) (upd (upd H1 dx o1) x o2) := fun b o _ nb e =>
  ⟨by rw [upd_ne (ne_of_none e hx), upd_ne (ne_of_none e hdx)]; exact e, fun z => z.elim nb (ne_of_none e hx)⟩
/-- the start of an __init__'s body -/
theorem init_good {K : PySem.W.Frag} {d0 x dx : Addr} {M : Addr → Prop} {H1 : Hp} {vs : List V} {ds : List D} {c n : Nat} (hD : Dice K H1 d0) (hT : LamX.Tabs Z.g.tb H1) (hM : ∀ a, M a → Has H1 a) (r : Reps Z.g d0 (fun a => a = d0 ∨ M a) H1 vs ds) (hx : H1 x = none) (hdx : H1 dx = none) (hne : dx ≠ x) (hlb : ds.length + n + 1 ≤ CBASE) :
    Good ⟨Z, K, d0, M, fun _ => False, fun _ => False, H1, fun _ => none, x⟩ (fun i => if i = 0 then some x else none) (upd (upd H1 dx (.own x)) x (.ins (Z c) dx [])) (((V.ref x :: vs).map some) ++ List.replicate n none) (.obj c [] [] :: (ds.map .val ++ List.replicate n .un)) := by
  have dx0 : H1 d0 ≠ none := by
    obtain ⟨sa, ns, p, m, c, h1, _⟩ := hD.ex
    rw [h1]
    exact fun z => by cases z
  have mm : ∀ a, MM ⟨Z, K, d0, M, fun _ => False, fun _ => False, H1, fun _ => none, x⟩ (fun i => if i = 0 then some x else none) a → (a = d0 ∨ M a) ∨ a = x := fun a h => by
    rcases h with h | h | h | ⟨i, h⟩
    · exact .inl (.inl h)
    · exact .inl (.inr h)
    · exact h.elim
    · dsimp only at h
      split at h
      · exact .inr (Option.some.inj h).symm
      · cases h
  have s12 : Same H1 (upd (upd H1 dx (.own x)) x (.ins (Z c) dx [])) := fun b o e => by
    rw [upd_ne (ne_of_none e hx), upd_ne (ne_of_none e hdx)]
    exact e
  have nx : N0 Z.g.tb K d0 H1 (upd (upd H1 dx (.own x)) x (.ins (Z c) dx [])) := .of hD s12
  refine ⟨nx, hD, hT, fun a h => ?_, fun a h => (hM a h).nn, fun a h => h.elim, fun i a h => ?_, fun i j a h h' => ?_, fun i a h z => z.elim, fun a o h => (by cases h), ?_, ?_, fun i s e => ?_⟩
  · rcases mm a h with h | h
    · rcases h with h | h
      · rw [h]; exact nx.hx _ hD.has
      · exact nx.hx _ (hM a h)
    · rw [h]
      exact ⟨_, upd_same, nx_ins⟩
  · split at h
    · cases h
      exact .inl hx
    · cases h
  · split at h
    · split at h'
      · rename_i e1 e2
        rw [e1, e2]
      · cases h'
    · cases h
  · simp [r.length]
  · simp [r.length]; omega
  · cases i with
    | zero =>
      cases e
      exact ⟨dx, [], rfl, rfl, upd_same, rfl, .nil⟩
    | succ i =>
      have e : (ds.map Sl.val ++ List.replicate n Sl.un)[i]? = some s := by simpa using e
      by_cases hi : i < ds.length
      · rw [List.getElem?_append_left (by simpa using hi), List.getElem?_map] at e
        obtain ⟨d, h1, rfl⟩ := Option.map_eq_some_iff.mp e
        obtain ⟨v, q1, q2⟩ := r.get h1
        refine ⟨v, ?_, (q2.lat (made_lat (K := K) (d0 := d0) hx hdx)).lat (.sub mm)⟩
        rw [List.map_cons, List.cons_append, List.getElem?_cons_succ, List.getElem?_append_left (by rw [List.length_map, r.length]; exact hi), List.getElem?_map, q1]
        rfl
      · rw [List.getElem?_append_right (by simpa using Nat.le_of_not_lt hi), List.getElem?_replicate] at e
        split at e
        · cases e
          exact True.intro
        · cases e
variable {b : WS}
theorem init_end {fr : Fr} {ow : Ow} {H' : Hp} {σ' : L2.St} {env' : Ev} {c : Nat} {Qp : QD} (G : Good fr ow H' σ' env') (h : (fun env => match env with
  | .obj c' ns fs :: _ => c' = c ∧ Qp (.ins c ns fs)
  | _ => False : Ev → Prop) env') : ∃ d, Rep fr.Z.g fr.d0 (M1 fr) H' (.ref fr.me) d ∧ Qp d := by
  match env', h with
  | .obj c' ns fs :: r, ⟨hc, h⟩ =>
    subst hc
    obtain ⟨dx, vs, h1, h2, h3, hl, h4⟩ := G.sl 0 _ rfl
    refine ⟨_, .ins h3 (fun z => ?_) hl (h4.lat (.sub fun b z => z.elim .inl fun z => .inr (.inl z))), h⟩
    rcases z with z | z
    · exact G.ow_d0 h2 z
    · exact G.ow_m0 h2 z
/-- what is left over stands in a new tuple -/
def SpT (n : Nat) (sp : Sp) : Sp := fun vs H Q E => ∃ ws p rest, vs = ws ++ [V.ref p] ∧ ws.length = n ∧ rest.length ≤ 1000 ∧ ∃ H0 : Hp, H0 p = none ∧ H = upd H0 p (.tup rest) ∧ sp (ws ++ rest) H0 Q E
theorem spt_of {n : Nat} {sp : Sp} {vs : List V} {H : Hp} {Q : VK} (hn : n ≤ vs.length) (hz : vs.length - n ≤ 1000) (h : sp vs H Q E) : ∃ ws rest, vs = ws ++ rest ∧ ws.length = n ∧ rest.length ≤ sizeLine ∧ ∀ p, H p = none → SpT n sp (ws ++ [V.ref p]) (upd H p (.tup rest)) Q E :=
  ⟨vs.take n, vs.drop n, (List.take_append_drop n vs).symm, by simp [hn], by rw [List.length_drop, sizeLine_eq]; omega, fun p hp => ⟨vs.take n, p, vs.drop n, rfl, by simp [hn], by rw [List.length_drop]; exact hz, H, hp, rfl, by rw [List.take_append_drop]; exact h⟩⟩
theorem initS_rd {K : PySem.W.Frag} {N : List Str} {n c : Nat} {H : Hp} {vs : List V} {Q : VK} (hn : n + 2 ≤ N.length) (hb9 : N.length ≤ CBASE) (h : SpT (n + 1) (SpI Z.g K c (specIS c n N.length b)) vs H Q E) :
    RdS Z K E b { nx := fun _ H' => Q .non H', rt := Q } (L2.start N vs) H := by
  obtain ⟨ws, p, rest, rfl, hw, hr, H0, hp, rfl, x, dx, us, d0, M, ds, Qp, Ep, H1, ev, hx, hdx, hne, eH, hD, hT, hM, r, ⟨hl, hl2, hb⟩, post, per⟩ := h
  -- the tuple is laid behind the instance: the frame starts where both stand
  cases ws with
  | nil => simp at hw
  | cons w0 ws =>
    rw [List.cons_append] at ev
    cases ev
    have hw : ws.length = n := by simpa using hw
    have e1 : ws = (ws ++ rest).take n := by rw [List.take_append_of_le_length (by omega), List.take_of_length_le (by omega)]
    have e2 : rest = (ws ++ rest).drop n := by rw [← hw, List.drop_left]
    have rt := r.take n
    have rd := r.drop n
    rw [← e1] at rt
    rw [← e2] at rd
    have px : p ≠ x := fun z => by rw [z, eH, upd_same] at hp; cases hp
    have pdx : p ≠ dx := fun z => by
      rw [z, eH, upd_ne hne, upd_same] at hp
      cases hp
    have p1 : H1 p = none := by
      rw [eH, upd_ne px, upd_ne pdx] at hp
      exact hp
    have nM : ¬ (p = d0 ∨ M p) := fun z => by
      rcases z with z | z
      · obtain ⟨sa, ns, p', m, c, h1, _⟩ := hD.ex
        rw [z, h1] at p1
        cases p1
      · exact (hM p z).nn p1
    have hD' : Dice K (upd H1 p (.tup rest)) d0 := hD.same (Same.new p1)
    have L : Lat (fun a => a = d0 ∨ M a) H1 (fun a => a = d0 ∨ M a) (upd H1 p (.tup rest)) := fun a o _ n e => ⟨by rw [upd_ne (ne_of_none e p1)]; exact e, n⟩
    have hT' : LamX.Tabs Z.g.tb (upd H1 p (.tup rest)) := hT.ext (Same.new p1)
    have G := init_good (Z := Z) (K := K) (x := x) (dx := dx) (c := c) (n := N.length - n - 2) (vs := ws ++ [V.ref p]) (ds := ds.take n ++ [.tup (ds.drop n)]) hD' hT' (fun a h => (by obtain ⟨o, q, n⟩ := hM a h; exact ⟨o, by rw [upd_ne (fun z => nM (.inr (by rw [← z]; exact h)))]; exact q, n⟩)) ((rt.lat L).app (.cons (.tup upd_same nM (rd.lat L)) .nil)) (by rw [upd_ne (Ne.symm px)]; exact hx) (by rw [upd_ne (Ne.symm pdx)]; exact hdx) hne (by simp; omega)
    have ec : upd (upd (upd H1 p (.tup rest)) dx (.own x)) x (.ins (Z c) dx []) = upd (upd (upd H1 dx (.own x)) x (.ins (Z c) dx [])) p (.tup rest) := by
      funext a
      by_cases h1 : a = p
      · subst h1
        rw [upd_same, upd_ne px, upd_ne pdx, upd_same]
      · rw [upd_ne h1]
        by_cases h2 : a = x
        · subst h2
          rw [upd_same, upd_same]
        · rw [upd_ne h2, upd_ne h2]
          by_cases h3 : a = dx
          · subst h3
            rw [upd_same, upd_same]
          · rw [upd_ne h3, upd_ne h3, upd_ne h1]
    rw [ec, ← eH] at G
    have e : L2.start N (V.ref x :: ws ++ [V.ref p]) = ((V.ref x :: (ws ++ [V.ref p])).map some) ++ List.replicate (N.length - n - 2) none := by
      unfold L2.start
      rw [List.cons_append, List.length_cons, List.length_append, hw]
      rfl
    rw [e]
    have n0 : N0 Z.g.tb K d0 H1 (upd H1 p (.tup rest)) := .of hD (Same.new p1)
    refine ⟨⟨Z, K, d0, M, fun _ => False, fun _ => False, upd H1 p (.tup rest), fun _ => none, x⟩, _, _, ⟨fun env => match env with
      | .obj c' ns fs :: _ => c' = c ∧ Qp (.ins c ns fs)
      | _ => False, fun _ _ => False, fun _ => False, fun _ => False, fun x _ => Ep x⟩, ⟨rfl, rfl, G, fun er cls dd H' nx re q => per er cls dd H' (n0.trans (G.nx.trans nx)) (re.lat (.sub fun a z => z.elim .inl fun z => .inr (.inl z))) q⟩, ?_, fun ow' env' σ' H' G q => ?_, fun d v _ _ _ H' nx r q => q.elim, fun _ _ _ _ _ z => z.elim, fun _ _ _ _ _ z => z.elim, fun er cls dd ow' env' σ' H' G re q => per er cls dd H' (n0.trans G.nx) (re.lat (.sub fun a z => z.elim .inl fun z => .inr (.inl z))) q⟩
    · rw [List.map_append, List.append_assoc]
      exact hb
    · obtain ⟨d, h1, h2⟩ := init_end G q
      exact post d H' (n0.trans G.nx) h1 h2
theorem initS_len {K : PySem.W.Frag} {N : List Str} {n c : Nat} {H : Hp} {vs : List V} {Q : VK} (h : SpI Z.g K c (specIS c n N.length b) vs H Q E) : n + 1 ≤ vs.length ∧ vs.length - (n + 1) ≤ 1000 := by
  obtain ⟨x, dx, us, d0, M, ds, Qp, Ep, H1, rfl, hx, hdx, hne, rfl, hD, hT, hM, r, ⟨hl, hl2, hb⟩, post, per⟩ := h
  rw [List.length_cons, r.length]
  omega
end
end Oil
namespace Oil
open PySem PySem.Spec PyProof.Rows L2
section
variable {Z : ZM} {X : Cx} {E : XK} {e e1 e2 e3 : Expr} {es : List Expr} {w w1 w2 w3 : WE} {t t2 : WA} {u u1 u2 : WT} {pos p : Pos} {i : Nat} {x : Str} {k j : Nat} {P : PSpec} {c : Nat}
theorem pg_tp {is : List Nat} {es : List Expr} {kk : Nat} (hc : X.calm = true) (hn : (assignEach es X.env).length = is.length) (h : PGs X es (gNs is)) (hst : (assignEach es X.env).findIdx? (·.1) = none := by rfl) : PG X (.Tuple es kk pos) (Tgt.raw X.K (.tp is)) := pg_tup hc h hn hst
theorem cs0 (K : PySem.W.Frag) : ∀ c ∈ ([] : List Nat), Oc K (Z c) ∧ NotC K (Z c) := fun c h => by cases h
theorem cs1 {K : PySem.W.Frag} (h1 : Oc K (Z c)) (h2 : NotC K (Z c)) : ∀ c' ∈ [c], Oc K (Z c') ∧ NotC K (Z c') := fun c' h => by
  rw [List.mem_singleton.mp h]
  exact ⟨h1, h2⟩
theorem len_K1 {prog : Program} {w : World} {A : Around} {E : Value → Shared → Prop} {s : Shared} {K : PySem.W.Frag} {x C f : Addr} {ox : Obj} {od : Option Obj} {Q : Value → Shared → Prop} (X0 : K.In s.heap) (I : PySem.W.InstAt s.heap x ox C od) (hs : PySem.W.findIn K (.ref C) "__len__" = some (some (.ref f))) (hf : PySem.W.isFn K (.ref f) = true)
    (h : wpAny (model prog w) A.in1 (call (.ref f) [.ref x]) (PySem.W.LenBack Q) E s) : wpAny (model prog w) A (call (.builtin "len") [.ref x]) Q E s := by
  refine Calls.call_function_entry PySem.kind_len PySem.plain_len PySem.entry_len (PySem.args_len1 _) ?_
  unfold Builtin.«len»
  refine wpAny_bind (m := oneArg "len" _) (wpAny_pure ?_)
  refine wpAny_bind (m := callSpecial? (.ref x) (Str.ofString "__len__")) (PySem.W.special_fn X0 I hs (beq_iff_eq.mp hf) (wpAny_mono h (fun r s' hr => ?_) fun _ _ y => y))
  cases r <;> first | exact hr.elim | skip
  rename_i n u
  obtain ⟨⟨h0, h1⟩, hq⟩ := hr
  refine wpAny_bind (wpAny_holding (wpAny_pure ?_))
  refine wpAny_bind (wpAny_letGo ?_)
  show wpAny _ _ (if n < 0 then _ else _) _ _ _
  rw [if_neg (by omega)]
  show wpAny _ _ (if n ≥ 2 ^ 63 then _ else _) _ _ _
  rw [if_neg (by omega)]
  exact wpAny_bind (wpAny_mkInt (wpAny_pure ⟨_, rfl, hq⟩))
/-- len(o) by the class's own __len__ -/
structure LenO (P : Program) (w : World) (K : PySem.W.Frag) (mg : Str → Option Value) (base : Heap) (k : Nat) (C : Addr) (sp : Sp) : Prop where
  ex : ∃ g, PySem.W.findIn K (.ref C) "__len__" = some (some (.ref g)) ∧ PySem.W.isFn K (.ref g) = true ∧ FnR P w K mg base (L2.CX P w) k g sp
/-- o[i] by the class's own __getitem__ -/
structure GetO (P : Program) (w : World) (K : PySem.W.Frag) (mg : Str → Option Value) (base : Heap) (k : Nat) (C : Addr) (sp : Sp) : Prop where
  ex : ∃ g, PySem.W.findIn K (.ref C) "__getitem__" = some (some (.ref g)) ∧ PySem.W.fnIn K g = true ∧ PySem.W.isFn K (.ref g) = true ∧ FnR P w K mg base (L2.CX P w) k g sp
def cLenO (C : Addr) (sp : Sp) (E : XK) : List V → Hp → VK → Prop := fun xs H Q => ∃ (a dx : Addr) (fs : List (Str × V)), xs = [.ref a] ∧ H a = some (.ins C dx fs) ∧ sp [.ref a] H (fun v H' => ∃ n : Int, v = .int n ∧ (0 ≤ n ∧ n < 2 ^ 62) ∧ Q (.int n) H') E
theorem call_lenO {C : Addr} {sp : Sp} (g : LenO X.prog X.w X.K X.mg X.base k C sp) (hr : Room j X.A) (hk : k + 1 ≤ j) (hx2 : Passes (L2.CX X.prog X.w) X E) : CallR X (.builtin "len") (cLenO C sp E) := by
  intro pins s σ H xs us Q I r h
  obtain ⟨f, hs, hf, F⟩ := g.ex
  obtain ⟨a, dx, fs, rfl, ha, q⟩ := h
  obtain rfl := Vals.ref1 r
  obtain ⟨ox, od, J⟩ := inst_of I ha
  have hr' : Room k X.A.in1 := (hr.mono hk).in1
  refine len_K1 I.kIn J hs hf (wpAny_call (codeAny_mono (F X.A.in1 X.stack s H [.ref a] [.ref a] _ E hr' I.env0.in1 (.cons rfl .nil) q) fun r s' hq => ?_))
  cases r with
  | error er => exact hx2 pins σ H s er s' I hq
  | ok fl =>
    cases fl with
    | ret u =>
      obtain ⟨v, H', I3, rv, n, rfl, hn, q3⟩ := I.after hq
      obtain ⟨t, rfl⟩ := rv
      exact ⟨⟨hn.1, by have := hn.2; omega⟩, .int n, H', I3.tok _, ⟨_, rfl⟩, q3⟩
    | next => exact False.elim hq
    | brk => exact False.elim hq
    | cont => exact False.elim hq
theorem qe_lenO (g : LenO X.prog X.w X.K X.mg X.base k (Z c) (SpD Z.g X.K P)) (hr : Room j X.A) (hk : k + 1 ≤ j) (hx : Passes (L2.CX X.prog X.w) X E) (hg : Gl X x) (hm : X.mg x = none) (hv : bootBuiltins x = some (.builtin "len")) (ha : QE Z X E e w) (hn : x ≠ "__name__" := by decide) (hdb : (x == ("__debug__" : Str)) = false := by decide)
    (he : starEach [e] X.env = (false, eval e X.env) :: starEach [] X.env := by rfl) (hpl : (backTo pos (starEach [] X.env)).any (·.1) = false := by rfl) : QE Z X E (.Call (.Name x p) [e] [] pos) (wLenO c P w) :=
  (pe_callB (call_lenO (E := E) g hr hk hx) hg hm hv (pa_cons ha pa_nil he) hn hdb he hpl).wk fun σ H Q ⟨fr, ow, env, Qp, Ep, A, hw, post⟩ =>
  ⟨fr, ow, env, _, Ep, A, hw, fun d v H1 n1 r1 q1 => by
    cases d <;> try exact (show False from q1).elim
    obtain ⟨rfl, q1⟩ := q1
    obtain ⟨a, dx, vs, rfl, ha⟩ := r1.insAt A.z
    exact ⟨a, dx, _, rfl, ha, spd_of A n1 (.cons r1 .nil) q1 fun d v H' n r q => by
      cases r <;> try exact (show False from q).elim
      exact ⟨_, rfl, q.1, post _ _ _ n (.int _) q.2⟩⟩⟩
/-- o[i] -/
def rGet (C : Addr) (sp : Sp) (E : XK) : R2 := fun x y H Q => ∃ (a dx : Addr) (fs : List (Str × V)), x = .ref a ∧ H a = some (.ins C dx fs) ∧ sp [x, y] H Q E
theorem pe_get {C : Addr} {sp : Sp} {ta tb : TE} (g : GetO X.prog X.w X.K X.mg X.base k C sp) (hr : Room j X.A) (hk : k + 1 ≤ j) (hx : Passes (L2.CX X.prog X.w) X E) (ha : PE X e1 ta) (hb : PE X e2 tb)
    (hsl : ∀ (a : Addr) (v : Value), subscripted e2 true (.ref a) v = runValue (.builtin "lifetime.subscript" ⟨[.ref a, v], []⟩) := by intro _ _; with_unfolding_all rfl)
    (hev : eval (.Subscript e1 e2 pos) X.env = (do
      let o ← eval e1 X.env
      let i ← holding [o] (eval e2 X.env)
      standAt pos
      subscriptTail e1 e2 o i) := by rfl) : PE X (.Subscript e1 e2 pos) (tOp (rGet C sp E) ta tb) := by
  refine ⟨fun pins s σ H Q I h => ?_⟩
  refine Subscript_ (thn (ha.run pins s σ H _ I h) fun v s1 ⟨x, H1, I1, r1, q1⟩ => ?_)
  refine thn (hb.run pins s1 σ H1 _ I1 q1) fun u s2 ⟨y, H2, I2, r2, q2⟩ => ?_
  obtain ⟨a, dx, fs, rfl, ha, q⟩ := q2
  obtain ⟨f, hs, hf, hfn, F⟩ := g.ex
  cases (show v = Value.ref a from r1)
  obtain ⟨ox, od, J⟩ := inst_of I2 ha
  obtain ⟨m, hF⟩ := I2.fr
  have hr' : Room k X.A.in1 := (hr.mono hk).in1
  refine PySem.W.sub_K hF I2.ok.mod.kin J hs hf hfn (wpAny_call (codeAny_mono (F X.A.in1 X.stack s2 H2 [.ref a, u] [.ref a, y] Q E hr' I2.env0.in1 (.cons rfl (.cons r2 .nil)) q) fun r s' hq => ?_)) (hsl a u)
  cases r with
  | error er => exact hx pins σ H2 s2 er s' I2 hq
  | ok fl =>
    cases fl with
    | ret u => exact I2.after hq
    | next => exact False.elim hq
    | brk => exact False.elim hq
    | cont => exact False.elim hq
theorem qe_get (g : GetO X.prog X.w X.K X.mg X.base k (Z c) (SpD Z.g X.K P)) (hr : Room j X.A) (hk : k + 1 ≤ j) (hx : Passes (L2.CX X.prog X.w) X E) (ha : QE Z X E e1 w1) (hb : QE Z X E e2 w2)
    (hsl : ∀ (a : Addr) (v : Value), subscripted e2 true (.ref a) v = runValue (.builtin "lifetime.subscript" ⟨[.ref a, v], []⟩) := by intro _ _; with_unfolding_all rfl) : QE Z X E (.Subscript e1 e2 pos) (wGet c P w1 w2) :=
  (pe_get g hr hk hx ha hb hsl).wk fun σ H Q ⟨fr, ow, env, Qp, Ep, A, hw, post⟩ =>
  ⟨fr, ow, env, _, Ep, A, hw, fun d v H1 n1 r1 q1 => ⟨fr, ow, env, _, Ep, A.mv n1, q1, fun d2 v2 H2 n2 r2 q2 => by
    have r1 := r1.lat (Nz.lat n2 MM.d0)
    cases d <;> try exact (show False from q2).elim
    obtain ⟨rfl, q2⟩ := q2
    obtain ⟨a, dx, vs, rfl, ha⟩ := r1.insAt A.z
    exact ⟨a, dx, _, rfl, ha, spd_of A (n1.trans n2) (.cons r1 (.cons r2 .nil)) q2 post⟩⟩⟩
end
/-- a draw below n -/
def S_next : PSpec := fun ds Q _ => ∃ n, ds = [.dice, .int n] ∧ 0 < n ∧ n < 2 ^ 100 ∧ ∀ r : Int, 0 ≤ r → r < n → Q (.int r)
theorem next_spd {Z : ZG} {K : PySem.W.Frag} {vs : List V} {H : Hp} {Q : VK} {E : XK} (h : SpD Z K S_next vs H Q E) : Sp2 (q_next K) vs H Q E := by
  obtain ⟨d0, M, ds, Qp, Ep, hD, hT, hM, r, ⟨n, rfl, n0, n1, q⟩, post, per⟩ := h
  cases r with
  | cons r1 r2 =>
    cases r2 with
    | cons r2 r3 =>
      cases r3
      cases r1
      cases r2
      exact ⟨_, _, rfl, d0, n, rfl, rfl, n0, n1, hD, fun r H' r0 r1 nx => post _ _ H' (.ofNx hD nx) (.int _) (q r r0 r1)⟩
/-- the law's frame behind its draws' making: the draws at d, their name in slot i -/
theorem law_good {Z : ZM} {K : PySem.W.Frag} {d0 : Addr} {H : Hp} {σ : L2.St} {i n : Nat} (hD : Dice K H d0) (hT : LamX.Tabs Z.g.tb H) (hl : σ.length = n) (hi : i < n) (hs : σ[i]? = some (some (.ref d0))) (hb9 : n ≤ CBASE) :
    Good ⟨Z, K, d0, fun _ => False, fun _ => False, fun _ => False, H, fun _ => none, d0⟩ (fun _ => none) H σ ((List.replicate n Sl.un).set i (.val .dice)) := by
  have dx : H d0 ≠ none := by
    obtain ⟨sa, ns, p, m, c, h1, _⟩ := hD.ex
    rw [h1]
    exact fun z => by cases z
  refine ⟨.refl hD, hD, hT, fun a h => ?_, fun a h => h.elim, fun a h => h.elim, fun i a h => (by cases h), fun i j a h => (by cases h), fun i a h => (by cases h), fun a o h => (by cases h), by simp [hl], by rw [hl]; exact hb9, fun j s e => ?_⟩
  · rcases h with h | h | h | ⟨i, h⟩
    · rw [h]; exact hD.has
    · exact h.elim
    · exact h.elim
    · cases h
  · rw [List.getElem?_set] at e
    split at e
    · rename_i hij
      subst hij
      split at e
      · cases e
        exact ⟨_, hs, .dice⟩
      · cases e
    · rw [List.getElem?_replicate] at e
      split at e
      · cases e
        exact True.intro
      · cases e
/-- what a law's rest must come to, by data -/
def LawEnd : KN := ⟨fun _ => False, fun d _ => d = .bl true, fun _ => False, fun _ => False, fun _ _ => False⟩
theorem law_rd {Z : ZM} {K : PySem.W.Frag} {E : XK} {b : WS} {d0 : Addr} {H : Hp} {σ : L2.St} {i n : Nat} {D : Ends} (hD : Dice K H d0) (hT : LamX.Tabs Z.g.tb H) (hl : σ.length = n) (hi : i < n) (hs : σ[i]? = some (some (.ref d0))) (hb9 : n ≤ CBASE) (hb : b ((List.replicate n Sl.un).set i (.val .dice)) LawEnd) (q : ∀ H', D.rt (.bl true) H') :
    RdS Z K E b D σ H :=
  ⟨_, _, _, LawEnd, ⟨rfl, rfl, law_good hD hT hl hi hs hb9, fun _ _ _ _ _ _ z => z.elim⟩, hb, fun _ _ _ _ _ z => z.elim, fun d v _ _ _ H' _ r e => by
    subst e
    cases r
    exact q H', fun _ _ _ _ _ z => z.elim, fun _ _ _ _ _ z => z.elim, fun _ _ _ _ _ _ _ _ _ z => z.elim⟩
end Oil
namespace Oil
structure Str3 where
  need : Option Int
  gain : Int
  top : Int
  deriving DecidableEq
namespace Str3
def barred : Str3 := ⟨none, 0, 0⟩
/-- what every stretch of the program keeps -/
def Ok (s : Str3) : Prop := match s.need with
  | none => s.gain = 0 ∧ s.top = 0
  | some n => 0 ≤ n ∧ 0 ≤ n + s.gain ∧ 0 ≤ s.top
/-- one after the other -/
def add (a b : Str3) : Str3 := match a.need, b.need with
  | some n, some m => if a.top < m then barred else ⟨some (max n (m - a.gain)), a.gain + b.gain, min (a.top + b.gain) b.top⟩
  | _, _ => barred
theorem add_none {a b : Str3} (h : a.need = none ∨ b.need = none) : a.add b = barred := by
  unfold add
  rcases h with h | h
  · rw [h]
  · rw [h]
    cases a.need <;> rfl
theorem add_some {n g t m g' t' : Int} : (Str3.mk (some n) g t).add ⟨some m, g', t'⟩ = if t < m then barred else ⟨some (max n (m - g)), g + g', min (t + g') t'⟩ := rfl
theorem barred_add (a : Str3) : barred.add a = barred := add_none (.inl rfl)
theorem add_barred (a : Str3) : a.add barred = barred := add_none (.inr rfl)
theorem add_assoc (a b c : Str3) : (a.add b).add c = a.add (b.add c) := by
  obtain ⟨na, ga, ta⟩ := a
  obtain ⟨nb, gb, tb⟩ := b
  obtain ⟨nc, gc, tc⟩ := c
  cases na with
  | none => rw [add_none (a := ⟨none, ga, ta⟩) (.inl rfl), barred_add, add_none (.inl rfl)]
  | some n =>
    cases nb with
    | none => rw [add_none (b := ⟨none, gb, tb⟩) (.inr rfl), barred_add, add_none (a := ⟨none, gb, tb⟩) (.inl rfl), add_barred]
    | some m =>
      cases nc with
      | none => rw [add_none (b := ⟨none, gc, tc⟩) (.inr rfl), add_none (b := ⟨none, gc, tc⟩) (.inr rfl), add_barred]
      | some k =>
        rw [add_some, add_some]
        by_cases h1 : ta < m
        · rw [if_pos h1, barred_add]
          by_cases h2 : tb < k
          · rw [if_pos h2, add_barred]
          · rw [if_neg h2, add_some, if_pos (by omega)]
        · rw [if_neg h1, add_some]
          by_cases h2 : tb < k
          · rw [if_pos h2, add_barred, if_pos (by omega)]
          · rw [if_neg h2, add_some]
            by_cases h3 : ta + gb < k
            · rw [if_pos (by omega), if_pos (by omega)]
            · rw [if_neg (by omega), if_neg (by omega)]
              have e1 : max (max n (m - ga)) (k - (ga + gb)) = max n (max m (k - gb) - ga) := by omega
              have e2 : min (min (ta + gb) tb + gc) tc = min (ta + (gb + gc)) (min (tb + gc) tc) := by omega
              rw [e1, e2, Int.add_assoc]
/-- n + 1 times -/
def rep (s : Str3) : Nat → Str3
  | 0 => s
  | n + 1 => (rep s n).add s
/-- so many times, from 1 on -/
def mul (s : Str3) (n : Int) : Str3 := rep s (n.toNat - 1)
theorem mul_one (s : Str3) : s.mul 1 = s := rfl
end Str3
end Oil
namespace Oil
open PySem PySem.Spec PyProof.Rows L2
def dN : Option Int → D
  | none => .non
  | some n => .int n
def b_law_capacity : WS := (wRet (wOp oAdd (wC (.int 1)) (wCall S_next (wCons (wName 0) (wCons (wOp oIx (wLst (wCons (wC (.int 9)) (wCons (wC (.int 30)) (wCons (wC (.int 120)) wNil)))) (wCall S_next (wCons (wName 0) (wCons (wC (.int 3)) wNil)))) wNil)))))
def S_law_capacity : PSpec := specOf 1 1 b_law_capacity
def b_law_posts : WS := (wSeq (wSet 2 (wOp oIx (wLst (wCons (wC (.int 4)) (wCons (wC (.int 9)) (wCons (wC (.int 40)) wNil)))) (wCall S_next (wCons (wName 0) (wCons (wC (.int 3)) wNil)))))
    (wSeq (wSetO 3 (wLc (wRange1 (wOp oAdd (wC (.int 1)) (wCall S_next (wCons (wName 0) (wCons (wName 1) wNil))))) (.nm 5) wYes (wTup (wCons (wCall S_next (wCons (wName 0) (wCons (wOp oAdd (wName 2) (wC (.int 2))) wNil))) (wCons (wOp oAdd (wC (.int 1)) (wCall S_next (wCons (wName 0) (wCons (wName 2) wNil)))) wNil))) [5]))
    (wSeq (wSet 4 (wCB bSum (wCons (wLc (wIter (wOwn 3)) (.tp [6, 7]) wYes (wOp oSub (wName 7) (wName 6)) [6, 7]) wNil)))
    (wSeq (wIfS (wtAnd (wtVal (wOp oGt (wName 4) (wC (.int 0)))) (wtVal (wOp oGt (wCall S_next (wCons (wName 0) (wCons (wC (.int 3)) wNil))) (wC (.int 0)))))
    (wPutI 3 (wC (.int 0)) (wTup (wCons (wOp oAdd (wOp oIx (wOp oIx (wOwn 3) (wC (.int 0))) (wC (.int 0))) (wName 4)) (wCons (wOp oIx (wOp oIx (wOwn 3) (wC (.int 0))) (wC (.int 1))) wNil))))
    wSkip)
    (wFrz 3 (wRet (wName 3)))))))
def S_law_posts : PSpec := specOf 2 8 b_law_posts
def b_is_number : WS := (wRet (wAnd (wCB (bIsiC []) (wCons (wName 0) (wCons (wC (.ty "int")) wNil))) (wNot (wCB (bIsiC []) (wCons (wName 0) (wCons (wC (.ty "bool")) wNil))))))
def S_is_number : PSpec := specOf 1 1 b_is_number
def b_is_number_within : WS := (wRet (wAnd (wCall S_is_number (wCons (wName 0) wNil)) (wChain oLe oLe (wName 1) (wName 0) (wName 2))))
def S_is_number_within : PSpec := specOf 3 3 b_is_number_within
def b_check_number_within : WS := (wIfS (wtNot (wtVal (wCall S_is_number_within (wCons (wName 0) (wCons (wName 1) (wCons (wName 2) wNil))))))
    (wRaise 3)
    wSkip)
def S_check_number_within : PSpec := specOf 3 3 b_check_number_within
def b_is_post : WS := (wRet (wAnd (wCB (bIsiC []) (wCons (wName 0) (wCons (wC (.ty "tuple")) wNil))) (wAnd (wOp oEq (wCB bLen (wCons (wName 0) wNil)) (wC (.int 2))) (wAnd (wCall S_is_number_within (wCons (wOp oIx (wName 0) (wC (.int 0))) (wCons (wC (.int 0)) (wCons (wC (.int 1000000000)) wNil)))) (wCall S_is_number_within (wCons (wOp oIx (wName 0) (wC (.int 1))) (wCons (wC (.int 1)) (wCons (wC (.int 1000000000)) wNil))))))))
def S_is_post : PSpec := specOf 1 1 b_is_post
def b_first_wrong : WS := (wSeq (wFor (wEnumT (wName 0)) (.tp [1, 2])
    (wIfS (wtOr (wtVal (wOp oEq (wName 1) (wC (.int 12)))) (wtNot (wtVal (wCall S_is_post (wCons (wName 2) wNil)))))
    (wRet (wName 1))
    wSkip))
    (wRet (wIf (wtTru (wName 0)) (wC .non) (wC (.int 0)))))
def S_first_wrong : PSpec := specOf 1 3 b_first_wrong
def b_Way_init : WS := (wSeq (wIfS (wtNot (wtVal (wCall S_is_number_within (wCons (wName 1) (wCons (wC (.int 1)) (wCons (wC (.int 1000000000)) wNil))))))
    (wRaiseX 1 ["part", "index"] (wCons (wC (.str "capacity")) (wCons (wC (.int 0)) wNil)))
    wSkip)
    (wSeq (wSet 3 (wCall S_first_wrong (wCons (wName 2) wNil)))
    (wSeq (wIfS (wtVal (wOp oIsNot (wName 3) (wC .non)))
    (wRaiseX 1 ["part", "index"] (wCons (wC (.str "posts")) (wCons (wName 3) wNil)))
    wSkip)
    (wSeq (wSelfC 13 0 "_capacity" (wName 1))
    (wSelfC 13 0 "_posts" (wName 2))))))
def S_Way_init : PSpec := specIS 13 1 4 b_Way_init
def b_Way_even : WS := (wSeq (wExpr (wCall S_check_number_within (wCons (wName 2) (wCons (wC (.int 1)) (wCons (wC (.int 12)) wNil)))))
    (wSeq (wSet 5 (wLc (wRange1 (wName 2)) (.nm 6) wYes (wTup (wCons (wName 3) (wCons (wName 4) wNil))) [6]))
    (wRet (wMakL 0 13 S_Way_init (wCons (wName 1) (wStar (wName 5) wNil))))))
def S_Way_even : PSpec := specOf 5 7 b_Way_even
def b_check_post : WS := (wIfS (wtNot (wtVal (wCall S_is_number_within (wCons (wName 0) (wCons (wC (.int 0)) (wCons (wOp oSub (wName 1) (wC (.int 1))) wNil))))))
    (wRaise 2)
    wSkip)
def S_check_post : PSpec := specOf 2 2 b_check_post
def b_Way_with_post : WS := (wSeq (wExpr (wCall S_check_post (wCons (wName 1) (wCons (wCB bLen (wCons (wFld 13 "_posts" (wName 0)) wNil)) wNil))))
    (wSeq (wSetO 4 (wCB bList (wCons (wFld 13 "_posts" (wName 0)) wNil)))
    (wSeq (wPutI 4 (wName 1) (wTup (wCons (wName 2) (wCons (wName 3) wNil))))
    (wRet (wCall S_Way_init (wCons (wFld 13 "_capacity" (wName 0)) (wStar (wOwn 4) wNil)))))))
def S_Way_with_post : PSpec := specOf 4 5 b_Way_with_post
def b_law_way : WS := (wSeq (wSet 2 (wCMeth 13 S_Way_even (wC (.cls 13)) (wCons (wName 0) (wCons (wCB bLen (wCons (wName 1) wNil)) (wCons (wC (.int 0)) (wCons (wC (.int 1)) wNil))))))
    (wSeq (wFor (wRange1 (wCB bLen (wCons (wName 1) wNil))) (.nm 3)
    (wSet 2 (wMeth 13 "with_post" S_Way_with_post (wName 2) (wCons (wName 3) (wCons (wOp oIx (wOp oIx (wName 1) (wName 3)) (wC (.int 0))) (wCons (wOp oIx (wOp oIx (wName 1) (wName 3)) (wC (.int 1))) wNil))))))
    (wRet (wName 2))))
def S_law_way : PSpec := specOf 2 4 b_law_way
def b_law_drawn : WS := (wSeq (wParN (wpVal 2 (wCall S_law_posts (wCons (wName 0) (wCons (wName 1) wNil))) (wpVal 3 (wCall S_law_capacity (wCons (wName 0) wNil)) wpNil)))
    (wRet (wTup (wCons (wCall S_law_way (wCons (wName 3) (wCons (wName 2) wNil))) (wCons (wName 3) (wCons (wName 2) (wCons (wCall S_next (wCons (wName 0) (wCons (wCB bLen (wCons (wName 2) wNil)) wNil))) (wCons (wCall S_next (wCons (wName 0) (wCons (wOp oAdd (wName 3) (wC (.int 1))) wNil))) wNil))))))))
def S_law_drawn : PSpec := specOf 2 4 b_law_drawn
def b_Way_len : WS := (wRet (wCB bLen (wCons (wFld 13 "_posts" (wName 0)) wNil)))
def S_Way_len : PSpec := specOf 1 1 b_Way_len
def b_Way_capacity : WS := (wRet (wFld 13 "_capacity" (wName 0)))
def S_Way_capacity : PSpec := specOf 1 1 b_Way_capacity
def b_check_start : WS := (wSeq (wExpr (wCall S_check_post (wCons (wName 1) (wCons (wLenO 13 S_Way_len (wName 0)) wNil))))
    (wExpr (wCall S_check_number_within (wCons (wName 2) (wCons (wC (.int 0)) (wCons (wProp 13 S_Way_capacity (wName 0)) wNil))))))
def S_check_start : PSpec := specOf 3 3 b_check_start
def b_Way_posts : WS := (wRet (wFld 13 "_posts" (wName 0)))
def S_Way_posts : PSpec := specOf 1 1 b_Way_posts
def b_Way_getitem : WS := (wSeq (wExpr (wCall S_check_post (wCons (wName 1) (wCons (wCB bLen (wCons (wFld 13 "_posts" (wName 0)) wNil)) wNil))))
    (wRet (wOp oIx (wFld 13 "_posts" (wName 0)) (wName 1))))
def S_Way_getitem : PSpec := specOf 2 2 b_Way_getitem
def b_taken : WS := (wRet (wCB bMin2 (wCons (wProp 13 S_Way_capacity (wName 0)) (wCons (wOp oAdd (wName 2) (wOp oIx (wGet 13 S_Way_getitem (wName 0) (wName 1)) (wC (.int 0)))) wNil))))
def S_taken : PSpec := specOf 3 3 b_taken
def b_Way_eq : WS := (wRet (wAnd (wCB (bIsiC [13]) (wCons (wName 1) (wCons (wC (.cls 13)) wNil))) (wAnd (wOp oEq (wFld 13 "_capacity" (wName 0)) (wFld 13 "_capacity" (wName 1))) (wOp oEq (wFld 13 "_posts" (wName 0)) (wFld 13 "_posts" (wName 1))))))
def S_Way_eq : PSpec := specOf 2 2 b_Way_eq
end Oil
namespace Oil
open PySem PySem.Spec PyProof.Rows L2
def kAnd (A : Prop) (Q : QD) : QD
  | .bl true => A
  | .bl false => Q (.bl false)
  | _ => False
def kOr (A : Prop) (Q : QD) : QD
  | .bl true => Q (.bl true)
  | .bl false => A
  | _ => False
def kNot (Q : QD) : QD
  | .bl b => Q (.bl !b)
  | _ => False
def kVal (Q : Bool → Prop) : QD
  | .bl b => Q b
  | _ => False
def kNeg (Q : QD) : QD
  | .int i => Q (.int (-i))
  | _ => False
def kPart (Q : Option Int → Prop) : QD
  | .int i => Q (some i)
  | _ => False
def kRg1 (Q : List D → Prop) : QD
  | .int n => (-(2 ^ 62) ≤ n ∧ n < 2 ^ 62) ∧ Q (intD 0 n.toNat)
  | _ => False
def kRg2 (Q : List D → Prop) (x : D) : QD := fun y => match x, y with
  | .int m, .int n => (-(2 ^ 62) ≤ m ∧ m < 2 ^ 62 ∧ -(2 ^ 62) ≤ n ∧ n < 2 ^ 62) ∧ Q (intD m (n - m).toNat)
  | _, _ => False
def kIter (Q : List D → Prop) : QD := fun x => match x.items with
  | some xs => Q xs
  | none => False
def kTru (Q : Bool → Prop) : QD := fun x => match x.tru with
  | some b => Q b
  | none => False
def kStar (r : WA) (env : Ev) (Q : List D → Prop) (E : QR) : QD := fun x => match x.items with
  | some ys => r env (fun xs => Q (ys ++ xs)) E
  | none => False
def kSlice (l h : Option Int) (Q : QD) : QD
  | .lst xs => Q (.lst (cutD xs l h))
  | .tup xs => Q (.tup (cutD xs l h))
  | _ => False
def kFld (c : Nat) (f : Str) (Q : QD) : QD
  | .ins c' ns xs => c' = c ∧ ∃ d, (ns.zip xs).lookup f = some d ∧ Q d
  | _ => False
def kMeth (c : Nat) (m : Str) (s : PSpec) (t : WA) (env : Ev) (Q : QD) (E : QR) : QD
  | .ins c' ns xs => c' = c ∧ m ∉ ns ∧ t env (fun ds => s (.ins c' ns xs :: ds) Q E) E
  | _ => False
def kClo (c : Nat) (s : PSpec) (t : WA) (env : Ev) (Q : QD) (E : QR) : QD
  | .ins c' ns xs => c' = c ∧ t env (fun ds => s (.ins c' ns xs :: ds) Q E) E
  | _ => False
def kProp (c : Nat) (s : PSpec) (Q : QD) : QD
  | .ins c' ns xs => c' = c ∧ s [.ins c' ns xs] Q (fun _ => False)
  | _ => False
def kInv (c : Nat) (s : PSpec) (Q : QD) (E : QR) : QD
  | .ins c' ns xs => c' = c ∧ s [.ins c' ns xs] Q E
  | _ => False
def kLenI (Q : QD) : QD
  | .int n => (0 ≤ n ∧ n < 2 ^ 62) ∧ Q (.int n)
  | _ => False
def kLenO (c : Nat) (s : PSpec) (Q : QD) (E : QR) : QD
  | .ins c' ns xs => c' = c ∧ s [.ins c' ns xs] (kLenI Q) E
  | _ => False
def kGet (c : Nat) (s : PSpec) (y : D) (Q : QD) (E : QR) : QD
  | .ins c' ns xs => c' = c ∧ s [.ins c' ns xs, y] Q E
  | _ => False
def kCMeth (c : Nat) (s : PSpec) (t : WA) (env : Ev) (Q : QD) (E : QR) (x : D) : Prop := match x with
  | .cls c' => c' = c ∧ t env (fun ds => s (x :: ds) Q E) E
  | _ => False
def kOpC (c : Nat) (s : PSpec) (Q : QD) (E : QR) (x y : D) : Prop := match x, y with
  | .ins c1 _ _, .ins c2 _ _ => (c1 = c ∧ c2 = c) ∧ s [x, y] Q E
  | _, _ => False
def kOpF (c : Nat) (s : PSpec) (Q : QD) (E : QR) (x y : D) : Prop := match x with
  | .ins c1 _ _ => c1 = c ∧ y.flat = true ∧ s [x, y] Q E
  | _ => False
def kEqO (c : Nat) (s : PSpec) (Q : QD) (E : QR) (x y : D) : Prop := match x with
  | .ins c1 _ _ => c1 = c ∧ (match y with
    | .ins c2 _ _ => c2 = c
    | y => y.kind.isSome = true) ∧ s [x, y] Q E
  | _ => False
def kOwn (i : Nat) (env : Ev) (n : Ev → Prop) : QD
  | .lst xs => n (env.set i (.own xs))
  | _ => False
def kpOwn (i : Nat) (r : WP) (env envL : Ev) (K : Ev → Prop) (E : QR) : QD
  | .lst xs => r env (envL.set i (.own xs)) K E
  | _ => False
def kPut (xs : List D) (i : Nat) (d : D) (env : Ev) (n : Ev → Prop) : QD
  | .int z => ∃ k, ixD xs.length z = some k ∧ n (env.set i (.own (xs.set k d)))
  | _ => False
def kChain (h : O2) (c : WE) (env : Ev) (y : D) (Q : QD) (E : QR) : QD
  | .bl true => c env (fun u => h y u Q) E
  | .bl false => Q (.bl false)
  | _ => False
def kEnum (Q : List D → Prop) : QD
  | .tup xs => Q (xs.zipIdx.map fun p => .tup [.int (p.2 : Nat), p.1])
  | _ => False
section
variable {env env' : Ev} {Q : QD} {QB : Bool → Prop} {QL : List D → Prop} {QO : Option Int → Prop} {E : QR} {n bk ct : Ev → Prop} {rt : D → Ev → Prop} {er : Er → Ev → Prop} {a b c : WE} {t u : WT} {s s' : WS} {l l2 : WA} {lo hi : WO} {wi : WI} {g g2 : O2} {P : PSpec} {i j k : Nat} {d x y : D} {xs ys ds : List D} {f m : Str} {cn : Nat} {ns : List Str} {p q : Int} {bb : Bool} {vs : List Nat} {gt : Tgt}
theorem p_seq (h : s env ⟨fun e => s' e ⟨n, rt, bk, ct, er⟩, rt, bk, ct, er⟩) : wSeq s s' env ⟨n, rt, bk, ct, er⟩ := h
theorem p_skip (h : n env) : wSkip env ⟨n, rt, bk, ct, er⟩ := h
theorem p_set (h : a env (fun d => n (env.set i (.val d))) (fun x => er x env)) : wSet i a env ⟨n, rt, bk, ct, er⟩ := h
theorem p_setO (h : a env (kOwn i env n) (fun x => er x env)) : wSetO i a env ⟨n, rt, bk, ct, er⟩ := h
theorem p_kown (h : n (env.set i (.own xs))) : kOwn i env n (.lst xs) := h
theorem p_unp (h : a env (fun d => gt.put env d n) (fun x => er x env)) : wUnp gt a env ⟨n, rt, bk, ct, er⟩ := h
theorem p_put {is : List Nat} (hl : ds.length = is.length) (h : n (setMany env is ds)) : (Tgt.tp is).put env (.tup ds) n := ⟨hl, h⟩
theorem p_put1 (h : n (env.set i (.val d))) : (Tgt.nm i).put env d n := h
theorem p_par {r : WP} (h : r env env n (fun x => er x env)) : wParN r env ⟨n, rt, bk, ct, er⟩ := h
theorem p_pnil {envL : Ev} {R : Ev → Prop} (h : R envL) : wpNil env envL R E := h
theorem p_pval {envL : Ev} {R : Ev → Prop} {r : WP} (h : a env (fun d => r env (envL.set i (.val d)) R E) E) : wpVal i a r env envL R E := h
theorem p_pown {envL : Ev} {R : Ev → Prop} {r : WP} (h : a env (kpOwn i r env envL R E) E) : wpOwn i a r env envL R E := h
theorem p_kpown {envL : Ev} {R : Ev → Prop} {r : WP} (h : r env (envL.set i (.own xs)) R E) : kpOwn i r env envL R E (.lst xs) := h
theorem p_expr (h : a env (fun _ => n env) (fun x => er x env)) : wExpr a env ⟨n, rt, bk, ct, er⟩ := h
theorem p_ret (h : a env (fun d => rt d env) (fun x => er x env)) : wRet a env ⟨n, rt, bk, ct, er⟩ := h
theorem p_retN (h : rt .non env) : wRetN env ⟨n, rt, bk, ct, er⟩ := h
theorem p_ifS (h : t env (fun c => if c = true then s env ⟨n, rt, bk, ct, er⟩ else s' env ⟨n, rt, bk, ct, er⟩) (fun x => er x env)) : wIfS t s s' env ⟨n, rt, bk, ct, er⟩ := h
theorem p_app (e : env[i]? = some (.own xs)) (h : a env (fun d => xs.length < LIM ∧ n (env.set i (.own (xs ++ [d])))) (fun x => er x env)) : wApp i a env ⟨n, rt, bk, ct, er⟩ := by
  unfold wApp
  rw [e]
  exact h
theorem p_putI (e : env[i]? = some (.own xs)) (h : b env (fun d => a env (kPut xs i d env n) (fun x => er x env)) (fun x => er x env)) : wPutI i a b env ⟨n, rt, bk, ct, er⟩ := by
  unfold wPutI
  rw [e]
  exact h
theorem p_kput (e : ixD xs.length p = some k) (h : n (env.set i (.own (xs.set k d)))) : kPut xs i d env n (.int p) := ⟨k, e, h⟩
theorem p_frz (e : env[i]? = some (.own xs)) (h : s (env.set i (.val (.lst xs))) ⟨n, rt, bk, ct, er⟩) : wFrz i s env ⟨n, rt, bk, ct, er⟩ := by
  unfold wFrz
  rw [e]
  exact h
theorem p_frzV (e : env[i]? = some (.val d)) (h : s env ⟨n, rt, bk, ct, er⟩) : wFrz i s env ⟨n, rt, bk, ct, er⟩ := by
  unfold wFrz
  rw [e]
  exact h
theorem p_for (h : wi env (fun xs => wForGo gt s ⟨n, rt, bk, ct, er⟩ xs env) (fun x => er x env)) : wFor wi gt s env ⟨n, rt, bk, ct, er⟩ := h
theorem p_raise (h : er ⟨cn, [], []⟩ env) : wRaise cn env ⟨n, rt, bk, ct, er⟩ := h
theorem p_self {i c : Nat} {fs : List D} (e : env[i]? = some (.obj c ns fs)) (h1 : f ∉ ns) (h2 : ns.length = fs.length) (h3 : ns.length < 900) (h : a env (fun d => n (env.set i (.obj c (ns ++ [f]) (fs ++ [d])))) (fun x => er x env)) : wSelfC c i f a env ⟨n, rt, bk, ct, er⟩ := by
  refine ⟨⟨ns, fs, e⟩, ?_⟩
  unfold wSelf
  rw [e]
  exact ⟨h1, h2, h3, h⟩
theorem p_name (e : env[i]? = some (.val d)) (h : Q d) : wName i env Q E := by
  unfold wName
  rw [e]
  exact h
theorem p_ownV (e : env[i]? = some (.val d)) (h : Q d) : wOwn i env Q E := by
  unfold wOwn
  rw [e]
  exact h
theorem p_own (e : env[i]? = some (.own xs)) (h : Q (.lst xs)) : wOwn i env Q E := by
  unfold wOwn
  rw [e]
  exact h
theorem p_c (h : Q d) : wC d env Q E := h
theorem p_op (h : a env (fun x => b env (fun y => g x y Q) E) E) : wOp g a b env Q E := h
theorem p_neg (h : a env (kNeg Q) E) : wNeg a env Q E := h
theorem p_kneg (h : Q (.int (-p))) : kNeg Q (.int p) := h
theorem p_chain (h : a env (fun x => b env (fun y => g x y (kChain g2 c env y Q E)) E) E) : wChain g g2 a b c env Q E := h
theorem p_kchain (h1 : bb = true → c env (fun u => g2 y u Q) E) (h2 : bb = false → Q (.bl false)) : kChain g2 c env y Q E (.bl bb) := by
  cases bb with
  | true => exact h1 rfl
  | false => exact h2 rfl
theorem p_and (h : a env (kAnd (b env Q E) Q) E) : wAnd a b env Q E := h
theorem p_kand {A : Prop} (h1 : bb = true → A) (h2 : bb = false → Q (.bl false)) : kAnd A Q (.bl bb) := by
  cases bb with
  | true => exact h1 rfl
  | false => exact h2 rfl
theorem p_or (h : a env (kOr (b env Q E) Q) E) : wOr a b env Q E := h
theorem p_not (h : a env (kNot Q) E) : wNot a env Q E := h
theorem p_knot (h : Q (.bl !bb)) : kNot Q (.bl bb) := h
theorem p_if (h : t env (fun c => if c = true then a env Q E else b env Q E) E) : wIf t a b env Q E := h
theorem p_nil (h : QL []) : wNil env QL E := h
theorem p_cons (h : a env (fun x => l env (fun xs => QL (x :: xs)) E) E) : wCons a l env QL E := h
theorem p_star (h : a env (kStar l env QL E) E) : wStar a l env QL E := h
theorem p_kstarT (h : l env (fun xs => QL (ys ++ xs)) E) : kStar l env QL E (.tup ys) := h
theorem p_kstarL (h : l env (fun xs => QL (ys ++ xs)) E) : kStar l env QL E (.lst ys) := h
theorem p_tup (h : l env (fun xs => xs.length ≤ LIM ∧ Q (.tup xs)) E) : wTup l env Q E := h
theorem p_lst (h : l env (fun xs => xs.length ≤ LIM ∧ Q (.lst xs)) E) : wLst l env Q E := h
theorem p_call (h : l env (fun ds => P ds Q E) E) : wCall P l env Q E := h
theorem p_cb {r : CB} (h : l env (fun ds => r ds Q) E) : wCB r l env Q E := h
theorem p_val (h : a env (kVal QB) E) : wtVal a env QB E := h
theorem p_kval (h : QB bb) : kVal QB (.bl bb) := h
theorem p_ttru (h : a env (kTru QB) E) : wtTru a env QB E := h
theorem p_ktruN (h : QB false) : kTru QB .non := h
theorem p_ktruB (h : QB bb) : kTru QB (.bl bb) := h
theorem p_ktruI (h : QB (p != 0)) : kTru QB (.int p) := h
theorem p_ktruL (h : QB !xs.isEmpty) : kTru QB (.lst xs) := h
theorem p_ktruT (h : QB !xs.isEmpty) : kTru QB (.tup xs) := h
theorem p_tnot (h : t env (fun b => QB !b) E) : wtNot t env QB E := h
theorem p_tand (h : t env (fun b => if b = true then u env QB E else QB false) E) : wtAnd t u env QB E := h
theorem p_tor (h : t env (fun b => if b = true then QB true else u env QB E) E) : wtOr t u env QB E := h
theorem p_nopart (h : QO none) : wNoPart env QO E := h
theorem p_part (h : a env (kPart QO) E) : wPart a env QO E := h
theorem p_kpart (h : QO (some p)) : kPart QO (.int p) := h
theorem p_slice (h : a env (fun x => lo env (fun l => hi env (fun h => kSlice l h Q x) E) E) E) : wSlice a lo hi env Q E := h
theorem p_ksliceL {l h' : Option Int} (h : Q (.lst (cutD xs l h'))) : kSlice l h' Q (.lst xs) := h
theorem p_ksliceT {l h' : Option Int} (h : Q (.tup (cutD xs l h'))) : kSlice l h' Q (.tup xs) := h
theorem p_fld (h : a env (kFld cn f Q) E) : wFld cn f a env Q E := h
theorem p_kfld {c' : Nat} (e : c' = cn) (e2 : (ns.zip xs).lookup f = some d) (h : Q d) : kFld cn f Q (.ins c' ns xs) := ⟨e, d, e2, h⟩
theorem p_meth (h : a env (kMeth cn m P l env Q E) E) : wMeth cn m P a l env Q E := h
theorem p_kmeth {c' : Nat} (e : c' = cn) (e2 : m ∉ ns) (h : l env (fun ds => P (.ins c' ns xs :: ds) Q E) E) : kMeth cn m P l env Q E (.ins c' ns xs) := ⟨e, e2, h⟩
theorem p_clo (h : a env (kClo cn P l env Q E) E) : wClo cn P a l env Q E := h
theorem p_kclo {c' : Nat} (e : c' = cn) (h : l env (fun ds => P (.ins c' ns xs :: ds) Q E) E) : kClo cn P l env Q E (.ins c' ns xs) := ⟨e, h⟩
theorem p_prop (h : a env (kProp cn P Q) E) : wProp cn P a env Q E := h
theorem p_kprop {c' : Nat} (e : c' = cn) (h : P [.ins c' ns xs] Q (fun _ => False)) : kProp cn P Q (.ins c' ns xs) := ⟨e, h⟩
theorem p_inv (h : a env (kInv cn P Q E) E) : wInv cn P a env Q E := h
theorem p_kinv {c' : Nat} (e : c' = cn) (h : P [.ins c' ns xs] Q E) : kInv cn P Q E (.ins c' ns xs) := ⟨e, h⟩
theorem p_lenO (h : a env (kLenO cn P Q E) E) : wLenO cn P a env Q E := h
theorem p_klenO {c' : Nat} (e : c' = cn) (h : P [.ins c' ns xs] (kLenI Q) E) : kLenO cn P Q E (.ins c' ns xs) := ⟨e, h⟩
theorem p_klenI (h1 : 0 ≤ p ∧ p < 2 ^ 62) (h : Q (.int p)) : kLenI Q (.int p) := ⟨h1, h⟩
theorem p_get (h : a env (fun x => b env (fun y => kGet cn P y Q E x) E) E) : wGet cn P a b env Q E := h
theorem p_kget {c' : Nat} (e : c' = cn) (h : P [.ins c' ns xs, y] Q E) : kGet cn P y Q E (.ins c' ns xs) := ⟨e, h⟩
theorem p_cmeth (h : a env (kCMeth cn P l env Q E) E) : wCMeth cn P a l env Q E := h
theorem p_kcmeth {c' : Nat} (e : c' = cn) (h : l env (fun ds => P (.cls c' :: ds) Q E) E) : kCMeth cn P l env Q E (.cls c') := ⟨e, h⟩
theorem p_makL {c' : Nat} (e : env[i]? = some (.val (.cls c'))) (e2 : c' = cn) (h : l env (fun ds => P ds Q E) E) : wMakL i cn P l env Q E := by
  unfold wMakL
  rw [e]
  exact ⟨e2, h⟩
theorem p_opC (h : a env (fun x => b env (fun y => kOpC cn P Q E x y) E) E) : wOpC cn P a b env Q E := h
theorem p_kopC {c1 c2 : Nat} {ns2 : List Str} (e : c1 = cn) (e2 : c2 = cn) (h : P [.ins c1 ns xs, .ins c2 ns2 ys] Q E) : kOpC cn P Q E (.ins c1 ns xs) (.ins c2 ns2 ys) := ⟨⟨e, e2⟩, h⟩
theorem p_opF (h : a env (fun x => b env (fun y => kOpF cn P Q E x y) E) E) : wOpF cn P a b env Q E := h
theorem p_kopF {c1 : Nat} (e : c1 = cn) (e2 : y.flat = true) (h : P [.ins c1 ns xs, y] Q E) : kOpF cn P Q E (.ins c1 ns xs) y := ⟨e, e2, h⟩
theorem p_eqO (h : a env (fun x => b env (fun y => kEqO cn P Q E x y) E) E) : wEqO cn P a b env Q E := h
theorem p_keqO {c1 c2 : Nat} {ns2 : List Str} (e : c1 = cn) (e2 : c2 = cn) (h : P [.ins c1 ns xs, .ins c2 ns2 ys] Q E) : kEqO cn P Q E (.ins c1 ns xs) (.ins c2 ns2 ys) := ⟨e, e2, h⟩
theorem p_iter (h : a env (kIter QL) E) : wIter a env QL E := h
theorem p_kiterL (h : QL xs) : kIter QL (.lst xs) := h
theorem p_kiterT (h : QL xs) : kIter QL (.tup xs) := h
theorem p_rg1 (h : a env (kRg1 QL) E) : wRange1 a env QL E := h
theorem p_krg1 (h1 : -(2 ^ 62) ≤ p ∧ p < 2 ^ 62) (h : QL (intD 0 p.toNat)) : kRg1 QL (.int p) := ⟨h1, h⟩
theorem p_rg2 (h : a env (fun x => b env (fun y => kRg2 QL x y) E) E) : wRange2 a b env QL E := h
theorem p_krg2 (h1 : -(2 ^ 62) ≤ p ∧ p < 2 ^ 62 ∧ -(2 ^ 62) ≤ q ∧ q < 2 ^ 62) (h : QL (intD p (q - p).toNat)) : kRg2 QL (.int p) (.int q) := ⟨h1, h⟩
theorem p_enum (h : a env (kEnum QL) E) : wEnumT a env QL E := h
theorem p_kenum (h : QL (xs.zipIdx.map fun p => .tup [.int (p.2 : Nat), p.1])) : kEnum QL (.tup xs) := h
theorem p_lc (h : wi env (fun xs => xs.length ≤ LIM ∧ wLcGo gt t a (wipeE env vs) xs [] fun ds => Q (.lst ds)) E) : wLc wi gt t a vs env Q E := h
theorem p_yes (h : QB true) : wYes env QB E := h
theorem p_dec {cc : Prop} [Decidable cc] {A B : Prop} (h1 : cc → A) (h2 : ¬ cc → B) : if decide cc = true then A else B := by
  by_cases h : cc
  · rw [if_pos (decide_eq_true h)]
    exact h1 h
  · rw [if_neg (by rw [decide_eq_false h]; exact Bool.false_ne_true)]
    exact h2 h
theorem p_tt {A B : Prop} (h : A) : if true = true then A else B := h
theorem p_ff {A B : Prop} (h : B) : if false = true then A else B := h
theorem p_bT {A B : Prop} (e : bb = true) (h : A) : if bb = true then A else B := by rw [e]; exact h
theorem p_bF {A B : Prop} (e : bb = false) (h : B) : if bb = true then A else B := by rw [e]; exact h
theorem o_add (h : Q (.int (p + q))) : oAdd (.int p) (.int q) Q := h
theorem o_sub (h : Q (.int (p - q))) : oSub (.int p) (.int q) Q := h
theorem o_mul (hp : Big p) (hq : Big q) (h : Q (.int (p * q))) : oMul (.int p) (.int q) Q := ⟨⟨hp, hq⟩, h⟩
theorem o_mod (hq : q ≠ 0) (h : Q (.int (p.fmod q))) : oMod (.int p) (.int q) Q := ⟨hq, h⟩
theorem o_pow (h1 : 0 ≤ q ∧ q ≤ 100 ∧ p.natAbs ≤ 1000) (h : Q (.int (p ^ q.toNat))) : oPow (.int p) (.int q) Q := ⟨h1, h⟩
theorem o_lt (h : Q (.bl (decide (p < q)))) : oLt (.int p) (.int q) Q := h
theorem o_le (h : Q (.bl (decide (p ≤ q)))) : oLe (.int p) (.int q) Q := h
theorem o_gt (h : Q (.bl (decide (q < p)))) : oGt (.int p) (.int q) Q := h
theorem o_ge (h : Q (.bl (decide (q ≤ p)))) : oGe (.int p) (.int q) Q := h
theorem o_isNot (h : Q (.bl !x.isNon)) : oIsNot x .non Q := ⟨rfl, h⟩
theorem o_ixL (e : ixD xs.length p = some k) (e2 : xs[k]? = some x) (h : Q x) : oIx (.lst xs) (.int p) Q := ⟨k, x, e, e2, h⟩
theorem o_ixT (e : ixD xs.length p = some k) (e2 : xs[k]? = some x) (h : Q x) : oIx (.tup xs) (.int p) Q := ⟨k, x, e, e2, h⟩
theorem b_lenL (h : Q (.int xs.length)) : bLen [.lst xs] Q := h
theorem b_lenT (h : Q (.int xs.length)) : bLen [.tup xs] Q := h
theorem b_int (h : Q (.int p)) : bInt [.int p] Q := h
theorem b_tupL (h : Q (.tup xs)) : bTuple [.lst xs] Q := h
theorem b_tupT (h : Q (.tup xs)) : bTuple [.tup xs] Q := h
theorem b_listL (h : Q (.lst xs)) : bList [.lst xs] Q := h
theorem b_listT (h : Q (.lst xs)) : bList [.tup xs] Q := h
theorem b_max2 (h : Q (.int (max p q))) : bMax2 [.int p, .int q] Q := h
theorem b_min2 (h : Q (.int (min p q))) : bMin2 [.int p, .int q] Q := h
end
theorem ixD_nat {m i : Nat} (h : i < m) : ixD m (i : Int) = some i := by
  unfold ixD ixN
  rw [if_pos (by omega), if_pos (by omega)]
  rfl
theorem big_of {p : Int} (h : p.natAbs < 10 ^ 40) : Big p := by
  unfold Big
  exact Nat.lt_of_lt_of_le h (by decide)
end Oil
namespace Oil
open PySem PySem.Spec PyProof.Rows L2
local macro_rules | `(tactic| walk_at "pq1") => `(tactic| with_reducible first
  | refine p_seq ?_ | refine p_skip ?_ | refine p_set ?_ | refine p_setO ?_ | refine p_kown ?_ | refine p_unp ?_ | refine p_put rfl ?_ | refine p_put1 ?_
  | refine p_par ?_ | refine p_pnil ?_ | refine p_pval ?_ | refine p_pown ?_ | refine p_kpown ?_ | refine p_expr ?_ | refine p_ret ?_ | refine p_retN ?_ | refine p_ifS ?_
  | refine p_for ?_ | refine p_raise ?_ | refine p_c ?_ | refine p_op ?_ | refine p_neg ?_ | refine p_kneg ?_ | refine p_chain ?_ | refine p_and ?_ | refine p_or ?_ | refine p_not ?_ | refine p_knot ?_
  | refine p_if ?_ | refine p_nil ?_ | refine p_cons ?_ | refine p_star ?_ | refine p_kstarT ?_ | refine p_kstarL ?_ | refine p_tup ?_ | refine p_lst ?_ | refine p_call ?_ | refine p_cb ?_ | refine p_val ?_ | refine p_kval ?_
  | refine p_ttru ?_ | refine p_ktruN ?_ | refine p_ktruB ?_ | refine p_ktruI ?_ | refine p_ktruL ?_ | refine p_ktruT ?_ | refine p_tnot ?_ | refine p_tand ?_ | refine p_tor ?_
  | refine p_nopart ?_ | refine p_part ?_ | refine p_kpart ?_ | refine p_slice ?_ | refine p_ksliceL ?_ | refine p_ksliceT ?_ | refine p_fld ?_ | refine p_meth ?_ | refine p_clo ?_ | refine p_kclo rfl ?_ | refine p_prop ?_ | refine p_kprop rfl ?_
  | refine p_inv ?_ | refine p_kinv rfl ?_ | refine p_lenO ?_ | refine p_klenO rfl ?_ | refine p_get ?_ | refine p_kget rfl ?_ | refine p_cmeth ?_ | refine p_kcmeth rfl ?_ | refine p_opC ?_ | refine p_kopC rfl rfl ?_ | refine p_opF ?_ | refine p_kopF rfl rfl ?_
  | refine p_eqO ?_ | refine p_keqO rfl rfl ?_ | refine p_iter ?_ | refine p_kiterL ?_ | refine p_kiterT ?_ | refine p_rg1 ?_ | refine p_rg2 ?_ | refine p_enum ?_ | refine p_kenum ?_ | refine p_lc ?_ | refine p_yes ?_
  | refine p_tt ?_ | refine p_ff ?_
  | refine o_add ?_ | refine o_sub ?_ | refine o_lt ?_ | refine o_le ?_ | refine o_gt ?_ | refine o_ge ?_
  | refine b_lenL ?_ | refine b_lenT ?_ | refine b_int ?_ | refine b_tupL ?_ | refine b_tupT ?_ | refine b_listL ?_ | refine b_listT ?_ | refine b_max2 ?_ | refine b_min2 ?_)
local macro_rules | `(tactic| walk_at "pq2") => `(tactic| with_reducible first
  | refine p_name (by with_unfolding_all rfl) ?_ | refine p_ownV (by with_unfolding_all rfl) ?_ | refine p_own (by with_unfolding_all rfl) ?_ | refine p_app (by with_unfolding_all rfl) ?_ | refine p_putI (by with_unfolding_all rfl) ?_
  | refine p_frz (by with_unfolding_all rfl) ?_ | refine p_frzV (by with_unfolding_all rfl) ?_ | refine p_kfld (by with_unfolding_all rfl) (by with_unfolding_all rfl) ?_ | refine p_kmeth (by with_unfolding_all rfl) (by decide) ?_ | refine p_makL (by with_unfolding_all rfl) (by with_unfolding_all rfl) ?_
  | refine p_self (by with_unfolding_all rfl) (by decide) (by with_unfolding_all rfl) (by decide) ?_)
local macro_rules | `(tactic| walk_at "pq") => `(tactic| repeat (first | walk_at "pq1" | walk_at "pq2"))
theorem eqv_int (p q : Int) : PyData.eqv (.int p) (.int q) = decide (p = q) := by
  simp [PyData.eqv]
  rfl
section
variable {Q : QD} {QL : List D → Prop} {E : QR} {p q : Int} {A : Prop} {xs ys : List Int}
theorem o_eqI (h : Q (.bl (decide (p = q)))) : oEq (.int p) (.int q) Q := ⟨.int p, .int q, rfl, rfl, rfl, rfl, by rw [eqv_int]; exact h⟩
theorem o_neI (h : Q (.bl (!decide (p = q)))) : oNe (.int p) (.int q) Q := ⟨.int p, .int q, rfl, rfl, rfl, rfl, by rw [eqv_int]; exact h⟩
theorem o_isNon (h : Q (.bl true)) : oIs .non .non Q := ⟨rfl, h⟩
theorem o_isInt (h : Q (.bl false)) : oIs (.int p) .non Q := ⟨rfl, h⟩
theorem o_isNotNon (h : Q (.bl false)) : oIsNot .non .non Q := ⟨rfl, h⟩
theorem o_isNotInt (h : Q (.bl true)) : oIsNot (.int p) .non Q := ⟨rfl, h⟩
theorem p_kandT {Q : QD} (h : A) : kAnd A Q (.bl true) := h
theorem p_kandF {Q : QD} (h : Q (.bl false)) : kAnd A Q (.bl false) := h
theorem p_korT {Q : QD} (h : Q (.bl true)) : kOr A Q (.bl true) := h
theorem p_korF {Q : QD} (h : A) : kOr A Q (.bl false) := h
theorem p_nt {A B : Prop} (h : B) : if (!true) = true then A else B := h
theorem p_nf {A B : Prop} (h : A) : if (!false) = true then A else B := h
theorem bsi_int {c : String} (h : Q (.bl (c == "int"))) (hk : kitB "int" c = some (c == "int")) : bIsiC [] [.int p, .ty c] Q := by
  refine ⟨fun c hc => ?_, _, _, rfl, hk, h⟩
  simp at hc
theorem bsi_tup {xs : List D} (h : Q (.bl true)) : bIsiC [] [.tup xs, .ty "tuple"] Q := by
  refine ⟨fun c hc => ?_, "tuple", true, rfl, by decide +kernel, h⟩
  simp at hc
end
local macro_rules | `(tactic| walk_at "pq3") => `(tactic| with_reducible first
  | refine o_eqI ?_ | refine o_neI ?_ | refine o_isNon ?_ | refine o_isInt ?_ | refine o_isNotNon ?_ | refine o_isNotInt ?_ | refine p_kandT ?_ | refine p_kandF ?_ | refine p_korT ?_ | refine p_korF ?_ | refine p_nt ?_ | refine p_nf ?_)
local macro_rules | `(tactic| walk_at "pq") => `(tactic| repeat (first | walk_at "pq1" | walk_at "pq2" | walk_at "pq3"))
section
variable {Q : QD} {E : QR} {p a b : Int}
theorem n_is_number (h : Q (.bl true)) : S_is_number [.int p] Q E := by
  refine ⟨rfl, ?_⟩
  show b_is_number [.val (.int p)] _
  unfold b_is_number
  walk_at "pq"
  refine bsi_int ?_ (by decide +kernel)
  show kAnd _ _ (.bl true)
  walk_at "pq"
  refine bsi_int ?_ (by decide +kernel)
  exact h
theorem n_within (h : Q (.bl (decide (a ≤ p ∧ p ≤ b)))) : S_is_number_within [.int p, .int a, .int b] Q E := by
  refine ⟨rfl, ?_⟩
  show b_is_number_within [.val (.int p), .val (.int a), .val (.int b)] _
  unfold b_is_number_within
  walk_at "pq"
  refine n_is_number ?_
  walk_at "pq"
  refine p_kchain (fun z => ?_) (fun z => ?_)
  · walk_at "pq"
    have z := of_decide_eq_true z
    have e : decide (a ≤ p ∧ p ≤ b) = decide (p ≤ b) := by simp [z]
    rw [e] at h
    exact h
  · have z := of_decide_eq_false z
    have e : decide (a ≤ p ∧ p ≤ b) = false := by simp [z]
    rw [e] at h
    exact h
theorem n_check_within (h1 : a ≤ p) (h2 : p ≤ b) (h : Q .non) : S_check_number_within [.int p, .int a, .int b] Q E := by
  refine ⟨rfl, ?_⟩
  show b_check_number_within [.val (.int p), .val (.int a), .val (.int b)] _
  unfold b_check_number_within
  walk_at "pq"
  refine n_within ?_
  walk_at "pq"
  refine p_bF (by simp [h1, h2]) ?_
  exact h
theorem n_check_post (h1 : 0 ≤ p) (h2 : p < a) (h : Q .non) : S_check_post [.int p, .int a] Q E := by
  refine ⟨rfl, ?_⟩
  show b_check_post [.val (.int p), .val (.int a)] _
  unfold b_check_post
  walk_at "pq"
  refine n_within ?_
  walk_at "pq"
  refine p_bF (by simp [h1]; omega) ?_
  exact h
end
def dP (r : Int × Int) : D := .tup [.int r.1, .int r.2]
def dW (c : Int) (rs : List (Int × Int)) : D := .ins 13 ["_capacity", "_posts"] [.int c, .tup (rs.map dP)]
def PV (r : Int × Int) : Prop := (0 ≤ r.1 ∧ r.1 ≤ 1000000000) ∧ 1 ≤ r.2 ∧ r.2 ≤ 1000000000
structure WV (c : Int) (rs : List (Int × Int)) : Prop where
  c1 : 1 ≤ c
  c2 : c ≤ 1000000000
  l1 : 1 ≤ rs.length
  l2 : rs.length ≤ 12
  pv : ∀ r ∈ rs, PV r
section
variable {Q : QD} {E : QR} {p a b c : Int} {rs : List (Int × Int)} {r : Int × Int}
theorem n_is_post (hr : PV r) (h : Q (.bl true)) : S_is_post [dP r] Q E := by
  refine ⟨rfl, ?_⟩
  show b_is_post [.val (.tup [.int r.1, .int r.2])] _
  unfold b_is_post
  walk_at "pq"
  refine bsi_tup ?_
  walk_at "pq"
  refine o_ixT (k := 0) rfl rfl ?_
  walk_at "pq"
  refine n_within ?_
  rw [decide_eq_true hr.1]
  walk_at "pq"
  refine o_ixT (k := 1) rfl rfl ?_
  walk_at "pq"
  refine n_within ?_
  rw [decide_eq_true hr.2]
  exact h
theorem fw_go (K : KN) : ∀ (xs : List (Int × Int)) (k : Nat) (env0 env1 env2 : Sl), (∀ r ∈ xs, PV r) → k + xs.length ≤ 12 → (∀ e1 e2, K.nx [env0, e1, e2]) →
    wForGo (.tp [1, 2]) (wIfS (wtOr (wtVal (wOp oEq (wName 1) (wC (.int 12)))) (wtNot (wtVal (wCall S_is_post (wCons (wName 2) wNil)))))
    (wRet (wName 1))
    wSkip) K (((xs.map dP).zipIdx k).map fun p => .tup [.int (p.2 : Nat), p.1]) [env0, env1, env2]
  | [], k, e0, e1, e2, _, _, h => h _ _
  | r :: xs, k, e0, e1, e2, hv, hl, h => by
    refine p_put rfl ?_
    show wIfS _ _ _ [e0, .val (.int (k : Nat)), .val (dP r)] _
    simp only [List.length_cons] at hl
    walk_at "pq"
    have hk : decide ((k : Int) = 12) = false := decide_eq_false (by omega)
    refine p_bF hk ?_
    walk_at "pq"
    refine n_is_post (hv r (by simp)) ?_
    walk_at "pq"
    exact fw_go K xs (k + 1) e0 _ _ (fun r hr => hv r (by simp [hr])) (by omega) h
theorem n_first_wrong (hv : WV c rs) (h : Q .non) : S_first_wrong [.tup (rs.map dP)] Q E := by
  refine ⟨rfl, ?_⟩
  show b_first_wrong [.val (.tup (rs.map dP)), .un, .un] _
  unfold b_first_wrong
  walk_at "pq"
  refine fw_go _ rs 0 _ _ _ hv.pv (by have := hv.l2; omega) fun e1 e2 => ?_
  walk_at "pq"
  have l1 := hv.l1
  refine p_bT ?_ ?_
  · cases rs with
    | nil => simp at l1
    | cons r rs => rfl
  walk_at "pq"
  exact h
theorem n_Way_init (hv : WV c rs) (h : Q (dW c rs)) : S_Way_init (.int c :: rs.map dP) Q E := by
  have l2 := hv.l2
  refine ⟨by simp, by simp; omega, ?_⟩
  show b_Way_init [.obj 13 [] [], .val (.int c), .val (.tup (rs.map dP)), .un] _
  unfold b_Way_init
  walk_at "pq"
  refine n_within ?_
  rw [decide_eq_true ⟨hv.c1, hv.c2⟩]
  walk_at "pq"
  refine n_first_wrong hv ?_
  walk_at "pq"
  exact ⟨rfl, h⟩
end
end Oil
namespace Oil
open PySem PySem.Spec PyProof.Rows L2
local macro_rules | `(tactic| walk_at "pq1") => `(tactic| with_reducible first
  | refine p_seq ?_ | refine p_skip ?_ | refine p_set ?_ | refine p_setO ?_ | refine p_kown ?_ | refine p_unp ?_ | refine p_put rfl ?_ | refine p_put1 ?_
  | refine p_par ?_ | refine p_pnil ?_ | refine p_pval ?_ | refine p_pown ?_ | refine p_kpown ?_ | refine p_expr ?_ | refine p_ret ?_ | refine p_retN ?_ | refine p_ifS ?_
  | refine p_for ?_ | refine p_raise ?_ | refine p_c ?_ | refine p_op ?_ | refine p_neg ?_ | refine p_kneg ?_ | refine p_chain ?_ | refine p_and ?_ | refine p_or ?_ | refine p_not ?_ | refine p_knot ?_
  | refine p_if ?_ | refine p_nil ?_ | refine p_cons ?_ | refine p_star ?_ | refine p_kstarT ?_ | refine p_kstarL ?_ | refine p_tup ?_ | refine p_lst ?_ | refine p_call ?_ | refine p_cb ?_ | refine p_val ?_ | refine p_kval ?_
  | refine p_ttru ?_ | refine p_ktruN ?_ | refine p_ktruB ?_ | refine p_ktruI ?_ | refine p_ktruL ?_ | refine p_ktruT ?_ | refine p_tnot ?_ | refine p_tand ?_ | refine p_tor ?_
  | refine p_nopart ?_ | refine p_part ?_ | refine p_kpart ?_ | refine p_slice ?_ | refine p_ksliceL ?_ | refine p_ksliceT ?_ | refine p_fld ?_ | refine p_meth ?_ | refine p_clo ?_ | refine p_kclo rfl ?_ | refine p_prop ?_ | refine p_kprop rfl ?_
  | refine p_inv ?_ | refine p_kinv rfl ?_ | refine p_lenO ?_ | refine p_klenO rfl ?_ | refine p_get ?_ | refine p_kget rfl ?_ | refine p_cmeth ?_ | refine p_kcmeth rfl ?_ | refine p_opC ?_ | refine p_kopC rfl rfl ?_ | refine p_opF ?_ | refine p_kopF rfl rfl ?_
  | refine p_eqO ?_ | refine p_keqO rfl rfl ?_ | refine p_iter ?_ | refine p_kiterL ?_ | refine p_kiterT ?_ | refine p_rg1 ?_ | refine p_rg2 ?_ | refine p_enum ?_ | refine p_kenum ?_ | refine p_lc ?_ | refine p_yes ?_
  | refine p_tt ?_ | refine p_ff ?_
  | refine o_add ?_ | refine o_sub ?_ | refine o_lt ?_ | refine o_le ?_ | refine o_gt ?_ | refine o_ge ?_
  | refine b_lenL ?_ | refine b_lenT ?_ | refine b_int ?_ | refine b_tupL ?_ | refine b_tupT ?_ | refine b_listL ?_ | refine b_listT ?_ | refine b_max2 ?_ | refine b_min2 ?_)
local macro_rules | `(tactic| walk_at "pq2") => `(tactic| with_reducible first
  | refine p_name (by with_unfolding_all rfl) ?_ | refine p_ownV (by with_unfolding_all rfl) ?_ | refine p_own (by with_unfolding_all rfl) ?_ | refine p_app (by with_unfolding_all rfl) ?_ | refine p_putI (by with_unfolding_all rfl) ?_
  | refine p_frz (by with_unfolding_all rfl) ?_ | refine p_frzV (by with_unfolding_all rfl) ?_ | refine p_kfld (by with_unfolding_all rfl) (by with_unfolding_all rfl) ?_ | refine p_kmeth (by with_unfolding_all rfl) (by decide) ?_ | refine p_makL (by with_unfolding_all rfl) (by with_unfolding_all rfl) ?_
  | refine p_self (by with_unfolding_all rfl) (by decide) (by with_unfolding_all rfl) (by decide) ?_)
local macro_rules | `(tactic| walk_at "pq3") => `(tactic| with_reducible first
  | refine o_eqI ?_ | refine o_neI ?_ | refine o_isNon ?_ | refine o_isInt ?_ | refine o_isNotNon ?_ | refine o_isNotInt ?_ | refine p_kandT ?_ | refine p_kandF ?_ | refine p_korT ?_ | refine p_korF ?_ | refine p_nt ?_ | refine p_nf ?_)
local macro_rules | `(tactic| walk_at "pq") => `(tactic| repeat (first | walk_at "pq1" | walk_at "pq2" | walk_at "pq3"))
section
variable {gt : Tgt} {t : WT} {e : WE} {env : Ev} {Q : List D → Prop} {α : Type}
theorem lc_mapT (g f : α → D) : ∀ (rs : List α) (acc : List D), (∀ r ∈ rs, ∀ A : QD, A (f r) → gt.put env (g r) fun env1 => e env1 A (fun _ => False)) → Q (acc ++ rs.map f) → wLcGo gt wYes e env (rs.map g) acc Q
  | [], acc, _, h => by rw [List.map_nil, List.append_nil] at h; exact h
  | r :: rs, acc, hx, h => hx r (by simp) _ (lc_mapT g f rs _ (fun r hr => hx r (by simp [hr])) (by rw [List.append_assoc]; exact h))
theorem lc_draw {W : α → Prop} (g : α → D) : ∀ (xs acc : List D), (∀ x ∈ xs, ∀ A : QD, (∀ r, W r → A (g r)) → gt.put env x fun env1 => e env1 A (fun _ => False)) → (∀ rs : List α, rs.length = xs.length → (∀ r ∈ rs, W r) → Q (acc ++ rs.map g)) → wLcGo gt wYes e env xs acc Q
  | [], acc, _, h => by
    have := h [] rfl (fun r hr => by simp at hr)
    rw [List.map_nil, List.append_nil] at this
    exact this
  | x :: xs, acc, hx, h => hx x (by simp) _ fun r hr => lc_draw g xs _ (fun x hx' => hx x (by simp [hx'])) fun rs hl hrs => by
      have := h (r :: rs) (by simp [hl]) (fun r' hr' => by
        rcases List.mem_cons.mp hr' with e | e
        · subst e; exact hr
        · exact hrs r' e)
      rw [List.append_assoc]
      exact this
end
theorem intD_zero (n : Nat) : intD 0 n = (List.range n).map fun (k : Nat) => D.int (k : Int) := by
  unfold intD
  congr 1
  funext k
  rw [Int.zero_add]
theorem intsOf_map : ∀ ns : List Int, intsOf (ns.map .int) = some ns
  | [] => rfl
  | n :: ns => by
    show (intsOf (ns.map .int)).map (n :: ·) = _
    rw [intsOf_map ns]
    rfl
theorem b_sum {Q : QD} {ns : List Int} (h : Q (.int ns.sum)) : bSum [.lst (ns.map .int)] Q := ⟨ns, intsOf_map ns, h⟩
theorem n_next {Q : QD} {E : QR} {n : Int} (h0 : 0 < n) (h1 : n < 2 ^ 100) (h : ∀ r : Int, 0 ≤ r → r < n → Q (.int r)) : S_next [.dice, .int n] Q E := ⟨n, rfl, h0, h1, h⟩
structure LP (m : Int) (rs : List (Int × Int)) : Prop where
  l1 : 1 ≤ rs.length
  l2 : (rs.length : Int) ≤ m
  pv : ∀ r ∈ rs, (0 ≤ r.1 ∧ r.1 ≤ 1000) ∧ 1 ≤ r.2 ∧ r.2 ≤ 40
theorem three {Q : Int → Prop} (a b c : Int) (h : Q a ∧ Q b ∧ Q c) {r : Int} (h0 : 0 ≤ r) (h1 : r < 3) {P : QD} (hP : ∀ x, Q x → P (.int x)) : oIx (.lst [.int a, .int b, .int c]) (.int r) P := by
  have : r = 0 ∨ r = 1 ∨ r = 2 := by omega
  rcases this with e | e | e
  · subst e; exact o_ixL (k := 0) rfl rfl (hP _ h.1)
  · subst e; exact o_ixL (k := 1) rfl rfl (hP _ h.2.1)
  · subst e; exact o_ixL (k := 2) rfl rfl (hP _ h.2.2)
theorem n_law_capacity {Q : QD} {E : QR} (h : ∀ c : Int, 1 ≤ c → c ≤ 120 → Q (.int c)) : S_law_capacity [.dice] Q E := by
  refine ⟨rfl, ?_⟩
  show b_law_capacity [.val .dice] _
  unfold b_law_capacity
  walk_at "pq"
  refine ⟨by show 3 ≤ LIM; decide, ?_⟩
  walk_at "pq"
  refine n_next (by decide) (by decide) fun r h0 h1 => ?_
  walk_at "pq"
  refine three (Q := fun x => 1 ≤ x ∧ x ≤ 120) 9 30 120 ⟨⟨by decide, by decide⟩, ⟨by decide, by decide⟩, by decide, by decide⟩ h0 h1 fun x ⟨x0, x1⟩ => ?_
  walk_at "pq"
  refine n_next (by omega) (by omega) fun r h0 h1 => ?_
  walk_at "pq"
  exact h _ (by omega) (by omega)
theorem sum_short : ∀ rs : List (Int × Int), (∀ r ∈ rs, (0 ≤ r.1 ∧ r.1 ≤ 1000) ∧ 1 ≤ r.2 ∧ r.2 ≤ 40) → (rs.map fun r => r.2 - r.1).sum ≤ 40 * (rs.length : Int)
  | [], _ => by simp
  | r :: rs, h => by
    have h1 := sum_short rs fun r hr => h r (by simp [hr])
    have h2 := h r (by simp)
    simp only [List.map_cons, List.sum_cons, List.length_cons]
    omega
theorem n_law_posts {Q : QD} {E : QR} {m : Int} (m1 : 1 ≤ m) (m2 : m ≤ 12) (h : ∀ rs, LP m rs → Q (.lst (rs.map dP))) : S_law_posts [.dice, .int m] Q E := by
  refine ⟨rfl, ?_⟩
  show b_law_posts [.val .dice, .val (.int m), .un, .un, .un, .un, .un, .un] _
  unfold b_law_posts
  walk_at "pq"
  refine ⟨by show 3 ≤ LIM; decide, ?_⟩
  walk_at "pq"
  refine n_next (by decide) (by decide) fun r h0 h1 => ?_
  walk_at "pq"
  refine three (Q := fun x => 1 ≤ x ∧ x ≤ 40) 4 9 40 ⟨⟨by decide, by decide⟩, ⟨by decide, by decide⟩, by decide, by decide⟩ h0 h1 fun x ⟨x0, x1⟩ => ?_
  walk_at "pq"
  refine n_next (by omega) (by omega) fun r h0 h1 => ?_
  walk_at "pq"
  refine p_krg1 (by omega) ?_
  refine ⟨by rw [intD_len]; unfold LIM; omega, ?_⟩
  refine lc_draw (W := fun r : Int × Int => (0 ≤ r.1 ∧ r.1 ≤ 41) ∧ 1 ≤ r.2 ∧ r.2 ≤ 40) dP _ _ ?_ ?_
  · intro y hy A hA
    refine p_put1 ?_
    dsimp only [wipeE, List.set]
    walk_at "pq"
    refine n_next (by omega) (by omega) fun a a0 a1 => ?_
    walk_at "pq"
    refine n_next (by omega) (by omega) fun b b0 b1 => ?_
    walk_at "pq"
    refine ⟨by show 2 ≤ LIM; decide, ?_⟩
    exact hA (a, 1 + b) ⟨⟨by omega, by omega⟩, by omega, by omega⟩
  · intro rs hl hrs
    rw [intD_len] at hl
    have hl1 : 1 ≤ rs.length := by omega
    have hl2 : (rs.length : Int) ≤ m := by omega
    rw [List.nil_append]
    walk_at "pq"
    refine ⟨by simp [LIM]; omega, ?_⟩
    refine lc_mapT dP (fun r => .int (r.2 - r.1)) rs [] ?_ ?_
    · intro r hr A hA
      refine p_put rfl ?_
      dsimp only [wipeE, List.set, setMany]
      walk_at "pq"
      exact hA
    rw [List.nil_append]
    have e1 : (rs.map fun r => D.int (r.2 - r.1)) = (rs.map fun r => r.2 - r.1).map .int := by simp
    rw [e1]
    walk_at "pq"
    refine b_sum ?_
    have hS := sum_short rs fun r hr => ⟨⟨(hrs r hr).1.1, by have := (hrs r hr).1.2; omega⟩, (hrs r hr).2⟩
    generalize hs : (rs.map fun r => r.2 - r.1).sum = S at hS ⊢
    walk_at "pq"
    refine p_dec (fun z => ?_) (fun z => ?_)
    · walk_at "pq"
      refine n_next (by decide) (by decide) fun a a0 a1 => ?_
      walk_at "pq"
      cases rs with
      | nil => simp at hl1
      | cons r rs =>
        have hr := hrs r (by simp)
        refine p_dec (fun z2 => ?_) (fun z2 => ?_)
        · walk_at "pq"
          refine o_ixL (k := 0) (ixD_nat (i := 0) (by simp)) rfl ?_
          walk_at "pq"
          refine o_ixT (k := 0) rfl rfl ?_
          walk_at "pq"
          refine o_ixL (k := 0) (ixD_nat (i := 0) (by simp)) rfl ?_
          walk_at "pq"
          refine o_ixT (k := 1) rfl rfl ?_
          walk_at "pq"
          refine ⟨by show 2 ≤ LIM; decide, ?_⟩
          walk_at "pq"
          refine p_kput (k := 0) (ixD_nat (i := 0) (by simp)) ?_
          walk_at "pq"
          refine h ((r.1 + S, r.2) :: rs) ⟨by simp, by simpa using hl2, fun r' hr' => ?_⟩
          rcases List.mem_cons.mp hr' with e | e
          · subst e
            simp only [List.length_cons] at hS hl2
            refine ⟨⟨?_, ?_⟩, hr.2⟩
            · show 0 ≤ r.1 + S
              omega
            · show r.1 + S ≤ 1000
              omega
          · have q := hrs r' (by simp [e])
            exact ⟨⟨q.1.1, by omega⟩, q.2⟩
        · walk_at "pq"
          refine h (r :: rs) ⟨hl1, hl2, fun r' hr' => ?_⟩
          have q := hrs r' hr'
          exact ⟨⟨q.1.1, by omega⟩, q.2⟩
    · walk_at "pq"
      refine h rs ⟨hl1, hl2, fun r' hr' => ?_⟩
      have q := hrs r' hr'
      exact ⟨⟨q.1.1, by omega⟩, q.2⟩
end Oil
namespace Oil
open PySem PySem.Spec PyProof.Rows L2
local macro_rules | `(tactic| walk_at "pq1") => `(tactic| with_reducible first
  | refine p_seq ?_ | refine p_skip ?_ | refine p_set ?_ | refine p_setO ?_ | refine p_kown ?_ | refine p_unp ?_ | refine p_put rfl ?_ | refine p_put1 ?_
  | refine p_par ?_ | refine p_pnil ?_ | refine p_pval ?_ | refine p_pown ?_ | refine p_kpown ?_ | refine p_expr ?_ | refine p_ret ?_ | refine p_retN ?_ | refine p_ifS ?_
  | refine p_for ?_ | refine p_raise ?_ | refine p_c ?_ | refine p_op ?_ | refine p_neg ?_ | refine p_kneg ?_ | refine p_chain ?_ | refine p_and ?_ | refine p_or ?_ | refine p_not ?_ | refine p_knot ?_
  | refine p_if ?_ | refine p_nil ?_ | refine p_cons ?_ | refine p_star ?_ | refine p_kstarT ?_ | refine p_kstarL ?_ | refine p_tup ?_ | refine p_lst ?_ | refine p_call ?_ | refine p_cb ?_ | refine p_val ?_ | refine p_kval ?_
  | refine p_ttru ?_ | refine p_ktruN ?_ | refine p_ktruB ?_ | refine p_ktruI ?_ | refine p_ktruL ?_ | refine p_ktruT ?_ | refine p_tnot ?_ | refine p_tand ?_ | refine p_tor ?_
  | refine p_nopart ?_ | refine p_part ?_ | refine p_kpart ?_ | refine p_slice ?_ | refine p_ksliceL ?_ | refine p_ksliceT ?_ | refine p_fld ?_ | refine p_meth ?_ | refine p_clo ?_ | refine p_kclo rfl ?_ | refine p_prop ?_ | refine p_kprop rfl ?_
  | refine p_inv ?_ | refine p_kinv rfl ?_ | refine p_lenO ?_ | refine p_klenO rfl ?_ | refine p_get ?_ | refine p_kget rfl ?_ | refine p_cmeth ?_ | refine p_kcmeth rfl ?_ | refine p_opC ?_ | refine p_kopC rfl rfl ?_ | refine p_opF ?_ | refine p_kopF rfl rfl ?_
  | refine p_eqO ?_ | refine p_keqO rfl rfl ?_ | refine p_iter ?_ | refine p_kiterL ?_ | refine p_kiterT ?_ | refine p_rg1 ?_ | refine p_rg2 ?_ | refine p_enum ?_ | refine p_kenum ?_ | refine p_lc ?_ | refine p_yes ?_
  | refine p_tt ?_ | refine p_ff ?_
  | refine o_add ?_ | refine o_sub ?_ | refine o_lt ?_ | refine o_le ?_ | refine o_gt ?_ | refine o_ge ?_
  | refine b_lenL ?_ | refine b_lenT ?_ | refine b_int ?_ | refine b_tupL ?_ | refine b_tupT ?_ | refine b_listL ?_ | refine b_listT ?_ | refine b_max2 ?_ | refine b_min2 ?_)
local macro_rules | `(tactic| walk_at "pq2") => `(tactic| with_reducible first
  | refine p_name (by with_unfolding_all rfl) ?_ | refine p_ownV (by with_unfolding_all rfl) ?_ | refine p_own (by with_unfolding_all rfl) ?_ | refine p_app (by with_unfolding_all rfl) ?_ | refine p_putI (by with_unfolding_all rfl) ?_
  | refine p_frz (by with_unfolding_all rfl) ?_ | refine p_frzV (by with_unfolding_all rfl) ?_ | refine p_kfld (by with_unfolding_all rfl) (by with_unfolding_all rfl) ?_ | refine p_kmeth (by with_unfolding_all rfl) (by decide) ?_ | refine p_makL (by with_unfolding_all rfl) (by with_unfolding_all rfl) ?_
  | refine p_self (by with_unfolding_all rfl) (by decide) (by with_unfolding_all rfl) (by decide) ?_)
local macro_rules | `(tactic| walk_at "pq3") => `(tactic| with_reducible first
  | refine o_eqI ?_ | refine o_neI ?_ | refine o_isNon ?_ | refine o_isInt ?_ | refine o_isNotNon ?_ | refine o_isNotInt ?_ | refine p_kandT ?_ | refine p_kandF ?_ | refine p_korT ?_ | refine p_korF ?_ | refine p_nt ?_ | refine p_nf ?_)
local macro_rules | `(tactic| walk_at "pq") => `(tactic| repeat (first | walk_at "pq1" | walk_at "pq2" | walk_at "pq3"))
theorem cutD_from (xs : List D) (i : Nat) (h : i ≤ xs.length) : cutD xs (some (i : Int)) none = xs.drop i := by
  unfold cutD
  rw [HT.sIx_nat, HT.sIx_none, Nat.min_eq_left h]
  exact List.take_of_length_le (by simp)
/-- from a place on, round -/
def rot (rs : List (Int × Int)) (i : Nat) : List (Int × Int) := rs.drop i ++ rs.take i
section
variable {Q : QD} {E : QR} {p a b c c' : Int} {rs : List (Int × Int)} {r : Int × Int} {i n : Nat}
theorem n_Way_even (h1 : 1 ≤ n) (h2 : n ≤ 12) (hc : 1 ≤ c ∧ c ≤ 1000000000) (hr : PV (a, b)) (h : Q (dW c (List.replicate n (a, b)))) : S_Way_even [.cls 13, .int c, .int (n : Int), .int a, .int b] Q E := by
  refine ⟨rfl, ?_⟩
  show b_Way_even [.val (.cls 13), .val (.int c), .val (.int (n : Int)), .val (.int a), .val (.int b), .un, .un] _
  unfold b_Way_even
  walk_at "pq"
  refine n_check_within (by omega) (by omega) ?_
  walk_at "pq"
  refine p_krg1 (by omega) ?_
  rw [Int.toNat_natCast, intD_zero]
  refine ⟨by simp [LIM]; omega, ?_⟩
  refine lc_mapT (fun (k : Nat) => D.int (k : Int)) (fun _ => dP (a, b)) _ [] ?_ ?_
  · intro k hk A hA
    refine p_put1 ?_
    dsimp only [wipeE, List.set]
    walk_at "pq"
    exact ⟨by show 2 ≤ LIM; decide, hA⟩
  have e : ((List.range n).map fun _ => dP (a, b)) = (List.replicate n (a, b)).map dP := by
    rw [List.map_const', List.length_range, List.map_replicate]
  rw [List.nil_append, e]
  walk_at "pq"
  rw [List.append_nil]
  exact n_Way_init ⟨hc.1, hc.2, by simpa using h1, by simpa using h2, fun r hr' => by rw [(List.mem_replicate.mp hr').2]; exact hr⟩ h
theorem n_with_post (hv : WV c rs) (hi : i < rs.length) (hr : PV r) (h : Q (dW c (rs.set i r))) : S_Way_with_post [dW c rs, .int (i : Int), .int r.1, .int r.2] Q E := by
  refine ⟨rfl, ?_⟩
  show b_Way_with_post [.val (dW c rs), .val (.int (i : Int)), .val (.int r.1), .val (.int r.2), .un] _
  unfold b_Way_with_post dW
  walk_at "pq"
  refine n_check_post (by omega) (by rw [List.length_map]; omega) ?_
  walk_at "pq"
  refine ⟨by show 2 ≤ LIM; decide, ?_⟩
  walk_at "pq"
  refine p_kput (k := i) (ixD_nat (by rw [List.length_map]; exact hi)) ?_
  walk_at "pq"
  rw [List.append_nil, show D.tup [D.int r.1, D.int r.2] = dP r from rfl, ← List.map_set]
  refine n_Way_init ⟨hv.c1, hv.c2, by rw [List.length_set]; exact hv.l1, by rw [List.length_set]; exact hv.l2, fun r' hr' => ?_⟩ h
  rcases List.mem_or_eq_of_mem_set hr' with e | e
  · exact hv.pv r' e
  · rw [e]; exact hr
theorem n_len (h : Q (.int rs.length)) : S_Way_len [dW c rs] Q E := by
  refine ⟨rfl, ?_⟩
  show b_Way_len [.val (dW c rs)] _
  unfold b_Way_len dW
  walk_at "pq"
  rw [List.length_map]
  exact h
theorem n_capacity (h : Q (.int c)) : S_Way_capacity [dW c rs] Q E := by
  refine ⟨rfl, ?_⟩
  show b_Way_capacity [.val (dW c rs)] _
  unfold b_Way_capacity dW
  walk_at "pq"
  exact h
theorem n_posts (h : Q (.tup (rs.map dP))) : S_Way_posts [dW c rs] Q E := by
  refine ⟨rfl, ?_⟩
  show b_Way_posts [.val (dW c rs)] _
  unfold b_Way_posts dW
  walk_at "pq"
  exact h
/-- what a round leaves -/
def surp (rs : List (Int × Int)) : Int := (rs.map fun r => r.1 - r.2).sum
end
theorem lw_go (c : Int) (rs : List (Int × Int)) (hv : WV c rs) (K : KN) (e0 : Sl) (hK : ∀ e3, K.nx [e0, .val (.lst (rs.map dP)), .val (dW c rs), e3]) : ∀ (m k : Nat) (ws : List (Int × Int)) (e3 : Sl), k + m = rs.length → ws.length = rs.length → WV c ws → (∀ j, j < k → ws[j]? = rs[j]?) →
    wForGo (.nm 3) (wSet 2 (wMeth 13 "with_post" S_Way_with_post (wName 2) (wCons (wName 3) (wCons (wOp oIx (wOp oIx (wName 1) (wName 3)) (wC (.int 0))) (wCons (wOp oIx (wOp oIx (wName 1) (wName 3)) (wC (.int 1))) wNil))))) K ((List.range' k m).map fun (k : Nat) => D.int (k : Int)) [e0, .val (.lst (rs.map dP)), .val (dW c ws), e3]
  | 0, k, ws, e3, hk, hl, hw, he => by
    have : ws = rs := List.ext_getElem? fun j => by
      by_cases hj : j < k
      · exact he j hj
      · rw [List.getElem?_eq_none (by omega), List.getElem?_eq_none (by omega)]
    subst this
    exact hK e3
  | m + 1, k, ws, e3, hk, hl, hw, he => by
    rw [List.range'_succ, List.map_cons]
    refine p_put1 ?_
    dsimp only [List.set]
    have hkl : k < rs.length := by omega
    have hg : (rs.map dP)[k]? = some (dP rs[k]) := by rw [List.getElem?_map, List.getElem?_eq_getElem hkl]; rfl
    unfold dW
    walk_at "pq"
    refine o_ixL (ixD_nat (by rw [List.length_map]; exact hkl)) hg ?_
    unfold dP
    walk_at "pq"
    refine o_ixT (k := 0) rfl rfl ?_
    walk_at "pq"
    refine o_ixL (ixD_nat (by rw [List.length_map]; exact hkl)) hg ?_
    unfold dP
    walk_at "pq"
    refine o_ixT (k := 1) rfl rfl ?_
    walk_at "pq"
    have hp := hv.pv rs[k] (List.getElem_mem hkl)
    refine n_with_post (rs := ws) (r := rs[k]) hw (by omega) hp ?_
    dsimp only [List.set]
    refine lw_go c rs hv K e0 hK m (k + 1) (ws.set k rs[k]) _ (by omega) (by rw [List.length_set]; exact hl) ⟨hw.c1, hw.c2, by rw [List.length_set]; exact hw.l1, by rw [List.length_set]; exact hw.l2, fun r' hr' => ?_⟩ ?_
    · rcases List.mem_or_eq_of_mem_set hr' with e | e
      · exact hw.pv r' e
      · rw [e]; exact hp
    · intro j hj
      by_cases e : j = k
      · subst e
        rw [List.getElem?_set_self (by omega), List.getElem?_eq_getElem hkl]
      · rw [List.getElem?_set_ne (by omega)]
        exact he j (by omega)
theorem n_law_way {Q : QD} {E : QR} {c : Int} {rs : List (Int × Int)} (hv : WV c rs) (h : Q (dW c rs)) : S_law_way [.int c, .lst (rs.map dP)] Q E := by
  refine ⟨rfl, ?_⟩
  show b_law_way [.val (.int c), .val (.lst (rs.map dP)), .un, .un] _
  have l1 := hv.l1
  have l2 := hv.l2
  unfold b_law_way
  walk_at "pq"
  rw [List.length_map]
  have hp : PV (0, 1) := ⟨⟨by decide, by decide⟩, by decide, by decide⟩
  refine n_Way_even hv.l1 hv.l2 ⟨hv.c1, hv.c2⟩ hp ?_
  walk_at "pq"
  rw [List.length_map]
  refine p_krg1 (by omega) ?_
  rw [Int.toNat_natCast, intD_zero, List.range_eq_range']
  dsimp only [List.set]
  refine lw_go c rs hv _ _ (fun e3 => ?_) rs.length 0 _ _ (by omega) (by simp) ⟨hv.c1, hv.c2, by simpa using l1, by simpa using l2, fun r hr' => by rw [(List.mem_replicate.mp hr').2]; exact hp⟩ (fun j hj => by omega)
  walk_at "pq"
  exact h
theorem LP.wv {m c : Int} {rs : List (Int × Int)} (h : LP m rs) (hm : m ≤ 12) (h1 : 1 ≤ c) (h2 : c ≤ 1000000000) : WV c rs := ⟨h1, h2, h.l1, by have := h.l2; omega, fun r hr => by
  obtain ⟨⟨a, b⟩, d, e⟩ := h.pv r hr
  exact ⟨⟨a, by omega⟩, d, by omega⟩⟩
theorem n_law_drawn {Q : QD} {E : QR} {m : Int} (m1 : 1 ≤ m) (m2 : m ≤ 12) (h : ∀ (c : Int) (rs : List (Int × Int)) (i x : Nat), 1 ≤ c → c ≤ 120 → LP m rs → i < rs.length → (x : Int) ≤ c → Q (.tup [dW c rs, .int c, .lst (rs.map dP), .int (i : Int), .int (x : Int)])) : S_law_drawn [.dice, .int m] Q E := by
  refine ⟨rfl, ?_⟩
  show b_law_drawn [.val .dice, .val (.int m), .un, .un] _
  unfold b_law_drawn
  walk_at "pq"
  refine n_law_posts m1 m2 fun rs hr => ?_
  walk_at "pq"
  refine n_law_capacity fun c c1 c2 => ?_
  walk_at "pq"
  refine n_law_way (hr.wv m2 c1 (by omega)) ?_
  walk_at "pq"
  have l1 := hr.l1
  have l2 := hr.l2
  refine n_next (by rw [List.length_map]; omega) (by rw [List.length_map]; omega) fun i i0 i1 => ?_
  walk_at "pq"
  refine n_next (by omega) (by omega) fun x x0 x1 => ?_
  walk_at "pq"
  refine ⟨by show 5 ≤ LIM; decide, ?_⟩
  rw [List.length_map] at i1
  have := h c rs i.toNat x.toNat c1 c2 hr (by omega) (by omega)
  rw [Int.toNat_of_nonneg i0, Int.toNat_of_nonneg x0] at this
  exact this
end Oil
namespace Oil
open PySem PySem.Spec PyProof.Rows L2
local macro_rules | `(tactic| walk_at "pq1") => `(tactic| with_reducible first
  | refine p_seq ?_ | refine p_skip ?_ | refine p_set ?_ | refine p_setO ?_ | refine p_kown ?_ | refine p_unp ?_ | refine p_put rfl ?_ | refine p_put1 ?_
  | refine p_par ?_ | refine p_pnil ?_ | refine p_pval ?_ | refine p_pown ?_ | refine p_kpown ?_ | refine p_expr ?_ | refine p_ret ?_ | refine p_retN ?_ | refine p_ifS ?_
  | refine p_for ?_ | refine p_raise ?_ | refine p_c ?_ | refine p_op ?_ | refine p_neg ?_ | refine p_kneg ?_ | refine p_chain ?_ | refine p_and ?_ | refine p_or ?_ | refine p_not ?_ | refine p_knot ?_
  | refine p_if ?_ | refine p_nil ?_ | refine p_cons ?_ | refine p_star ?_ | refine p_kstarT ?_ | refine p_kstarL ?_ | refine p_tup ?_ | refine p_lst ?_ | refine p_call ?_ | refine p_cb ?_ | refine p_val ?_ | refine p_kval ?_
  | refine p_ttru ?_ | refine p_ktruN ?_ | refine p_ktruB ?_ | refine p_ktruI ?_ | refine p_ktruL ?_ | refine p_ktruT ?_ | refine p_tnot ?_ | refine p_tand ?_ | refine p_tor ?_
  | refine p_nopart ?_ | refine p_part ?_ | refine p_kpart ?_ | refine p_slice ?_ | refine p_ksliceL ?_ | refine p_ksliceT ?_ | refine p_fld ?_ | refine p_meth ?_ | refine p_clo ?_ | refine p_kclo rfl ?_ | refine p_prop ?_ | refine p_kprop rfl ?_
  | refine p_inv ?_ | refine p_kinv rfl ?_ | refine p_lenO ?_ | refine p_klenO rfl ?_ | refine p_get ?_ | refine p_kget rfl ?_ | refine p_cmeth ?_ | refine p_kcmeth rfl ?_ | refine p_opC ?_ | refine p_kopC rfl rfl ?_ | refine p_opF ?_ | refine p_kopF rfl rfl ?_
  | refine p_eqO ?_ | refine p_keqO rfl rfl ?_ | refine p_iter ?_ | refine p_kiterL ?_ | refine p_kiterT ?_ | refine p_rg1 ?_ | refine p_rg2 ?_ | refine p_enum ?_ | refine p_kenum ?_ | refine p_lc ?_ | refine p_yes ?_
  | refine p_tt ?_ | refine p_ff ?_
  | refine o_add ?_ | refine o_sub ?_ | refine o_lt ?_ | refine o_le ?_ | refine o_gt ?_ | refine o_ge ?_
  | refine b_lenL ?_ | refine b_lenT ?_ | refine b_int ?_ | refine b_tupL ?_ | refine b_tupT ?_ | refine b_listL ?_ | refine b_listT ?_ | refine b_max2 ?_ | refine b_min2 ?_)
local macro_rules | `(tactic| walk_at "pq2") => `(tactic| with_reducible first
  | refine p_name (by with_unfolding_all rfl) ?_ | refine p_ownV (by with_unfolding_all rfl) ?_ | refine p_own (by with_unfolding_all rfl) ?_ | refine p_app (by with_unfolding_all rfl) ?_ | refine p_putI (by with_unfolding_all rfl) ?_
  | refine p_frz (by with_unfolding_all rfl) ?_ | refine p_frzV (by with_unfolding_all rfl) ?_ | refine p_kfld (by with_unfolding_all rfl) (by with_unfolding_all rfl) ?_ | refine p_kmeth (by with_unfolding_all rfl) (by decide) ?_ | refine p_makL (by with_unfolding_all rfl) (by with_unfolding_all rfl) ?_
  | refine p_self (by with_unfolding_all rfl) (by decide) (by with_unfolding_all rfl) (by decide) ?_)
local macro_rules | `(tactic| walk_at "pq3") => `(tactic| with_reducible first
  | refine o_eqI ?_ | refine o_neI ?_ | refine o_isNon ?_ | refine o_isInt ?_ | refine o_isNotNon ?_ | refine o_isNotInt ?_ | refine p_kandT ?_ | refine p_kandF ?_ | refine p_korT ?_ | refine p_korF ?_ | refine p_nt ?_ | refine p_nf ?_)
local macro_rules | `(tactic| walk_at "pq") => `(tactic| repeat (first | walk_at "pq1" | walk_at "pq2" | walk_at "pq3"))
namespace Str3
/-- what is left behind it -/
def app (s : Str3) (x : Int) : Option Int := match s.need with
  | none => none
  | some n => if x < n then none else some (min s.top (x + s.gain))
end Str3
/-- all together -/
def sumS : List Str3 → Str3
  | [] => Str3.barred
  | s :: ss => ss.foldl Str3.add s
/-- one leg -/
def legS (c : Int) (r : Int × Int) : Str3 := if c < r.2 then Str3.barred else ⟨some (max 0 (r.2 - r.1)), r.1 - r.2, c - r.2⟩
/-- so many legs from a post on -/
def stW (c : Int) (rs : List (Int × Int)) (i n : Nat) : Str3 :=
  if n / rs.length = 0 then sumS (((rot rs i).map (legS c)).take (n % rs.length))
  else sumS ((sumS ((rot rs i).map (legS c))).mul ((n / rs.length : Nat) : Int) :: ((rot rs i).map (legS c)).take (n % rs.length))
end Oil
namespace Oil
open PySem PySem.Spec PyProof.Rows L2
section
variable {X : Cx} {E : XK} {k j : Nat} {Z : ZM} {c : Nat} {P : PSpec} {e : Expr} {w : WE} {x : Str} {p pos : Pos}
/-- a == b, a of an own class, as a test -/
theorem qt_eqO {e1 e2 : Expr} {w1 w2 : WE} (g : EqO X.prog X.w X.K X.mg X.base k (Z c) (SpD Z.g X.K P)) (hr : Room j X.A) (hk : k ≤ j) (hx : Passes (L2.CX X.prog X.w) X E) (hn : ∀ T ∈ ["NoneType", "bool", "int", "str", "tuple", "list"], PySem.W.notFirst X.K (Z c) (.type T) = true) (ha : QE Z X E e1 w1) (hb : QE Z X E e2 w2) (hm : behindInMarks .Eq e2 = false := by exact nomark _) : QT Z X E (.Compare e1 [.Eq] [e2] pos) (wtVal (wEqO c P w1 w2)) :=
  (pt_cmpR (op_eqo g hr hk hx) ha hb hm).wk fun σ H Q ⟨fr, ow, env, Qp, Ep, A, hw, post⟩ =>
  ⟨fr, ow, env, _, Ep, A, hw, fun d v H1 n1 r1 q1 => ⟨fr, ow, env, _, Ep, A.mv n1, q1, fun d2 v2 H2 n2 r2 q2 => by
    have r1 := r1.lat (Nz.lat n2 MM.d0)
    cases d <;> try exact (show False from q2).elim
    obtain ⟨rfl, hf, q2⟩ := q2
    obtain ⟨a, dx, vs, rfl, ha⟩ := r1.insAt A.z
    have sp := spd_of A (n1.trans n2) (.cons r1 (.cons r2 .nil)) q2 (Q := fun z H => ∃ k, z = V.bl k ∧ Q k H) fun d v H' n r q => by
      cases r <;> try exact (show False from q).elim
      exact ⟨_, rfl, post _ _ n q⟩
    refine ⟨a, dx, _, rfl, ha, ?_, sp⟩
    cases hk : d2.kind with
    | some T =>
      have kn := r2.kn (K := X.K) hk
      exact .inr (.inr ⟨_, kn.ty, hn T kn.mem⟩)
    | none =>
      cases d2 <;> first | (cases hk; done) | skip
      · obtain rfl := hf
        obtain ⟨b, dy, us, rfl, hb⟩ := r2.insAt A.z
        exact .inl ⟨b, dy, _, rfl, hb⟩
      all_goals exact absurd (show (none : Option String).isSome = true from hk ▸ hf) (by decide)⟩⟩
end
end Oil
namespace Oil
open PySem PySem.Spec PyProof.Rows L2
end Oil
namespace Oil
open PySem PySem.Spec PyProof.Rows L2 LamX
abbrev ldOf (X : Cx) (pa : Arguments) (bd : Expr) (sc : Scope) (d : Option Int) : LamD := ⟨X.env.qual ++ "<lambda>", pa, bd, sc, cloFrom X.env.cells sc.names [], d⟩
section
variable {Z : ZM} {X : Cx} {E : XK} {e e1 e2 e3 : Expr} {es : List Expr} {w w1 w2 w3 : WE} {t t2 : WA} {u u1 u2 : WT} {pos p : Pos} {i : Nat} {x : Str} {k j : Nat} {c P : Addr} {pa : Arguments} {bd : Expr} {sc : Scope}
theorem LamAtD.at {M : Addr → Prop} {H : Hp} {f : Addr} {d : Option Int} (L : LamAtD M H f (ldOf X pa bd sc d)) : LamAt X H f pa bd sc d := by
  obtain ⟨_, c1, dv, h1, h2, _, h3⟩ := L
  exact ⟨c1, dv, h1, h2, h3.imp id fun ⟨n, t, e1, e2, e3, _⟩ => ⟨n, t, e1, e2, e3⟩⟩
/-- the lambdas of a maker, and what each comes to -/
inductive LKs (X : Cx) (Z : ZM) (k : Nat) : List LamD → List WE → Prop where
  | nil : LKs X Z k [] []
  | cons {pa : Arguments} {bd : Expr} {sc : Scope} {d : Option Int} {w : WE} {Ds : List LamD} {ws : List WE} : LamK X k pa bd sc d (fun E => RdE Z X.K E w) → LKs X Z k Ds ws → LKs X Z k (ldOf X pa bd sc d :: Ds) (w :: ws)
theorem LKs.get : ∀ {Ds : List LamD} {ws : List WE} {i : Nat} {D : LamD} {w : WE}, LKs X Z k Ds ws → Ds[i]? = some D → ws[i]? = some w → ∃ pa bd sc d, D = ldOf X pa bd sc d ∧ LamK X k pa bd sc d (fun E => RdE Z X.K E w)
  | _, _, _, _, _, .nil, e, _ => by simp at e
  | _, _, 0, _, _, .cons h t, e, e2 => by
    cases (Option.some.inj (by simpa using e))
    cases (Option.some.inj (by simpa using e2))
    exact ⟨_, _, _, _, rfl, h⟩
  | _, _, i + 1, _, _, .cons _ t, e, e2 => LKs.get (i := i) t (by simpa using e) (by simpa using e2)
end
end Oil
namespace Oil
open PySem PySem.Spec PyProof.Rows L2 LamX
/-- what is asked of the classes of errors -/
structure ErC (K : PySem.W.Frag) (Z : ZG) (cs : List Nat) : Prop where
  ec : ∀ c ∈ cs, ExcC K (Z c)
  kt : ∀ c ∈ cs, ∀ c' ∈ cs, PySem.W.kitOne K (.ref (Z c)) (.ref (Z c')) = some (c == c')
  kv : ∀ c ∈ cs, PySem.W.kitOne K (.ref (Z c)) (.type "ValueError") = some true
  em : ∀ c ∈ cs, PySem.W.exmOne K (.ref (Z c)) (.ref (Z 0)) = some true
end Oil
namespace Oil
open PySem PySem.Spec PyProof.Rows L2 LamX
/-- a field's value -/
def OkF (v : V) : Prop := (∃ t : Str, v = .str t ∧ t.length ≤ 1000) ∨ ∃ i : Int, v = .int i ∧ i.natAbs.log2 < 1000
/-- what an error's own __init__ keeps -/
def SpX (C : Addr) (ns : List Str) : Sp := fun vs H Q _ => ∃ (x : Addr) (us : List V), vs = .ref x :: us ∧ us.length = ns.length ∧ (∀ u ∈ us, OkF u) ∧ H x = some (exo x C none) ∧ ∀ dx, H dx = none → dx ≠ x → Q .non (upd (upd H dx (exd dx (ns.zip us).reverse)) x (exo x C (some dx)))
theorem OkF.len {v : V} (h : OkF v) : ∃ y : Str, y.length ≤ 1100 ∧ ∀ (Q : VK) (H : Hp), Q (.str y) H → ((∃ y : Str, v = .str y ∧ y.length ≤ sizeLine ∧ Q (.str y) H) ∨ ∃ i : Int, v = .int i ∧ i.natAbs.log2 < 1920 ∧ Q (.str (toString i)) H) := by
  rcases h with ⟨t, rfl, ht⟩ | ⟨i, rfl, hi⟩
  · exact ⟨t, by omega, fun Q H q => .inl ⟨t, rfl, by rw [sizeLine_eq]; omega, q⟩⟩
  · refine ⟨toString i, ?_, fun Q H q => .inr ⟨i, rfl, by omega, q⟩⟩
    have e := int_text_length_le (k := 1000) (by decide) hi
    have : (Str.ofString (toString i)).length = (toString i).length := PySem.ofString_length _
    show (Str.ofString (toString i)).length ≤ 1100
    rw [this]
    omega
section
variable {Z : ZM} {X : Cx} {E : XK} {e e1 e2 : Expr} {es : List Expr} {t : WA} {pos p p0 : Pos} {x : Str} {k j c : Nat} {ns : List Str}
theorem big_log {i : Int} (h : Big i) : i.natAbs.log2 < 1000 := by
  unfold Big at h
  by_cases z : i.natAbs = 0
  · rw [z]; decide
  · rw [Nat.log2_lt z]
    exact Nat.lt_of_lt_of_le h (Nat.pow_le_pow_right (by decide) (by decide))
theorem short_ok {fr : Fr} {ow : Ow} {H : Hp} : ∀ {vs : List V} {ds : List D}, Reps fr.Z.g fr.d0 (MM fr ow) H vs ds → (∀ d ∈ ds, D.short d) → ∀ u ∈ vs, OkF u
  | _, _, .nil, _, u, h => by cases h
  | _, _, .cons (d := d) r t, h, u, hu => by
    rcases List.mem_cons.mp hu with rfl | hu
    · have := h d (List.mem_cons_self ..)
      cases r <;> first | exact .inl ⟨_, rfl, this⟩ | exact .inr ⟨_, rfl, big_log this⟩ | exact (show False from this).elim
    · exact short_ok t (fun d hd => h d (List.mem_cons_of_mem _ hd)) u hu
theorem zip_revX {α β : Type} : ∀ {ns : List α} {vs : List β}, ns.length = vs.length → (ns.zip vs).reverse = ns.reverse.zip vs.reverse
  | [], [], _ => rfl
  | n :: ns, v :: vs, h => by
    have h : ns.length = vs.length := by simpa using h
    rw [List.zip_cons_cons, List.reverse_cons, List.reverse_cons, List.reverse_cons, zip_revX h, List.zip_append (by simp [h])]
    rfl
/-- raise C(e, ..), C an own error with fields -/
theorem qs_raiseX (g : Exo X.prog X.w X.K X.mg X.base k x (Z c) (SpX (Z c) ns)) (hr : Room j X.A) (hk : k + 1 ≤ j) (hc : X.calm = true) (tk : Takes X (fun cls d _ H => E cls d H)) (hx : Passes (L2.CX X.prog X.w) X (fun _ _ _ => False)) (ha : QA Z X E (e :: es) t) (hg : Gl X x := by rfl)
    (hdb : (x == ("__debug__" : Str)) = false := by decide) (he : starEach (e :: es) X.env = (false, eval e X.env) :: starEach es X.env := by rfl) (hpl : (backTo p (starEach es X.env)).any (·.1) = false := by rfl) (hn : ns.length ≤ 1000 := by decide) :
    QS Z X E (.Raise (some (.Call (.Name x p0) (e :: es) [] p)) none pos) (wRaiseX c ns t) := (ps_raise hc tk (pmk_exo g hr hk ha hx hg hdb he hpl)).wk fun D σ H ⟨fr, ow, env, Kn, A, hw, P⟩ =>
  ⟨fr, ow, env, _, _, A, hw, fun ds vs H1 n1 r1 ⟨q1, q2, q3⟩ => by
    have lv : vs.length = ns.length := by rw [r1.length, q1]
    refine ⟨?_, fun a ha => ⟨a, vs, by rw [List.append_nil], lv, short_ok r1 q2, upd_same, fun dx hdx hne => ⟨rfl, dx, (ns.zip vs).reverse, upd_same, by rw [upd_ne hne, upd_same], ?_, ?_⟩⟩⟩
    · rw [lv]; exact hn
    · rw [upd_ne hne] at hdx
      exact hdx
    · have hd1 : H1 dx = none := by rw [upd_ne hne] at hdx; exact hdx
      have eh : upd (del (upd (upd (upd H1 a (exo a (Z c) none)) dx (exd dx (ns.zip vs).reverse)) a (exo a (Z c) (some dx))) a) dx (.xd (ns.zip vs).reverse) = upd H1 dx (.xd (ns.zip vs).reverse) := by
        funext b
        by_cases h1 : b = dx
        · rw [h1, upd_same, upd_same]
        · rw [upd_ne h1, upd_ne h1]
          unfold del
          by_cases h2 : b = a
          · rw [if_pos h2, h2, ha]
          · rw [if_neg h2, upd_ne h2, upd_ne h1, upd_ne h2]
      rw [eh]
      have n2 := n1.same (Same.new (o := .xd (ns.zip vs).reverse) hd1)
      refine A.er _ _ _ _ n2 ⟨by rw [A.z], .inr ⟨dx, vs.reverse, rfl, ?_, ?_, ?_, ?_⟩⟩ q3
      · rw [upd_same, zip_revX lv.symm]
      · exact (A.g.mv n1).fresh hd1
      · rw [List.length_reverse, List.length_reverse, lv]
      · exact (r1.lat fun a o _ n h => ⟨by rw [upd_ne (ne_of_none h hd1)]; exact h, n⟩).rev⟩
end
section
variable {P : Program} {w : World} {K : PySem.W.Frag} {mg : Str → Option Value} {base : Heap}
theorem OkF.fmt {v : V} {i : Nat} {σ : L2.St} (hv : σ[i]? = some (some v)) (h : OkF v) : ∃ y : Str, y.length ≤ 1100 ∧ ∀ (H : Hp) (Q : VK), Q (.str y) H → tFmt (tVar i) σ H Q := by
  obtain ⟨y, hy, k⟩ := h.len
  exact ⟨y, hy, fun H Q q => ⟨v, hv, k Q H q⟩⟩
/-- f'..{x}' and f'..{x}..{y}' -/
theorem fstr1 {a0 : Str} {v : V} {σ : L2.St} {H : Hp} {Q : Str → Hp → Prop} {i : Nat} (hv : σ[i]? = some (some v)) (ok : OkF v) (h0 : a0.length ≤ 1000) (q : ∀ o, Q o H) : tJs [tC (.str a0), tFmt (tVar i)] Str.empty σ H Q := by
  obtain ⟨y, hy, k⟩ := ok.fmt hv
  have l0 : (Str.empty ++ a0).length = a0.length := by rw [Str.length_append]; show 0 + _ = _; omega
  refine ⟨a0, rfl, by rw [l0, sizeLine_eq]; omega, ?_⟩
  refine k H _ ⟨y, rfl, ?_, q _⟩
  rw [Str.length_append, l0, sizeLine_eq]
  omega
theorem fstr2 {a0 a1 : Str} {v u : V} {σ : L2.St} {H : Hp} {Q : Str → Hp → Prop} {i j : Nat} (hv : σ[i]? = some (some v)) (hu : σ[j]? = some (some u)) (ok : OkF v) (ok2 : OkF u) (h0 : a0.length ≤ 1000) (h1 : a1.length ≤ 1000) (q : ∀ o, Q o H) :
    tJs [tC (.str a0), tFmt (tVar i), tC (.str a1), tFmt (tVar j)] Str.empty σ H Q := by
  obtain ⟨y, hy, k⟩ := ok.fmt hv
  obtain ⟨y2, hy2, k2⟩ := ok2.fmt hu
  have l0 : (Str.empty ++ a0).length = a0.length := by rw [Str.length_append]; show 0 + _ = _; omega
  refine ⟨a0, rfl, by rw [l0, sizeLine_eq]; omega, ?_⟩
  refine k H _ ⟨y, rfl, by rw [Str.length_append, l0, sizeLine_eq]; omega, a1, rfl, by rw [Str.length_append, Str.length_append, l0, sizeLine_eq]; omega, ?_⟩
  refine k2 H _ ⟨y2, rfl, ?_, q _⟩
  rw [Str.length_append, Str.length_append, Str.length_append, l0, sizeLine_eq]
  omega
end
end Oil
namespace Oil
open PySem PySem.Spec PyProof.Rows L2
local macro_rules | `(tactic| walk_at "pq1") => `(tactic| with_reducible first
  | refine p_seq ?_ | refine p_skip ?_ | refine p_set ?_ | refine p_setO ?_ | refine p_kown ?_ | refine p_unp ?_ | refine p_put rfl ?_ | refine p_put1 ?_
  | refine p_par ?_ | refine p_pnil ?_ | refine p_pval ?_ | refine p_pown ?_ | refine p_kpown ?_ | refine p_expr ?_ | refine p_ret ?_ | refine p_retN ?_ | refine p_ifS ?_
  | refine p_for ?_ | refine p_raise ?_ | refine p_c ?_ | refine p_op ?_ | refine p_neg ?_ | refine p_kneg ?_ | refine p_chain ?_ | refine p_and ?_ | refine p_or ?_ | refine p_not ?_ | refine p_knot ?_
  | refine p_if ?_ | refine p_nil ?_ | refine p_cons ?_ | refine p_star ?_ | refine p_kstarT ?_ | refine p_kstarL ?_ | refine p_tup ?_ | refine p_lst ?_ | refine p_call ?_ | refine p_cb ?_ | refine p_val ?_ | refine p_kval ?_
  | refine p_ttru ?_ | refine p_ktruN ?_ | refine p_ktruB ?_ | refine p_ktruI ?_ | refine p_ktruL ?_ | refine p_ktruT ?_ | refine p_tnot ?_ | refine p_tand ?_ | refine p_tor ?_
  | refine p_nopart ?_ | refine p_part ?_ | refine p_kpart ?_ | refine p_slice ?_ | refine p_ksliceL ?_ | refine p_ksliceT ?_ | refine p_fld ?_ | refine p_meth ?_ | refine p_clo ?_ | refine p_kclo rfl ?_ | refine p_prop ?_ | refine p_kprop rfl ?_
  | refine p_inv ?_ | refine p_kinv rfl ?_ | refine p_lenO ?_ | refine p_klenO rfl ?_ | refine p_get ?_ | refine p_kget rfl ?_ | refine p_cmeth ?_ | refine p_kcmeth rfl ?_ | refine p_opC ?_ | refine p_kopC rfl rfl ?_ | refine p_opF ?_ | refine p_kopF rfl rfl ?_
  | refine p_eqO ?_ | refine p_keqO rfl rfl ?_ | refine p_iter ?_ | refine p_kiterL ?_ | refine p_kiterT ?_ | refine p_rg1 ?_ | refine p_rg2 ?_ | refine p_enum ?_ | refine p_kenum ?_ | refine p_lc ?_ | refine p_yes ?_
  | refine p_tt ?_ | refine p_ff ?_
  | refine o_add ?_ | refine o_sub ?_ | refine o_lt ?_ | refine o_le ?_ | refine o_gt ?_ | refine o_ge ?_
  | refine b_lenL ?_ | refine b_lenT ?_ | refine b_int ?_ | refine b_tupL ?_ | refine b_tupT ?_ | refine b_listL ?_ | refine b_listT ?_ | refine b_max2 ?_ | refine b_min2 ?_)
local macro_rules | `(tactic| walk_at "pq2") => `(tactic| with_reducible first
  | refine p_name (by with_unfolding_all rfl) ?_ | refine p_ownV (by with_unfolding_all rfl) ?_ | refine p_own (by with_unfolding_all rfl) ?_ | refine p_app (by with_unfolding_all rfl) ?_ | refine p_putI (by with_unfolding_all rfl) ?_
  | refine p_frz (by with_unfolding_all rfl) ?_ | refine p_frzV (by with_unfolding_all rfl) ?_ | refine p_kfld (by with_unfolding_all rfl) (by with_unfolding_all rfl) ?_ | refine p_kmeth (by with_unfolding_all rfl) (by decide) ?_ | refine p_makL (by with_unfolding_all rfl) (by with_unfolding_all rfl) ?_
  | refine p_self (by with_unfolding_all rfl) (by decide) (by with_unfolding_all rfl) (by decide) ?_)
local macro_rules | `(tactic| walk_at "pq3") => `(tactic| with_reducible first
  | refine o_eqI ?_ | refine o_neI ?_ | refine o_isNon ?_ | refine o_isInt ?_ | refine o_isNotNon ?_ | refine o_isNotInt ?_ | refine p_kandT ?_ | refine p_kandF ?_ | refine p_korT ?_ | refine p_korF ?_ | refine p_nt ?_ | refine p_nf ?_)
local macro_rules | `(tactic| walk_at "pq") => `(tactic| repeat (first | walk_at "pq1" | walk_at "pq2" | walk_at "pq3"))
end Oil
namespace Oil
open PySem PySem.Spec PyProof.Rows L2
local macro_rules | `(tactic| walk_at "pq1") => `(tactic| with_reducible first
  | refine p_seq ?_ | refine p_skip ?_ | refine p_set ?_ | refine p_setO ?_ | refine p_kown ?_ | refine p_unp ?_ | refine p_put rfl ?_ | refine p_put1 ?_
  | refine p_par ?_ | refine p_pnil ?_ | refine p_pval ?_ | refine p_pown ?_ | refine p_kpown ?_ | refine p_expr ?_ | refine p_ret ?_ | refine p_retN ?_ | refine p_ifS ?_
  | refine p_for ?_ | refine p_raise ?_ | refine p_c ?_ | refine p_op ?_ | refine p_neg ?_ | refine p_kneg ?_ | refine p_chain ?_ | refine p_and ?_ | refine p_or ?_ | refine p_not ?_ | refine p_knot ?_
  | refine p_if ?_ | refine p_nil ?_ | refine p_cons ?_ | refine p_star ?_ | refine p_kstarT ?_ | refine p_kstarL ?_ | refine p_tup ?_ | refine p_lst ?_ | refine p_call ?_ | refine p_cb ?_ | refine p_val ?_ | refine p_kval ?_
  | refine p_ttru ?_ | refine p_ktruN ?_ | refine p_ktruB ?_ | refine p_ktruI ?_ | refine p_ktruL ?_ | refine p_ktruT ?_ | refine p_tnot ?_ | refine p_tand ?_ | refine p_tor ?_
  | refine p_nopart ?_ | refine p_part ?_ | refine p_kpart ?_ | refine p_slice ?_ | refine p_ksliceL ?_ | refine p_ksliceT ?_ | refine p_fld ?_ | refine p_meth ?_ | refine p_clo ?_ | refine p_kclo rfl ?_ | refine p_prop ?_ | refine p_kprop rfl ?_
  | refine p_inv ?_ | refine p_kinv rfl ?_ | refine p_lenO ?_ | refine p_klenO rfl ?_ | refine p_get ?_ | refine p_kget rfl ?_ | refine p_cmeth ?_ | refine p_kcmeth rfl ?_ | refine p_opC ?_ | refine p_kopC rfl rfl ?_ | refine p_opF ?_ | refine p_kopF rfl rfl ?_
  | refine p_eqO ?_ | refine p_keqO rfl rfl ?_ | refine p_iter ?_ | refine p_kiterL ?_ | refine p_kiterT ?_ | refine p_rg1 ?_ | refine p_rg2 ?_ | refine p_enum ?_ | refine p_kenum ?_ | refine p_lc ?_ | refine p_yes ?_
  | refine p_tt ?_ | refine p_ff ?_
  | refine o_add ?_ | refine o_sub ?_ | refine o_lt ?_ | refine o_le ?_ | refine o_gt ?_ | refine o_ge ?_
  | refine b_lenL ?_ | refine b_lenT ?_ | refine b_int ?_ | refine b_tupL ?_ | refine b_tupT ?_ | refine b_listL ?_ | refine b_listT ?_ | refine b_max2 ?_ | refine b_min2 ?_)
local macro_rules | `(tactic| walk_at "pq2") => `(tactic| with_reducible first
  | refine p_name (by with_unfolding_all rfl) ?_ | refine p_ownV (by with_unfolding_all rfl) ?_ | refine p_own (by with_unfolding_all rfl) ?_ | refine p_app (by with_unfolding_all rfl) ?_ | refine p_putI (by with_unfolding_all rfl) ?_
  | refine p_frz (by with_unfolding_all rfl) ?_ | refine p_frzV (by with_unfolding_all rfl) ?_ | refine p_kfld (by with_unfolding_all rfl) (by with_unfolding_all rfl) ?_ | refine p_kmeth (by with_unfolding_all rfl) (by decide) ?_ | refine p_makL (by with_unfolding_all rfl) (by with_unfolding_all rfl) ?_
  | refine p_self (by with_unfolding_all rfl) (by decide) (by with_unfolding_all rfl) (by decide) ?_)
local macro_rules | `(tactic| walk_at "pq3") => `(tactic| with_reducible first
  | refine o_eqI ?_ | refine o_neI ?_ | refine o_isNon ?_ | refine o_isInt ?_ | refine o_isNotNon ?_ | refine o_isNotInt ?_ | refine p_kandT ?_ | refine p_kandF ?_ | refine p_korT ?_ | refine p_korF ?_ | refine p_nt ?_ | refine p_nf ?_)
local macro_rules | `(tactic| walk_at "pq") => `(tactic| repeat (first | walk_at "pq1" | walk_at "pq2" | walk_at "pq3"))
/-- one leg with c in the lantern at most -/
def step (c : Int) (r : Int × Int) (x : Int) : Option Int := if min c (x + r.1) < r.2 then none else some (min c (x + r.1) - r.2)
/-- the leg after k legs -/
def nth (L : List (Int × Int)) (k : Nat) : Int × Int := L[k % L.length]?.getD (0, 1)
def walk (c : Int) (L : List (Int × Int)) (x : Int) : Nat → Option Int
  | 0 => some x
  | n + 1 => (walk c L x n).bind (step c (nth L n))
theorem nth_lt {L : List (Int × Int)} {k : Nat} (h : k < L.length) : nth L k = L[k] := by
  unfold nth
  rw [Nat.mod_eq_of_lt h, List.getElem?_eq_getElem h]
  rfl
theorem nth_mem {L : List (Int × Int)} {k : Nat} (h : 0 < L.length) : nth L k ∈ L := by
  have h2 := Nat.mod_lt k h
  unfold nth
  rw [List.getElem?_eq_getElem h2]
  exact List.getElem_mem h2
/-- what is gained by so many legs -/
def gains (L : List (Int × Int)) : Nat → Int
  | 0 => 0
  | n + 1 => gains L n + ((nth L n).1 - (nth L n).2)
/-- what a full lantern must hold from leg f to leg t -/
def lackR (L : List (Int × Int)) (f t : Nat) : Int := (nth L f).1 + gains L f - gains L t
end Oil
namespace Oil
open PySem PySem.Spec PyProof.Rows L2
local macro_rules | `(tactic| walk_at "pq1") => `(tactic| with_reducible first
  | refine p_seq ?_ | refine p_skip ?_ | refine p_set ?_ | refine p_setO ?_ | refine p_kown ?_ | refine p_unp ?_ | refine p_put rfl ?_ | refine p_put1 ?_
  | refine p_par ?_ | refine p_pnil ?_ | refine p_pval ?_ | refine p_pown ?_ | refine p_kpown ?_ | refine p_expr ?_ | refine p_ret ?_ | refine p_retN ?_ | refine p_ifS ?_
  | refine p_for ?_ | refine p_raise ?_ | refine p_c ?_ | refine p_op ?_ | refine p_neg ?_ | refine p_kneg ?_ | refine p_chain ?_ | refine p_and ?_ | refine p_or ?_ | refine p_not ?_ | refine p_knot ?_
  | refine p_if ?_ | refine p_nil ?_ | refine p_cons ?_ | refine p_star ?_ | refine p_kstarT ?_ | refine p_kstarL ?_ | refine p_tup ?_ | refine p_lst ?_ | refine p_call ?_ | refine p_cb ?_ | refine p_val ?_ | refine p_kval ?_
  | refine p_ttru ?_ | refine p_ktruN ?_ | refine p_ktruB ?_ | refine p_ktruI ?_ | refine p_ktruL ?_ | refine p_ktruT ?_ | refine p_tnot ?_ | refine p_tand ?_ | refine p_tor ?_
  | refine p_nopart ?_ | refine p_part ?_ | refine p_kpart ?_ | refine p_slice ?_ | refine p_ksliceL ?_ | refine p_ksliceT ?_ | refine p_fld ?_ | refine p_meth ?_ | refine p_clo ?_ | refine p_kclo rfl ?_ | refine p_prop ?_ | refine p_kprop rfl ?_
  | refine p_inv ?_ | refine p_kinv rfl ?_ | refine p_lenO ?_ | refine p_klenO rfl ?_ | refine p_get ?_ | refine p_kget rfl ?_ | refine p_cmeth ?_ | refine p_kcmeth rfl ?_ | refine p_opC ?_ | refine p_kopC rfl rfl ?_ | refine p_opF ?_ | refine p_kopF rfl rfl ?_
  | refine p_eqO ?_ | refine p_keqO rfl rfl ?_ | refine p_iter ?_ | refine p_kiterL ?_ | refine p_kiterT ?_ | refine p_rg1 ?_ | refine p_rg2 ?_ | refine p_enum ?_ | refine p_kenum ?_ | refine p_lc ?_ | refine p_yes ?_
  | refine p_tt ?_ | refine p_ff ?_
  | refine o_add ?_ | refine o_sub ?_ | refine o_lt ?_ | refine o_le ?_ | refine o_gt ?_ | refine o_ge ?_
  | refine b_lenL ?_ | refine b_lenT ?_ | refine b_int ?_ | refine b_tupL ?_ | refine b_tupT ?_ | refine b_listL ?_ | refine b_listT ?_ | refine b_max2 ?_ | refine b_min2 ?_)
local macro_rules | `(tactic| walk_at "pq2") => `(tactic| with_reducible first
  | refine p_name (by with_unfolding_all rfl) ?_ | refine p_ownV (by with_unfolding_all rfl) ?_ | refine p_own (by with_unfolding_all rfl) ?_ | refine p_app (by with_unfolding_all rfl) ?_ | refine p_putI (by with_unfolding_all rfl) ?_
  | refine p_frz (by with_unfolding_all rfl) ?_ | refine p_frzV (by with_unfolding_all rfl) ?_ | refine p_kfld (by with_unfolding_all rfl) (by with_unfolding_all rfl) ?_ | refine p_kmeth (by with_unfolding_all rfl) (by decide) ?_ | refine p_makL (by with_unfolding_all rfl) (by with_unfolding_all rfl) ?_
  | refine p_self (by with_unfolding_all rfl) (by decide) (by with_unfolding_all rfl) (by decide) ?_)
local macro_rules | `(tactic| walk_at "pq3") => `(tactic| with_reducible first
  | refine o_eqI ?_ | refine o_neI ?_ | refine o_isNon ?_ | refine o_isInt ?_ | refine o_isNotNon ?_ | refine o_isNotInt ?_ | refine p_kandT ?_ | refine p_kandF ?_ | refine p_korT ?_ | refine p_korF ?_ | refine p_nt ?_ | refine p_nf ?_)
local macro_rules | `(tactic| walk_at "pq") => `(tactic| repeat (first | walk_at "pq1" | walk_at "pq2" | walk_at "pq3"))
section
variable {Q : QD} {E : QR} {p a b c x : Int} {rs : List (Int × Int)} {r : Int × Int} {i n : Nat} {s t : Str3}
theorem n_check_start (hv : WV c rs) (hi : i < rs.length) (x0 : 0 ≤ x) (x1 : x ≤ c) (h : Q .non) : S_check_start [dW c rs, .int (i : Int), .int x] Q E := by
  have l2 := hv.l2
  refine ⟨rfl, ?_⟩
  show b_check_start [.val (dW c rs), .val (.int (i : Int)), .val (.int x)] _
  unfold b_check_start dW
  walk_at "pq"
  refine n_len ?_
  refine p_klenI (by omega) ?_
  walk_at "pq"
  refine n_check_post (by omega) (by omega) ?_
  walk_at "pq"
  refine n_capacity ?_
  walk_at "pq"
  exact n_check_within x0 x1 h
/-- a greatest lack of the stretches of at most a round -/
structure Worst (rs : List (Int × Int)) (i l : Nat) (w : Int) : Prop where
  hi : i < rs.length
  l1 : 1 ≤ l
  l2 : l ≤ rs.length
  e : w = lackR (rot rs i) 0 l
  le : ∀ j k, j < rs.length → 1 ≤ k → k ≤ rs.length → lackR (rot rs j) 0 k ≤ w
  lt : ∀ j k, j < rs.length → 1 ≤ k → k < l → lackR (rot rs j) 0 k < w
  lt2 : ∀ j, j < i → lackR (rot rs j) 0 l < w
end
end Oil
namespace Oil
open PySem PySem.Spec PyProof.Rows L2
local macro_rules | `(tactic| walk_at "pq1") => `(tactic| with_reducible first
  | refine p_seq ?_ | refine p_skip ?_ | refine p_set ?_ | refine p_setO ?_ | refine p_kown ?_ | refine p_unp ?_ | refine p_put rfl ?_ | refine p_put1 ?_
  | refine p_par ?_ | refine p_pnil ?_ | refine p_pval ?_ | refine p_pown ?_ | refine p_kpown ?_ | refine p_expr ?_ | refine p_ret ?_ | refine p_retN ?_ | refine p_ifS ?_
  | refine p_for ?_ | refine p_raise ?_ | refine p_c ?_ | refine p_op ?_ | refine p_neg ?_ | refine p_kneg ?_ | refine p_chain ?_ | refine p_and ?_ | refine p_or ?_ | refine p_not ?_ | refine p_knot ?_
  | refine p_if ?_ | refine p_nil ?_ | refine p_cons ?_ | refine p_star ?_ | refine p_kstarT ?_ | refine p_kstarL ?_ | refine p_tup ?_ | refine p_lst ?_ | refine p_call ?_ | refine p_cb ?_ | refine p_val ?_ | refine p_kval ?_
  | refine p_ttru ?_ | refine p_ktruN ?_ | refine p_ktruB ?_ | refine p_ktruI ?_ | refine p_ktruL ?_ | refine p_ktruT ?_ | refine p_tnot ?_ | refine p_tand ?_ | refine p_tor ?_
  | refine p_nopart ?_ | refine p_part ?_ | refine p_kpart ?_ | refine p_slice ?_ | refine p_ksliceL ?_ | refine p_ksliceT ?_ | refine p_fld ?_ | refine p_meth ?_ | refine p_clo ?_ | refine p_kclo rfl ?_ | refine p_prop ?_ | refine p_kprop rfl ?_
  | refine p_inv ?_ | refine p_kinv rfl ?_ | refine p_lenO ?_ | refine p_klenO rfl ?_ | refine p_get ?_ | refine p_kget rfl ?_ | refine p_cmeth ?_ | refine p_kcmeth rfl ?_ | refine p_opC ?_ | refine p_kopC rfl rfl ?_ | refine p_opF ?_ | refine p_kopF rfl rfl ?_
  | refine p_eqO ?_ | refine p_keqO rfl rfl ?_ | refine p_iter ?_ | refine p_kiterL ?_ | refine p_kiterT ?_ | refine p_rg1 ?_ | refine p_rg2 ?_ | refine p_enum ?_ | refine p_kenum ?_ | refine p_lc ?_ | refine p_yes ?_
  | refine p_tt ?_ | refine p_ff ?_
  | refine o_add ?_ | refine o_sub ?_ | refine o_lt ?_ | refine o_le ?_ | refine o_gt ?_ | refine o_ge ?_
  | refine b_lenL ?_ | refine b_lenT ?_ | refine b_int ?_ | refine b_tupL ?_ | refine b_tupT ?_ | refine b_listL ?_ | refine b_listT ?_ | refine b_max2 ?_ | refine b_min2 ?_)
local macro_rules | `(tactic| walk_at "pq2") => `(tactic| with_reducible first
  | refine p_name (by with_unfolding_all rfl) ?_ | refine p_ownV (by with_unfolding_all rfl) ?_ | refine p_own (by with_unfolding_all rfl) ?_ | refine p_app (by with_unfolding_all rfl) ?_ | refine p_putI (by with_unfolding_all rfl) ?_
  | refine p_frz (by with_unfolding_all rfl) ?_ | refine p_frzV (by with_unfolding_all rfl) ?_ | refine p_kfld (by with_unfolding_all rfl) (by with_unfolding_all rfl) ?_ | refine p_kmeth (by with_unfolding_all rfl) (by decide) ?_ | refine p_makL (by with_unfolding_all rfl) (by with_unfolding_all rfl) ?_
  | refine p_self (by with_unfolding_all rfl) (by decide) (by with_unfolding_all rfl) (by decide) ?_)
local macro_rules | `(tactic| walk_at "pq3") => `(tactic| with_reducible first
  | refine o_eqI ?_ | refine o_neI ?_ | refine o_isNon ?_ | refine o_isInt ?_ | refine o_isNotNon ?_ | refine o_isNotInt ?_ | refine p_kandT ?_ | refine p_kandF ?_ | refine p_korT ?_ | refine p_korF ?_ | refine p_nt ?_ | refine p_nf ?_)
local macro_rules | `(tactic| walk_at "pq") => `(tactic| repeat (first | walk_at "pq1" | walk_at "pq2" | walk_at "pq3"))
end Oil
namespace Oil
open PySem PySem.Spec PyProof.Rows L2
local macro_rules | `(tactic| walk_at "pq1") => `(tactic| with_reducible first
  | refine p_seq ?_ | refine p_skip ?_ | refine p_set ?_ | refine p_setO ?_ | refine p_kown ?_ | refine p_unp ?_ | refine p_put rfl ?_ | refine p_put1 ?_
  | refine p_par ?_ | refine p_pnil ?_ | refine p_pval ?_ | refine p_pown ?_ | refine p_kpown ?_ | refine p_expr ?_ | refine p_ret ?_ | refine p_retN ?_ | refine p_ifS ?_
  | refine p_for ?_ | refine p_raise ?_ | refine p_c ?_ | refine p_op ?_ | refine p_neg ?_ | refine p_kneg ?_ | refine p_chain ?_ | refine p_and ?_ | refine p_or ?_ | refine p_not ?_ | refine p_knot ?_
  | refine p_if ?_ | refine p_nil ?_ | refine p_cons ?_ | refine p_star ?_ | refine p_kstarT ?_ | refine p_kstarL ?_ | refine p_tup ?_ | refine p_lst ?_ | refine p_call ?_ | refine p_cb ?_ | refine p_val ?_ | refine p_kval ?_
  | refine p_ttru ?_ | refine p_ktruN ?_ | refine p_ktruB ?_ | refine p_ktruI ?_ | refine p_ktruL ?_ | refine p_ktruT ?_ | refine p_tnot ?_ | refine p_tand ?_ | refine p_tor ?_
  | refine p_nopart ?_ | refine p_part ?_ | refine p_kpart ?_ | refine p_slice ?_ | refine p_ksliceL ?_ | refine p_ksliceT ?_ | refine p_fld ?_ | refine p_meth ?_ | refine p_clo ?_ | refine p_kclo rfl ?_ | refine p_prop ?_ | refine p_kprop rfl ?_
  | refine p_inv ?_ | refine p_kinv rfl ?_ | refine p_lenO ?_ | refine p_klenO rfl ?_ | refine p_get ?_ | refine p_kget rfl ?_ | refine p_cmeth ?_ | refine p_kcmeth rfl ?_ | refine p_opC ?_ | refine p_kopC rfl rfl ?_ | refine p_opF ?_ | refine p_kopF rfl rfl ?_
  | refine p_eqO ?_ | refine p_keqO rfl rfl ?_ | refine p_iter ?_ | refine p_kiterL ?_ | refine p_kiterT ?_ | refine p_rg1 ?_ | refine p_rg2 ?_ | refine p_enum ?_ | refine p_kenum ?_ | refine p_lc ?_ | refine p_yes ?_
  | refine p_tt ?_ | refine p_ff ?_
  | refine o_add ?_ | refine o_sub ?_ | refine o_lt ?_ | refine o_le ?_ | refine o_gt ?_ | refine o_ge ?_
  | refine b_lenL ?_ | refine b_lenT ?_ | refine b_int ?_ | refine b_tupL ?_ | refine b_tupT ?_ | refine b_listL ?_ | refine b_listT ?_ | refine b_max2 ?_ | refine b_min2 ?_)
local macro_rules | `(tactic| walk_at "pq2") => `(tactic| with_reducible first
  | refine p_name (by with_unfolding_all rfl) ?_ | refine p_ownV (by with_unfolding_all rfl) ?_ | refine p_own (by with_unfolding_all rfl) ?_ | refine p_app (by with_unfolding_all rfl) ?_ | refine p_putI (by with_unfolding_all rfl) ?_
  | refine p_frz (by with_unfolding_all rfl) ?_ | refine p_frzV (by with_unfolding_all rfl) ?_ | refine p_kfld (by with_unfolding_all rfl) (by with_unfolding_all rfl) ?_ | refine p_kmeth (by with_unfolding_all rfl) (by decide) ?_ | refine p_makL (by with_unfolding_all rfl) (by with_unfolding_all rfl) ?_
  | refine p_self (by with_unfolding_all rfl) (by decide) (by with_unfolding_all rfl) (by decide) ?_)
local macro_rules | `(tactic| walk_at "pq3") => `(tactic| with_reducible first
  | refine o_eqI ?_ | refine o_neI ?_ | refine o_isNon ?_ | refine o_isInt ?_ | refine o_isNotNon ?_ | refine o_isNotInt ?_ | refine p_kandT ?_ | refine p_kandF ?_ | refine p_korT ?_ | refine p_korF ?_ | refine p_nt ?_ | refine p_nf ?_)
local macro_rules | `(tactic| walk_at "pq") => `(tactic| repeat (first | walk_at "pq1" | walk_at "pq2" | walk_at "pq3"))
section
variable {Q : QD} {E : QR} {p a b c x : Int} {rs : List (Int × Int)} {r : Int × Int} {i n : Nat} {s t : Str3}
theorem n_getitem (hi : i < rs.length) (h : Q (dP (nth rs i))) : S_Way_getitem [dW c rs, .int (i : Int)] Q E := by
  refine ⟨rfl, ?_⟩
  show b_Way_getitem [.val (dW c rs), .val (.int (i : Int))] _
  unfold b_Way_getitem dW
  walk_at "pq"
  refine n_check_post (by omega) (by rw [List.length_map]; omega) ?_
  walk_at "pq"
  refine o_ixT (k := i) (x := dP (nth rs i)) (ixD_nat (by rw [List.length_map]; exact hi)) ?_ h
  rw [nth_lt hi, List.getElem?_map, List.getElem?_eq_getElem hi]
  rfl
theorem n_taken (hi : i < rs.length) (h : Q (.int (min c (x + (nth rs i).1)))) : S_taken [dW c rs, .int (i : Int), .int x] Q E := by
  refine ⟨rfl, ?_⟩
  show b_taken [.val (dW c rs), .val (.int (i : Int)), .val (.int x)] _
  unfold b_taken
  walk_at "pq"
  refine ⟨rfl, n_capacity ?_⟩
  walk_at "pq"
  refine ⟨rfl, n_getitem hi ?_⟩
  unfold dP
  walk_at "pq"
  refine o_ixT (k := 0) rfl rfl ?_
  walk_at "pq"
  exact h
end
end Oil
namespace Oil
open PySem PySem.Spec PyProof.Rows L2
local macro_rules | `(tactic| walk_at "pq1") => `(tactic| with_reducible first
  | refine p_seq ?_ | refine p_skip ?_ | refine p_set ?_ | refine p_setO ?_ | refine p_kown ?_ | refine p_unp ?_ | refine p_put rfl ?_ | refine p_put1 ?_
  | refine p_par ?_ | refine p_pnil ?_ | refine p_pval ?_ | refine p_pown ?_ | refine p_kpown ?_ | refine p_expr ?_ | refine p_ret ?_ | refine p_retN ?_ | refine p_ifS ?_
  | refine p_for ?_ | refine p_raise ?_ | refine p_c ?_ | refine p_op ?_ | refine p_neg ?_ | refine p_kneg ?_ | refine p_chain ?_ | refine p_and ?_ | refine p_or ?_ | refine p_not ?_ | refine p_knot ?_
  | refine p_if ?_ | refine p_nil ?_ | refine p_cons ?_ | refine p_star ?_ | refine p_kstarT ?_ | refine p_kstarL ?_ | refine p_tup ?_ | refine p_lst ?_ | refine p_call ?_ | refine p_cb ?_ | refine p_val ?_ | refine p_kval ?_
  | refine p_ttru ?_ | refine p_ktruN ?_ | refine p_ktruB ?_ | refine p_ktruI ?_ | refine p_ktruL ?_ | refine p_ktruT ?_ | refine p_tnot ?_ | refine p_tand ?_ | refine p_tor ?_
  | refine p_nopart ?_ | refine p_part ?_ | refine p_kpart ?_ | refine p_slice ?_ | refine p_ksliceL ?_ | refine p_ksliceT ?_ | refine p_fld ?_ | refine p_meth ?_ | refine p_clo ?_ | refine p_kclo rfl ?_ | refine p_prop ?_ | refine p_kprop rfl ?_
  | refine p_inv ?_ | refine p_kinv rfl ?_ | refine p_lenO ?_ | refine p_klenO rfl ?_ | refine p_get ?_ | refine p_kget rfl ?_ | refine p_cmeth ?_ | refine p_kcmeth rfl ?_ | refine p_opC ?_ | refine p_kopC rfl rfl ?_ | refine p_opF ?_ | refine p_kopF rfl rfl ?_
  | refine p_eqO ?_ | refine p_keqO rfl rfl ?_ | refine p_iter ?_ | refine p_kiterL ?_ | refine p_kiterT ?_ | refine p_rg1 ?_ | refine p_rg2 ?_ | refine p_enum ?_ | refine p_kenum ?_ | refine p_lc ?_ | refine p_yes ?_
  | refine p_tt ?_ | refine p_ff ?_
  | refine o_add ?_ | refine o_sub ?_ | refine o_lt ?_ | refine o_le ?_ | refine o_gt ?_ | refine o_ge ?_
  | refine b_lenL ?_ | refine b_lenT ?_ | refine b_int ?_ | refine b_tupL ?_ | refine b_tupT ?_ | refine b_listL ?_ | refine b_listT ?_ | refine b_max2 ?_ | refine b_min2 ?_)
local macro_rules | `(tactic| walk_at "pq2") => `(tactic| with_reducible first
  | refine p_name (by with_unfolding_all rfl) ?_ | refine p_ownV (by with_unfolding_all rfl) ?_ | refine p_own (by with_unfolding_all rfl) ?_ | refine p_app (by with_unfolding_all rfl) ?_ | refine p_putI (by with_unfolding_all rfl) ?_
  | refine p_frz (by with_unfolding_all rfl) ?_ | refine p_frzV (by with_unfolding_all rfl) ?_ | refine p_kfld (by with_unfolding_all rfl) (by with_unfolding_all rfl) ?_ | refine p_kmeth (by with_unfolding_all rfl) (by decide) ?_ | refine p_makL (by with_unfolding_all rfl) (by with_unfolding_all rfl) ?_
  | refine p_self (by with_unfolding_all rfl) (by decide) (by with_unfolding_all rfl) (by decide) ?_)
local macro_rules | `(tactic| walk_at "pq3") => `(tactic| with_reducible first
  | refine o_eqI ?_ | refine o_neI ?_ | refine o_isNon ?_ | refine o_isInt ?_ | refine o_isNotNon ?_ | refine o_isNotInt ?_ | refine p_kandT ?_ | refine p_kandF ?_ | refine p_korT ?_ | refine p_korF ?_ | refine p_nt ?_ | refine p_nf ?_)
local macro_rules | `(tactic| walk_at "pq") => `(tactic| repeat (first | walk_at "pq1" | walk_at "pq2" | walk_at "pq3"))
theorem max_ex : ∀ l : List Int, l ≠ [] → ∃ m, m ∈ l ∧ ∀ y, y ∈ l → y ≤ m
  | [], h => absurd rfl h
  | [a], _ => ⟨a, by simp, fun y hy => by simp at hy; omega⟩
  | a :: b :: l, _ => by
    obtain ⟨m, h1, h2⟩ := max_ex (b :: l) (by simp)
    by_cases h : a ≤ m
    · exact ⟨m, List.mem_cons_of_mem _ h1, fun y hy => by
        rcases List.mem_cons.mp hy with e | e
        · subst e; exact h
        · exact h2 y e⟩
    · exact ⟨a, List.mem_cons_self, fun y hy => by
        rcases List.mem_cons.mp hy with e | e
        · subst e; exact Int.le_refl _
        · have := h2 y e
          omega⟩
/-- all lacks of at most a round -/
def allL (rs : List (Int × Int)) : List Int := (List.range rs.length).flatMap fun j => (List.range rs.length).map fun k => lackR (rot rs j) 0 (k + 1)
theorem mem_allL {rs : List (Int × Int)} {y : Int} : y ∈ allL rs ↔ ∃ j k, j < rs.length ∧ 1 ≤ k ∧ k ≤ rs.length ∧ y = lackR (rot rs j) 0 k := by
  unfold allL
  rw [List.mem_flatMap]
  constructor
  · rintro ⟨j, hj, h⟩
    obtain ⟨k, hk, e⟩ := List.mem_map.mp h
    exact ⟨j, k + 1, List.mem_range.mp hj, by omega, List.mem_range.mp hk, e.symm⟩
  · rintro ⟨j, k, hj, k1, k2, e⟩
    exact ⟨j, List.mem_range.mpr hj, List.mem_map.mpr ⟨k - 1, List.mem_range.mpr (by omega), by rw [Nat.sub_add_cancel k1, e]⟩⟩
open Classical in
/-- the greatest lack -/
noncomputable def gl (rs : List (Int × Int)) : Int := if h : ∃ m, m ∈ allL rs ∧ ∀ y, y ∈ allL rs → y ≤ m then h.choose else 0
theorem gl_spec {rs : List (Int × Int)} (h : 1 ≤ rs.length) : gl rs ∈ allL rs ∧ ∀ y, y ∈ allL rs → y ≤ gl rs := by
  have he : ∃ m, m ∈ allL rs ∧ ∀ y, y ∈ allL rs → y ≤ m := max_ex _ fun e => by
    have : lackR (rot rs 0) 0 1 ∈ allL rs := mem_allL.mpr ⟨0, 1, by omega, by omega, h, rfl⟩
    rw [e] at this
    simp at this
  unfold gl
  rw [dif_pos he]
  exact he.choose_spec
theorem Worst.gl {rs : List (Int × Int)} {i l : Nat} {w : Int} (h : Worst rs i l w) : w = Oil.gl rs := by
  have hs := gl_spec (rs := rs) (by have := h.hi; omega)
  have a := hs.2 w (mem_allL.mpr ⟨i, l, h.hi, h.l1, h.l2, h.e⟩)
  obtain ⟨j, k, hj, k1, k2, e⟩ := mem_allL.mp hs.1
  have b := h.le j k hj k1 k2
  omega
/-- the same lacks, length by length -/
structure SameL (a b : List (Int × Int)) : Prop where
  len : a.length = b.length
  lr : ∀ j k, j < a.length → 1 ≤ k → k ≤ a.length → ∃ j', j' < b.length ∧ lackR (rot a j) 0 k = lackR (rot b j') 0 k
  rl : ∀ j k, j < b.length → 1 ≤ k → k ≤ b.length → ∃ j', j' < a.length ∧ lackR (rot b j) 0 k = lackR (rot a j') 0 k
theorem SameL.gl {a b : List (Int × Int)} (s : SameL a b) (h : 1 ≤ a.length) : Oil.gl a = Oil.gl b := by
  have ha := gl_spec h
  have hb := gl_spec (rs := b) (by rw [← s.len]; exact h)
  obtain ⟨j, k, hj, k1, k2, e⟩ := mem_allL.mp ha.1
  obtain ⟨j', hj', e'⟩ := s.lr j k hj k1 k2
  have x1 := hb.2 _ (mem_allL.mpr ⟨j', k, hj', k1, by rw [← s.len]; exact k2, rfl⟩)
  obtain ⟨i, l, hi, l1, l2, f⟩ := mem_allL.mp hb.1
  obtain ⟨i', hi', f'⟩ := s.rl i l hi l1 l2
  have x2 := ha.2 _ (mem_allL.mpr ⟨i', l, hi', l1, by rw [s.len]; exact l2, rfl⟩)
  omega
def revW (rs : List (Int × Int)) : List (Int × Int) := (List.range rs.length).map fun j => ((nth rs (rs.length - j)).1, (nth rs (rs.length - 1 - j)).2)
theorem revW_len (rs : List (Int × Int)) : (revW rs).length = rs.length := by simp [revW]
end Oil
namespace Oil
open PySem PySem.Spec PyProof.Rows L2
local macro_rules | `(tactic| walk_at "pq1") => `(tactic| with_reducible first
  | refine p_seq ?_ | refine p_skip ?_ | refine p_set ?_ | refine p_setO ?_ | refine p_kown ?_ | refine p_unp ?_ | refine p_put rfl ?_ | refine p_put1 ?_
  | refine p_par ?_ | refine p_pnil ?_ | refine p_pval ?_ | refine p_pown ?_ | refine p_kpown ?_ | refine p_expr ?_ | refine p_ret ?_ | refine p_retN ?_ | refine p_ifS ?_
  | refine p_for ?_ | refine p_raise ?_ | refine p_c ?_ | refine p_op ?_ | refine p_neg ?_ | refine p_kneg ?_ | refine p_chain ?_ | refine p_and ?_ | refine p_or ?_ | refine p_not ?_ | refine p_knot ?_
  | refine p_if ?_ | refine p_nil ?_ | refine p_cons ?_ | refine p_star ?_ | refine p_kstarT ?_ | refine p_kstarL ?_ | refine p_tup ?_ | refine p_lst ?_ | refine p_call ?_ | refine p_cb ?_ | refine p_val ?_ | refine p_kval ?_
  | refine p_ttru ?_ | refine p_ktruN ?_ | refine p_ktruB ?_ | refine p_ktruI ?_ | refine p_ktruL ?_ | refine p_ktruT ?_ | refine p_tnot ?_ | refine p_tand ?_ | refine p_tor ?_
  | refine p_nopart ?_ | refine p_part ?_ | refine p_kpart ?_ | refine p_slice ?_ | refine p_ksliceL ?_ | refine p_ksliceT ?_ | refine p_fld ?_ | refine p_meth ?_ | refine p_clo ?_ | refine p_kclo rfl ?_ | refine p_prop ?_ | refine p_kprop rfl ?_
  | refine p_inv ?_ | refine p_kinv rfl ?_ | refine p_lenO ?_ | refine p_klenO rfl ?_ | refine p_get ?_ | refine p_kget rfl ?_ | refine p_cmeth ?_ | refine p_kcmeth rfl ?_ | refine p_opC ?_ | refine p_kopC rfl rfl ?_ | refine p_opF ?_ | refine p_kopF rfl rfl ?_
  | refine p_eqO ?_ | refine p_keqO rfl rfl ?_ | refine p_iter ?_ | refine p_kiterL ?_ | refine p_kiterT ?_ | refine p_rg1 ?_ | refine p_rg2 ?_ | refine p_enum ?_ | refine p_kenum ?_ | refine p_lc ?_ | refine p_yes ?_
  | refine p_tt ?_ | refine p_ff ?_
  | refine o_add ?_ | refine o_sub ?_ | refine o_lt ?_ | refine o_le ?_ | refine o_gt ?_ | refine o_ge ?_
  | refine b_lenL ?_ | refine b_lenT ?_ | refine b_int ?_ | refine b_tupL ?_ | refine b_tupT ?_ | refine b_listL ?_ | refine b_listT ?_ | refine b_max2 ?_ | refine b_min2 ?_)
local macro_rules | `(tactic| walk_at "pq2") => `(tactic| with_reducible first
  | refine p_name (by with_unfolding_all rfl) ?_ | refine p_ownV (by with_unfolding_all rfl) ?_ | refine p_own (by with_unfolding_all rfl) ?_ | refine p_app (by with_unfolding_all rfl) ?_ | refine p_putI (by with_unfolding_all rfl) ?_
  | refine p_frz (by with_unfolding_all rfl) ?_ | refine p_frzV (by with_unfolding_all rfl) ?_ | refine p_kfld (by with_unfolding_all rfl) (by with_unfolding_all rfl) ?_ | refine p_kmeth (by with_unfolding_all rfl) (by decide) ?_ | refine p_makL (by with_unfolding_all rfl) (by with_unfolding_all rfl) ?_
  | refine p_self (by with_unfolding_all rfl) (by decide) (by with_unfolding_all rfl) (by decide) ?_)
local macro_rules | `(tactic| walk_at "pq3") => `(tactic| with_reducible first
  | refine o_eqI ?_ | refine o_neI ?_ | refine o_isNon ?_ | refine o_isInt ?_ | refine o_isNotNon ?_ | refine o_isNotInt ?_ | refine p_kandT ?_ | refine p_kandF ?_ | refine p_korT ?_ | refine p_korF ?_ | refine p_nt ?_ | refine p_nf ?_)
local macro_rules | `(tactic| walk_at "pq") => `(tactic| repeat (first | walk_at "pq1" | walk_at "pq2" | walk_at "pq3"))
theorem WV.rev {c : Int} {rs : List (Int × Int)} (hv : WV c rs) : WV c (revW rs) :=
  ⟨hv.c1, hv.c2, by rw [revW_len]; exact hv.l1, by rw [revW_len]; exact hv.l2, fun r hr => by
    obtain ⟨j, _, e⟩ := List.mem_map.mp hr
    have l1 := hv.l1
    have a := hv.pv _ (nth_mem (L := rs) (k := rs.length - j) (by omega))
    have b := hv.pv _ (nth_mem (L := rs) (k := rs.length - 1 - j) (by omega))
    rw [← e]
    exact ⟨a.1, b.2⟩⟩
def pP (r : Int × Int) : PyData := .tuple [.int r.1, .int r.2]
theorem pds_P : ∀ rs : List (Int × Int), D.pds (rs.map dP) = some (rs.map pP)
  | [] => rfl
  | r :: rs => by
    show (match D.pd (dP r), D.pds (rs.map dP) with
      | some a, some b => some (a :: b)
      | _, _ => none) = _
    rw [pds_P rs]
    rfl
theorem canLay_P : ∀ rs : List (Int × Int), PyData.canLayAll0 (rs.map pP) = true
  | [] => by simp [PyData.canLayAll0]
  | r :: rs => by
    rw [List.map_cons]
    simp [PyData.canLayAll0, pP, PyData.canLay0, canLay_P rs]
theorem depth_P : ∀ rs : List (Int × Int), PyData.depthAll (rs.map pP) ≤ 1
  | [] => by simp [PyData.depthAll]
  | r :: rs => by
    have := depth_P rs
    rw [List.map_cons]
    simp [PyData.depthAll, pP, PyData.depth]
    omega
theorem shaped_PT (rs : List (Int × Int)) : SeqAt.shaped (.tuple (rs.map pP)) = true := by
  have := depth_P rs
  simp [SeqAt.shaped, PyData.canLay0, canLay_P, PyData.depth]
  omega
theorem eqvAll_P : ∀ a b : List (Int × Int), PyData.eqvAll (a.map pP) (b.map pP) = decide (a = b)
  | [], [] => by simp [PyData.eqvAll]
  | [], _ :: _ => by simp [PyData.eqvAll]
  | _ :: _, [] => by simp [PyData.eqvAll]
  | x :: xs, y :: ys => by
    have e : PyData.eqv (pP x) (pP y) = decide (x = y) := by
      obtain ⟨p, q⟩ := x
      obtain ⟨p', q'⟩ := y
      unfold pP
      simp [PyData.eqv, PyData.eqvAll]
      rfl
    rw [List.map_cons, List.map_cons, show PyData.eqvAll (pP x :: xs.map pP) (pP y :: ys.map pP) = (PyData.eqv (pP x) (pP y) && PyData.eqvAll (xs.map pP) (ys.map pP)) by simp [PyData.eqvAll], e, eqvAll_P xs ys]
    simp only [List.cons.injEq, Bool.decide_and]
section
variable {Q : QD} {E : QR} {p q c c' x : Int} {rs rs' : List (Int × Int)} {r : Int × Int} {i n : Nat}
theorem o_eqPT (h : Q (.bl (decide (rs = rs')))) : oEq (.tup (rs.map dP)) (.tup (rs'.map dP)) Q :=
  ⟨.tuple (rs.map pP), .tuple (rs'.map pP), by show (D.pds _).map _ = _; rw [pds_P]; rfl, by show (D.pds _).map _ = _; rw [pds_P]; rfl, shaped_PT _, shaped_PT _, by
    rw [show PyData.eqv (.tuple (rs.map pP)) (.tuple (rs'.map pP)) = PyData.eqvAll (rs.map pP) (rs'.map pP) by simp [PyData.eqv], eqvAll_P]
    exact h⟩
theorem n_Way_eq (h : Q (.bl (decide (c = c' ∧ rs = rs')))) : S_Way_eq [dW c rs, dW c' rs'] Q E := by
  refine ⟨rfl, ?_⟩
  show b_Way_eq [.val (dW c rs), .val (dW c' rs')] _
  unfold b_Way_eq dW
  walk_at "pq"
  refine ⟨by simp, rfl, ?_⟩
  walk_at "pq"
  refine p_kand (fun z => ?_) (fun z => ?_)
  · walk_at "pq"
    have z := of_decide_eq_true z
    refine o_eqPT ?_
    rw [show decide (rs = rs') = decide (c = c' ∧ rs = rs') by simp [z]]
    exact h
  · have z := of_decide_eq_false z
    rw [show decide (c = c' ∧ rs = rs') = false by simp [z]] at h
    exact h
end
end Oil
namespace Oil
open PySem PySem.Spec PyProof.Rows L2
local macro_rules | `(tactic| walk_at "pq1") => `(tactic| with_reducible first
  | refine p_seq ?_ | refine p_skip ?_ | refine p_set ?_ | refine p_setO ?_ | refine p_kown ?_ | refine p_unp ?_ | refine p_put rfl ?_ | refine p_put1 ?_
  | refine p_par ?_ | refine p_pnil ?_ | refine p_pval ?_ | refine p_pown ?_ | refine p_kpown ?_ | refine p_expr ?_ | refine p_ret ?_ | refine p_retN ?_ | refine p_ifS ?_
  | refine p_for ?_ | refine p_raise ?_ | refine p_c ?_ | refine p_op ?_ | refine p_neg ?_ | refine p_kneg ?_ | refine p_chain ?_ | refine p_and ?_ | refine p_or ?_ | refine p_not ?_ | refine p_knot ?_
  | refine p_if ?_ | refine p_nil ?_ | refine p_cons ?_ | refine p_star ?_ | refine p_kstarT ?_ | refine p_kstarL ?_ | refine p_tup ?_ | refine p_lst ?_ | refine p_call ?_ | refine p_cb ?_ | refine p_val ?_ | refine p_kval ?_
  | refine p_ttru ?_ | refine p_ktruN ?_ | refine p_ktruB ?_ | refine p_ktruI ?_ | refine p_ktruL ?_ | refine p_ktruT ?_ | refine p_tnot ?_ | refine p_tand ?_ | refine p_tor ?_
  | refine p_nopart ?_ | refine p_part ?_ | refine p_kpart ?_ | refine p_slice ?_ | refine p_ksliceL ?_ | refine p_ksliceT ?_ | refine p_fld ?_ | refine p_meth ?_ | refine p_clo ?_ | refine p_kclo rfl ?_ | refine p_prop ?_ | refine p_kprop rfl ?_
  | refine p_inv ?_ | refine p_kinv rfl ?_ | refine p_lenO ?_ | refine p_klenO rfl ?_ | refine p_get ?_ | refine p_kget rfl ?_ | refine p_cmeth ?_ | refine p_kcmeth rfl ?_ | refine p_opC ?_ | refine p_kopC rfl rfl ?_ | refine p_opF ?_ | refine p_kopF rfl rfl ?_
  | refine p_eqO ?_ | refine p_keqO rfl rfl ?_ | refine p_iter ?_ | refine p_kiterL ?_ | refine p_kiterT ?_ | refine p_rg1 ?_ | refine p_rg2 ?_ | refine p_enum ?_ | refine p_kenum ?_ | refine p_lc ?_ | refine p_yes ?_
  | refine p_tt ?_ | refine p_ff ?_
  | refine o_add ?_ | refine o_sub ?_ | refine o_lt ?_ | refine o_le ?_ | refine o_gt ?_ | refine o_ge ?_
  | refine b_lenL ?_ | refine b_lenT ?_ | refine b_int ?_ | refine b_tupL ?_ | refine b_tupT ?_ | refine b_listL ?_ | refine b_listT ?_ | refine b_max2 ?_ | refine b_min2 ?_)
local macro_rules | `(tactic| walk_at "pq2") => `(tactic| with_reducible first
  | refine p_name (by with_unfolding_all rfl) ?_ | refine p_ownV (by with_unfolding_all rfl) ?_ | refine p_own (by with_unfolding_all rfl) ?_ | refine p_app (by with_unfolding_all rfl) ?_ | refine p_putI (by with_unfolding_all rfl) ?_
  | refine p_frz (by with_unfolding_all rfl) ?_ | refine p_frzV (by with_unfolding_all rfl) ?_ | refine p_kfld (by with_unfolding_all rfl) (by with_unfolding_all rfl) ?_ | refine p_kmeth (by with_unfolding_all rfl) (by decide) ?_ | refine p_makL (by with_unfolding_all rfl) (by with_unfolding_all rfl) ?_
  | refine p_self (by with_unfolding_all rfl) (by decide) (by with_unfolding_all rfl) (by decide) ?_)
local macro_rules | `(tactic| walk_at "pq3") => `(tactic| with_reducible first
  | refine o_eqI ?_ | refine o_neI ?_ | refine o_isNon ?_ | refine o_isInt ?_ | refine o_isNotNon ?_ | refine o_isNotInt ?_ | refine p_kandT ?_ | refine p_kandF ?_ | refine p_korT ?_ | refine p_korF ?_ | refine p_nt ?_ | refine p_nf ?_)
local macro_rules | `(tactic| walk_at "pq") => `(tactic| repeat (first | walk_at "pq1" | walk_at "pq2" | walk_at "pq3"))
def lo (c : Int) (rs : List (Int × Int)) (k : Nat) : Option Int := if surp rs < 0 then none else (stW c rs k (2 * rs.length)).need
section
variable {Q : QD} {E : QR} {c : Int} {rs : List (Int × Int)}
/-- the rows that are drawn -/
structure RP (rs : List (Int × Int)) : Prop where
  l1 : 1 ≤ rs.length
  l2 : rs.length ≤ 5
  pv : ∀ r ∈ rs, (0 ≤ r.1 ∧ r.1 ≤ 100) ∧ 1 ≤ r.2 ∧ r.2 ≤ 5
theorem RP.wv (h : RP rs) (h1 : 1 ≤ c) (h2 : c ≤ 1000000000) : WV c rs := ⟨h1, h2, h.l1, by have := h.l2; omega, fun r hr => by
  have q := h.pv r hr
  exact ⟨⟨q.1.1, by omega⟩, q.2.1, by omega⟩⟩
end
end Oil
namespace Oil
open PySem PySem.Spec PyProof.Rows L2
local macro_rules | `(tactic| walk_at "pq1") => `(tactic| with_reducible first
  | refine p_seq ?_ | refine p_skip ?_ | refine p_set ?_ | refine p_setO ?_ | refine p_kown ?_ | refine p_unp ?_ | refine p_put rfl ?_ | refine p_put1 ?_
  | refine p_par ?_ | refine p_pnil ?_ | refine p_pval ?_ | refine p_pown ?_ | refine p_kpown ?_ | refine p_expr ?_ | refine p_ret ?_ | refine p_retN ?_ | refine p_ifS ?_
  | refine p_for ?_ | refine p_raise ?_ | refine p_c ?_ | refine p_op ?_ | refine p_neg ?_ | refine p_kneg ?_ | refine p_chain ?_ | refine p_and ?_ | refine p_or ?_ | refine p_not ?_ | refine p_knot ?_
  | refine p_if ?_ | refine p_nil ?_ | refine p_cons ?_ | refine p_star ?_ | refine p_kstarT ?_ | refine p_kstarL ?_ | refine p_tup ?_ | refine p_lst ?_ | refine p_call ?_ | refine p_cb ?_ | refine p_val ?_ | refine p_kval ?_
  | refine p_ttru ?_ | refine p_ktruN ?_ | refine p_ktruB ?_ | refine p_ktruI ?_ | refine p_ktruL ?_ | refine p_ktruT ?_ | refine p_tnot ?_ | refine p_tand ?_ | refine p_tor ?_
  | refine p_nopart ?_ | refine p_part ?_ | refine p_kpart ?_ | refine p_slice ?_ | refine p_ksliceL ?_ | refine p_ksliceT ?_ | refine p_fld ?_ | refine p_meth ?_ | refine p_clo ?_ | refine p_kclo rfl ?_ | refine p_prop ?_ | refine p_kprop rfl ?_
  | refine p_inv ?_ | refine p_kinv rfl ?_ | refine p_lenO ?_ | refine p_klenO rfl ?_ | refine p_get ?_ | refine p_kget rfl ?_ | refine p_cmeth ?_ | refine p_kcmeth rfl ?_ | refine p_opC ?_ | refine p_kopC rfl rfl ?_ | refine p_opF ?_ | refine p_kopF rfl rfl ?_
  | refine p_eqO ?_ | refine p_keqO rfl rfl ?_ | refine p_iter ?_ | refine p_kiterL ?_ | refine p_kiterT ?_ | refine p_rg1 ?_ | refine p_rg2 ?_ | refine p_enum ?_ | refine p_kenum ?_ | refine p_lc ?_ | refine p_yes ?_
  | refine p_tt ?_ | refine p_ff ?_
  | refine o_add ?_ | refine o_sub ?_ | refine o_lt ?_ | refine o_le ?_ | refine o_gt ?_ | refine o_ge ?_
  | refine b_lenL ?_ | refine b_lenT ?_ | refine b_int ?_ | refine b_tupL ?_ | refine b_tupT ?_ | refine b_listL ?_ | refine b_listT ?_ | refine b_max2 ?_ | refine b_min2 ?_)
local macro_rules | `(tactic| walk_at "pq2") => `(tactic| with_reducible first
  | refine p_name (by with_unfolding_all rfl) ?_ | refine p_ownV (by with_unfolding_all rfl) ?_ | refine p_own (by with_unfolding_all rfl) ?_ | refine p_app (by with_unfolding_all rfl) ?_ | refine p_putI (by with_unfolding_all rfl) ?_
  | refine p_frz (by with_unfolding_all rfl) ?_ | refine p_frzV (by with_unfolding_all rfl) ?_ | refine p_kfld (by with_unfolding_all rfl) (by with_unfolding_all rfl) ?_ | refine p_kmeth (by with_unfolding_all rfl) (by decide) ?_ | refine p_makL (by with_unfolding_all rfl) (by with_unfolding_all rfl) ?_
  | refine p_self (by with_unfolding_all rfl) (by decide) (by with_unfolding_all rfl) (by decide) ?_)
local macro_rules | `(tactic| walk_at "pq3") => `(tactic| with_reducible first
  | refine o_eqI ?_ | refine o_neI ?_ | refine o_isNon ?_ | refine o_isInt ?_ | refine o_isNotNon ?_ | refine o_isNotInt ?_ | refine p_kandT ?_ | refine p_kandF ?_ | refine p_korT ?_ | refine p_korF ?_ | refine p_nt ?_ | refine p_nf ?_)
local macro_rules | `(tactic| walk_at "pq") => `(tactic| repeat (first | walk_at "pq1" | walk_at "pq2" | walk_at "pq3"))
end Oil
namespace Oil
open PySem PySem.Spec PyProof.Rows L2
local macro_rules | `(tactic| walk_at "pq1") => `(tactic| with_reducible first
  | refine p_seq ?_ | refine p_skip ?_ | refine p_set ?_ | refine p_setO ?_ | refine p_kown ?_ | refine p_unp ?_ | refine p_put rfl ?_ | refine p_put1 ?_
  | refine p_par ?_ | refine p_pnil ?_ | refine p_pval ?_ | refine p_pown ?_ | refine p_kpown ?_ | refine p_expr ?_ | refine p_ret ?_ | refine p_retN ?_ | refine p_ifS ?_
  | refine p_for ?_ | refine p_raise ?_ | refine p_c ?_ | refine p_op ?_ | refine p_neg ?_ | refine p_kneg ?_ | refine p_chain ?_ | refine p_and ?_ | refine p_or ?_ | refine p_not ?_ | refine p_knot ?_
  | refine p_if ?_ | refine p_nil ?_ | refine p_cons ?_ | refine p_star ?_ | refine p_kstarT ?_ | refine p_kstarL ?_ | refine p_tup ?_ | refine p_lst ?_ | refine p_call ?_ | refine p_cb ?_ | refine p_val ?_ | refine p_kval ?_
  | refine p_ttru ?_ | refine p_ktruN ?_ | refine p_ktruB ?_ | refine p_ktruI ?_ | refine p_ktruL ?_ | refine p_ktruT ?_ | refine p_tnot ?_ | refine p_tand ?_ | refine p_tor ?_
  | refine p_nopart ?_ | refine p_part ?_ | refine p_kpart ?_ | refine p_slice ?_ | refine p_ksliceL ?_ | refine p_ksliceT ?_ | refine p_fld ?_ | refine p_meth ?_ | refine p_clo ?_ | refine p_kclo rfl ?_ | refine p_prop ?_ | refine p_kprop rfl ?_
  | refine p_inv ?_ | refine p_kinv rfl ?_ | refine p_lenO ?_ | refine p_klenO rfl ?_ | refine p_get ?_ | refine p_kget rfl ?_ | refine p_cmeth ?_ | refine p_kcmeth rfl ?_ | refine p_opC ?_ | refine p_kopC rfl rfl ?_ | refine p_opF ?_ | refine p_kopF rfl rfl ?_
  | refine p_eqO ?_ | refine p_keqO rfl rfl ?_ | refine p_iter ?_ | refine p_kiterL ?_ | refine p_kiterT ?_ | refine p_rg1 ?_ | refine p_rg2 ?_ | refine p_enum ?_ | refine p_kenum ?_ | refine p_lc ?_ | refine p_yes ?_
  | refine p_tt ?_ | refine p_ff ?_
  | refine o_add ?_ | refine o_sub ?_ | refine o_lt ?_ | refine o_le ?_ | refine o_gt ?_ | refine o_ge ?_
  | refine b_lenL ?_ | refine b_lenT ?_ | refine b_int ?_ | refine b_tupL ?_ | refine b_tupT ?_ | refine b_listL ?_ | refine b_listT ?_ | refine b_max2 ?_ | refine b_min2 ?_)
local macro_rules | `(tactic| walk_at "pq2") => `(tactic| with_reducible first
  | refine p_name (by with_unfolding_all rfl) ?_ | refine p_ownV (by with_unfolding_all rfl) ?_ | refine p_own (by with_unfolding_all rfl) ?_ | refine p_app (by with_unfolding_all rfl) ?_ | refine p_putI (by with_unfolding_all rfl) ?_
  | refine p_frz (by with_unfolding_all rfl) ?_ | refine p_frzV (by with_unfolding_all rfl) ?_ | refine p_kfld (by with_unfolding_all rfl) (by with_unfolding_all rfl) ?_ | refine p_kmeth (by with_unfolding_all rfl) (by decide) ?_ | refine p_makL (by with_unfolding_all rfl) (by with_unfolding_all rfl) ?_
  | refine p_self (by with_unfolding_all rfl) (by decide) (by with_unfolding_all rfl) (by decide) ?_)
local macro_rules | `(tactic| walk_at "pq3") => `(tactic| with_reducible first
  | refine o_eqI ?_ | refine o_neI ?_ | refine o_isNon ?_ | refine o_isInt ?_ | refine o_isNotNon ?_ | refine o_isNotInt ?_ | refine p_kandT ?_ | refine p_kandF ?_ | refine p_korT ?_ | refine p_korF ?_ | refine p_nt ?_ | refine p_nf ?_)
local macro_rules | `(tactic| walk_at "pq") => `(tactic| repeat (first | walk_at "pq1" | walk_at "pq2" | walk_at "pq3"))
end Oil
namespace Oil
open PySem PySem.Spec PyProof.Rows L2
local macro_rules | `(tactic| walk_at "pq1") => `(tactic| with_reducible first
  | refine p_seq ?_ | refine p_skip ?_ | refine p_set ?_ | refine p_setO ?_ | refine p_kown ?_ | refine p_unp ?_ | refine p_put rfl ?_ | refine p_put1 ?_
  | refine p_par ?_ | refine p_pnil ?_ | refine p_pval ?_ | refine p_pown ?_ | refine p_kpown ?_ | refine p_expr ?_ | refine p_ret ?_ | refine p_retN ?_ | refine p_ifS ?_
  | refine p_for ?_ | refine p_raise ?_ | refine p_c ?_ | refine p_op ?_ | refine p_neg ?_ | refine p_kneg ?_ | refine p_chain ?_ | refine p_and ?_ | refine p_or ?_ | refine p_not ?_ | refine p_knot ?_
  | refine p_if ?_ | refine p_nil ?_ | refine p_cons ?_ | refine p_star ?_ | refine p_kstarT ?_ | refine p_kstarL ?_ | refine p_tup ?_ | refine p_lst ?_ | refine p_call ?_ | refine p_cb ?_ | refine p_val ?_ | refine p_kval ?_
  | refine p_ttru ?_ | refine p_ktruN ?_ | refine p_ktruB ?_ | refine p_ktruI ?_ | refine p_ktruL ?_ | refine p_ktruT ?_ | refine p_tnot ?_ | refine p_tand ?_ | refine p_tor ?_
  | refine p_nopart ?_ | refine p_part ?_ | refine p_kpart ?_ | refine p_slice ?_ | refine p_ksliceL ?_ | refine p_ksliceT ?_ | refine p_fld ?_ | refine p_meth ?_ | refine p_clo ?_ | refine p_kclo rfl ?_ | refine p_prop ?_ | refine p_kprop rfl ?_
  | refine p_inv ?_ | refine p_kinv rfl ?_ | refine p_lenO ?_ | refine p_klenO rfl ?_ | refine p_get ?_ | refine p_kget rfl ?_ | refine p_cmeth ?_ | refine p_kcmeth rfl ?_ | refine p_opC ?_ | refine p_kopC rfl rfl ?_ | refine p_opF ?_ | refine p_kopF rfl rfl ?_
  | refine p_eqO ?_ | refine p_keqO rfl rfl ?_ | refine p_iter ?_ | refine p_kiterL ?_ | refine p_kiterT ?_ | refine p_rg1 ?_ | refine p_rg2 ?_ | refine p_enum ?_ | refine p_kenum ?_ | refine p_lc ?_ | refine p_yes ?_
  | refine p_tt ?_ | refine p_ff ?_
  | refine o_add ?_ | refine o_sub ?_ | refine o_lt ?_ | refine o_le ?_ | refine o_gt ?_ | refine o_ge ?_
  | refine b_lenL ?_ | refine b_lenT ?_ | refine b_int ?_ | refine b_tupL ?_ | refine b_tupT ?_ | refine b_listL ?_ | refine b_listT ?_ | refine b_max2 ?_ | refine b_min2 ?_)
local macro_rules | `(tactic| walk_at "pq2") => `(tactic| with_reducible first
  | refine p_name (by with_unfolding_all rfl) ?_ | refine p_ownV (by with_unfolding_all rfl) ?_ | refine p_own (by with_unfolding_all rfl) ?_ | refine p_app (by with_unfolding_all rfl) ?_ | refine p_putI (by with_unfolding_all rfl) ?_
  | refine p_frz (by with_unfolding_all rfl) ?_ | refine p_frzV (by with_unfolding_all rfl) ?_ | refine p_kfld (by with_unfolding_all rfl) (by with_unfolding_all rfl) ?_ | refine p_kmeth (by with_unfolding_all rfl) (by decide) ?_ | refine p_makL (by with_unfolding_all rfl) (by with_unfolding_all rfl) ?_
  | refine p_self (by with_unfolding_all rfl) (by decide) (by with_unfolding_all rfl) (by decide) ?_)
local macro_rules | `(tactic| walk_at "pq3") => `(tactic| with_reducible first
  | refine o_eqI ?_ | refine o_neI ?_ | refine o_isNon ?_ | refine o_isInt ?_ | refine o_isNotNon ?_ | refine o_isNotInt ?_ | refine p_kandT ?_ | refine p_kandF ?_ | refine p_korT ?_ | refine p_korF ?_ | refine p_nt ?_ | refine p_nf ?_)
local macro_rules | `(tactic| walk_at "pq") => `(tactic| repeat (first | walk_at "pq1" | walk_at "pq2" | walk_at "pq3"))
end Oil
namespace Oil
open PySem PySem.Spec PyProof.Rows L2
local macro_rules | `(tactic| walk_at "pq1") => `(tactic| with_reducible first
  | refine p_seq ?_ | refine p_skip ?_ | refine p_set ?_ | refine p_setO ?_ | refine p_kown ?_ | refine p_unp ?_ | refine p_put rfl ?_ | refine p_put1 ?_
  | refine p_par ?_ | refine p_pnil ?_ | refine p_pval ?_ | refine p_pown ?_ | refine p_kpown ?_ | refine p_expr ?_ | refine p_ret ?_ | refine p_retN ?_ | refine p_ifS ?_
  | refine p_for ?_ | refine p_raise ?_ | refine p_c ?_ | refine p_op ?_ | refine p_neg ?_ | refine p_kneg ?_ | refine p_chain ?_ | refine p_and ?_ | refine p_or ?_ | refine p_not ?_ | refine p_knot ?_
  | refine p_if ?_ | refine p_nil ?_ | refine p_cons ?_ | refine p_star ?_ | refine p_kstarT ?_ | refine p_kstarL ?_ | refine p_tup ?_ | refine p_lst ?_ | refine p_call ?_ | refine p_cb ?_ | refine p_val ?_ | refine p_kval ?_
  | refine p_ttru ?_ | refine p_ktruN ?_ | refine p_ktruB ?_ | refine p_ktruI ?_ | refine p_ktruL ?_ | refine p_ktruT ?_ | refine p_tnot ?_ | refine p_tand ?_ | refine p_tor ?_
  | refine p_nopart ?_ | refine p_part ?_ | refine p_kpart ?_ | refine p_slice ?_ | refine p_ksliceL ?_ | refine p_ksliceT ?_ | refine p_fld ?_ | refine p_meth ?_ | refine p_clo ?_ | refine p_kclo rfl ?_ | refine p_prop ?_ | refine p_kprop rfl ?_
  | refine p_inv ?_ | refine p_kinv rfl ?_ | refine p_lenO ?_ | refine p_klenO rfl ?_ | refine p_get ?_ | refine p_kget rfl ?_ | refine p_cmeth ?_ | refine p_kcmeth rfl ?_ | refine p_opC ?_ | refine p_kopC rfl rfl ?_ | refine p_opF ?_ | refine p_kopF rfl rfl ?_
  | refine p_eqO ?_ | refine p_keqO rfl rfl ?_ | refine p_iter ?_ | refine p_kiterL ?_ | refine p_kiterT ?_ | refine p_rg1 ?_ | refine p_rg2 ?_ | refine p_enum ?_ | refine p_kenum ?_ | refine p_lc ?_ | refine p_yes ?_
  | refine p_tt ?_ | refine p_ff ?_
  | refine o_add ?_ | refine o_sub ?_ | refine o_lt ?_ | refine o_le ?_ | refine o_gt ?_ | refine o_ge ?_
  | refine b_lenL ?_ | refine b_lenT ?_ | refine b_int ?_ | refine b_tupL ?_ | refine b_tupT ?_ | refine b_listL ?_ | refine b_listT ?_ | refine b_max2 ?_ | refine b_min2 ?_)
local macro_rules | `(tactic| walk_at "pq2") => `(tactic| with_reducible first
  | refine p_name (by with_unfolding_all rfl) ?_ | refine p_ownV (by with_unfolding_all rfl) ?_ | refine p_own (by with_unfolding_all rfl) ?_ | refine p_app (by with_unfolding_all rfl) ?_ | refine p_putI (by with_unfolding_all rfl) ?_
  | refine p_frz (by with_unfolding_all rfl) ?_ | refine p_frzV (by with_unfolding_all rfl) ?_ | refine p_kfld (by with_unfolding_all rfl) (by with_unfolding_all rfl) ?_ | refine p_kmeth (by with_unfolding_all rfl) (by decide) ?_ | refine p_makL (by with_unfolding_all rfl) (by with_unfolding_all rfl) ?_
  | refine p_self (by with_unfolding_all rfl) (by decide) (by with_unfolding_all rfl) (by decide) ?_)
local macro_rules | `(tactic| walk_at "pq3") => `(tactic| with_reducible first
  | refine o_eqI ?_ | refine o_neI ?_ | refine o_isNon ?_ | refine o_isInt ?_ | refine o_isNotNon ?_ | refine o_isNotInt ?_ | refine p_kandT ?_ | refine p_kandF ?_ | refine p_korT ?_ | refine p_korF ?_ | refine p_nt ?_ | refine p_nf ?_)
local macro_rules | `(tactic| walk_at "pq") => `(tactic| repeat (first | walk_at "pq1" | walk_at "pq2" | walk_at "pq3"))
end Oil
namespace Oil
open PySem PySem.Spec PyProof.Rows L2
local macro_rules | `(tactic| walk_at "pq1") => `(tactic| with_reducible first
  | refine p_seq ?_ | refine p_skip ?_ | refine p_set ?_ | refine p_setO ?_ | refine p_kown ?_ | refine p_unp ?_ | refine p_put rfl ?_ | refine p_put1 ?_
  | refine p_par ?_ | refine p_pnil ?_ | refine p_pval ?_ | refine p_pown ?_ | refine p_kpown ?_ | refine p_expr ?_ | refine p_ret ?_ | refine p_retN ?_ | refine p_ifS ?_
  | refine p_for ?_ | refine p_raise ?_ | refine p_c ?_ | refine p_op ?_ | refine p_neg ?_ | refine p_kneg ?_ | refine p_chain ?_ | refine p_and ?_ | refine p_or ?_ | refine p_not ?_ | refine p_knot ?_
  | refine p_if ?_ | refine p_nil ?_ | refine p_cons ?_ | refine p_star ?_ | refine p_kstarT ?_ | refine p_kstarL ?_ | refine p_tup ?_ | refine p_lst ?_ | refine p_call ?_ | refine p_cb ?_ | refine p_val ?_ | refine p_kval ?_
  | refine p_ttru ?_ | refine p_ktruN ?_ | refine p_ktruB ?_ | refine p_ktruI ?_ | refine p_ktruL ?_ | refine p_ktruT ?_ | refine p_tnot ?_ | refine p_tand ?_ | refine p_tor ?_
  | refine p_nopart ?_ | refine p_part ?_ | refine p_kpart ?_ | refine p_slice ?_ | refine p_ksliceL ?_ | refine p_ksliceT ?_ | refine p_fld ?_ | refine p_meth ?_ | refine p_clo ?_ | refine p_kclo rfl ?_ | refine p_prop ?_ | refine p_kprop rfl ?_
  | refine p_inv ?_ | refine p_kinv rfl ?_ | refine p_lenO ?_ | refine p_klenO rfl ?_ | refine p_get ?_ | refine p_kget rfl ?_ | refine p_cmeth ?_ | refine p_kcmeth rfl ?_ | refine p_opC ?_ | refine p_kopC rfl rfl ?_ | refine p_opF ?_ | refine p_kopF rfl rfl ?_
  | refine p_eqO ?_ | refine p_keqO rfl rfl ?_ | refine p_iter ?_ | refine p_kiterL ?_ | refine p_kiterT ?_ | refine p_rg1 ?_ | refine p_rg2 ?_ | refine p_enum ?_ | refine p_kenum ?_ | refine p_lc ?_ | refine p_yes ?_
  | refine p_tt ?_ | refine p_ff ?_
  | refine o_add ?_ | refine o_sub ?_ | refine o_lt ?_ | refine o_le ?_ | refine o_gt ?_ | refine o_ge ?_
  | refine b_lenL ?_ | refine b_lenT ?_ | refine b_int ?_ | refine b_tupL ?_ | refine b_tupT ?_ | refine b_listL ?_ | refine b_listT ?_ | refine b_max2 ?_ | refine b_min2 ?_)
local macro_rules | `(tactic| walk_at "pq2") => `(tactic| with_reducible first
  | refine p_name (by with_unfolding_all rfl) ?_ | refine p_ownV (by with_unfolding_all rfl) ?_ | refine p_own (by with_unfolding_all rfl) ?_ | refine p_app (by with_unfolding_all rfl) ?_ | refine p_putI (by with_unfolding_all rfl) ?_
  | refine p_frz (by with_unfolding_all rfl) ?_ | refine p_frzV (by with_unfolding_all rfl) ?_ | refine p_kfld (by with_unfolding_all rfl) (by with_unfolding_all rfl) ?_ | refine p_kmeth (by with_unfolding_all rfl) (by decide) ?_ | refine p_makL (by with_unfolding_all rfl) (by with_unfolding_all rfl) ?_
  | refine p_self (by with_unfolding_all rfl) (by decide) (by with_unfolding_all rfl) (by decide) ?_)
local macro_rules | `(tactic| walk_at "pq3") => `(tactic| with_reducible first
  | refine o_eqI ?_ | refine o_neI ?_ | refine o_isNon ?_ | refine o_isInt ?_ | refine o_isNotNon ?_ | refine o_isNotInt ?_ | refine p_kandT ?_ | refine p_kandF ?_ | refine p_korT ?_ | refine p_korF ?_ | refine p_nt ?_ | refine p_nf ?_)
local macro_rules | `(tactic| walk_at "pq") => `(tactic| repeat (first | walk_at "pq1" | walk_at "pq2" | walk_at "pq3"))
end Oil
namespace Oil
open PySem PySem.Spec PyProof.Rows L2
local macro_rules | `(tactic| walk_at "pq1") => `(tactic| with_reducible first
  | refine p_seq ?_ | refine p_skip ?_ | refine p_set ?_ | refine p_setO ?_ | refine p_kown ?_ | refine p_unp ?_ | refine p_put rfl ?_ | refine p_put1 ?_
  | refine p_par ?_ | refine p_pnil ?_ | refine p_pval ?_ | refine p_pown ?_ | refine p_kpown ?_ | refine p_expr ?_ | refine p_ret ?_ | refine p_retN ?_ | refine p_ifS ?_
  | refine p_for ?_ | refine p_raise ?_ | refine p_c ?_ | refine p_op ?_ | refine p_neg ?_ | refine p_kneg ?_ | refine p_chain ?_ | refine p_and ?_ | refine p_or ?_ | refine p_not ?_ | refine p_knot ?_
  | refine p_if ?_ | refine p_nil ?_ | refine p_cons ?_ | refine p_star ?_ | refine p_kstarT ?_ | refine p_kstarL ?_ | refine p_tup ?_ | refine p_lst ?_ | refine p_call ?_ | refine p_cb ?_ | refine p_val ?_ | refine p_kval ?_
  | refine p_ttru ?_ | refine p_ktruN ?_ | refine p_ktruB ?_ | refine p_ktruI ?_ | refine p_ktruL ?_ | refine p_ktruT ?_ | refine p_tnot ?_ | refine p_tand ?_ | refine p_tor ?_
  | refine p_nopart ?_ | refine p_part ?_ | refine p_kpart ?_ | refine p_slice ?_ | refine p_ksliceL ?_ | refine p_ksliceT ?_ | refine p_fld ?_ | refine p_meth ?_ | refine p_clo ?_ | refine p_kclo rfl ?_ | refine p_prop ?_ | refine p_kprop rfl ?_
  | refine p_inv ?_ | refine p_kinv rfl ?_ | refine p_lenO ?_ | refine p_klenO rfl ?_ | refine p_get ?_ | refine p_kget rfl ?_ | refine p_cmeth ?_ | refine p_kcmeth rfl ?_ | refine p_opC ?_ | refine p_kopC rfl rfl ?_ | refine p_opF ?_ | refine p_kopF rfl rfl ?_
  | refine p_eqO ?_ | refine p_keqO rfl rfl ?_ | refine p_iter ?_ | refine p_kiterL ?_ | refine p_kiterT ?_ | refine p_rg1 ?_ | refine p_rg2 ?_ | refine p_enum ?_ | refine p_kenum ?_ | refine p_lc ?_ | refine p_yes ?_
  | refine p_tt ?_ | refine p_ff ?_
  | refine o_add ?_ | refine o_sub ?_ | refine o_lt ?_ | refine o_le ?_ | refine o_gt ?_ | refine o_ge ?_
  | refine b_lenL ?_ | refine b_lenT ?_ | refine b_int ?_ | refine b_tupL ?_ | refine b_tupT ?_ | refine b_listL ?_ | refine b_listT ?_ | refine b_max2 ?_ | refine b_min2 ?_)
local macro_rules | `(tactic| walk_at "pq2") => `(tactic| with_reducible first
  | refine p_name (by with_unfolding_all rfl) ?_ | refine p_ownV (by with_unfolding_all rfl) ?_ | refine p_own (by with_unfolding_all rfl) ?_ | refine p_app (by with_unfolding_all rfl) ?_ | refine p_putI (by with_unfolding_all rfl) ?_
  | refine p_frz (by with_unfolding_all rfl) ?_ | refine p_frzV (by with_unfolding_all rfl) ?_ | refine p_kfld (by with_unfolding_all rfl) (by with_unfolding_all rfl) ?_ | refine p_kmeth (by with_unfolding_all rfl) (by decide) ?_ | refine p_makL (by with_unfolding_all rfl) (by with_unfolding_all rfl) ?_
  | refine p_self (by with_unfolding_all rfl) (by decide) (by with_unfolding_all rfl) (by decide) ?_)
local macro_rules | `(tactic| walk_at "pq3") => `(tactic| with_reducible first
  | refine o_eqI ?_ | refine o_neI ?_ | refine o_isNon ?_ | refine o_isInt ?_ | refine o_isNotNon ?_ | refine o_isNotInt ?_ | refine p_kandT ?_ | refine p_kandF ?_ | refine p_korT ?_ | refine p_korF ?_ | refine p_nt ?_ | refine p_nf ?_)
local macro_rules | `(tactic| walk_at "pq") => `(tactic| repeat (first | walk_at "pq1" | walk_at "pq2" | walk_at "pq3"))
def Within (c : Int) (s : Str3) : Prop := match s.need with
  | none => s.gain = 0 ∧ s.top = 0
  | some n => 0 ≤ n ∧ n ≤ c ∧ 0 ≤ n + s.gain ∧ 0 ≤ s.top ∧ s.top ≤ c ∧ s.top ≤ c + s.gain
theorem Within.ok {c : Int} {s : Str3} (h : Within c s) : s.Ok := by
  obtain ⟨n, g, tp⟩ := s
  cases n with
  | none => exact h
  | some n => exact ⟨h.1, h.2.2.1, h.2.2.2.1⟩
end Oil
namespace Oil
open PySem PySem.Spec PyProof.Rows L2
end Oil
namespace Oil
open PySem PySem.Spec PyProof.Rows L2
open PySem.W (AlikeAll minD alike dataLt alike_unique readsAll_at reads_keeps min_list_data)
end Oil
namespace Oil
open PySem PySem.Spec PyProof.Rows L2
end Oil
namespace Oil
open PySem PySem.Spec PyProof.Rows L2
end Oil
namespace Oil
open PySem PySem.Spec PyProof.Rows L2
section
variable {Z : ZM} {X : Cx} {E : XK} {e e1 e2 e3 : Expr} {es : List Expr} {w w1 w2 w3 : WE} {t : WA} {pos p : Pos} {i : Nat} {x : Str} {s : Stmt} {a : WS}
theorem At.plus {fr : Fr} {ow : Ow} {H : Hp} {σ : L2.St} {env : Ev} {Ep : QR} {D : Addr} {o : HO} (A : At Z X.K E fr ow H σ env Ep) (hD : H D = none) (ho : NX o) : At Z X.K E (fr.plus D) ow (upd H D o) σ env Ep :=
  ⟨A.z, A.k, A.g.plus hD ho, fun er cls dd H' n r q => A.er er cls dd H' ((A.g.same (Same.new hD)).trans n) (r.lat (.sub fun a z => MM.plus.mpr (.inl z))) q⟩
end
end Oil
namespace Oil
open PySem PySem.Spec PyProof.Rows L2
end Oil
namespace Oil
open PySem PySem.Spec PyProof.Rows L2
def b_after_leg : WS := (wSeq (wSet 3 (wCall S_taken (wCons (wName 0) (wCons (wName 1) (wCons (wName 2) wNil)))))
    (wSeq (wSet 4 (wOp oIx (wGet 13 S_Way_getitem (wName 0) (wName 1)) (wC (.int 1))))
    (wRet (wIf (wtVal (wOp oLt (wName 3) (wName 4))) (wC .non) (wOp oSub (wName 3) (wName 4))))))
def S_after_leg : PSpec := specOf 3 5 b_after_leg
end Oil
namespace Oil
open PySem PySem.Spec PyProof.Rows L2
abbrev XQ := D → Sto → Prop
abbrev XR := Er → Sto → Prop
abbrev XSpec := List D → Sto → XQ → XR → Prop
/-- an expression that may write the store -/
abbrev WM := Ev → (D → Ev → Prop) → (Er → Ev → Prop) → Prop
abbrev WMA := Ev → (List D → Ev → Prop) → (Er → Ev → Prop) → Prop
abbrev WMT := Ev → (Bool → Ev → Prop) → (Er → Ev → Prop) → Prop
def Cells (cs : Sto) : Addr → Prop := fun a => ∃ (k : Nat) (ob : Ob), cs[k]? = some (a, ob)
/-- a cell stands -/
def ObAt (Z : ZG) (d0 : Addr) (M : Addr → Prop) (H : Hp) (a : Addr) : Ob → Prop
  | .lst xs => ∃ vs, H a = some (.lst vs) ∧ Reps Z d0 M H vs xs
  | .ins c ns fs => ∃ dx vs, H a = some (.ins (Z c) dx (ns.zip vs)) ∧ ns.length = vs.length ∧ Reps Z d0 M H vs fs
  | .dct ks xs => ∃ vs, H a = some (.dK ((ks.map Sum.inr).zip vs)) ∧ ks.length = vs.length ∧ Reps Z d0 M H vs xs
theorem ObAt.has {Z : ZG} {d0 a : Addr} {M : Addr → Prop} {H : Hp} {ob : Ob} (h : ObAt Z d0 M H a ob) : Has H a := by
  cases ob with
  | lst xs => obtain ⟨vs, e, _⟩ := h; exact ⟨_, e, nx_lst⟩
  | ins c ns fs => obtain ⟨dx, vs, e, _⟩ := h; exact ⟨_, e, nx_ins⟩
  | dct ks xs => obtain ⟨vs, e, _⟩ := h; exact ⟨_, e, nx_dK⟩
theorem ObAt.sub {Z : ZG} {d0 a : Addr} {M M' : Addr → Prop} {H : Hp} {ob : Ob} (h : ObAt Z d0 M H a ob) (s : ∀ b, M' b → M b) : ObAt Z d0 M' H a ob := by
  cases ob with
  | lst xs => obtain ⟨vs, e, r⟩ := h; exact ⟨vs, e, r.lat (.sub s)⟩
  | ins c ns fs => obtain ⟨dx, vs, e, l, r⟩ := h; exact ⟨dx, vs, e, l, r.lat (.sub s)⟩
  | dct ks xs => obtain ⟨vs, e, l, r⟩ := h; exact ⟨vs, e, l, r.lat (.sub s)⟩
structure StoAt (Z : ZG) (d0 : Addr) (M : Addr → Prop) (H : Hp) (cs : Sto) : Prop where
  ap : ∀ a, Cells cs a → a ≠ d0 ∧ ¬ M a
  nd : ∀ (k m : Nat) (a : Addr) (ob ob' : Ob), cs[k]? = some (a, ob) → cs[m]? = some (a, ob') → k = m
  ok : ∀ (k : Nat) (a : Addr) (ob : Ob), cs[k]? = some (a, ob) → ObAt Z d0 (fun b => b = d0 ∨ M b ∨ Cells cs b) H a ob
/-- a promise by data over a store -/
def SpM (Z : ZG) (K : PySem.W.Frag) (P : XSpec) : Sp := fun vs H Q E => ∃ (d0 : Addr) (M : Addr → Prop) (cs : Sto) (ds : List D) (Qp : XQ) (Ep : XR), Dice K H d0 ∧ LamX.Tabs Z.tb H ∧ (∀ a, M a → Has H a) ∧ StoAt Z d0 M H cs ∧ (∀ a, Cells cs a → Ap K H d0 a) ∧
  Reps Z d0 (fun a => a = d0 ∨ M a ∨ Cells cs a) H vs ds ∧ P ds cs Qp Ep ∧
  (∀ d v cs' H', Nz Z.tb K d0 (Cells cs) H H' → StoAt Z d0 M H' cs' → (∀ a, Cells cs' a → Cells cs a ∨ H a = none) → Rep Z d0 (fun a => a = d0 ∨ M a ∨ Cells cs' a) H' v d → Qp d cs' → Q v H') ∧
  (∀ er cls dd cs' H', Nz Z.tb K d0 (Cells cs) H H' → StoAt Z d0 M H' cs' → (∀ a, Cells cs' a → Cells cs a ∨ H a = none) → RepE Z d0 (fun a => a = d0 ∨ M a ∨ Cells cs' a) H' er cls dd → Ep er cs' → E cls dd H')
/-- whose a store's cells are -/
def owS (ow : Ow) (cs : Sto) : Ow := fun i => if CBASE ≤ i then (cs[i - CBASE]?).map (·.1) else ow i
theorem owS_lo {ow : Ow} {cs : Sto} {i : Nat} (h : i < CBASE) : owS ow cs i = ow i := by unfold owS; rw [if_neg (by omega)]
theorem owS_hi {ow : Ow} {cs : Sto} {k : Nat} : owS ow cs (CBASE + k) = (cs[k]?).map (·.1) := by unfold owS; rw [if_pos (by omega), Nat.add_sub_cancel_left]
theorem owS_cells {ow : Ow} {cs : Sto} {i : Nat} {a : Addr} (h : owS ow cs i = some a) : (i < CBASE ∧ ow i = some a) ∨ (∃ k, i = CBASE + k ∧ ∃ ob, cs[k]? = some (a, ob)) := by
  by_cases z : i < CBASE
  · rw [owS_lo z] at h
    exact .inl ⟨z, h⟩
  · obtain ⟨k, rfl⟩ : ∃ k, i = CBASE + k := ⟨i - CBASE, by omega⟩
    rw [owS_hi] at h
    obtain ⟨⟨b, ob⟩, h1, rfl⟩ := Option.map_eq_some_iff.mp h
    exact .inr ⟨k, rfl, ob, h1⟩
section
variable {fr : Fr} {ow ow' : Ow} {H H' H1 H2 : Hp} {σ : L2.St} {env env' : Ev} {v : V} {d : D} {i j : Nat} {a : Addr} {vs : List V} {ds : List D} {cs cs' : Sto} {ob : Ob}
theorem StOk.cell (h : StOk fr ow H i a ob) : (ow i = some a ∧ ObAt fr.Z.g fr.d0 (MM fr ow) H a ob) := by
  cases ob with
  | lst xs => exact h
  | ins c ns fs => obtain ⟨h1, dx, vs, h2, h3, h4⟩ := h; exact ⟨h1, dx, vs, h2, h3, h4⟩
  | dct ks xs => obtain ⟨h1, vs, h2, h3, h4⟩ := h; exact ⟨h1, vs, h2, h3, h4⟩
theorem StOk.of (h1 : ow i = some a) (h : ObAt fr.Z.g fr.d0 (MM fr ow) H a ob) : StOk fr ow H i a ob := by
  cases ob with
  | lst xs => exact ⟨h1, h⟩
  | ins c ns fs => obtain ⟨dx, vs, h2, h3, h4⟩ := h; exact ⟨h1, dx, vs, h2, h3, h4⟩
  | dct ks xs => obtain ⟨vs, h2, h3, h4⟩ := h; exact ⟨h1, vs, h2, h3, h4⟩
theorem Good.cell (G : Good fr ow H σ env) (e : env[j]? = some (.sto cs)) {k : Nat} (h : cs[k]? = some (a, ob)) : ow (CBASE + k) = some a ∧ ObAt fr.Z.g fr.d0 (MM fr ow) H a ob := StOk.cell ((G.sl j _ e).2 k a ob h)
theorem Good.cellM (G : Good fr ow H σ env) (e : env[j]? = some (.sto cs)) (h : Cells cs a) : MM fr ow a := by
  obtain ⟨k, ob, h⟩ := h
  exact .inr (.inr (.inr ⟨_, (G.cell e h).1⟩))
theorem Good.stoAt (G : Good fr ow H σ env) (e : env[j]? = some (.sto cs)) : StoAt fr.Z.g fr.d0 (fun a => MM fr ow a ∧ ¬ Cells cs a) H cs := by
  refine ⟨fun a h => ⟨?_, fun z => z.2 h⟩, fun k m a ob ob' h h' => ?_, fun k a ob h => (G.cell e h).2.sub fun b z => ?_⟩
  · obtain ⟨k, ob, h⟩ := h
    exact G.ow_d0 (G.cell e h).1
  · have := G.inj _ _ _ (G.cell e h).1 (G.cell e h').1
    omega
  · rcases z with z | z | z
    · exact z ▸ MM.d0
    · exact z.1
    · exact G.cellM e z
/-- the store is written by what knows no more than it -/
theorem Good.unsto (G : Good fr ow H σ env) (e : env[j]? = some (.sto cs)) (n : Nz fr.Z.g.tb fr.K fr.d0 (Cells cs) H H') (s : StoAt fr.Z.g fr.d0 (fun a => MM fr ow a ∧ ¬ Cells cs a) H' cs') (hf : ∀ a, Cells cs' a → Cells cs a ∨ H a = none) :
    Good fr (owS ow cs') H' σ (env.set j (.sto cs')) ∧ Lat (MM fr ow) H (MM fr (owS ow cs')) H' ∧ (∀ b, MM fr (owS ow cs') b → b = fr.d0 ∨ (MM fr ow b ∧ ¬ Cells cs b) ∨ Cells cs' b) := by
  have hj := (G.sl j _ e).1
  have low : ∀ i a, i < CBASE → ow i = some a → ¬ Cells cs a := fun i a hi h z => by
    obtain ⟨k, ob, q⟩ := z
    have := G.inj _ _ _ h (G.cell e q).1
    omega
  have sub : ∀ b, MM fr (owS ow cs') b → b = fr.d0 ∨ (MM fr ow b ∧ ¬ Cells cs b) ∨ Cells cs' b := fun b h => by
    rcases h with h | h | h | ⟨i, h⟩
    · exact .inl h
    · exact .inr (.inl ⟨.inr (.inl h), fun z => by obtain ⟨k, ob, q⟩ := z; exact G.ow_m0 (G.cell e q).1 h⟩)
    · exact .inr (.inl ⟨.inr (.inr (.inl h)), fun z => by obtain ⟨k, ob, q⟩ := z; exact G.avo _ _ (G.cell e q).1 h⟩)
    · rcases owS_cells h with ⟨h1, h2⟩ | ⟨k, h1, ob, h2⟩
      · exact .inr (.inl ⟨.inr (.inr (.inr ⟨i, h2⟩)), low i b h1 h2⟩)
      · exact .inr (.inr ⟨k, ob, h2⟩)
  have L : Lat (MM fr ow) H (MM fr (owS ow cs')) H' := fun b o t nb q => by
    have nc : ¬ Cells cs b := fun z => nb (G.cellM e z)
    refine ⟨n.keep b o (fun z => nb (z ▸ MM.d0)) nc t q, fun z => ?_⟩
    rcases sub b z with z | z | z
    · exact nb (z ▸ MM.d0)
    · exact nb z.1
    · rcases hf b z with z | z
      · exact nc z
      · rw [z] at q
        cases q
  have h0 : ∀ b, H b = none → fr.H0 b = none := fun b z => by
    cases q : fr.H0 b with
    | none => rfl
    | some o => exact absurd z (G.nx.ex b (by rw [q]; exact fun y => by cases y))
  have cx : ∀ a, Cells cs' a → Has H' a := fun a h => by
    obtain ⟨k, ob, h⟩ := h
    exact (s.ok k a ob h).has
  refine ⟨⟨⟨fun b o nd nS t q => ?_, fun b q => n.ex b (G.nx.ex b q), fun b q => n.hx b (G.nx.hx b q), n.dice, fun sa z => n.same_ sa (G.nx.same_ sa z), fun t => n.tabs (G.nx.tabs t)⟩, G.d00, G.t0, fun b hb => ?_, G.m0x, G.ss, fun i b hb => ?_, fun i i' b h1 h2 => ?_, fun i b hb hv => ?_, fun b o q => ?_, by rw [List.length_set]; exact G.len, G.lb, fun i s' q => ?_⟩, L, sub⟩
  · refine n.keep b o nd (fun z => ?_) t (G.nx.keep b o nd nS t q)
    obtain ⟨k, ob, z⟩ := z
    rcases G.owf _ _ (G.cell e z).1 with y | y
    · rw [y] at q
      cases q
    · exact nS y
  · rcases sub b hb with z | z | z
    · rw [z]
      exact n.dice.has
    · exact n.hx b (G.mex b z.1)
    · exact cx b z
  · rcases owS_cells hb with ⟨h1, h2⟩ | ⟨k, h1, ob, h2⟩
    · exact G.owf i b h2
    · rcases hf b ⟨k, ob, h2⟩ with ⟨k', ob', z⟩ | z
      · exact G.owf _ _ (G.cell e z).1
      · exact .inl (h0 b z)
  · have mix : ∀ i k b, i < CBASE → ow i = some b → ∀ ob, cs'[k]? = some (b, ob) → False := fun i k b hi h ob q => by
      rcases hf b ⟨k, ob, q⟩ with z | z
      · exact low i b hi h z
      · exact (G.mex b (.inr (.inr (.inr ⟨i, h⟩)))).nn z
    rcases owS_cells h1 with ⟨a1, a2⟩ | ⟨k, a1, ob, a2⟩
    · rcases owS_cells h2 with ⟨b1, b2⟩ | ⟨m, b1, ob', b2⟩
      · exact G.inj _ _ _ a2 b2
      · exact (mix i m b a1 a2 _ b2).elim
    · rcases owS_cells h2 with ⟨b1, b2⟩ | ⟨m, b1, ob', b2⟩
      · exact (mix i' k b b1 b2 _ a2).elim
      · rw [a1, b1, s.nd k m b ob ob' a2 b2]
  · rcases owS_cells hb with ⟨h1, h2⟩ | ⟨k, h1, ob, h2⟩
    · exact G.avo i b h2 hv
    · rcases hf b ⟨k, ob, h2⟩ with ⟨k', ob', z⟩ | z
      · exact G.avo _ _ (G.cell e z).1 hv
      · exact (G.mex b (.inr (.inr (.inl hv)))).nn z
  · obtain ⟨g1, g2, g3⟩ := G.gh b o q
    exact ⟨g1, L b o g1 g3 g2⟩
  · by_cases hij : i = j
    · subst hij
      rw [List.getElem?_set, if_pos rfl] at q
      split at q
      · cases q
        refine ⟨hj, fun k b ob h => StOk.of ?_ ((s.ok k b ob h).sub sub)⟩
        rw [owS_hi, h]
        rfl
      · cases q
    · rw [List.getElem?_set, if_neg (Ne.symm hij)] at q
      have hib := G.ib q
      have z := G.sl i s' q
      cases s' with
      | sto cs2 => exact absurd (show i = j by have := z.1; omega) hij
      | _ =>
        refine z.mvL L (fun b o h1 h2 => ⟨?_, by rw [owS_lo hib]; exact h1⟩) (fun _ w => by cases w)
        obtain ⟨o', q1, q2⟩ := G.own i b h1
        rw [h2] at q1
        cases q1
        exact n.keep b o (G.ow_d0 h1) (low i b hib h1) q2.1 h2
end
end Oil
namespace Oil
open PySem PySem.Spec PyProof.Rows L2
section
variable {Z : ZM} {X : Cx} {E : XK} {e e1 e2 e3 : Expr} {es : List Expr} {w w1 w2 w3 : WE} {t t2 : WA} {u u1 u2 : WT} {pos p : Pos} {i : Nat} {x : Str} {b : WS}
theorem RepE.sub {Z : ZG} {d0 : Addr} {M M' : Addr → Prop} {H : Hp} {er : Er} {cls : Value} {dd : Option Addr} (r : RepE Z d0 M H er cls dd) (h : ∀ a, M' a → M a) : RepE Z d0 M' H er cls dd := r.lat (.sub h)
/-- errors that come later -/
def PerM (fr : Fr) (ow : Ow) (H : Hp) (σ : L2.St) (Ep : Er → Ev → Prop) (E : XK) : Prop := ∀ er cls dd ow' H' env', Good fr ow' H' σ env' → Lat (MM fr ow) H (MM fr ow') H' → RepE fr.Z.g fr.d0 (MM fr ow') H' er cls dd → Ep er env' → E cls dd H'
theorem PerM.go {fr : Fr} {ow ow' : Ow} {H H' : Hp} {σ : L2.St} {Ep : Er → Ev → Prop} (h : PerM fr ow H σ Ep E) (L : Lat (MM fr ow) H (MM fr ow') H') : PerM fr ow' H' σ Ep E := fun er cls dd ow2 H2 env2 G L2 r q => h er cls dd ow2 H2 env2 G (L.trans L2) r q
def RdM (Z : ZM) (K : PySem.W.Frag) (E : XK) (w : WM) : TE := fun σ H Q => ∃ fr ow env Qp Ep, At Z K E fr ow H σ env (fun x => Ep x env) ∧ w env Qp Ep ∧ (∀ d v ow' H' env', Good fr ow' H' σ env' → Lat (MM fr ow) H (MM fr ow') H' → Rep fr.Z.g fr.d0 (MM fr ow') H' v d → Qp d env' → Q v H') ∧ PerM fr ow H σ Ep E
abbrev QM (Z : ZM) (X : Cx) (E : XK) (e : Expr) (w : WM) : Prop := PE X e (RdM Z X.K E w)
/-- what writes nothing -/
def wmP (w : WE) : WM := fun env Q E => w env (fun d => Q d env) (fun x => E x env)
def wmtP (w : WT) : WMT := fun env Q E => w env (fun b => Q b env) (fun x => E x env)
def wmA (w : WA) : WMA := fun env Q E => w env (fun ds => Q ds env) (fun x => E x env)
def wmNil : WMA := fun env Q _ => Q [] env
def wmCons (a : WM) (r : WMA) : WMA := fun env Q E => a env (fun x env1 => r env1 (fun xs env2 => Q (x :: xs) env2) E) E
/-- the store of env given to P -/
def giveM (j : Nat) (P : XSpec) (ds : List D) (env : Ev) (Q : D → Ev → Prop) (E : Er → Ev → Prop) : Prop := match env[j]? with
  | some (.sto cs) => P ds cs (fun d cs' => Q d (env.set j (.sto cs'))) (fun x cs' => E x (env.set j (.sto cs')))
  | _ => False
variable {k j j' : Nat} {P : XSpec} {c : Nat} {m : Str} {apos : Pos} {tm : WMA} {wm wm1 wm2 : WM}
def wmCall (j : Nat) (P : XSpec) (t : WMA) : WM := fun env Q E => t env (fun ds env1 => giveM j P ds env1 Q E) E
/-- a method of an instance in the store -/
def cellI (env : Ev) (j : Nat) (a : Addr) (c : Nat) (Q : List Str → List D → Prop) : Prop := ∃ (cs : Sto) (k : Nat) (ns : List Str) (fs : List D), env[j]? = some (.sto cs) ∧ cs[k]? = some (a, Ob.ins c ns fs) ∧ Q ns fs
def wmMeth (j : Nat) (c : Nat) (m : Str) (P : XSpec) (a : WE) (t : WMA) : WM := fun env Q E => a env (fun x => match x with
  | .loc a => cellI env j a c fun ns _ => m ∉ ns ∧ t env (fun ds env1 => cellI env1 j a c (fun _ _ => True) ∧ giveM j P (.loc a :: ds) env1 Q E) E
  | _ => False) (fun x => E x env)
end
end Oil
namespace Oil
open PySem PySem.Spec PyProof.Rows L2
section
variable {Z : ZM} {X : Cx} {E : XK} {e e1 e2 e3 : Expr} {es : List Expr} {w w1 w2 w3 : WE} {t t2 : WA} {u u1 u2 : WMT} {pos p : Pos} {i : Nat} {x : Str} {b a2 b2 : WS} {wm wm1 wm2 : WM} {ss ss2 : List Stmt}
variable {fr : Fr} {ow ow' : Ow} {H H' H1 H2 : Hp} {σ : L2.St} {env env' : Ev} {v : V} {d : D} {j : Nat} {a : Addr} {vs : List V} {ds : List D} {cs cs' : Sto} {ob : Ob}
theorem ObAt.lat {Zg : ZG} {d0 : Addr} {M M' : Addr → Prop} (h : ObAt Zg d0 M H a ob) (L : Lat M H M' H') (hk : ∀ o, H a = some o → H' a = some o) : ObAt Zg d0 M' H' a ob := by
  cases ob with
  | lst xs => obtain ⟨vs, e, r⟩ := h; exact ⟨vs, hk _ e, r.lat L⟩
  | ins c ns fs => obtain ⟨dx, vs, e, l, r⟩ := h; exact ⟨dx, vs, hk _ e, l, r.lat L⟩
  | dct ks xs => obtain ⟨vs, e, l, r⟩ := h; exact ⟨vs, hk _ e, l, r.lat L⟩
theorem cells_push {cs : Sto} {a b : Addr} {ob : Ob} : Cells (cs ++ [(a, ob)]) b ↔ Cells cs b ∨ b = a := by
  constructor
  · rintro ⟨m, o, q⟩
    by_cases z : m < cs.length
    · rw [List.getElem?_append_left z] at q
      exact .inl ⟨m, o, q⟩
    · rw [List.getElem?_append_right (by omega)] at q
      have : m - cs.length = 0 := by
        have := (List.getElem?_eq_some_iff.mp q).1
        simp at this
        omega
      rw [this] at q
      cases q
      exact .inr rfl
  · rintro (⟨m, o, q⟩ | q)
    · exact ⟨m, o, by rw [List.getElem?_append_left (List.getElem?_eq_some_iff.mp q).1]; exact q⟩
    · exact ⟨cs.length, ob, by rw [q]; simp⟩
def pushM (j : Nat) (env : Ev) (ob : Ob) (Q : D → Ev → Prop) : Prop := match env[j]? with
  | some (.sto cs) => ∀ a, Q (.loc a) (env.set j (.sto (cs ++ [(a, ob)])))
  | _ => False
/-- a new list becomes a cell -/
def wmNewL (j : Nat) (w : WE) : WM := fun env Q E => w env (fun d => match d with
  | .lst xs => pushM j env (.lst xs) Q
  | _ => False) (fun x => E x env)
/-- a field of an instance in the store -/
def wLFld (j : Nat) (c : Nat) (f : Str) (a : WE) : WE := fun env Q E => a env (fun x => match x with
  | .loc a => cellI env j a c fun ns fs => ∃ d, (ns.zip fs).lookup f = some d ∧ Q d
  | _ => False) E
/-- the list at a cell, read -/
def cellL (env : Ev) (j : Nat) (a : Addr) (Q : List D → Prop) : Prop := ∃ (cs : Sto) (k : Nat) (xs : List D), env[j]? = some (.sto cs) ∧ cs[k]? = some (a, Ob.lst xs) ∧ Q xs
def wCell (j : Nat) (w : WE) : WE := fun env Q E => w env (fun x => match x with
  | .loc a => cellL env j a fun xs => Q (.lst xs)
  | _ => False) E
def putL (j : Nat) (env : Ev) (a : Addr) (g : List D → (List D → Ev) → Prop) : Prop := ∃ (cs : Sto) (k : Nat) (xs : List D), env[j]? = some (.sto cs) ∧ cs[k]? = some (a, Ob.lst xs) ∧ g xs fun ys => env.set j (.sto (cs.set k (a, .lst ys)))
/-- l.append(e), l in the store -/
def wmApp (j : Nat) (a : WE) (w : WM) : WM := fun env Q E => a env (fun x => match x with
  | .loc a => cellL env j a (fun _ => True) ∧ w env (fun d env1 => putL j env1 a fun xs k => xs.length < LIM ∧ Q .non (k (xs ++ [d]))) E
  | _ => False) (fun x => E x env)
/-- l.pop(), l in the store -/
def wmPop (j : Nat) (a : WE) : WM := fun env Q E => a env (fun x => match x with
  | .loc a => putL j env a fun xs k => ∃ y, xs[xs.length - 1]? = some y ∧ Q y (k xs.dropLast)
  | _ => False) (fun x => E x env)
def wmExpr (w : WM) : WS := fun env K => w env (fun _ env1 => K.nx env1) K.er
def wmRet (w : WM) : WS := fun env K => w env (fun d env1 => K.rt d env1) K.er
def wmSet (i : Nat) (w : WM) : WS := fun env K => w env (fun d env1 => K.nx (env1.set i (.val d))) K.er
def wmUnp (g : Tgt) (w : WM) : WS := fun env K => w env (fun d env1 => g.put env1 d K.nx) K.er
def wmIf (u : WMT) (a b : WS) : WS := fun env K => u env (fun c env1 => if c = true then a env1 K else b env1 K) K.er
/-- o.f = e, o an instance in the store -/
def wmSetF (j c : Nat) (f : Str) (o : WE) (w : WM) : WS := fun env K => w env (fun d env1 => o env1 (fun x => match x with
  | .loc a => ∃ (cs : Sto) (k m : Nat) (ns : List Str) (fs : List D), env1[j]? = some (.sto cs) ∧ cs[k]? = some (a, Ob.ins c ns fs) ∧ (ns.idxOf f = m ∧ m < ns.length ∧ ns.length < 1000) ∧ K.nx (env1.set j (.sto (cs.set k (a, .ins c ns (fs.set m d)))))
  | _ => False) (fun x => K.er x env1)) K.er
end
end Oil
namespace Oil
open PySem PySem.Spec PyProof.Rows L2
section
variable {Z : ZM} {X : Cx} {E : XK} {e e1 e2 e3 : Expr} {es : List Expr} {w w1 w2 w3 : WE} {t t2 : WA} {u u1 u2 : WMT} {pos p : Pos} {i : Nat} {x : Str} {b a2 b2 : WS} {wm wm1 wm2 : WM} {tm : WMA} {ss ss2 : List Stmt} {k j j' : Nat} {P : XSpec} {PP : PSpec} {c : Nat} {m : Str} {apos : Pos}
/-- o.f = e, o an instance in the store that has no f yet -/
def wmNewF (j c : Nat) (f : Str) (o : WE) (w : WM) : WS := fun env K => w env (fun d env1 => o env1 (fun x => match x with
  | .loc a => ∃ (cs : Sto) (k : Nat) (ns : List Str) (fs : List D), env1[j]? = some (.sto cs) ∧ cs[k]? = some (a, Ob.ins c ns fs) ∧ (f ∉ ns ∧ ns.length < 1000) ∧ K.nx (env1.set j (.sto (cs.set k (a, .ins c (ns ++ [f]) (fs ++ [d])))))
  | _ => False) (fun x => K.er x env1)) K.er
def wmtVal (w : WM) : WMT := fun env Q E => w env (fun d env1 => match d with
  | .bl b => Q b env1
  | _ => False) E
def wmtNot (u : WMT) : WMT := fun env Q E => u env (fun b env1 => Q (!b) env1) E
def wmOp (g : O2) (a b : WM) : WM := fun env Q E => a env (fun x env1 => b env1 (fun y env2 => g x y fun d => Q d env2) E) E
def wmTup (t : WMA) : WM := fun env Q E => t env (fun xs env1 => xs.length ≤ LIM ∧ Q (.tup xs) env1) E
def wmLst (t : WMA) : WM := fun env Q E => t env (fun xs env1 => xs.length ≤ LIM ∧ Q (.lst xs) env1) E
def wmIfE (u : WMT) (a b : WM) : WM := fun env Q E => u env (fun c env1 => if c = true then a env1 Q E else b env1 Q E) E
def wmProp (j c : Nat) (P : XSpec) (a : WE) : WM := fun env Q E => a env (fun x => match x with
  | .loc a => cellI env j a c (fun _ _ => True) ∧ giveM j P [.loc a] env Q (fun _ _ => False)
  | _ => False) (fun x => E x env)
end
end Oil
namespace Oil
open PySem PySem.Spec PyProof.Rows L2
section
variable {Z : ZM} {X : Cx} {E : XK} {e e1 e2 e3 : Expr} {es : List Expr} {w w1 w2 w3 : WE} {t t2 : WA} {u u1 u2 : WMT} {pos p : Pos} {i : Nat} {x : Str} {b a2 b2 : WS} {wm wm1 wm2 : WM} {tm : WMA} {ss ss2 : List Stmt} {k j j' : Nat} {P : XSpec} {PP : PSpec} {c : Nat} {m : Str} {apos : Pos}
def setAll (env : Ev) : List Nat → List D → Ev
  | i :: is, d :: ds => setAll (env.set i (.val d)) is ds
  | _, _ => env
def wmPar (is : List Nat) (t : WMA) : WS := fun env K => t env (fun ds env1 => ds.length = is.length ∧ K.nx (setAll env1 is ds)) K.er
theorem StoAt.push {Zg : ZG} {K : PySem.W.Frag} {d0 : Addr} {M : Addr → Prop} {H H' : Hp} {cs : Sto} {a : Addr} {ob : Ob} (s : StoAt Zg d0 M H cs) (hM : ∀ a, M a → Has H a) (e : Same H H') (hd : H d0 ≠ none) (ha : H a = none) (ho : ObAt Zg d0 (fun b => b = d0 ∨ M b ∨ Cells (cs ++ [(a, ob)]) b) H' a ob) : StoAt Zg d0 M H' (cs ++ [(a, ob)]) := by
  have nc : ¬ Cells cs a := fun ⟨k, o, q⟩ => (s.ok k a o q).has.nn ha
  have get : ∀ m b ob2, (cs ++ [(a, ob)])[m]? = some (b, ob2) → (m = cs.length ∧ b = a ∧ ob2 = ob) ∨ cs[m]? = some (b, ob2) := fun m b ob2 q => by
    by_cases z : m < cs.length
    · rw [List.getElem?_append_left z] at q
      exact .inr q
    · rw [List.getElem?_append_right (by omega)] at q
      have : m - cs.length = 0 := by
        have := (List.getElem?_eq_some_iff.mp q).1
        simp at this
        omega
      rw [this] at q
      cases q
      exact .inl ⟨by omega, rfl, rfl⟩
  have L : Lat (fun b => b = d0 ∨ M b ∨ Cells cs b) H (fun b => b = d0 ∨ M b ∨ Cells (cs ++ [(a, ob)]) b) H' := fun b o _ nb q => ⟨e b o q, fun z => by
    rcases z with z | z | z
    · exact nb (.inl z)
    · exact nb (.inr (.inl z))
    · rcases cells_push.mp z with z | z
      · exact nb (.inr (.inr z))
      · rw [z, ha] at q
        cases q⟩
  refine ⟨fun b q => ?_, fun k1 k2 b o1 o2 q1 q2 => ?_, fun m b ob2 q => ?_⟩
  · rcases cells_push.mp q with q | q
    · exact s.ap b q
    · rw [q]
      exact ⟨fun z => hd (z ▸ ha), fun z => (hM a z).nn ha⟩
  · rcases get _ _ _ q1 with ⟨x1, x2, x3⟩ | x2
    · rcases get _ _ _ q2 with ⟨y1, y2, y3⟩ | y2
      · rw [x1, y1]
      · exact absurd ⟨_, _, x2 ▸ y2⟩ nc
    · rcases get _ _ _ q2 with ⟨y1, y2, y3⟩ | y2
      · exact absurd ⟨_, _, y2 ▸ x2⟩ nc
      · exact s.nd _ _ _ _ _ x2 y2
  · rcases get _ _ _ q with ⟨x1, x2, x3⟩ | x2
    · subst x2 x3
      exact ho
    · exact (s.ok _ _ _ x2).lat L fun o q' => e _ _ q'
theorem SpM.imp {K : PySem.W.Frag} {P : XSpec} {vs : List V} {H : Hp} {Q Q' : VK} (h : SpM Z.g K P vs H Q E) (k : ∀ v H', Q v H' → Q' v H') : SpM Z.g K P vs H Q' E := by
  obtain ⟨d0, M, cs, ds, Qp, Ep, hD, hT, hM, hS, hA, r, hP, post, per⟩ := h
  exact ⟨d0, M, cs, ds, Qp, Ep, hD, hT, hM, hS, hA, r, hP, fun d v cs' H' n s hf r q => k v H' (post d v cs' H' n s hf r q), per⟩
/-- C(..): the new instance is a cell -/
def wmMake (j c : Nat) (P : XSpec) (t : WMA) : WM := fun env Q E => t env (fun ds env1 => match env1[j]? with
  | some (.sto cs) => ∀ a, P (.loc a :: ds) (cs ++ [(a, .ins c [] [])]) (fun _ cs' => Q (.loc a) (env1.set j (.sto cs'))) (fun x cs' => E x (env1.set j (.sto cs')))
  | _ => False) E
end
end Oil
namespace Oil
open PySem PySem.Spec PyProof.Rows L2 LamX
section
variable {Z : ZM} {X : Cx} {E : XK} {e e1 e2 e3 : Expr} {es : List Expr} {w w1 w2 w3 : WE} {t t2 : WA} {u u1 u2 : WMT} {pos p : Pos} {i : Nat} {x : Str} {b a2 b2 : WS} {wm wm1 wm2 : WM} {tm : WMA} {ss ss2 : List Stmt} {s : Stmt} {k j j' : Nat} {P : XSpec} {PP : PSpec} {c : Nat} {m : Str} {apos : Pos} {pa : Arguments} {bd : Expr} {sc : Scope}
def wmTold (tell : Er → QD → Prop) (w : WM) : WM := fun env Q _ => w env Q (fun er env1 => tell er fun d => Q d env1)
def wmToldR (tell : Er → QD → Prop) (w : WM) : WM := fun env Q _ => w env (fun _ env1 => Q .non env1) (fun er env1 => tell er fun d => Q d env1)
theorem PerM.at {fr : Fr} {ow : Ow} {H : Hp} {σ : L2.St} {env : Ev} {Ep : Er → Ev → Prop} {Ep0 : QR} {E0' : XK} (A : At Z X.K E0' fr ow H σ env Ep0) (per : PerM fr ow H σ Ep E) : At Z X.K E fr ow H σ env (fun x => Ep x env) := ⟨A.z, A.k, A.g, fun er cls dd H2 n r q => per er cls dd ow H2 env (A.g.mv n) (A.g.lat n) r q⟩
mutual
/-- d', where the cells of cs from n on are not written any more -/
inductive FzD (cs : Sto) (n : Nat) : D → D → Prop where
  | refl (d : D) : FzD cs n d d
  | tup {xs ys : List D} : FzDs cs n xs ys → FzD cs n (.tup xs) (.tup ys)
  | lst {xs ys : List D} : FzDs cs n xs ys → FzD cs n (.lst xs) (.lst ys)
  | cl {a : Addr} {xs ys : List D} (k : Nat) : n ≤ k → cs[k]? = some (a, .lst xs) → FzDs cs n xs ys → FzD cs n (.loc a) (.lst ys)
  | cd {a : Addr} {ks : List Str} {xs ys : List D} (k : Nat) : n ≤ k → cs[k]? = some (a, .dct ks xs) → FzDs cs n xs ys → FzD cs n (.loc a) (.dcs ks ys)
  | ci {a : Addr} {c : Nat} {ns : List Str} {xs ys : List D} (k : Nat) : n ≤ k → cs[k]? = some (a, .ins c ns xs) → FzDs cs n xs ys → FzD cs n (.loc a) (.ins c ns ys)
inductive FzDs (cs : Sto) (n : Nat) : List D → List D → Prop where
  | nil : FzDs cs n [] []
  | cons {x y : D} {xs ys : List D} : FzD cs n x y → FzDs cs n xs ys → FzDs cs n (x :: xs) (y :: ys)
end
section
variable {fr : Fr} {ow : Ow} {H : Hp} {σ : L2.St} {env : Ev} {cs : Sto} {n : Nat}
theorem take_get {cs : Sto} {n m : Nat} {y : Addr × Ob} (h : (cs.take n)[m]? = some y) : m < n ∧ cs[m]? = some y := by
  rw [List.getElem?_take] at h
  split at h
  · rename_i z
    exact ⟨z, h⟩
  · cases h
/-- the cells from n on let go -/
theorem Good.drop (G : Good fr ow H σ env) (e : env[j]? = some (.sto cs)) (n : Nat) : Good fr (owS ow (cs.take n)) H σ (env.set j (.sto (cs.take n))) ∧ Lat (MM fr ow) H (MM fr (owS ow (cs.take n))) H ∧ (∀ b, MM fr (owS ow (cs.take n)) b → MM fr ow b) ∧ ∀ (k : Nat) (a : Addr) (ob : Ob), n ≤ k → cs[k]? = some (a, ob) → ¬ MM fr (owS ow (cs.take n)) a ∧ ObAt fr.Z.g fr.d0 (MM fr ow) H a ob := by
  have s := G.stoAt e
  have sc : ∀ b, Cells (cs.take n) b → Cells cs b := fun b ⟨k, ob, q⟩ => ⟨k, ob, (take_get q).2⟩
  have s' : StoAt fr.Z.g fr.d0 (fun a => MM fr ow a ∧ ¬ Cells cs a) H (cs.take n) := ⟨fun a q => s.ap a (sc a q), fun k m a ob ob' q q' => s.nd k m a ob ob' (take_get q).2 (take_get q').2, fun k a ob q => (s.ok k a ob (take_get q).2).sub fun b z => z.imp id fun z => z.imp id (sc b)⟩
  obtain ⟨G', L, sub⟩ := G.unsto e (Nz.refl G.dice) s' fun a q => .inl (sc a q)
  have hM : ∀ b, MM fr (owS ow (cs.take n)) b → MM fr ow b := fun b q => by
    rcases sub b q with z | z | z
    · exact z ▸ MM.d0
    · exact z.1
    · exact G.cellM e (sc b z)
  refine ⟨G', L, hM, fun k a ob hk q => ⟨fun z => ?_, (G.cell e q).2⟩⟩
  rcases sub a z with z | z | ⟨m, ob', z⟩
  · exact (s.ap a ⟨k, ob, q⟩).1 z
  · exact z.2 ⟨k, ob, q⟩
  · obtain ⟨z1, z2⟩ := take_get z
    have := s.nd _ _ _ _ _ q z2
    omega
end
/-- the value of e, whose cells from the n-th on are let go -/
def wmFz (j : Nat) (w : WM) : WM := fun env Q E => w env (fun d env1 => ∃ cs n d', env1[j]? = some (.sto cs) ∧ FzD cs n d d' ∧ Q d' (env1.set j (.sto (cs.take n)))) E
end
end Oil
namespace Oil
open PySem PySem.Spec PyProof.Rows L2 LamX
/-- in its place, or at the end -/
def putS : List Str → List D → Str → D → List Str × List D
  | [], _, k, d => ([k], [d])
  | j :: ks, x :: xs, k, d => if j = k then (j :: ks, d :: xs) else ((j :: (putS ks xs k d).1), (x :: (putS ks xs k d).2))
  | j :: ks, [], _, _ => (j :: ks, [])
def getS : List Str → List D → Str → Option D
  | j :: ks, x :: xs, k => if j = k then some x else getS ks xs k
  | _, _, _ => none
section
variable {Z : ZM} {X : Cx} {E : XK} {e e1 e2 e3 o1 o2 : Expr} {es : List Expr} {w w1 w2 w3 wo wo2 : WE} {t t2 : WA} {u u1 u2 : WMT} {pos p pos1 pos2 : Pos} {i : Nat} {x : Str} {b a2 b2 : WS} {wm wm1 wm2 : WM} {tm : WMA} {ss ss2 : List Stmt} {s : Stmt} {k j j' : Nat} {k1 k2 : Str}
variable {fr : Fr} {ow ow' : Ow} {H H' H1 H2 : Hp} {σ : L2.St} {env env' : Ev} {v : V} {d : D} {a : Addr} {vs : List V} {ds : List D} {cs cs' : Sto} {ob : Ob}
/-- x['key'] -/
def wLDGet (j : Nat) (key : Str) (w : WE) : WE := fun env Q E => w env (fun x => match x with
  | .loc a => ∃ (cs : Sto) (k : Nat) (ks : List Str) (xs : List D), env[j]? = some (.sto cs) ∧ cs[k]? = some (a, Ob.dct ks xs) ∧ ks.Nodup ∧ ∃ d, getS ks xs key = some d ∧ Q d
  | _ => False) E
def wSDGet (key : Str) (w : WE) : WE := fun env Q E => w env (fun x => match x with
  | .dcs ks xs => ks.Nodup ∧ ∃ d, getS ks xs key = some d ∧ Q d
  | _ => False) E
def putDc (j : Nat) (env : Ev) (x : D) (key : Str) (d : D) (Q : Ev → Prop) : Prop := match x with
  | .loc a => ∃ (cs : Sto) (k : Nat) (ks : List Str) (xs : List D), env[j]? = some (.sto cs) ∧ cs[k]? = some (a, Ob.dct ks xs) ∧ (ks.Nodup ∧ ks.length < LIM) ∧ Q (env.set j (.sto (cs.set k (a, .dct (putS ks xs key d).1 (putS ks xs key d).2))))
  | _ => False
def wmDPut (j : Nat) (key : Str) (o : WE) (w : WM) : WS := fun env K => w env (fun d env1 => o env1 (fun x => putDc j env1 x key d K.nx) (fun x => K.er x env1)) K.er
/-- x[i] = e, x a list in the store -/
def wmPutI (j : Nat) (o ix : WE) (w : WM) : WS := fun env K => w env (fun d env1 => o env1 (fun x => ix env1 (fun y => match x, y with
  | .loc a, .int i => putL j env1 a fun xs k => ∃ m, ixN xs.length i = some m ∧ K.nx (k (xs.set m d))
  | _, _ => False) (fun x => K.er x env1)) (fun x => K.er x env1)) K.er
end
end Oil
namespace Oil
open PySem PySem.Spec PyProof.Rows L2
end Oil
namespace Oil
open PySem PySem.Spec PyProof.Rows L2
def b_law_walked : WS := (wSeq (wParN (wpOwn 5 (wLst wNil) (wpVal 6 (wName 2) (wpVal 7 (wName 3) wpNil))))
    (wSeq (wFor (wRange1 (wName 4)) (.nm 8)
    (wSeq (wUnp (.tp [9, 10]) (wOp oIx (wName 1) (wName 6)))
    (wSeq (wSet 7 (wCB bMin2 (wCons (wName 0) (wCons (wOp oAdd (wName 7) (wName 9)) wNil))))
    (wSeq (wIfS (wtVal (wOp oLt (wName 7) (wName 10)))
    (wFrz 5 (wRet (wTup (wCons (wName 5) (wCons (wTup (wCons (wName 8) (wCons (wName 7) wNil))) wNil)))))
    wSkip)
    (wSeq (wParN (wpVal 7 (wOp oSub (wName 7) (wName 10)) (wpVal 6 (wOp oMod (wCB bInt (wCons (wOp oAdd (wName 6) (wC (.int 1))) wNil)) (wCB bLen (wCons (wName 1) wNil))) wpNil)))
    (wApp 5 (wName 7)))))))
    (wFrz 5 (wRet (wTup (wCons (wName 5) (wCons (wC .non) wNil)))))))
def S_law_walked : PSpec := specOf 5 11 b_law_walked
end Oil
namespace Oil
open PySem PySem.Spec PyProof.Rows L2 LamX
end Oil
namespace Oil
open PySem PySem.Spec PyProof.Rows L2 LamX
end Oil
namespace Oil
open PySem PySem.Spec PyProof.Rows L2 LamX
end Oil
namespace Oil
open PySem PySem.Spec PyProof.Rows L2 LamX
end Oil
namespace Oil
open PySem PySem.Spec PyProof.Rows L2
end Oil
namespace Oil
open PySem PySem.Spec PyProof.Rows L2
end Oil
namespace Oil
open PySem PySem.Spec PyProof.Rows L2
end Oil
namespace Oil
open PySem PySem.Spec PyProof.Rows L2
end Oil
namespace Oil
open PySem PySem.Spec PyProof.Rows L2
end Oil
namespace Oil
open PySem PySem.Spec PyProof.Rows L2
end Oil
namespace Oil
open PySem PySem.Spec PyProof.Rows L2
end Oil
namespace Oil
open PySem PySem.Spec PyProof.Rows L2
theorem ErC.sub {K : PySem.W.Frag} {Z : ZG} {cs cs' : List Nat} (h : ErC K Z cs) (s : ∀ c ∈ cs', c ∈ cs) : ErC K Z cs' := ⟨fun c hc => h.ec c (s c hc), fun c hc c' hc' => h.kt c (s c hc) c' (s c' hc'), fun c hc => h.kv c (s c hc), fun c hc => h.em c (s c hc)⟩
section
variable {Z : ZM} {X : Cx} {E : XK} {e e1 e2 e3 : Expr} {es : List Expr} {w w1 w2 w3 : WE} {t t2 : WA} {tm : WMA} {pos p : Pos} {i : Nat} {x : Str} {k j : Nat} {P : PSpec}
theorem RepsB.of {fr : Fr} {ow : Ow} {H : Hp} : ∀ {vs : List V} {ds : List D}, Reps fr.Z.g fr.d0 (MM fr ow) H vs ds → RepsB fr ow H vs ds
  | _, _, .nil => .nil
  | _, _, .cons r s => .cons (.inl r) (RepsB.of s)
end
end Oil
namespace Oil
open PySem PySem.Spec PyProof.Rows L2
def oAddS : O2
  | .str a, .str b, Q => a.length + b.length ≤ LIM ∧ Q (.str (a ++ b))
  | .byt a, .byt b, Q => a.length + b.length ≤ LIM ∧ Q (.byt (a ++ b))
  | _, _, _ => False
def rAddS : R2 := fun x y H Q => (∃ i j, x = .str i ∧ y = .str j ∧ i.length + j.length ≤ sizeLine ∧ Q (.str (i ++ j)) H) ∨ (∃ i j, x = .byt i ∧ y = .byt j ∧ i.size + j.size ≤ 16777216 ∧ Q (.byt (i ++ j)) H)
theorem op_addS {X : Cx} : OpR X (binaryOp .Add) rAddS := op_cat2 op_add_str op_add_byt
theorem RepB.strAt {fr : Fr} {ow : Ow} {H : Hp} {v : V} {s : Str} (r : RepB fr ow H v (.str s)) : v = .str s := by
  cases r.rep (fun _ z => by cases z)
  rfl
theorem RepB.bytAt {fr : Fr} {ow : Ow} {H : Hp} {v : V} {ns : List Int} (r : RepB fr ow H v (.byt ns)) : v = .byt (byteArr ns) ∧ B8 ns := by
  cases r.rep (fun _ z => by cases z) with
  | byt _ h => exact ⟨rfl, h⟩
theorem ba_size (ns : List Int) : (byteArr ns).size = ns.length := by simp [byteArr]
theorem ops_addS : OpS rAddS oAddS := fun fr ow H x y dx dy Qp Q _ rx ry h k => by
  cases dx <;> cases dy <;> try exact (show False from h).elim
  · exact .inl ⟨_, _, rx.strAt, ry.strAt, lim_line h.1, k _ _ H (.refl H) (.str _) h.2⟩
  · obtain ⟨e1, b1⟩ := rx.bytAt
    obtain ⟨e2, b2⟩ := ry.bytAt
    refine .inr ⟨_, _, e1, e2, ?_, ?_⟩
    · rw [ba_size, ba_size]
      have := h.1
      unfold LIM at this
      omega
    · rw [byteArr_app]
      exact k _ _ H (.refl H) (.byt _ (b1.app b2)) h.2
/-- a text so many times -/
def repS (a : Str) (k : Int) : Str := ⟨(List.replicate k.toNat a.cps.toList).flatten.toArray⟩
theorem fold_appT (l : List (Array Nat)) : ∀ acc : Array Nat, (l.foldl (fun x1 x2 => x1 ++ x2) acc).toList = acc.toList ++ (l.map Array.toList).flatten := by
  induction l with
  | nil => intro acc; simp
  | cons x l ih => intro acc; rw [List.foldl_cons, ih]; simp
theorem mul_rep (a : Str) (k : Int) : Txt.mul a k = repS a k := by
  refine TL.ext_tl ?_
  unfold Txt.mul repS
  by_cases h : k < 1
  · rw [if_pos h, show k.toNat = 0 by omega]
    rfl
  · rw [if_neg h]
    by_cases h2 : (k == 1 || a.length == 0) = true
    · rw [if_pos h2]
      rw [Bool.or_eq_true] at h2
      rcases h2 with h2 | h2
      · have : k = 1 := by simpa using h2
        subst this
        show a.cps.toList = _
        simp
      · have h3 : a.cps.toList = [] := by
          have : a.cps.size = 0 := by simpa [Str.length] using h2
          exact List.eq_nil_of_length_eq_zero (by simpa using this)
        show a.cps.toList = _
        rw [h3]
        show [] = ((List.replicate k.toNat []).flatten : List Nat).toArray.toList
        simp
    · rw [if_neg h2]
      show (List.foldl (fun x1 x2 => x1 ++ x2) #[] (List.replicate k.toNat a.cps)).toList = _
      rw [fold_appT]
      simp
def oMulS : O2
  | .str a, .int k, Q => (a.length ≤ 1000 ∧ -1000 ≤ k ∧ k ≤ 1000) ∧ Q (.str (repS a k))
  | _, _, _ => False
def rMulS : R2 := fun x y H Q => ∃ a k, x = .str a ∧ y = .int k ∧ (a.length ≤ 1000 ∧ -1000 ≤ k ∧ k ≤ 1000) ∧ Q (.str (repS a k)) H
theorem mulOk {a : Str} {k : Int} (h1 : a.length ≤ 1000) (h2 : -1000 ≤ k) (h3 : k ≤ 1000) : MulOk a k := by
  refine ⟨?_, fun h _ z => ?_, fun h _ => ?_⟩
  · rw [Bool.or_eq_false_iff]
    exact ⟨decide_eq_false (by omega), decide_eq_false (by omega)⟩
  · have : (1000 : Int) ≤ (2 ^ 63 - 1) / k := by
      refine Int.le_ediv_of_mul_le (by omega) ?_
      omega
    omega
  · have h4 : a.length * k.toNat ≤ 1000 * 1000 := Nat.mul_le_mul h1 (by omega)
    unfold Builtin.Str.tooLong
    refine decide_eq_false ?_
    have := sizeLine_eq
    omega
theorem op_mulS {X : Cx} : OpR X (binaryOp .Mult) rMulS := by
  intro pins s σ H x y v u Q I rx ry h
  obtain ⟨a, k, rfl, rfl, ⟨h1, h2, h3⟩, q⟩ := h
  obtain ⟨t, rfl⟩ := rx
  obtain ⟨t', rfl⟩ := ry
  refine SB.mul (mulOk h1 h2 h3) fun t' k' => ?_
  rw [mul_rep]
  exact ⟨.str _, H, I.tok _, ⟨_, rfl⟩, q⟩
theorem ops_mulS : OpS rMulS oMulS := fun fr ow H x y dx dy Qp Q _ rx ry h k => by
  cases dx <;> cases dy <;> try exact (show False from h).elim
  exact ⟨_, _, rx.strAt, ry.int, h.1, k _ _ H (.refl H) (.str _) h.2⟩
def bLenS : CB
  | [.str z], Q => z.length ≤ LIM ∧ Q (.int z.length)
  | [.byt ns], Q => ns.length ≤ LIM ∧ Q (.int ns.length)
  | _, _ => False
def rLenX (K : PySem.W.Frag) : List V → Hp → VK → Prop := fun xs H Q => ∃ x n, xs = [x] ∧ LenV K x H n ∧ Q (.int n) H
theorem call_lenX {X : Cx} : CallR X (.builtin "len") (rLenX X.K) := call_len
theorem cbs_lenS {K : PySem.W.Frag} : CbS (rLenX K) bLenS := fun fr ow H vs ds Qp Q fre r h k => by
  match ds, h with
  | [.str z], h =>
    obtain ⟨v, rfl, rr⟩ := r.one
    exact ⟨v, z.length, rfl, by rw [rr.strAt]; exact ⟨lim_line h.1, rfl⟩, k _ _ H (.refl H) (.int _) h.2⟩
  | [.byt ns], h =>
    obtain ⟨v, rfl, rr⟩ := r.one
    exact ⟨v, ns.length, rfl, by rw [rr.bytAt.1]; exact ⟨by rw [ba_size]; exact lim_line h.1, (ba_size ns).symm⟩, k _ _ H (.refl H) (.int _) h.2⟩
/-- str(i) -/
def bStr : CB
  | [.int i], Q => i.natAbs.log2 < 1920 ∧ Q (.str (toString i))
  | _, _ => False
def rStrI : List V → Hp → VK → Prop := fun xs H Q => ∃ i, xs = [.int i] ∧ i.natAbs.log2 < 1920 ∧ Q (.str (toString i)) H
theorem call_strI {X : Cx} : CallR X (.type "str") rStrI := call_str_int
theorem cbs_str : CbS rStrI bStr := fun fr ow H vs ds Qp Q fre r h k => by
  match ds, h with
  | [.int i], h =>
    obtain ⟨v, rfl, rr⟩ := r.one
    exact ⟨i, by rw [rr.int], h.1, k _ _ H (.refl H) (.str _) h.2⟩
/-- int(s) -/
def bIntS : CB
  | [.str a], Q => ∃ n, intText? a = some n ∧ a.length ≤ 640 ∧ Q (.int n)
  | _, _ => False
def rIntS : List V → Hp → VK → Prop := fun xs H Q => ∃ a n, xs = [.str a] ∧ intText? a = some n ∧ a.length ≤ 640 ∧ Q (.int n) H
theorem call_intS {X : Cx} : CallR X (.type "int") rIntS := call_int_str
theorem cbs_intS : CbS rIntS bIntS := fun fr ow H vs ds Qp Q fre r h k => by
  match ds, h with
  | [.str a], ⟨n, h1, h2, h3⟩ =>
    obtain ⟨v, rfl, rr⟩ := r.one
    exact ⟨a, n, by rw [rr.strAt], h1, h2, k _ _ H (.refl H) (.int _) h3⟩
/-- bytes(x) -/
def bBytes : CB
  | [.lst xs], Q => ∃ ns, intsOf xs = some ns ∧ B8 ns ∧ Q (.byt ns)
  | _, _ => False
def rBytes (K : PySem.W.Frag) : List V → Hp → VK → Prop := fun xs H Q => ∃ p ns, xs = [.ref p] ∧ SqL K H p (ns.map V.int) ∧ B8 ns ∧ Q (.byt (byteArr ns)) H
theorem call_bytesL {X : Cx} (hc : X.calm = true) : CallR X (.type "bytes") (rBytes X.K) := call_bytes_list hc
theorem cbs_bytes {K : PySem.W.Frag} : CbS (rBytes K) bBytes := fun fr ow H vs ds Qp Q fre r h k => by
  match ds, h with
  | [.lst xs], ⟨ns, h1, h2, h3⟩ =>
    obtain ⟨v, rfl, rr⟩ := r.one
    obtain ⟨a, rfl, e⟩ := ints_sq (K := K) rr h1
    exact ⟨a, ns, rfl, e, h2, k _ _ H (.refl H) (.byt _ h2) h3⟩
/-- isinstance(b, bytes), b bytes -/
def bIsiB : CB
  | [.byt _, .ty "bytes"], Q => Q (.bl true)
  | _, _ => False
def rIsiB : List V → Hp → VK → Prop := fun xs H Q => ∃ y, xs = [.byt y, .ty "bytes"] ∧ Q (.bl true) H
theorem call_isiB {X : Cx} : CallR X (.builtin "isinstance") rIsiB := call_isi_byt
theorem cbs_isiB : CbS rIsiB bIsiB := fun fr ow H vs ds Qp Q fre r h k => by
  unfold bIsiB at h
  split at h
  · obtain ⟨v, u, rfl, rr, r2⟩ := r.two
    obtain rfl : u = .ty "bytes" := by cases (r2.rep fun _ z => by cases z); rfl
    exact ⟨_, by rw [rr.bytAt.1], k _ _ H (.refl H) (.bl _) h⟩
  · exact h.elim
section
variable {Z : ZM} {X : Cx} {E : XK} {e e1 e2 e3 : Expr} {es : List Expr} {w w1 w2 w3 : WE} {t t2 : WA} {tm : WMA} {pos p : Pos} {i : Nat} {x : Str} {k j : Nat} {P : PSpec}
/-- b[i], 0 ≤ i -/
def oIxB : O2
  | .byt ns, .int i, Q => (ns.length ≤ LIM ∧ 0 ≤ i ∧ i < ns.length) ∧ Q (.int (ns.getD i.toNat 0))
  | _, _, _ => False
def wIxB (a b : WE) : WE := fun env Q E => a env (fun x => b env (fun y => oIxB x y Q) E) E
theorem qe_ixB (ha : QE Z X E e1 w1) (hb : QE Z X E e2 w2) (hs : PlainIxT e2) : QE Z X E (.Subscript e1 e2 pos) (wIxB w1 w2) := (pe_item_byt ha hb hs).wk fun σ H Q ⟨fr, ow, env, Qp, Ep, A, hw, post⟩ =>
  ⟨fr, ow, env, _, Ep, A, hw, fun dx v1 H1 n1 r1 q1 => ⟨fr, ow, env, _, Ep, A.mv n1, q1, fun dy v2 H2 n2 r2 q2 => by
    cases dx <;> cases dy <;> try exact (show False from q2).elim
    rename_i ns i
    obtain ⟨⟨h1, h2, h3⟩, q2⟩ := q2
    obtain ⟨rfl, b8⟩ := (RepB.of r1).bytAt
    have hj : i.toNat < ns.length := by omega
    refine ⟨ns.map fun n : Int => n.toNat.toUInt8, i, rfl, r2.ix, by rw [List.length_map]; exact lim_line h1, h2, by rw [List.length_map]; exact h3, ?_⟩
    rw [byte_at b8 (n := ns.getD i.toNat 0) (by rw [List.getD_eq_getElem?_getD, List.getElem?_eq_getElem hj]; rfl)]
    exact post _ _ H2 (n1.trans n2) (.int _) q2⟩⟩
/-- slices of texts and bytes -/
def cutB (ns : List Int) : Option Int → Option Int → Option (List Int)
  | none, some j => if 0 ≤ j ∧ j ≤ ns.length then some (ns.take j.toNat) else none
  | some i, some j => if 0 ≤ i ∧ i ≤ ns.length ∧ 0 ≤ j ∧ j ≤ ns.length then some ((ns.drop i.toNat).take (j.toNat - i.toNat)) else none
  | _, _ => none
theorem cutB_ok {ns r : List Int} {lo hi : Option Int} (h : cutB ns lo hi = some r) (b : B8 ns) : PySem.W.KBy.picked (byteArr ns) lo hi = byteArr r ∧ B8 r := by
  cases lo with
  | none =>
    cases hi with
    | none => cases h
    | some j =>
      unfold cutB at h
      dsimp only at h
      split at h
      · rename_i z
        cases h
        have := byteArr_upto (ns := ns) (k := j.toNat) (by omega)
        rw [show ((j.toNat : Nat) : Int) = j by omega] at this
        exact ⟨this, b.take _⟩
      · cases h
  | some i =>
    cases hi with
    | none => cases h
    | some j =>
      unfold cutB at h
      dsimp only at h
      split at h
      · rename_i z
        cases h
        have := L2.pk_mid (l := ns.map fun n : Int => n.toNat.toUInt8) (i := i.toNat) (j := j.toNat) (by rw [List.length_map]; omega) (by rw [List.length_map]; omega)
        rw [show ((j.toNat : Nat) : Int) = j by omega, show ((i.toNat : Nat) : Int) = i by omega] at this
        refine ⟨?_, (b.drop _).take _⟩
        unfold byteArr
        rw [this, List.map_take, List.map_drop]
      · cases h
def wSliceS (a : WE) (lo hi : WO) : WE := fun env Q E => a env (fun x => lo env (fun l => hi env (fun h => match x with
  | .str z => z.length ≤ LIM ∧ Q (.str (cutS z l h))
  | .byt ns => ns.length ≤ LIM ∧ ∃ r, cutB ns l h = some r ∧ Q (.byt r)
  | _ => False) E) E) E
theorem qe_sliceS {lo hi : Option Expr} {tl th : WO} {p2 : Pos} (ha : QE Z X E e w) (hl : PO X lo (RdO Z X.K E tl)) (hu : PO X hi (RdO Z X.K E th)) : QE Z X E (.Subscript e (.Slice lo hi none p2) pos) (wSliceS w tl th) :=
  (pe_slice (SlR.or (sl_str (X := X)) sl_byt) ha hl hu).wk fun σ H Q ⟨fr, ow, env, Qp, Ep, A, hw, post⟩ =>
  ⟨fr, ow, env, _, Ep, A, hw, fun d v H1 n1 r1 q1 => ⟨fr, ow, env, _, Ep, A.mv n1, q1, fun l H2 n2 q2 => ⟨fr, ow, env, _, Ep, (A.mv n1).mv n2, q2, fun h H3 n3 q3 => by
    have n4 := n1.trans (n2.trans n3)
    cases d <;> try exact (show False from q3).elim
    · rename_i z
      cases r1
      exact .inl ⟨z, rfl, lim_line q3.1, post _ _ H3 n4 (.str _) q3.2⟩
    · rename_i ns
      obtain ⟨rfl, b8⟩ := (RepB.of r1).bytAt
      obtain ⟨hz, r, hr, q3⟩ := q3
      obtain ⟨e1, e2⟩ := cutB_ok hr b8
      refine .inr ⟨_, rfl, by rw [ba_size]; unfold LIM at hz; omega, ?_⟩
      rw [e1]
      exact post _ _ H3 n4 (.byt _ e2) q3⟩⟩⟩
/-- list(b), b bytes: a new list -/
def wListB (w : WE) : WE := fun env Q E => w env (fun d => match d with
  | .byt ns => ns.length ≤ LIM ∧ Q (.lst (ns.map .int))
  | _ => False) E
/-- sep.join(texts) -/
def strsOf : List D → Option (List Str)
  | [] => some []
  | .str s :: xs => (strsOf xs).map (s :: ·)
  | _ => none
theorem Reps.strs {Zg : ZG} {d0 : Addr} {M : Addr → Prop} {H : Hp} : ∀ {vs : List V} {ds : List D} {ss : List Str}, Reps Zg d0 M H vs ds → strsOf ds = some ss → vs = ss.map V.str
  | _, _, _, .nil, e => by cases e; rfl
  | _, _, _, .cons (d := d) r t, e => by
    cases d <;> try (cases e; done)
    obtain ⟨q, h1, rfl⟩ := Option.map_eq_some_iff.mp (show Option.map (_ :: ·) (strsOf _) = _ from e)
    cases r
    rw [Reps.strs t h1]
    rfl
def wJoin (a b : WE) : WE := fun env Q E => a env (fun x => match x with
  | .str sep => b env (fun y => match y with
    | .lst xs => ∃ ss, strsOf xs = some ss ∧ (ss.map (·.length)).sum + ss.length * sep.length ≤ LIM ∧ Q (.str (Txt.join sep ss))
    | _ => False) E
  | _ => False) E
theorem qe_join {apos : Pos} (ho : QE Z X E e1 w1) (he : QB Z X E e2 w2) (hst : starEach [e2] X.env = [(false, eval e2 X.env)] := by rfl) (hb : attributeBase e1 "join" X.env (eval e1 X.env) = eval e1 X.env := by rfl) (hl : (apos.endLine == pos.line) = true := by rfl) :
    QE Z X E (.Call (.Attribute e1 "join" apos) [e2] [] pos) (wJoin w1 w2) := (pe_join ho he hst hb hl).wk fun σ H Q ⟨fr, ow, env, Qp, Ep, A, hw, post⟩ =>
  ⟨fr, ow, env, _, Ep, A, hw, fun d v H1 n1 r1 q1 => by
    cases d <;> try exact (show False from q1).elim
    rename_i sep
    cases r1
    refine ⟨⟨_, rfl⟩, fr, ow, env, _, Ep, A.mv n1, q1, fun d2 v2 H2 n2 r2 q2 => ?_⟩
    cases d2 <;> try exact (show False from q2).elim
    obtain ⟨ss, h1, h2, h3⟩ := q2
    obtain ⟨a, us, rfl, e, rs⟩ := r2.lst
    have := rs.strs h1
    subst this
    exact ⟨sep, a, ss, rfl, rfl, .inl (SqL.of e), by unfold LIM at h2; omega, post _ _ H2 (n1.trans n2) (.str _) h3⟩⟩
theorem Reps.ofStrs {Zg : ZG} {d0 : Addr} {M : Addr → Prop} {H : Hp} : ∀ ss : List Str, Reps Zg d0 M H (ss.map V.str) (ss.map .str)
  | [] => .nil
  | s :: ss => .cons (.str s) (Reps.ofStrs ss)
def wStr1 (w : WE) : WE := fun env Q E => w env (fun d => (∃ s, d = .str s) ∧ Q d) E
def wInt1 (w : WE) : WE := fun env Q E => w env (fun d => (∃ n, d = .int n) ∧ Q d) E
/-- s.split(sep): a new list -/
def wSplit (a b : WE) : WE := fun env Q E => a env (fun x => b env (fun y => match x, y with
  | .str s, .str sep => ((sep.length == 0) = false ∧ s.length ≤ LIM) ∧ Q (.lst ((Txt.split s sep).map .str))
  | _, _ => False) E) E
theorem qf_split {apos : Pos} (ho : QE Z X E e1 w1) (he : QE Z X E e2 w2) (hst : starEach [e2] X.env = [(false, eval e2 X.env)] := by rfl) (hb : attributeBase e1 "split" X.env (eval e1 X.env) = eval e1 X.env := by rfl) (hl : (apos.endLine == pos.line) = true := by rfl) :
    QF Z X E (.Call (.Attribute e1 "split" apos) [e2] [] pos) (wSplit (wStr1 w1) w2) := (pe_split ho he hst hb hl).wk fun σ H Q ⟨fr, ow, env, Qp, Ep, A, hw, post⟩ =>
  ⟨fr, ow, env, _, Ep, A, hw, fun d v H1 n1 r1 ⟨⟨s, es⟩, q1⟩ => by
    subst es
    cases r1
    refine ⟨⟨_, rfl⟩, fr, ow, env, _, Ep, A.mv n1, q1, fun d2 v2 H2 n2 r2 q2 => ?_⟩
    cases d2 <;> try exact (show False from q2).elim
    rename_i sep
    cases r2
    obtain ⟨⟨h1, h2⟩, q2⟩ := q2
    refine ⟨s, sep, rfl, rfl, h1, by rw [sizeLine_eq]; unfold LIM at h2; omega, fun l hl => ?_⟩
    exact post _ _ _ ((n1.trans n2).same (Same.new hl)) (.of (n1.trans n2) hl (Reps.ofStrs _)) q2⟩
end
end Oil
namespace Oil
open PySem PySem.Spec PyProof.Rows L2
section
variable {Z : ZM} {X : Cx} {E : XK} {e e1 e2 e3 : Expr} {es : List Expr} {w w1 w2 w3 : WE} {t t2 : WA} {tm : WMA} {pos p apos cpos : Pos} {i : Nat} {x : Str} {k j : Nat} {P : PSpec}
def wM0 (g : Str → Bool) (a : WE) : WE := fun env Q E => a env (fun x => match x with
  | .str s => Q (.bl (g s))
  | _ => False) E
theorem rd_m0 {g : Str → Bool} {r : V → List V → Hp → VK → Prop} (hr : ∀ s H Q, Q (V.bl (g s)) H → r (.str s) [] H Q) : ∀ σ H Q, RdE Z X.K E (wM0 g w) σ H Q → tBM0 X.K "str" r (RdE Z X.K E w) σ H Q := fun σ H Q ⟨fr, ow, env, Qp, Ep, A, hw, post⟩ =>
  ⟨fr, ow, env, _, Ep, A, hw, fun d v H1 n1 r1 q1 => by
    cases d <;> try exact (show False from q1).elim
    cases r1
    exact ⟨rfl, hr _ _ _ (post _ _ H1 n1 (.bl _) q1)⟩⟩
theorem qe_isascii (ho : QE Z X E e w) (hbase : attributeBase e "isascii" X.env (eval e X.env) = eval e X.env := by rfl) (hline : (apos.endLine == cpos.line) = true := by rfl) : QE Z X E (.Call (.Attribute e "isascii" apos) [] [] cpos) (wM0 Txt.isascii w) :=
  (pe_bm0 PySem.F.plainAttrs_str PySem.F.slot_str_isascii PySem.F.type_str_isascii mt_isascii ho hbase hline).wk (rd_m0 fun s H Q q => ⟨s, rfl, rfl, True.intro, q⟩)
theorem qe_isdigit (ho : QE Z X E e w) (hbase : attributeBase e "isdigit" X.env (eval e X.env) = eval e X.env := by rfl) (hline : (apos.endLine == cpos.line) = true := by rfl) : QE Z X E (.Call (.Attribute e "isdigit" apos) [] [] cpos) (wM0 Txt.isdigit w) :=
  (pe_bm0 PySem.F.plainAttrs_str PySem.F.slot_str_isdigit PySem.F.type_str_isdigit mt_isdigit ho hbase hline).wk (rd_m0 fun s H Q q => ⟨s, rfl, rfl, True.intro, q⟩)
def wSW (a : WE) (t : WA) : WE := fun env Q E => a env (fun x => match x with
  | .str s => t env (fun ds => match ds with
    | [.str y] => Q (.bl (Txt.startswith s y))
    | _ => False) E
  | _ => False) E
theorem qe_startswith (ho : QE Z X E e w) (ha : QA Z X E [e1] t) (hbase : attributeBase e "startswith" X.env (eval e X.env) = eval e X.env := by rfl)
    (hfew : ((backTo cpos (starEach [e1] X.env)).all (fun x => !x.1) && (backToKw cpos (keywordEach [] X.env)).all (fun x => x.1.isSome) && decide ([e1].length + ([] : List Keyword).length + (if ([] : List Keyword).isEmpty then 0 else 1) < 30)) = true := by rfl)
    (hline : (apos.endLine == cpos.line) = true := by rfl) (hse : starEach [e1] X.env = (false, eval e1 X.env) :: starEach [] X.env := by rfl) (hplain : (backTo cpos (starEach [] X.env)).any (·.1) = false := by rfl) :
    QE Z X E (.Call (.Attribute e "startswith" apos) [e1] [] cpos) (wSW w t) :=
  (pe_bm PySem.F.plainAttrs_str PySem.F.slot_str_startswith PySem.F.type_str_startswith mt_startswith ho ha hbase hfew hline hse hplain).wk fun σ H Q ⟨fr, ow, env, Qp, Ep, A, hw, post⟩ =>
  ⟨fr, ow, env, _, Ep, A, hw, fun d v H1 n1 r1 q1 => by
    cases d <;> try exact (show False from q1).elim
    cases r1
    refine ⟨rfl, fr, ow, env, _, Ep, A.mv n1, q1, fun ds vs H2 n2 r2 q2 => ?_⟩
    match ds, q2 with
    | [.str y], q2 =>
      cases r2 with
      | cons r t =>
        cases r
        cases t
        exact ⟨_, _, rfl, rfl, post _ _ H2 (n1.trans n2) (.bl _) q2⟩⟩
/-- the four bytes of a number, the greatest first -/
def bigB (k : Nat) (n : Int) : List Int := (PySem.W.KTBy.little k n).reverse
def wToB (a b c : WE) : WE := fun env Q E => a env (fun x => b env (fun y => c env (fun z => match x, y, z with
  | .int n, .int k, .str s => (s = "big" ∧ 0 ≤ k ∧ k ≤ 8 ∧ 0 ≤ n ∧ n < 256 ^ k.toNat) ∧ Q (.byt (bigB k.toNat n))
  | _, _, _ => False) E) E) E
theorem qe_toB (ho : QE Z X E e w) (h1 : QE Z X E e1 w1) (h2 : QE Z X E e2 w2) (hbase : attributeBase e "to_bytes" X.env (eval e X.env) = eval e X.env := by rfl)
    (hfew : ((backTo cpos (starEach [e1, e2] X.env)).all (fun x => !x.1) && (backToKw cpos (keywordEach [] X.env)).all (fun x => x.1.isSome) && decide ([e1, e2].length + ([] : List Keyword).length + (if ([] : List Keyword).isEmpty then 0 else 1) < 30)) = true := by rfl)
    (hline : (apos.endLine == cpos.line) = true := by rfl) (hs1 : starEach [e1, e2] X.env = (false, eval e1 X.env) :: starEach [e2] X.env := by rfl) (hs2 : starEach [e2] X.env = (false, eval e2 X.env) :: starEach [] X.env := by rfl) (hplain : (backTo cpos (starEach [e2] X.env)).any (·.1) = false := by rfl) :
    QE Z X E (.Call (.Attribute e "to_bytes" apos) [e1, e2] [] cpos) (wToB (wInt1 w) w1 w2) :=
  (pe_toBig ho h1 h2 hbase hfew hline hs1 hs2 hplain).wk fun σ H Q ⟨fr, ow, env, Qp, Ep, A, hw, post⟩ =>
  ⟨fr, ow, env, _, Ep, A, hw, fun d v H1 n1 r1 ⟨⟨n, en⟩, q1⟩ => by
    subst en
    cases r1
    refine ⟨rfl, fr, ow, env, _, Ep, A.mv n1, q1, fun d2 v2 H2 n2 r2 q2 => ⟨fr, ow, env, _, Ep, (A.mv n1).mv n2, q2, fun d3 v3 H3 n3 r3 q3 => ?_⟩⟩
    cases d2 <;> try exact (show False from q3).elim
    cases d3 <;> try exact (show False from q3).elim
    cases r2
    cases r3
    rename_i kk s
    obtain ⟨⟨rfl, k0, k8, n0, nl⟩, q3⟩ := q3
    refine ⟨n, kk.toNat, rfl, by rw [show ((kk.toNat : Nat) : Int) = kk by omega], by omega, n0, nl, ?_⟩
    exact post _ _ H3 (n1.trans (n2.trans n3)) (.byt _ (little_B8 _ _).rev) q3⟩
/-- int.from_bytes(b, "big") -/
def valB (ks : List Int) : Int := PySem.W.KFB.value ks
def wFromB (a : WE) (t : WA) : WE := fun env Q E => a env (fun x => match x with
  | .ty s => s = "int" ∧ t env (fun ds => match ds with
    | [.byt ks, .str b] => (b = "big" ∧ ks.length ≤ 8) ∧ Q (.int (valB ks))
    | _ => False) E
  | _ => False) E
theorem qe_fromB {pl : Sem Bool} (ho : QE Z X E e w) (ha : QA Z X E (e1 :: es) t) (hs : starEach (e1 :: es) X.env = (false, eval e1 X.env) :: starEach es X.env := by rfl) (hp : (backTo cpos (starEach es X.env)).any (·.1) = false := by rfl)
    (hev : eval (.Call (.Attribute e "from_bytes" apos) (e1 :: es) [] cpos) X.env = (do
      let ov ← eval e X.env
      standAt apos.atName
      let (f, first) ← holding [ov] (getMethod ov "from_bytes" pl)
      callWith cpos f first (backTo cpos (starEach (e1 :: es) X.env)) (backToKw cpos (keywordEach [] X.env))) := by rfl) :
    QE Z X E (.Call (.Attribute e "from_bytes" apos) (e1 :: es) [] cpos) (wFromB w t) := (pe_fromBytes (pl := pl) ho ha hs hp hev).wk fun σ H Q ⟨fr, ow, env, Qp, Ep, A, hw, post⟩ =>
  ⟨fr, ow, env, _, Ep, A, hw, fun d v H1 n1 r1 q1 => by
    cases d <;> try exact (show False from q1).elim
    cases r1
    obtain ⟨rfl, q1⟩ := q1
    refine ⟨rfl, fun u hu => ?_⟩
    have nu : N0 fr.Z.g.tb fr.K fr.d0 H1 (upd H1 u (fbHO u)) := .of n1.dice (Same.new hu)
    refine ⟨fr, ow, env, _, Ep, (A.mv n1).mv nu, q1, fun ds vs H2 n2 r2 q2 => ⟨?_, ?_⟩⟩
    · have du : u ≠ fr.d0 := fun z => by
        have := (A.mv n1).g.dice.nn
        rw [z] at hu
        exact this hu
      exact n2.keep u _ du id (fun ps z => by cases z) upd_same
    · match ds, q2 with
      | [.byt ks, .str b], ⟨⟨hb, hk⟩, q2⟩ =>
        subst hb
        cases r2 with
        | cons r t =>
          obtain ⟨rfl, b8⟩ := (RepB.of r).bytAt
          cases t with
          | cons r2 t2 =>
            cases r2
            cases t2
            exact ⟨ks, b8, hk, .inl ⟨rfl, post _ _ H2 (n1.trans (nu.trans n2)) (.int _) q2⟩⟩⟩
def jsGo : List WE → Str → Ev → QD → QR → Prop
  | [], acc, _, Q, _ => Q (.str acc)
  | w :: ws, acc, env, Q, E => w env (fun d => match d with
    | .str y => (acc ++ y).length ≤ LIM ∧ jsGo ws (acc ++ y) env Q E
    | _ => False) E
def wJs (ws : List WE) : WE := fun env Q E => jsGo ws Str.empty env Q E
abbrev QJ (Z : ZM) (X : Cx) (E : XK) (es : List Expr) (ws : List WE) : Prop := PJ X es (ws.map fun w => RdE Z X.K E w)
theorem qj_nil : QJ Z X E [] [] := .nil
theorem qj_cons {ws : List WE} (h : QE Z X E e w) (t : QJ Z X E es ws) : QJ Z X E (e :: es) (w :: ws) := .cons h t
theorem rd_js : ∀ {ws : List WE} {acc : Str} {σ : L2.St} {H : Hp} {Q : Str → Hp → Prop} {fr : Fr} {ow : Ow} {env : Ev} {Qp : QD} {Ep : QR}, At Z X.K E fr ow H σ env Ep → jsGo ws acc env Qp Ep →
    (∀ s H', N0 fr.Z.g.tb fr.K fr.d0 H H' → Qp (.str s) → Q s H') → tJs (ws.map fun w => RdE Z X.K E w) acc σ H Q
  | [], acc, σ, H, Q, fr, ow, env, Qp, Ep, A, hw, post => post acc H (.refl A.g.dice) hw
  | w :: ws, acc, σ, H, Q, fr, ow, env, Qp, Ep, A, hw, post => ⟨fr, ow, env, _, Ep, A, hw, fun d v H1 n1 r1 q1 => by
    cases d <;> try exact (show False from q1).elim
    cases r1
    exact ⟨_, rfl, lim_line q1.1, rd_js (A.mv n1) q1.2 fun s H' n q => post s H' (n1.trans n) q⟩⟩
theorem qe_js {ws : List WE} (h : QJ Z X E (e1 :: e2 :: es) ws) : QE Z X E (.JoinedStr (e1 :: e2 :: es) pos) (wJs ws) := (pe_joined h).wk fun σ H Q ⟨fr, ow, env, Qp, Ep, A, hw, post⟩ =>
  rd_js A hw fun s H' n q => post _ _ H' n (.str s) q
/-- {e} -/
def wFmt (w : WE) : WE := fun env Q E => w env (fun d => match d with
  | .str y => y.length ≤ LIM ∧ Q (.str y)
  | .int i => i.natAbs.log2 < 1920 ∧ Q (.str (toString i))
  | _ => False) E
theorem qe_fmt (h : QE Z X E e w) : QE Z X E (.FormattedValue e (-1) none pos) (wFmt w) := (pe_fmt h).wk fun σ H Q ⟨fr, ow, env, Qp, Ep, A, hw, post⟩ =>
  ⟨fr, ow, env, _, Ep, A, hw, fun d v H1 n1 r1 q1 => by
    cases d <;> try exact (show False from q1).elim
    · cases r1
      exact .inr ⟨_, rfl, q1.1, post _ _ H1 n1 (.str _) q1.2⟩
    · cases r1
      exact .inl ⟨_, rfl, lim_line q1.1, post _ _ H1 n1 (.str _) q1.2⟩⟩
def sgD (c : Nat) : D := .str ⟨#[c]⟩
def wIterT (a : WE) : WI := fun env Q E => a env (fun x => match x with
  | .str z => Q (z.cps.toList.map sgD)
  | _ => False) E
def wIterB (a : WE) : WI := fun env Q E => a env (fun x => match x with
  | .byt ns => Q (ns.map .int)
  | _ => False) E
theorem itb_ok {Zg : ZG} {d0 : Addr} {own : Bool} {M : Addr → Prop} {H : Hp} {ns : List Int} (b : B8 ns) : ItOk Zg d0 own M (Itb (byteArr ns)) H (ns.map .int) := fun M2 H2 L ho _ i => by
  refine ⟨fun hi => by rw [List.length_map] at hi; show (byteArr ns).size ≤ i; rw [ba_size]; exact hi, fun x hx => ?_⟩
  rw [List.getElem?_map] at hx
  obtain ⟨n, h1, rfl⟩ := Option.map_eq_some_iff.mp hx
  have hi := (List.getElem?_eq_some_iff.mp h1).1
  refine ⟨by show i < (byteArr ns).size; rw [ba_size]; exact hi, fun v H3 y => ?_⟩
  obtain ⟨rfl, c', hc, rfl⟩ := y
  have e := byte_at b h1
  have : c' = ((ns.map fun n : Int => n.toNat.toUInt8).getD i 0) := by
    have hc : (ns.map fun n : Int => n.toNat.toUInt8)[i]? = some c' := by
      unfold byteArr at hc
      simpa using hc
    rw [List.getD_eq_getElem?_getD, hc]
    rfl
  rw [this, e]
  exact ⟨.refl _, .int _⟩
theorem qi_byt {own : Bool} {tg : Expr} (h : QE Z X E e w) : QI Z X E own tg e (wIterB w) := (pi_byt h).wk fun σ H R ⟨fr, ow, env, Qp, Ep, A, hw, post⟩ =>
  ⟨fr, ow, env, _, Ep, A, hw, fun d v H1 n1 r1 q1 => by
    cases d <;> try exact (show False from q1).elim
    obtain ⟨rfl, b8⟩ := (RepB.of r1).bytAt
    exact ⟨_, rfl, post _ _ H1 n1 (itb_ok b8) q1⟩⟩
end
end Oil
namespace Oil
open PySem PySem.Spec PyProof.Rows L2 PySem.Builtin.Float
/-- the digits of a number -/
def digs (a : Int) : List Nat := (Nat.toDigits 10 a.natAbs).map fun c => (if (100 : Nat) == 88 then c.toUpper else c).toNat
def fld (f : FormatSpec) (a : Int) : Str := intField' f (decide (a < 0)) [] (digs a) [] 3
def fGood (spec : Str) (f : FormatSpec) : Bool :=
  f.type.getD (if spec.cps.back? == some 0 then 0 else 100) == 100 && f.precision.isNone && !f.noNeg0 && !f.alt && decide (f.width.getD 0 ≤ 100000)
section
variable {prog : Program} {w : World} {A : Around} {E : Value → Shared → Prop} {s : Shared}
theorem formatField_fld {a : Int} {t : Tok} {spec : Str} {f : FormatSpec} {Q : Value → Shared → Prop}
    (hd : a.natAbs.log2 < 1920)
    (hp : parseFormatSpec spec.cps.toList "int" 62 = .ok f)
    (hne : (spec.length == 0) = false)
    (hasc : ((spec.cps.toList.drop 1).any (· ≥ 128) || (spec.cps.getD 0 0 ≥ 128 && !([60, 62, 61, 94] : List Nat).contains (spec.cps.getD 1 0))) = false)
    (hg : fGood spec f = true) (hlen : (fld f a).length ≤ sizeLine)
    (h : Q (.str (fld f a) (s.toks + 1)) { s with toks := s.toks + 1 + 1 }) (hsz : spec.length ≤ sizeLine) :
    wpAny (model prog w) A (formatField (.int a t) spec) Q E s := by
  unfold fGood at hg
  simp only [Bool.and_eq_true] at hg
  obtain ⟨⟨⟨⟨hty, hpr⟩, hz⟩, hal⟩, hw⟩ := hg
  replace hty := beq_iff_eq.mp hty
  replace hpr := Option.isNone_iff_eq_none.mp hpr
  replace hz : f.noNeg0 = false := by simpa using hz
  replace hal : f.alt = false := by simpa using hal
  replace hw : f.width.getD 0 ≤ 100000 := by simpa using hw
  show wpAny _ _ (holding [.int a t] (pyFormat (.int a t) spec)) Q E s
  refine wpAny_holding ?_
  unfold pyFormat
  refine wpAny_bind (wpAny_mkStr ?_ hsz)
  refine wpAny_bind (m := callSpecial? (.int a t) (Str.ofString "__format__") [.str spec s.toks]) (wpAny_callSpecial?_slot (name := Str.ofString "__format__") (typeIs_int _ a t) slot_int_format ?_)
  refine wpAny_call (codeAny_call_builtin slot_int_format.plain entry_int_format (slot_int_format.check _ _ _ _ _ _ _ _ (typeIs_int _ a t) (args_int_format _ _) ?_))
  unfold Builtin.«int.__format__»
  simp only [selfAndOne, noKeywords, Builtin.Int.intOfSelf, PySem.asInt?, PySem.asStr?, List.isEmpty_nil, if_true, pure_bind, bind_pure, bind_assoc, hne, hasc, Bool.false_eq_true, if_false,
    show (Value.str spec s.toks == Value.none) = false from rfl]
  refine wpAny_bind (wpAny_typeNameOf (T := "str") (typeIs_str _ _ _) (by decide) fun _ => ?_)
  refine wpAny_bind (wpAny_typeNameOfCut_int ?_)
  simp only [hp, hty]
  rw [if_pos (by decide)]
  show wpAny _ _ (if _ then _ else _) _ _ _
  rw [if_neg (by simp [hpr])]
  show wpAny _ _ (if _ then _ else _) _ _ _
  rw [if_neg (by simp [hz])]
  show wpAny _ _ (if _ then _ else _) _ _ _
  rw [if_neg (by decide)]
  show wpAny _ _ (do let r ← Builtin.overDigitLimit? a; _) _ _ _
  rw [PySem.overDigitLimit_small hd]
  refine wpAny_bind (wpAny_pure ?_)
  show wpAny _ _ (if _ then _ else _) _ _ _
  have hw' : ¬ (f.width.getD 0 > 100000) := by omega
  rw [if_neg (by simpa using hw')]
  show wpAny _ _ (PySem.retStr _) _ _ _
  unfold PySem.retStr
  refine wpAny_bind (wpAny_mkStr (wpAny_pure ?_) ?hs2)
  case hs2 =>
    simp only [hal, Bool.false_eq_true, if_false, show ((10 : Nat) == 10) = true by decide, if_true]
    refine Nat.le_trans (Nat.le_of_eq (congrArg Str.length ?_)) hlen
    kernel_rfl
  dsimp only
  refine wpAny_bind (wpAny_isInstance (typeIs_str _ _ _) isSubtype_str_str (wpAny_pure ?_))
  simp only [hal, Bool.false_eq_true, if_false, show ((10 : Nat) == 10) = true by decide, if_true]
  have e : ∀ y, y = fld f a → Q (.str (fld f a) (s.toks + 1)) { s with toks := s.toks + 1 + 1 } → Q (.str y (s.toks + 1)) { s with toks := s.toks + 1 + 1 } := fun y e q => by rw [e]; exact q
  refine e _ ?_ h
  kernel_rfl
theorem typeNameOfCut_str {n : Nat} {x : Str} {t : Tok} {Q : String → Shared → Prop} (h : Q "str" s) : wpAny (model prog w) A (typeNameOfCut n (.str x t)) Q E s := by
  unfold typeNameOfCut shownTypeOf
  refine wpAny_bind (wpAny_bind (wpAny_typeOf (typeIs_str _ x t) ?_))
  simp only [show (Value.type "str" == Value.type "builtin_function_or_method") = false by decide, Bool.false_eq_true, if_false]
  refine wpAny_pure ?_
  rw [show typeNameCut n (.type "str") = typeName (.type "str") from rfl, show typeName (.type "str") = pure "str" from by unfold typeName; rw [find?_eq_fast]; kernel_rfl]
  exact wpAny_pure h
/-- a text that is as long as its width: itself -/
theorem formatField_txt {x : Str} {t : Tok} {spec : Str} {f : FormatSpec} {Q : Value → Shared → Prop}
    (hp : parseFormatSpec spec.cps.toList "str" 60 = .ok f)
    (hne : (spec.length == 0) = false)
    (hasc : ((spec.cps.toList.drop 1).any (· ≥ 128) || (spec.cps.getD 0 0 ≥ 128 && !([60, 62, 61, 94] : List Nat).contains (spec.cps.getD 1 0))) = false)
    (hb : (spec.cps.back? == some 0) = false) (hw : Builtin.Str.tooLong (f.width.getD 0) = false) (hf : ∀ name, Builtin.Str.strField x f name = .ok none)
    (h : ∀ t' k, Q (.str x t') { s with toks := k }) (hsz : spec.length ≤ sizeLine) :
    wpAny (model prog w) A (formatField (.str x t) spec) Q E s := by
  have e0 : formatField (.str x t) spec = holding [.str x t] (pyFormat (.str x t) spec) := by
    unfold formatField
    simp only [hne, Bool.false_eq_true, if_false]
  rw [e0]
  refine wpAny_holding ?_
  unfold pyFormat
  refine wpAny_bind (wpAny_mkStr ?_ hsz)
  refine wpAny_bind (m := callSpecial? (.str x t) (Str.ofString "__format__") [.str spec s.toks]) (wpAny_callSpecial?_slot (name := Str.ofString "__format__") (typeIs_str _ x t) F.slot_str_format ?_)
  refine wpAny_call (codeAny_call_builtin F.slot_str_format.plain F.entry_str_format (F.slot_str_format.check _ _ _ _ _ _ _ _ (typeIs_str _ x t) (F.args_str_format_2 _ _) ?_))
  unfold Builtin.«str.__format__»
  simp only [Builtin.Str.strOneArg, selfAndOne, noKeywords, Builtin.Str.textOf, PySem.asStr?, List.isEmpty_nil, if_true, pure_bind, bind_pure, bind_assoc, hne, hasc, Bool.false_eq_true, if_false]
  refine wpAny_bind (typeNameOfCut_str ?_)
  have hb2 : (f.type.isNone && spec.cps.back? == some 0) = false := by rw [hb, Bool.and_false]
  have key : (do
      let f ← parseFormatSpec spec.cps.toList "str" 60
      if Builtin.Str.tooLong ((if (f.type.isNone && spec.cps.back? == some 0) = true then { f with type := some 0 } else f).width.getD 0) = true then pure none
      else do
        let r ← Builtin.Str.strField x (if (f.type.isNone && spec.cps.back? == some 0) = true then { f with type := some 0 } else f) "str"
        pure (some r) : Except String (Option (Option Str))) = .ok (some none) := by
    rw [hp]
    show (if Builtin.Str.tooLong ((if (f.type.isNone && spec.cps.back? == some 0) = true then { f with type := some 0 } else f).width.getD 0) = true then pure none else _ : Except String (Option (Option Str))) = _
    simp only [hb2, Bool.false_eq_true, if_false, hw]
    show (do
        let r ← Builtin.Str.strField x f "str"
        pure (some r) : Except String (Option (Option Str))) = _
    rw [hf]
    rfl
  rw [key]
  dsimp only
  refine wpAny_bind (wpAny_rule ?_)
  refine wpAny_pure ?_
  refine wpAny_bind (wpAny_isInstance (typeIs_str _ _ _) isSubtype_str_str (wpAny_pure (h t _)))
end
section
variable {Z : ZM} {X : Cx} {E : XK} {e e1 e2 e3 : Expr} {es : List Expr} {w w1 w2 w3 : WE} {pos p p2 : Pos} {k2 : Option Str}
def sgood (spec : Str) (align : Nat) : Bool := !(spec.length == 0) &&
  !((spec.cps.toList.drop 1).any (· ≥ 128) || (spec.cps.getD 0 0 ≥ 128 && !([60, 62, 61, 94] : List Nat).contains (spec.cps.getD 1 0))) && decide (spec.length ≤ 100)
/-- {e:spec}, e an int, or a text that has its width -/
def wFmtS (f : FormatSpec) (ft : Str → Prop) (w : WE) : WE := fun env Q E => w env (fun d => match d with
  | .str y => ft y ∧ Q (.str y)
  | .int i => (i.natAbs.log2 < 1920 ∧ (fld f i).length ≤ LIM) ∧ Q (.str (fld f i))
  | _ => False) E
theorem qe_fmtS {spec : Str} {f : FormatSpec} {ft : Str → Prop} (h : QE Z X E e w) (hs : PE X e2 (fun _ H Q => Q (.str spec) H)) (hp : parseFormatSpec spec.cps.toList "int" 62 = .ok f) (hg : fGood spec f = true) (hgo : sgood spec 62 = true)
    (ht : ∀ y, ft y → ∃ f2, parseFormatSpec spec.cps.toList "str" 60 = .ok f2 ∧ (spec.cps.back? == some 0) = false ∧ Builtin.Str.tooLong (f2.width.getD 0) = false ∧ ∀ name, Builtin.Str.strField y f2 name = .ok none) :
    QE Z X E (.FormattedValue e (-1) (some (.JoinedStr [e2] p2)) pos) (wFmtS f ft w) := by
  unfold sgood at hgo
  simp only [Bool.and_eq_true, Bool.not_eq_true', decide_eq_true_eq] at hgo
  obtain ⟨⟨hne, hasc⟩, hl⟩ := hgo
  have hsz : spec.length ≤ sizeLine := by rw [sizeLine_eq]; omega
  refine ⟨fun pins s σ H Q I ⟨fr, ow, env, Qp, Ep, A, hw, post⟩ => wpAny_FormattedValue_spec ?_⟩
  refine thn (h.run pins s σ H (fun x H1 => (∃ y, x = .str y ∧ ft y ∧ Q (.str y) H1) ∨ ∃ i : Int, x = .int i ∧ (i.natAbs.log2 < 1920 ∧ (fld f i).length ≤ sizeLine) ∧ Q (.str (fld f i)) H1) I ⟨fr, ow, env, _, Ep, A, hw, fun d v H1 n1 r1 q1 => ?_⟩) fun v s1 ⟨x, H1, I1, r1, q⟩ => ?_
  · cases d <;> try exact (show False from q1).elim
    · cases r1
      exact .inr ⟨_, rfl, ⟨q1.1.1, lim_line q1.1.2⟩, post _ _ H1 n1 (.str _) q1.2⟩
    · cases r1
      exact .inl ⟨_, rfl, q1.1, post _ _ H1 n1 (.str _) q1.2⟩
  refine wpAny_JoinedStr_one (thn (hs.run pins s1 σ H1 (fun u H2 => u = .str spec ∧ H2 = H1) I1 ⟨rfl, rfl⟩) fun r s2 ⟨u, H2, I2, ru, eu, eH⟩ => ?_)
  subst eu eH
  obtain ⟨tt, rfl⟩ := ru
  refine ⟨spec, tt, rfl, ?_⟩
  rcases q with ⟨y, rfl, hy, q⟩ | ⟨i, rfl, ⟨h1, h2⟩, q⟩
  · obtain ⟨t1, rfl⟩ := r1
    obtain ⟨f2, e1, e2, e3, e4⟩ := ht y hy
    exact formatField_txt e1 hne hasc e2 e3 e4 (fun t' k => ⟨.str y, H2, I2.tok _, ⟨_, rfl⟩, q⟩) hsz
  · obtain ⟨t1, rfl⟩ := r1
    exact formatField_fld h1 hp hne hasc hg h2 ⟨.str (fld f i), H2, I2.tok _, ⟨_, rfl⟩, q⟩ hsz
def f3 : FormatSpec := { fill := 32, align := 62, width := some 3 }
def f2 : FormatSpec := { fill := 32, align := 62, width := some 2 }
def f13 : FormatSpec := { fill := 95, align := 62, width := some 13, grouping := some ',' }
theorem qe_fmt3 (h : QE Z X E e w) (hs : PE X e2 (fun _ H Q => Q (.str ">3") H)) : QE Z X E (.FormattedValue e (-1) (some (.JoinedStr [e2] p2)) pos) (wFmtS f3 (fun _ => False) w) :=
  qe_fmtS h hs (by kernel_rfl) (by decide +kernel) (by decide +kernel) fun y z => z.elim
theorem qe_fmt13 (h : QE Z X E e w) (hs : PE X e2 (fun _ H Q => Q (.str "_>13,") H)) : QE Z X E (.FormattedValue e (-1) (some (.JoinedStr [e2] p2)) pos) (wFmtS f13 (fun _ => False) w) :=
  qe_fmtS h hs (by kernel_rfl) (by decide +kernel) (by decide +kernel) fun y z => z.elim
theorem qe_fmt2 (h : QE Z X E e w) (hs : PE X e2 (fun _ H Q => Q (.str ">2") H)) : QE Z X E (.FormattedValue e (-1) (some (.JoinedStr [e2] p2)) pos) (wFmtS f2 (fun y => y.length = 2) w) :=
  qe_fmtS h hs (by kernel_rfl) (by decide +kernel) (by decide +kernel) fun y z => ⟨f2, by kernel_rfl, by decide +kernel, by decide +kernel, fun name => by
    unfold Builtin.Str.strField f2
    simp [z]
    rfl⟩
end
end Oil
namespace Oil
open PySem PySem.Spec PyProof.Rows L2
/-- the list at a as it stands at each turn, each item in a new pair, counted from c -/
def IteK (K : PySem.W.Frag) (a : Addr) (c : Int) : It :=
  ⟨fun i H => ∃ (xs : List V) (x : V), SqL K H a xs ∧ xs[i]? = some x, fun i H v H' => ∃ T x, v = .ref T ∧ H T = none ∧ H' = upd H T (.tup [.int (c + (i : Nat)), x]) ∧ ∀ xs, SqL K H a xs → xs[i]? = some x, fun i H => ∃ xs : List V, SqL K H a xs ∧ xs.length ≤ i⟩
theorem turn_enumK {P : Program} {w : World} {K : PySem.W.Frag} {elts : List Expr} {kk : Nat} {tpos : Pos} (c : Int) (a e it : Addr) (hae : a ≠ it) :
    Turn P w K (.Tuple elts kk tpos) (IteK K a c) [e, it] e (fun i h => (∃ old, IsEnum h e it (c + (i : Nat)) old) ∧ h.IsListIter it a i ∧ e ≠ it) where
  mem := by simp
  obj := fun i h st b hb => by
    obtain ⟨⟨old, he⟩, ⟨o, ho, hc, hd⟩, _⟩ := st
    have e' : b = e ∨ b = it := by simpa using hb
    rcases e' with z | z
    · rw [z]; exact ⟨_, he, fun v q => nomatch q⟩
    · rw [z]; exact ⟨o, ho, fun v q => by rw [hd] at q; cases q⟩
  keep := fun i h h' st k => let ⟨⟨old, he⟩, hi, hne⟩ := st; ⟨⟨old, k e (by simp) _ he⟩, hi.at fun o q => k it (by simp) o q, hne⟩
  item := by
    intro X hP hw hK hc i pins s σ H E I hf st hg
    subst hP hw hK
    obtain ⟨⟨old, he⟩, hit, hne⟩ := st
    obtain ⟨xs, x, hq, hx⟩ := hg
    obtain ⟨its, rv, p, hz⟩ := I.list hq
    have p1 := p.isList
    obtain ⟨u, hu, ru⟩ := rv.get hx
    have hel : e < s.heap.objs.size := Heap.lt_size he
    have hil : it < s.heap.objs.size := by obtain ⟨_, q, _⟩ := hit; exact Heap.lt_size q
    have hau : (its.toArray)[i]? = some u := by simpa using hu
    have hlt : i < its.toArray.size := by
      obtain ⟨h1, _⟩ := Array.getElem?_eq_some_iff.mp hau
      exact h1
    have hf5 : e ≠ a := fun z => by
      obtain ⟨ol, hol, hcl, _⟩ := p1
      rw [← z] at hol
      have he' : s.heap.get? e = _ := he
      rw [hol] at he'
      have := Option.some.inj he'
      rw [this] at hcl
      have hcl : Value.type "enumerate" = Value.type "list" := hcl
      injection hcl with z2
      exact absurd z2 (by decide)
    have D := Draws.list (prog := X.prog) (w := X.w) (A := X.A.in1) (I.ok.hd hc) it a hae its.toArray
    refine wpAny_pyNext_enum_itemC D he ⟨hit, p1⟩ hlt hne (by simp [hne, hf5]) fun x' h' tk hx' ho hst hT hsz hk => ?_
    obtain rfl : x' = u := by
      rw [hau] at hx'
      exact (Option.some.inj hx').symm
    obtain ⟨hit', _⟩ := hst
    refine ⟨_, rfl, wpAny_letOwnedTupleGo_enum (s := { s with heap := h', toks := tk + 1 }) ho fun h'' he' sb => ?_⟩
    have hT2 : h''.get? s.heap.objs.size = some { cls := .type "tuple", data := .seq #[.int (c + (i : Nat)) tk, x'] } := (sb.2 _ (Nat.ne_of_gt hel)).trans hT
    have new : ObjOk X.prog X.w (upd H s.heap.objs.size (.tup [.int (c + (i : Nat)), x])) h'' s.heap.objs.size (.tup [.int (c + (i : Nat)), x]) :=
      ⟨by show 2 ≤ sizeLine; decide, [.int (c + (i : Nat)) tk, x'], .cons ⟨_, rfl⟩ (.cons ru .nil), ⟨_, hT2, rfl, _, rfl⟩⟩
    have I1 : Inv X pins σ (upd H s.heap.objs.size (.tup [.int (c + (i : Nat)), x])) { s with heap := h'', toks := tk + 1 } :=
      I.turnedNew (ch := [e, it]) (fun b ob hb q => (sb.2 b (fun z => hb (by simp [z]))).trans (hk b ob (fun z => hb (by simp [z])) (fun z => hb (by simp [z])) q)) hf (Nat.le_refl _) new
    refine ⟨.ref s.heap.objs.size, _, I1, rfl, ⟨_, x, rfl, I.hok.fresh (Nat.le_refl _), rfl, fun ys hy => by rw [I.list_inj hy hq]; exact hx⟩, ⟨⟨x', ?_⟩, hit'.at fun o q => (sb.2 it (Ne.symm hne)).trans q, hne⟩, fun b hb => ?_⟩
    · have e1 : c + ((i + 1 : Nat) : Int) = c + (i : Int) + 1 := by omega
      rw [e1]; exact he'
    · have hb' : b < s.heap.objs.size := by
        have e' : b = e ∨ b = it := by simpa using hb
        rcases e' with z | z
        · rw [z]; exact hel
        · rw [z]; exact hil
      rw [upd_ne (Nat.ne_of_lt hb')]
      exact (hf b hb).1
  done := by
    intro X hP hw hK hc i pins s σ H E I hf st hg
    subst hP hw hK
    obtain ⟨⟨old, he⟩, hit, hne⟩ := st
    obtain ⟨xs, hq, hx⟩ := hg
    obtain ⟨its, rv, p, hz⟩ := I.list hq
    obtain ⟨f0, f1, f2, f3, f4, f5⟩ := hf it (by simp)
    have hl := rv.length
    have hT : s.TypeIs (.ref e) "enumerate" := ⟨_, he, rfl⟩
    unfold pyNext
    refine wpAny_bind (wpAny_attempt (wpAny_callSpecial?_slot (name := Str.ofString "__next__") hT F.slot_enumerate_next
      (wpAny_call_entry F.slot_enumerate_next hT F.entry_enumerate_next ?_ (F.args_enumerate_next_1 _))))
    show wpAny _ _ (field (.ref e) 2 >>= _) _ _ _
    refine wpAny_bind (wpAny_field he rfl (x := .ref it) rfl ?_)
    refine wpAny_bind (wpAny_nextOf_list_end (I.ok.hd hc) hit p.isList (by simp; omega) fun h' x he' hx' => ?_)
    obtain ⟨o, ho, hc'⟩ := hx'
    refine wpAny_bind (wpAny_isInstance (T := "StopIteration") (b := true) ⟨o, ho, hc'⟩ isSubtype_stop ?_)
    exact wpAny_pure ⟨rfl, I.turned (t' := s.toks) (fun b o hb q => he' b o hb q) f0 f1 f3 f4 f5⟩
  self := fun A i s Q E st h => let ⟨⟨_, he⟩, _⟩ := st; wpAny_pyIter_enum he h
section
variable {X : Cx} {e ek : Expr} {ta : TA} {tk : TE} {p pos tpos kp : Pos} {elts : List Expr} {kk : Nat}
def iEnumK (K : PySem.W.Frag) (ta : TA) (tk : TE) : TI := fun σ H R => ta σ H fun vs H1 => tk σ H1 fun v2 H2 => ∃ a xs c, vs = [.ref a] ∧ v2 = .int c ∧ (-(2 ^ 62) ≤ c ∧ c < 2 ^ 62) ∧ SqL K H2 a xs ∧ R (IteK K a c) H2
theorem pi_enumK (hg : Gl X "enumerate") (hm : X.mg "enumerate" = none) (ha : PA X [e] ta) (hk : PE X ek tk) (hs : starEach [e] X.env = [(false, eval e X.env)] := by rfl) :
    PI X (.Tuple elts kk tpos) (.Call (.Name "enumerate" p) [e] [⟨some "start", ek, kp⟩] pos) (iEnumK X.K ta tk) := by
  refine ⟨fun pins s σ H R I h => ?_⟩
  refine wpAny_Call_Name_kw (ld_blt I hg hm boot_enumerate ?_)
  unfold callWith
  refine wpAny_bind (wpAny_holding ?_)
  rw [show backTo pos (starEach [e] X.env) = [(false, eval e X.env)] by rw [hs]; rfl]
  refine evalArgs_kwB rfl ?_
  have har := ha.run pos pins s σ H _ I h
  rw [show backTo pos (starEach [e] X.env) = [(false, eval e X.env)] by rw [hs]; rfl] at har
  refine thn har fun us s1 ⟨vs, H1, I1, r1, q1⟩ => ?_
  refine PyProof.Rows.kws_cons (rest := []) (thn (hk.run pins s1 σ H1 _ I1 q1) fun ku s2 ⟨v2, H2, I2, r2, a, xs, c, e1, e2, hc, hq, q⟩ => PyProof.Rows.kws_nil ?_)
  subst e1 e2
  obtain ⟨ct, rfl⟩ := r2
  cases r1 with
  | cons r rr =>
    cases rr
    cases r
    obtain ⟨its, rv, p', hz⟩ := I2.list hq
    have p1 := p'.isList
    have ha2 : a < s2.heap.objs.size := by obtain ⟨_, q, _⟩ := p1; exact Heap.lt_size q
    refine wpAny_bind (wpAny_standAt ?_)
    simp only [List.any_cons, List.any_nil, Bool.or_false, Bool.false_or, show (backToKw pos (keywordEach [⟨some "start", ek, kp⟩] X.env)).any (fun x => x.1.isNone) = false from rfl]
    refine wpAny_bind (wpAny_pure ?_)
    refine wpAny_bind (enum_begins_start (begins_list a its.toArray) p1 (by omega) (by omega) fun h' he hit hsz hk => ?_)
    refine wpAny_bind (wpAny_holding (wpAny_point (wpAny_pure ?_)))
    refine wpAny_pyIter_enum he ?_
    have I3 : Inv X pins σ H2 { s2 with heap := h' } := I2.kept (t' := s2.toks) hk
    refine ⟨s2.heap.objs.size + 1, [s2.heap.objs.size + 1, s2.heap.objs.size], _, _, H2, rfl, I3, turn_enumK c a (s2.heap.objs.size + 1) s2.heap.objs.size (Nat.ne_of_lt ha2), ⟨⟨.none, by rw [show c + ((0 : Nat) : Int) = c by omega]; exact he⟩, ⟨_, hit, rfl, rfl⟩, Nat.succ_ne_self _⟩, fun b hb => ?_, q⟩
    have e' : b = s2.heap.objs.size + 1 ∨ b = s2.heap.objs.size := by simpa using hb
    have hle : s2.heap.objs.size ≤ b := by
      rcases e' with z | z
      · rw [z]; exact Nat.le_add_right _ _
      · rw [z]; exact Nat.le_refl _
    exact I2.fpOk hle (I2.hok.fresh hle)
/-- enumerate(x, start=c), x a list -/
def wEnumK (a b : WE) : WI := fun env Q E => a env (fun x => b env (fun y => match x, y with
  | .lst xs, .int c => (-(2 ^ 62) ≤ c ∧ c < 2 ^ 62) ∧ Q (xs.zipIdx.map fun p => .tup [.int (c + (p.2 : Nat)), p.1])
  | _, _ => False) E) E
variable {Z : ZM} {E : XK} {w w1 : WE}
theorem qi_enumK {own : Bool} (hg : Gl X "enumerate") (hm : X.mg "enumerate" = none) (ha : QE Z X E e w) (hk : QE Z X E ek w1) (hs : starEach [e] X.env = [(false, eval e X.env)] := by rfl) :
    QI Z X E own (.Tuple elts kk tpos) (.Call (.Name "enumerate" p) [e] [⟨some "start", ek, kp⟩] pos) (wEnumK w w1) := (pi_enumK hg hm (pa_cons ha pa_nil hs) hk hs).wk fun σ H R ⟨fr, ow, env, Qp, Ep, A, hw, post⟩ =>
  ⟨fr, ow, env, _, Ep, A, hw, fun d v H1 n1 r1 q1 => ⟨fr, ow, env, _, Ep, A.mv n1, q1, fun d2 v2 H2 n2 r2 q2 => by
    cases d <;> cases d2 <;> try exact (show False from q2).elim
    rename_i xs c
    have r1 := r1.lat (Nz.lat n2 MM.d0)
    cases r1 with
    | lst h1 h2 h3 =>
      rename_i a vs
      refine ⟨a, vs, c, rfl, r2.ix, q2.1, SqL.of h1, post _ _ H2 (n1.trans n2) (fun M2 H3 L _ fre i => ?_) q2.2⟩
      have e2 : H3 a = some (.lst vs) := (L a _ nt_lst h2 h1).1
      have r2 := h3.lat L
      refine ⟨fun hi => ⟨vs, SqL.of e2, by rw [r2.length]; simpa using hi⟩, fun y hy => ?_⟩
      rw [List.getElem?_map, List.getElem?_zipIdx] at hy
      obtain ⟨p, hp, rfl⟩ := Option.map_eq_some_iff.mp hy
      obtain ⟨z, hz, rfl⟩ := Option.map_eq_some_iff.mp hp
      obtain ⟨v, q1, q2⟩ := r2.get hz
      refine ⟨⟨vs, v, SqL.of e2, q1⟩, fun v' H4 y => ?_⟩
      obtain ⟨T, x, rfl, hT, rfl, y⟩ := y
      have := y vs (SqL.of e2)
      rw [q1] at this
      cases this
      refine ⟨Same.new hT, ?_⟩
      have := Rep.fresh_tup (Z := fr.Z.g) (d0 := fr.d0) hT (fre T hT) (.cons (.int (c + ((i : Nat) : Int))) (.cons q2 .nil))
      simpa using this⟩⟩
end
end Oil
namespace Oil
open PySem PySem.Spec PyProof.Rows L2
def wBrk : WS := fun env Kn => Kn.bk env
def wCnt : WS := fun env Kn => Kn.ct env
section
variable {Z : ZM} {X : Cx} {E : XK} {pos : Pos}
theorem qs_brk : QS Z X E (.Break pos) wBrk := ps_break.wk fun D σ H ⟨fr, ow, env, Kn, A, hw, P⟩ => P.bk _ _ _ _ A.g hw
end
end Oil
namespace Oil
open PySem PySem.Spec PyProof.Rows L2
def kM0 (g : Str → Bool) (Q : QD) : QD
  | .str s => Q (.bl (g s))
  | _ => False
def kSW (t : WA) (env : Ev) (Q : QD) (E : QR) : QD
  | .str s => t env (fun ds => match ds with
    | [.str y] => Q (.bl (Txt.startswith s y))
    | _ => False) E
  | _ => False
def kToB (Q : QD) (x y z : D) : Prop := match x, y, z with
  | .int n, .int k, .str s => (s = "big" ∧ 0 ≤ k ∧ k ≤ 8 ∧ 0 ≤ n ∧ n < 256 ^ k.toNat) ∧ Q (.byt (bigB k.toNat n))
  | _, _, _ => False
def kFromB (t : WA) (env : Ev) (Q : QD) (E : QR) : QD
  | .ty s => s = "int" ∧ t env (fun ds => match ds with
    | [.byt ks, .str b] => (b = "big" ∧ ks.length ≤ 8) ∧ Q (.int (valB ks))
    | _ => False) E
  | _ => False
def kJs (ws : List WE) (acc : Str) (env : Ev) (Q : QD) (E : QR) : QD
  | .str y => (acc ++ y).length ≤ LIM ∧ jsGo ws (acc ++ y) env Q E
  | _ => False
def kFmt (Q : QD) : QD
  | .str y => y.length ≤ LIM ∧ Q (.str y)
  | .int i => i.natAbs.log2 < 1920 ∧ Q (.str (toString i))
  | _ => False
def kFmtS (f : Builtin.Float.FormatSpec) (ft : Str → Prop) (Q : QD) : QD
  | .str y => ft y ∧ Q (.str y)
  | .int i => (i.natAbs.log2 < 1920 ∧ (fld f i).length ≤ LIM) ∧ Q (.str (fld f i))
  | _ => False
def kJoin2 (sep : Str) (Q : QD) : QD
  | .lst xs => ∃ ss, strsOf xs = some ss ∧ (ss.map (·.length)).sum + ss.length * sep.length ≤ LIM ∧ Q (.str (Txt.join sep ss))
  | _ => False
def kJoin (b : WE) (env : Ev) (Q : QD) (E : QR) : QD
  | .str sep => b env (kJoin2 sep Q) E
  | _ => False
def kInt1 (Q : QD) : QD := fun d => (∃ n, d = .int n) ∧ Q d
def kStr1 (Q : QD) : QD := fun d => (∃ s, d = .str s) ∧ Q d
def kSplit (Q : QD) (x y : D) : Prop := match x, y with
  | .str s, .str sep => ((sep.length == 0) = false ∧ s.length ≤ LIM) ∧ Q (.lst ((Txt.split s sep).map .str))
  | _, _ => False
def kSlS (Q : QD) (x : D) (l h : Option Int) : Prop := match x with
  | .str z => z.length ≤ LIM ∧ Q (.str (cutS z l h))
  | .byt ns => ns.length ≤ LIM ∧ ∃ r, cutB ns l h = some r ∧ Q (.byt r)
  | _ => False
def kListB (Q : QD) : QD
  | .byt ns => ns.length ≤ LIM ∧ Q (.lst (ns.map .int))
  | _ => False
def kIterT (Q : List D → Prop) : QD
  | .str z => Q (z.cps.toList.map sgD)
  | _ => False
def kIterB (Q : List D → Prop) : QD
  | .byt ns => Q (ns.map .int)
  | _ => False
def kEnumK (Q : List D → Prop) (x y : D) : Prop := match x, y with
  | .lst xs, .int c => (-(2 ^ 62) ≤ c ∧ c < 2 ^ 62) ∧ Q (xs.zipIdx.map fun p => .tup [.int (c + (p.2 : Nat)), p.1])
  | _, _ => False
/-- the text of a number -/
def nS (i : Int) : Str := Str.ofString (toString i)
section
variable {a b c w : WE} {t : WA} {env : Ev} {Q : QD} {E : QR} {g : Str → Bool} {s y z acc sep : Str} {ws : List WE} {ns : List Int} {K : KN}
theorem p_m0 (h : a env (kM0 g Q) E) : wM0 g a env Q E := h
theorem p_km0 (h : Q (.bl (g s))) : kM0 g Q (.str s) := h
theorem p_sw (h : a env (kSW t env Q E) E) : wSW a t env Q E := h
theorem p_ksw (h : t env (fun ds => match ds with
    | [.str y] => Q (.bl (Txt.startswith s y))
    | _ => False) E) : kSW t env Q E (.str s) := h
theorem p_toB (h : a env (fun x => b env (fun y => c env (fun z => kToB Q x y z) E) E) E) : wToB a b c env Q E := h
theorem p_ktoB4 {n : Int} (h : 0 ≤ n) (h1 : n < 4294967296) (q : Q (.byt (bigB 4 n))) : kToB Q (.int n) (.int 4) (.str "big") := ⟨⟨rfl, by decide, by decide, h, by show n < 256 ^ 4; omega⟩, q⟩
theorem p_fromB (h : a env (kFromB t env Q E) E) : wFromB a t env Q E := h
theorem p_kfromB (h : t env (fun ds => match ds with
    | [.byt ks, .str b] => (b = "big" ∧ ks.length ≤ 8) ∧ Q (.int (valB ks))
    | _ => False) E) : kFromB t env Q E (.ty "int") := ⟨rfl, h⟩
theorem p_js (h : jsGo ws Str.empty env Q E) : wJs ws env Q E := h
theorem p_jn (h : Q (.str acc)) : jsGo [] acc env Q E := h
theorem p_jc (h : w env (kJs ws acc env Q E) E) : jsGo (w :: ws) acc env Q E := h
theorem p_kjs (h : (acc ++ y).length ≤ LIM) (q : jsGo ws (acc ++ y) env Q E) : kJs ws acc env Q E (.str y) := ⟨h, q⟩
theorem p_fmt (h : w env (kFmt Q) E) : wFmt w env Q E := h
theorem log_small {i : Int} (h : i.natAbs < 2 ^ 200) : i.natAbs.log2 < 1920 := by
  by_cases h0 : i.natAbs = 0
  · rw [h0]; decide
  · exact Nat.lt_trans ((Nat.log2_lt h0).mpr h) (by decide)
theorem log_le {i : Int} (h : 0 ≤ i) (h1 : i ≤ 1000000000000) : i.natAbs.log2 < 1920 := log_small (Nat.lt_of_le_of_lt (by omega : i.natAbs ≤ 1000000000000) (by decide))
theorem p_kfmtI {i : Int} (h : 0 ≤ i) (h1 : i ≤ 1000000000000) (q : Q (.str (nS i))) : kFmt Q (.int i) := ⟨log_le h h1, q⟩
theorem p_fmts {f : Builtin.Float.FormatSpec} {ft : Str → Prop} (h : w env (kFmtS f ft Q) E) : wFmtS f ft w env Q E := h
theorem p_kfmts {f : Builtin.Float.FormatSpec} {ft : Str → Prop} (h : ft y) (q : Q (.str y)) : kFmtS f ft Q (.str y) := ⟨h, q⟩
theorem p_kfmti {f : Builtin.Float.FormatSpec} {ft : Str → Prop} {i : Int} (h : 0 ≤ i) (h1 : i ≤ 1000000000000) (h2 : (fld f i).length ≤ LIM) (q : Q (.str (fld f i))) : kFmtS f ft Q (.int i) := ⟨⟨log_le h h1, h2⟩, q⟩
theorem p_join (h : a env (kJoin b env Q E) E) : wJoin a b env Q E := h
theorem p_kjoin (h : b env (kJoin2 sep Q) E) : kJoin b env Q E (.str sep) := h
theorem strsOf_map : ∀ ss : List Str, strsOf (ss.map .str) = some ss
  | [] => rfl
  | s :: ss => by show (strsOf (ss.map .str)).map (s :: ·) = _; rw [strsOf_map ss]; rfl
theorem p_kjoin2 {xs : List D} {ss : List Str} (e : strsOf xs = some ss) (h : (ss.map (·.length)).sum + ss.length * sep.length ≤ LIM) (q : Q (.str (Txt.join sep ss))) : kJoin2 sep Q (.lst xs) := ⟨ss, e, h, q⟩
theorem p_int1 (h : w env (kInt1 Q) E) : wInt1 w env Q E := h
theorem p_str1 (h : w env (kStr1 Q) E) : wStr1 w env Q E := h
theorem p_kint1 {n : Int} (h : Q (.int n)) : kInt1 Q (.int n) := ⟨⟨n, rfl⟩, h⟩
theorem p_kstr1 (h : Q (.str s)) : kStr1 Q (.str s) := ⟨⟨s, rfl⟩, h⟩
theorem p_split (h : a env (fun x => b env (fun y => kSplit Q x y) E) E) : wSplit a b env Q E := h
theorem p_ksplit (h0 : (sep.length == 0) = false) (h : s.length ≤ LIM) (q : Q (.lst ((Txt.split s sep).map .str))) : kSplit Q (.str s) (.str sep) := ⟨⟨h0, h⟩, q⟩
theorem p_sliceS {lo hi : WO} (h : a env (fun x => lo env (fun l => hi env (fun r => kSlS Q x l r) E) E) E) : wSliceS a lo hi env Q E := h
theorem p_ksls {l r : Option Int} (h : z.length ≤ LIM) (q : Q (.str (cutS z l r))) : kSlS Q (.str z) l r := ⟨h, q⟩
theorem p_kslb {l r : Option Int} {k : List Int} (h : ns.length ≤ LIM) (e : cutB ns l r = some k) (q : Q (.byt k)) : kSlS Q (.byt ns) l r := ⟨h, k, e, q⟩
theorem p_ixB (h : a env (fun x => b env (fun y => oIxB x y Q) E) E) : wIxB a b env Q E := h
theorem o_ixB {i : Int} (h : ns.length ≤ LIM) (h0 : 0 ≤ i) (h1 : i < ns.length) (q : Q (.int (ns.getD i.toNat 0))) : oIxB (.byt ns) (.int i) Q := ⟨⟨h, h0, h1⟩, q⟩
theorem p_listB (h : a env (kListB Q) E) : wListB a env Q E := h
theorem p_iterT {R : List D → Prop} (h : a env (kIterT R) E) : wIterT a env R E := h
theorem p_iterB {R : List D → Prop} (h : a env (kIterB R) E) : wIterB a env R E := h
theorem p_kiterTx {R : List D → Prop} (h : R (z.cps.toList.map sgD)) : kIterT R (.str z) := h
theorem p_kiterB {R : List D → Prop} (h : R (ns.map .int)) : kIterB R (.byt ns) := h
theorem p_enumK {R : List D → Prop} (h : a env (fun x => b env (fun y => kEnumK R x y) E) E) : wEnumK a b env R E := h
theorem p_kenumK {R : List D → Prop} {xs : List D} {i : Int} (h : -(2 ^ 62) ≤ i) (h1 : i < 2 ^ 62) (q : R (xs.zipIdx.map fun p => .tup [.int (i + (p.2 : Nat)), p.1])) : kEnumK R (.lst xs) (.int i) := ⟨⟨h, h1⟩, q⟩
theorem p_brk (h : K.bk env) : wBrk env K := h
theorem p_cnt (h : K.ct env) : wCnt env K := h
theorem o_addS (h : s.length + y.length ≤ LIM) (q : Q (.str (s ++ y))) : oAddS (.str s) (.str y) Q := ⟨h, q⟩
theorem o_addB {ms : List Int} (h : ns.length + ms.length ≤ LIM) (q : Q (.byt (ns ++ ms))) : oAddS (.byt ns) (.byt ms) Q := ⟨h, q⟩
theorem o_mulS {k : Int} (h : s.length ≤ 1000) (h1 : -1000 ≤ k) (h2 : k ≤ 1000) (q : Q (.str (repS s k))) : oMulS (.str s) (.int k) Q := ⟨⟨h, h1, h2⟩, q⟩
theorem b_lenS (h : z.length ≤ LIM) (q : Q (.int z.length)) : bLenS [.str z] Q := ⟨h, q⟩
theorem b_lenB (h : ns.length ≤ LIM) (q : Q (.int ns.length)) : bLenS [.byt ns] Q := ⟨h, q⟩
theorem b_str {i : Int} (h : 0 ≤ i) (h1 : i ≤ 1000000000000) (q : Q (.str (nS i))) : bStr [.int i] Q := ⟨log_le h h1, q⟩
theorem b_intS {n : Int} (e : intText? s = some n) (h : s.length ≤ 640) (q : Q (.int n)) : bIntS [.str s] Q := ⟨n, e, h, q⟩
theorem b_bytes {xs : List D} (e : intsOf xs = some ns) (h : B8 ns) (q : Q (.byt ns)) : bBytes [.lst xs] Q := ⟨ns, e, h, q⟩
theorem b_isiB (q : Q (.bl true)) : bIsiB [.byt ns, .ty "bytes"] Q := q
end
end Oil
namespace Oil
open PySem PySem.Spec PyProof.Rows L2 TL
/-- the digits of a number -/
def dg (n : Nat) : List Nat := (Nat.toDigits 10 n).map Char.toNat
theorem tl_nS (n : Nat) : tl (nS (n : Int)) = dg n := PySem.W.KIN.signs_num n
theorem dg_ne (n : Nat) : dg n ≠ [] := fun e => by
  have h := tDigits_len_ge 10 n
  have : (dg n).length = 0 := by rw [e]; rfl
  unfold dg at this
  rw [List.length_map] at this
  omega
theorem dg_len {n k : Nat} (hk : 1 ≤ k) (h : n < 10 ^ k) : (dg n).length ≤ k := by
  unfold dg
  rw [List.length_map]
  exact digits10_le hk h
theorem dg_mem {n c : Nat} (h : c ∈ dg n) : 48 ≤ c ∧ c ≤ 57 := by
  obtain ⟨ch, hch, e⟩ := List.mem_map.mp h
  have r := digit_range (Nat.isDigit_of_mem_toDigits (by decide) (by decide) hch)
  rw [← e]
  exact r
theorem digs_dg {a : Int} : digs a = dg a.natAbs := rfl
theorem nS_len (n : Nat) : (nS (n : Int)).length = (dg n).length := by rw [len_tl, tl_nS]
theorem nS_le {n : Int} (h : 0 ≤ n) (h1 : n < 10000000000) : (nS n).length ≤ 10 := PySem.W.KT.len_num h h1
theorem nS_pos (n : Nat) : 1 ≤ (nS (n : Int)).length := by
  rw [nS_len]
  exact Nat.pos_of_ne_zero fun e => dg_ne n (List.eq_nil_of_length_eq_zero e)
theorem nS_read {n : Int} (h : 0 ≤ n) (h1 : n < 10000000000) : intText? (nS n) = some n := PySem.W.KIN.num_reads h h1
theorem repS_tl (a : Str) (k : Int) : tl (repS a k) = (List.replicate k.toNat (tl a)).flatten := rfl
theorem repS1 (c : Nat) (k : Int) {a : Str} (ha : tl a = [c]) : tl (repS a k) = List.replicate k.toNat c := by
  rw [repS_tl, ha]
  generalize k.toNat = n
  induction n with
  | zero => rfl
  | succ n ih => rw [List.replicate_succ, List.flatten_cons, ih]; rfl
theorem len_app (a b : Str) : (a ++ b).length = a.length + b.length := by rw [len_tl, len_tl a, len_tl b, tl_append, List.length_append]
theorem empty_app (a : Str) : Str.empty ++ a = a := ext_tl (by rw [tl_append]; rfl)
theorem empty_len : Str.empty.length = 0 := rfl
theorem len_l0 : (Str.ofString "post ").length = 5 := rfl
theorem len_l1 : (Str.ofString "lantern ").length = 8 := rfl
theorem len_l2 : (Str.ofString " ").length = 1 := rfl
theorem len_l3 : (Str.ofString "  0 ").length = 4 := rfl
theorem len_l4 : (Str.ofString " -- ").length = 4 := rfl
theorem len_l5 : (Str.ofString "\n").length = 1 := rfl
theorem len_l6 : (Str.ofString "_").length = 1 := rfl
theorem len_l7 : (Str.ofString ",").length = 1 := rfl
theorem len_l8 : (Str.ofString "--").length = 2 := rfl
theorem len_l9 : (Str.ofString "").length = 0 := rfl
theorem len_l10 : (Str.ofString "0").length = 1 := rfl
theorem len_l11 : (Str.ofString "post").length = 4 := rfl
theorem len_l12 : (Str.ofString "lantern").length = 7 := rfl
theorem app_asc (a b c : Str) : a ++ b ++ c = a ++ (b ++ c) := ext_tl (by simp only [tl_append, List.append_assoc])
/-- the groups of t, ahead of o -/
def lgo : Nat → List Nat → List Nat → List Nat
  | 0, t, o => t ++ o
  | k + 1, t, o => if 3 < t.length then lgo k (t.take (t.length - 3)) (44 :: (t.drop (t.length - 3) ++ o)) else t ++ o
theorem lgo_small {k : Nat} {t o : List Nat} (h : t.length ≤ 3) : lgo k t o = t ++ o := by
  cases k with
  | zero => rfl
  | succ k => unfold lgo; rw [if_neg (by omega)]
theorem lgo_len : ∀ (k : Nat) (t o : List Nat), (lgo k t o).length ≤ 2 * t.length + o.length
  | 0, t, o => by unfold lgo; rw [List.length_append]; omega
  | k + 1, t, o => by
    unfold lgo
    by_cases h : 3 < t.length
    · rw [if_pos h]
      have := lgo_len k (t.take (t.length - 3)) (44 :: (t.drop (t.length - 3) ++ o))
      simp only [List.length_take, List.length_cons, List.length_append, List.length_drop] at this
      omega
    · rw [if_neg h, List.length_append]
      omega
theorem groups_lgo : ∀ (k : Nat) (t o : List Nat) (room : Int), 1 ≤ t.length → t.length ≤ k → room ≤ 0 → groupsFromRight' 3 44 k t.reverse room o = lgo k t o
  | 0, t, o, room, h1, h2, h3 => by omega
  | k + 1, t, o, room, h1, h2, h3 => by
    unfold groupsFromRight' lgo
    have hm : (max (max ((t.reverse.length : Nat) : Int) room) 1).toNat = t.length := by rw [List.length_reverse]; omega
    by_cases h : 3 < t.length
    · have hn : min 3 (max (max ((t.reverse.length : Nat) : Int) room) 1).toNat = 3 := by rw [hm]; omega
      simp only [hn]
      rw [if_pos h, show 3 - t.reverse.length = 0 by rw [List.length_reverse]; omega]
      have e1 : (t.reverse.take 3).reverse = t.drop (t.length - 3) := by rw [List.take_reverse, List.reverse_reverse]
      have e2 : t.reverse.drop 3 = (t.take (t.length - 3)).reverse := by rw [List.drop_reverse]
      rw [e1, e2]
      have e3 : ((t.take (t.length - 3)).reverse).isEmpty = false := by
        rw [List.isEmpty_eq_false_iff]
        intro e
        have := congrArg List.length e
        simp at this
        omega
      rw [e3]
      simp only [Bool.false_and, Bool.false_eq_true, if_false, List.replicate_zero, List.nil_append]
      exact groups_lgo k _ _ _ (by rw [List.length_take]; omega) (by rw [List.length_take]; omega) (by omega)
    · have hn : min 3 (max (max ((t.reverse.length : Nat) : Int) room) 1).toNat = t.length := by rw [hm]; omega
      simp only [hn]
      rw [if_neg h, show t.length - t.reverse.length = 0 by rw [List.length_reverse]; omega]
      have e1 : (t.reverse.take t.length).reverse = t := by rw [List.take_of_length_le (by simp), List.reverse_reverse]
      have e2 : t.reverse.drop t.length = [] := List.drop_of_length_le (by simp)
      rw [e1, e2]
      have : decide (room - (t.length : Nat) ≤ 0) = true := decide_eq_true (by omega)
      rw [this]
      rfl
theorem lgo_fuel : ∀ (k : Nat) (t o : List Nat), t.length ≤ k → lgo k t o = lgo t.length t o := by
  intro k
  induction k using Nat.strongRecOn with
  | _ k ih =>
    intro t o h
    by_cases h3 : t.length ≤ 3
    · rw [lgo_small h3, lgo_small h3]
    · obtain ⟨k, rfl⟩ : ∃ k', k = k' + 1 := ⟨k - 1, by omega⟩
      obtain ⟨m, hm⟩ : ∃ m, t.length = m + 1 := ⟨t.length - 1, by omega⟩
      have l : (t.take (m + 1 - 3)).length = m + 1 - 3 := by rw [List.length_take]; omega
      by_cases e : t.length = k + 1
      · rw [e]
      · rw [hm]
        unfold lgo
        rw [if_pos (by omega), if_pos (by omega), hm]
        rw [ih k (by omega) _ _ (by omega), ih m (by omega) _ _ (by omega)]
/-- a number with commas -/
def grp (n : Nat) : List Nat := lgo (dg n).length (dg n) []
theorem grp_len {n : Nat} (h : n < 10000000000) : (grp n).length ≤ 20 := by
  have a := lgo_len (dg n).length (dg n) []
  have b := dg_len (n := n) (k := 10) (by decide) h
  unfold grp
  simp only [List.length_nil] at a
  omega
theorem tl_fld3 {n : Nat} : tl (fld f3 (n : Int)) = List.replicate (3 - (dg n).length) 32 ++ dg n := by
  unfold fld
  rw [digs_dg, Int.natAbs_natCast, show decide ((n : Int) < 0) = false from decide_eq_false (by omega)]
  unfold intField' f3
  have he : (dg n).isEmpty = false := by rw [List.isEmpty_eq_false_iff]; exact dg_ne n
  simp [he]
theorem tl_fld2 {n : Nat} : tl (fld f2 (n : Int)) = List.replicate (2 - (dg n).length) 32 ++ dg n := by
  unfold fld
  rw [digs_dg, Int.natAbs_natCast, show decide ((n : Int) < 0) = false from decide_eq_false (by omega)]
  unfold intField' f2
  have he : (dg n).isEmpty = false := by rw [List.isEmpty_eq_false_iff]; exact dg_ne n
  simp [he]
theorem tl_fld13 {n : Nat} : tl (fld f13 (n : Int)) = List.replicate (13 - (grp n).length) 95 ++ grp n := by
  unfold fld
  rw [digs_dg, Int.natAbs_natCast, show decide ((n : Int) < 0) = false from decide_eq_false (by omega)]
  unfold intField' f13
  have he : (dg n).isEmpty = false := by rw [List.isEmpty_eq_false_iff]; exact dg_ne n
  have hl : 1 ≤ (dg n).length := Nat.pos_of_ne_zero fun e => dg_ne n (List.eq_nil_of_length_eq_zero e)
  have hg : groupsFromRight' 3 44 ((dg n).length + 1) (dg n).reverse 0 [] = grp n := by
    rw [groups_lgo _ _ _ _ hl (by omega) (by decide)]
    exact lgo_fuel _ _ _ (Nat.le_succ _)
  simp [he]
  rw [hg]
theorem fld_len {f : Builtin.Float.FormatSpec} {n : Nat} {a k : Nat} {l : List Nat} (h : tl (fld f (n : Int)) = List.replicate k a ++ l) : (fld f (n : Int)).length = k + l.length := by rw [len_tl, h]; simp
theorem fld3_le {n : Int} (h : 0 ≤ n) (h1 : n < 10000000000) : (fld f3 n).length ≤ 20 := by
  obtain ⟨m, rfl⟩ := Int.eq_ofNat_of_zero_le h
  rw [fld_len tl_fld3]
  have := dg_len (n := m) (k := 10) (by decide) (by omega)
  omega
theorem fld2_le {n : Int} (h : 0 ≤ n) (h1 : n < 10000000000) : (fld f2 n).length ≤ 20 := by
  obtain ⟨m, rfl⟩ := Int.eq_ofNat_of_zero_le h
  rw [fld_len tl_fld2]
  have := dg_len (n := m) (k := 10) (by decide) (by omega)
  omega
theorem fld13_le {n : Int} (h : 0 ≤ n) (h1 : n < 10000000000) : (fld f13 n).length ≤ 33 := by
  obtain ⟨m, rfl⟩ := Int.eq_ofNat_of_zero_le h
  rw [fld_len tl_fld13]
  have := grp_len (n := m) (by omega)
  omega
theorem uni_digit : ∀ c : Nat, 48 ≤ c → c ≤ 57 → Unicode.isDigit c = true := by
  intro c h h1
  have : c = 48 ∨ c = 49 ∨ c = 50 ∨ c = 51 ∨ c = 52 ∨ c = 53 ∨ c = 54 ∨ c = 55 ∨ c = 56 ∨ c = 57 := by omega
  rcases this with rfl | rfl | rfl | rfl | rfl | rfl | rfl | rfl | rfl | rfl <;> decide +kernel
theorem all_tl {s : Str} {p : Nat → Bool} : s.cps.all p = (tl s).all p := by rw [← Array.all_toList]
theorem nS_ascii (n : Nat) : Txt.isascii (nS (n : Int)) = true := by
  unfold Txt.isascii
  rw [all_tl, tl_nS, List.all_eq_true]
  intro c h
  have := dg_mem h
  exact decide_eq_true (by omega)
theorem nS_digit (n : Nat) : Txt.isdigit (nS (n : Int)) = true := by
  unfold Txt.isdigit
  rw [all_tl, tl_nS, Bool.and_eq_true]
  refine ⟨decide_eq_true (nS_pos n), ?_⟩
  rw [List.all_eq_true]
  intro c h
  have := dg_mem h
  exact uni_digit c this.1 this.2
theorem dg_head : ∀ n : Nat, 1 ≤ n → ∃ c r, dg n = c :: r ∧ c ≠ 48 := by
  intro n
  induction n using Nat.strongRecOn with
  | _ n ih =>
    intro h1
    by_cases h : n < 10
    · refine ⟨(Nat.digitChar n).toNat, [], ?_, ?_⟩
      · unfold dg; rw [Nat.toDigits_of_lt_base h]; rfl
      · have : ∀ d : Nat, d < 10 → 1 ≤ d → (Nat.digitChar d).toNat ≠ 48 := by decide
        exact this n h h1
    · obtain ⟨c, r, e, hc⟩ := ih (n / 10) (by omega) (by omega)
      have t : Nat.toDigits 10 (n / 10) ++ Nat.toDigits 10 (n % 10) = Nat.toDigits 10 (10 * (n / 10) + n % 10) := Nat.toDigits_append_toDigits (by decide) (by omega) (Nat.mod_lt n (by decide))
      rw [Nat.div_add_mod] at t
      refine ⟨c, r ++ dg (n % 10), ?_, hc⟩
      show (Nat.toDigits 10 n).map Char.toNat = _
      rw [← t, List.map_append]
      show dg (n / 10) ++ _ = _
      rw [e]
      rfl
theorem nS_start {n : Nat} (h : 1 ≤ n) : Txt.startswith (nS (n : Int)) "0" = false := by
  unfold Txt.startswith
  rw [PySem.StrLaws.subAt_eq]
  obtain ⟨c, r, e, hc⟩ := dg_head n h
  have e2 : (nS (n : Int)).cps.toList = c :: r := (tl_nS n).trans e
  rw [e2]
  show (_ && ([c] == [48])) = false
  rw [Bool.and_eq_false_iff]
  right
  exact beq_eq_false_iff_ne.mpr fun z => hc (by injection z)
theorem nS_no {n : Nat} {c : Nat} (h : c < 48) : c ∉ tl (nS (n : Int)) := by
  rw [tl_nS]
  intro z
  have := dg_mem z
  omega
def Asc (s : Str) : Prop := ∀ c ∈ tl s, c < 256
theorem Asc.shaped {s : Str} (h : Asc s) : SeqAt.shaped (.str s) = true := by
  refine Bool.and_eq_true_iff.mpr ⟨?_, rfl⟩
  show PyData.strOk s = true
  unfold PyData.strOk
  rw [all_tl, List.all_eq_true]
  intro c hc
  have := h c hc
  exact decide_eq_true (by omega)
theorem Asc.app {a b : Str} (h : Asc a) (k : Asc b) : Asc (a ++ b) := fun c hc => by
  rw [tl_append] at hc
  exact (List.mem_append.mp hc).elim (h c) (k c)
theorem asc_nS {n : Int} (h : 0 ≤ n) : Asc (nS n) := fun c hc => by
  obtain ⟨m, rfl⟩ := Int.eq_ofNat_of_zero_le h
  rw [tl_nS] at hc
  have := dg_mem hc
  omega
theorem lgo_mem {c : Nat} : ∀ (k : Nat) (t o : List Nat), c ∈ lgo k t o → c ∈ t ∨ c ∈ o ∨ c = 44
  | 0, t, o, h => (List.mem_append.mp h).elim .inl fun z => .inr (.inl z)
  | k + 1, t, o, h => by
    unfold lgo at h
    by_cases h3 : 3 < t.length
    · rw [if_pos h3] at h
      rcases lgo_mem k _ _ h with z | z | z
      · exact .inl (List.mem_of_mem_take z)
      · rcases List.mem_cons.mp z with z | z
        · exact .inr (.inr z)
        · exact (List.mem_append.mp z).elim (fun y => .inl (List.mem_of_mem_drop y)) fun y => .inr (.inl y)
      · exact .inr (.inr z)
    · rw [if_neg h3] at h
      exact (List.mem_append.mp h).elim .inl fun z => .inr (.inl z)
theorem asc_rep {k a : Nat} {l : List Nat} {s : Str} (h : tl s = List.replicate k a ++ l) (ha : a < 256) (hl : ∀ c ∈ l, c < 256) : Asc s := fun c hc => by
  rw [h] at hc
  rcases List.mem_append.mp hc with z | z
  · rw [(List.mem_replicate.mp z).2]; exact ha
  · exact hl c z
theorem dg_256 {n : Nat} : ∀ c ∈ dg n, c < 256 := fun c h => by have := dg_mem h; omega
theorem grp_256 {n : Nat} : ∀ c ∈ grp n, c < 256 := fun c h => by
  rcases lgo_mem _ _ _ h with z | z | z
  · exact dg_256 c z
  · cases z
  · omega
theorem asc_fld3 {n : Int} (h : 0 ≤ n) : Asc (fld f3 n) := by
  obtain ⟨m, rfl⟩ := Int.eq_ofNat_of_zero_le h
  exact asc_rep tl_fld3 (by decide) dg_256
theorem asc_fld2 {n : Int} (h : 0 ≤ n) : Asc (fld f2 n) := by
  obtain ⟨m, rfl⟩ := Int.eq_ofNat_of_zero_le h
  exact asc_rep tl_fld2 (by decide) dg_256
theorem asc_fld13 {n : Int} (h : 0 ≤ n) : Asc (fld f13 n) := by
  obtain ⟨m, rfl⟩ := Int.eq_ofNat_of_zero_le h
  exact asc_rep tl_fld13 (by decide) grp_256
theorem asc_join {y : Str} (hy : Asc y) : ∀ {parts : List Str}, (∀ p ∈ parts, Asc p) → Asc (Txt.join y parts) := by
  intro parts h
  rw [join_eq]
  have : ∀ {l : List (List Nat)}, (∀ p ∈ l, ∀ c ∈ p, c < 256) → ∀ c ∈ joinL (tl y) l, c < 256 := by
    intro l
    induction l with
    | nil => intro _ c hc; simp [joinL] at hc
    | cons a l ih =>
      intro hl c hc
      cases l with
      | nil => exact hl a (by simp) c hc
      | cons b l =>
        have hc : c ∈ a ++ (tl y ++ joinL (tl y) (b :: l)) := hc
        rcases List.mem_append.mp hc with z | z
        · exact hl a (by simp) c z
        · rcases List.mem_append.mp z with z | z
          · exact hy c z
          · exact ih (fun p hp => hl p (by simp [hp])) c z
  intro c hc
  rw [tl_join] at hc
  refine this (fun p hp => ?_) c hc
  obtain ⟨q, hq, rfl⟩ := List.mem_map.mp hp
  exact h q hq
theorem bigB_len (n : Int) : (bigB 4 n).length = 4 := by unfold bigB; rw [List.length_reverse, PySem.W.KTBy.little_length]
theorem bigB_B8 (n : Int) : B8 (bigB 4 n) := (little_B8 4 n).rev
theorem bigB_eq (n : Int) : bigB 4 n = [n / 256 / 256 / 256 % 256, n / 256 / 256 % 256, n / 256 % 256, n % 256] := rfl
theorem valB_bigB {n : Int} (h : 0 ≤ n) (h1 : n < 4294967296) : valB (bigB 4 n) = n := by
  rw [bigB_eq]
  unfold valB PySem.W.KFB.value
  simp only [List.foldl]
  omega
end Oil
namespace Oil
open PySem PySem.Spec PyProof.Rows L2
def b_check_byte : WS := (wIfS (wtOr (wtVal (wOp oLe (wCB bLenS (wCons (wName 0) wNil)) (wName 1))) (wtNot (wtVal (wChain oLe oLe (wName 2) (wIxB (wName 0) (wName 1)) (wName 3)))))
    (wRaiseX 11 ["offset"] (wCons (wName 1) wNil))
    wSkip)
def S_check_byte : PSpec := specOf 4 4 b_check_byte
def b_checksum : WS := (wSeq (wSet 1 (wC (.int 9)))
    (wSeq (wFor (wIterB (wName 0)) (.nm 2)
    (wSet 1 (wOp oMod (wCB bInt (wCons (wOp oAdd (wOp oMul (wC (.int 4)) (wName 1)) (wName 2)) wNil)) (wC (.int 251)))))
    (wRet (wName 1))))
def S_checksum : PSpec := specOf 1 3 b_checksum
def b_number_at : WS := (wSeq (wSet 3 (wOp oAdd (wName 1) (wC (.int 4))))
    (wSeq (wIfS (wtVal (wOp oLt (wCB bLenS (wCons (wName 0) wNil)) (wName 3)))
    (wRaiseX 11 ["offset"] (wCons (wCB bLenS (wCons (wName 0) wNil)) wNil))
    wSkip)
    (wSeq (wSet 4 (wFromB (wC (.ty "int")) (wCons (wSliceS (wName 0) (wPart (wName 1)) (wPart (wName 3))) (wCons (wC (.str "big")) wNil))))
    (wSeq (wIfS (wtNot (wtVal (wChain oLe oLe (wName 2) (wName 4) (wC (.int 1000000000)))))
    (wRaiseX 11 ["offset"] (wCons (wName 1) wNil))
    wSkip)
    (wRet (wName 4))))))
def S_number_at : PSpec := specOf 3 5 b_number_at
def b_decode_way : WS := (wSeq (wIfS (wtNot (wtVal (wCB bIsiB (wCons (wName 0) (wCons (wC (.ty "bytes")) wNil)))))
    (wRaiseX 11 ["offset"] (wCons (wC (.int 0)) wNil))
    wSkip)
    (wSeq (wExpr (wCall S_check_byte (wCons (wName 0) (wCons (wC (.int 0)) (wCons (wC (.int 79)) (wCons (wC (.int 79)) wNil))))))
    (wSeq (wExpr (wCall S_check_byte (wCons (wName 0) (wCons (wC (.int 1)) (wCons (wC (.int 1)) (wCons (wC (.int 12)) wNil))))))
    (wSeq (wSet 1 (wCall S_number_at (wCons (wName 0) (wCons (wC (.int 2)) (wCons (wC (.int 1)) wNil)))))
    (wSeq (wSet 2 (wOp oAdd (wC (.int 2)) (wC (.int 4))))
    (wSeq (wSetO 3 (wLst wNil))
    (wSeq (wFor (wRange1 (wIxB (wName 0) (wC (.int 1)))) (.nm 4)
    (wSeq (wSet 5 (wCall S_number_at (wCons (wName 0) (wCons (wName 2) (wCons (wC (.int 0)) wNil)))))
    (wSeq (wSet 6 (wCall S_number_at (wCons (wName 0) (wCons (wOp oAdd (wName 2) (wC (.int 4))) (wCons (wC (.int 1)) wNil)))))
    (wSeq (wApp 3 (wTup (wCons (wName 5) (wCons (wName 6) wNil))))
    (wSet 2 (wOp oAdd (wName 2) (wOp oMul (wC (.int 2)) (wC (.int 4)))))))))
    (wSeq (wSet 7 (wCall S_checksum (wCons (wSliceS (wName 0) wNoPart (wPart (wName 2))) wNil)))
    (wSeq (wExpr (wCall S_check_byte (wCons (wName 0) (wCons (wName 2) (wCons (wName 7) (wCons (wName 7) wNil))))))
    (wSeq (wIfS (wtVal (wOp oGt (wCB bLenS (wCons (wName 0) wNil)) (wOp oAdd (wName 2) (wC (.int 1)))))
    (wRaiseX 11 ["offset"] (wCons (wOp oAdd (wName 2) (wC (.int 1))) wNil))
    wSkip)
    (wRet (wCall S_Way_init (wCons (wName 1) (wStar (wOwn 3) wNil))))))))))))))
def S_decode_way : PSpec := specOf 1 8 b_decode_way
def b_number_bytes : WS := (wRet (wToB (wInt1 (wName 0)) (wC (.int 4)) (wC (.str "big"))))
def S_number_bytes : PSpec := specOf 1 1 b_number_bytes
def b_encode_way : WS := (wSeq (wSet 1 (wOp oAddS (wCB bBytes (wCons (wLst (wCons (wC (.int 79)) (wCons (wLenO 13 S_Way_len (wName 0)) wNil))) wNil)) (wCall S_number_bytes (wCons (wProp 13 S_Way_capacity (wName 0)) wNil))))
    (wSeq (wFor (wIter (wProp 13 S_Way_posts (wName 0))) (.tp [2, 3])
    (wSet 1 (wOp oAddS (wOp oAddS (wName 1) (wCall S_number_bytes (wCons (wName 2) wNil))) (wCall S_number_bytes (wCons (wName 3) wNil)))))
    (wRet (wOp oAddS (wName 1) (wCB bBytes (wCons (wLst (wCons (wCall S_checksum (wCons (wName 1) wNil)) wNil)) wNil))))))
def S_encode_way : PSpec := specOf 1 4 b_encode_way
def b_format_way : WS := (wSeq (wSet 1 (wLc (wIter (wProp 13 S_Way_posts (wName 0))) (.tp [2, 3]) wYes (wJs [(wC (.str "post ")), (wFmt (wName 2)), (wC (.str " ")), (wFmt (wName 3))]) [2, 3]))
    (wRet (wJoin (wC (.str "\n")) (wOp oAdd (wLst (wCons (wJs [(wC (.str "lantern ")), (wFmt (wProp 13 S_Way_capacity (wName 0)))]) wNil)) (wName 1)))))
def S_format_way : PSpec := specOf 1 4 b_format_way
def b_log_line : WS := (wRet (wJs [(wFmtS f3 (fun _ => False) (wName 0)), (wC (.str " ")), (wFmtS f2 (fun y => y.length = 2) (wName 1)), (wC (.str " ")), (wFmtS f13 (fun _ => False) (wName 2))]))
def S_log_line : PSpec := specOf 3 3 b_log_line
def b_log_text : WS := (wSeq (wExpr (wCall S_check_start (wCons (wName 0) (wCons (wName 1) (wCons (wName 2) wNil)))))
    (wSeq (wExpr (wCall S_check_number_within (wCons (wName 3) (wCons (wC (.int 1)) (wCons (wC (.int 100)) wNil)))))
    (wSeq (wSetO 4 (wLst (wCons (wCall S_log_line (wCons (wC (.int 0)) (wCons (wName 1) (wCons (wName 2) wNil)))) wNil)))
    (wSeq (wFor (wRange1 (wName 3)) (.nm 5)
    (wSeq (wSet 6 (wCall S_after_leg (wCons (wName 0) (wCons (wName 1) (wCons (wName 2) wNil)))))
    (wSeq (wIfS (wtVal (wOp oIs (wName 6) (wC .non)))
    (wSeq (wApp 4 (wCall S_log_line (wCons (wOp oAdd (wName 5) (wC (.int 1))) (wCons (wC (.str "--")) (wCons (wCall S_taken (wCons (wName 0) (wCons (wName 1) (wCons (wName 2) wNil)))) wNil)))))
    wBrk)
    wSkip)
    (wSeq (wSet 1 (wOp oMod (wCB bInt (wCons (wOp oAdd (wName 1) (wC (.int 1))) wNil)) (wLenO 13 S_Way_len (wName 0))))
    (wSeq (wSet 2 (wName 6))
    (wApp 4 (wCall S_log_line (wCons (wOp oAdd (wName 5) (wC (.int 1))) (wCons (wName 1) (wCons (wName 2) wNil))))))))))
    (wFrz 4 (wRet (wJoin (wC (.str "\n")) (wOwn 4))))))))
def S_log_text : PSpec := specOf 4 7 b_log_text
def b_is_number_word : WS := (wSeq (wIfS (wtOr (wtNot (wtVal (wM0 Txt.isascii (wName 0)))) (wtOr (wtNot (wtVal (wM0 Txt.isdigit (wName 0)))) (wtVal (wOp oGt (wCB bLenS (wCons (wName 0) wNil)) (wC (.int 10))))))
    (wRet (wC (.bl false)))
    wSkip)
    (wRet (wOr (wOp oEq (wName 0) (wC (.str "0"))) (wNot (wSW (wName 0) (wCons (wC (.str "0")) wNil))))))
def S_is_number_word : PSpec := specOf 1 1 b_is_number_word
def b_numbers : WS := (wSeq (wIfS (wtVal (wOp oNe (wOp oIx (wName 1) (wC (.int 0))) (wName 2)))
    (wRaiseX 9 ["row", "word"] (wCons (wName 0) (wCons (wC (.int 0)) wNil)))
    wSkip)
    (wSeq (wFor (wRange2 (wC (.int 1)) (wOp oAdd (wName 3) (wC (.int 1)))) (.nm 4)
    (wIfS (wtOr (wtVal (wOp oGe (wName 4) (wCB bLen (wCons (wName 1) wNil)))) (wtNot (wtVal (wCall S_is_number_word (wCons (wOp oIx (wName 1) (wName 4)) wNil)))))
    (wRaiseX 9 ["row", "word"] (wCons (wName 0) (wCons (wName 4) wNil)))
    wSkip))
    (wSeq (wIfS (wtVal (wOp oGt (wCB bLen (wCons (wName 1) wNil)) (wOp oAdd (wName 3) (wC (.int 1)))))
    (wRaiseX 9 ["row", "word"] (wCons (wName 0) (wCons (wOp oAdd (wName 3) (wC (.int 1))) wNil)))
    wSkip)
    (wRet (wCB bTuple (wCons (wLc (wIter (wSlice (wName 1) (wPart (wC (.int 1))) wNoPart)) (.nm 4) wYes (wCB bIntS (wCons (wName 4) wNil)) [4]) wNil))))))
def S_numbers : PSpec := specOf 4 5 b_numbers
def b_parse_way : WS := (wSeq (wIfS (wtNot (wtVal (wCB (bIsiC []) (wCons (wName 0) (wCons (wC (.ty "str")) wNil)))))
    (wRaiseX 9 ["row", "word"] (wCons (wC (.int 0)) (wCons (wC (.int 0)) wNil)))
    wSkip)
    (wSeq (wSet 1 (wLc (wIter (wSplit (wStr1 (wName 0)) (wC (.str "\n")))) (.nm 4) wYes (wSplit (wStr1 (wName 4)) (wC (.str " "))) [4]))
    (wSeq (wSet 2 (wOp oIx (wCall S_numbers (wCons (wC (.int 0)) (wCons (wOp oIx (wName 1) (wC (.int 0))) (wCons (wC (.str "lantern")) (wCons (wC (.int 1)) wNil))))) (wC (.int 0))))
    (wSeq (wSet 3 (wLc (wEnumK (wSlice (wName 1) (wPart (wC (.int 1))) wNoPart) (wC (.int 1))) (.tp [4, 5]) wYes (wCall S_numbers (wCons (wName 4) (wCons (wName 5) (wCons (wC (.str "post")) (wCons (wC (.int 2)) wNil))))) [4, 5]))
    (wRet (wCall S_Way_init (wCons (wName 2) (wStar (wName 3) wNil))))))))
def S_parse_way : PSpec := specOf 1 6 b_parse_way
end Oil
namespace Oil
open PySem PySem.Spec PyProof.Rows L2
local macro_rules | `(tactic| walk_at "pq1") => `(tactic| with_reducible first
  | refine p_seq ?_ | refine p_skip ?_ | refine p_set ?_ | refine p_setO ?_ | refine p_kown ?_ | refine p_unp ?_ | refine p_put rfl ?_ | refine p_put1 ?_
  | refine p_par ?_ | refine p_pnil ?_ | refine p_pval ?_ | refine p_pown ?_ | refine p_kpown ?_ | refine p_expr ?_ | refine p_ret ?_ | refine p_retN ?_ | refine p_ifS ?_
  | refine p_for ?_ | refine p_raise ?_ | refine p_c ?_ | refine p_op ?_ | refine p_neg ?_ | refine p_kneg ?_ | refine p_chain ?_ | refine p_and ?_ | refine p_or ?_ | refine p_not ?_ | refine p_knot ?_
  | refine p_if ?_ | refine p_nil ?_ | refine p_cons ?_ | refine p_star ?_ | refine p_kstarT ?_ | refine p_kstarL ?_ | refine p_tup ?_ | refine p_lst ?_ | refine p_call ?_ | refine p_cb ?_ | refine p_val ?_ | refine p_kval ?_
  | refine p_ttru ?_ | refine p_ktruN ?_ | refine p_ktruB ?_ | refine p_ktruI ?_ | refine p_ktruL ?_ | refine p_ktruT ?_ | refine p_tnot ?_ | refine p_tand ?_ | refine p_tor ?_
  | refine p_nopart ?_ | refine p_part ?_ | refine p_kpart ?_ | refine p_slice ?_ | refine p_ksliceL ?_ | refine p_ksliceT ?_ | refine p_fld ?_ | refine p_meth ?_ | refine p_clo ?_ | refine p_kclo rfl ?_ | refine p_prop ?_ | refine p_kprop rfl ?_
  | refine p_inv ?_ | refine p_kinv rfl ?_ | refine p_lenO ?_ | refine p_klenO rfl ?_ | refine p_get ?_ | refine p_kget rfl ?_ | refine p_cmeth ?_ | refine p_kcmeth rfl ?_ | refine p_opC ?_ | refine p_kopC rfl rfl ?_ | refine p_opF ?_ | refine p_kopF rfl rfl ?_
  | refine p_eqO ?_ | refine p_keqO rfl rfl ?_ | refine p_iter ?_ | refine p_kiterL ?_ | refine p_kiterT ?_ | refine p_rg1 ?_ | refine p_rg2 ?_ | refine p_enum ?_ | refine p_kenum ?_ | refine p_lc ?_ | refine p_yes ?_
  | refine p_tt ?_ | refine p_ff ?_
  | refine o_add ?_ | refine o_sub ?_ | refine o_lt ?_ | refine o_le ?_ | refine o_gt ?_ | refine o_ge ?_
  | refine b_lenL ?_ | refine b_lenT ?_ | refine b_int ?_ | refine b_tupL ?_ | refine b_tupT ?_ | refine b_listL ?_ | refine b_listT ?_ | refine b_max2 ?_ | refine b_min2 ?_)
local macro_rules | `(tactic| walk_at "pq2") => `(tactic| with_reducible first
  | refine p_name (by with_unfolding_all rfl) ?_ | refine p_ownV (by with_unfolding_all rfl) ?_ | refine p_own (by with_unfolding_all rfl) ?_ | refine p_app (by with_unfolding_all rfl) ?_ | refine p_putI (by with_unfolding_all rfl) ?_
  | refine p_frz (by with_unfolding_all rfl) ?_ | refine p_frzV (by with_unfolding_all rfl) ?_ | refine p_kfld (by with_unfolding_all rfl) (by with_unfolding_all rfl) ?_ | refine p_kmeth (by with_unfolding_all rfl) (by decide) ?_ | refine p_makL (by with_unfolding_all rfl) (by with_unfolding_all rfl) ?_
  | refine p_self (by with_unfolding_all rfl) (by decide) (by with_unfolding_all rfl) (by decide) ?_)
local macro_rules | `(tactic| walk_at "pq3") => `(tactic| with_reducible first
  | refine o_eqI ?_ | refine o_neI ?_ | refine o_isNon ?_ | refine o_isInt ?_ | refine o_isNotNon ?_ | refine o_isNotInt ?_ | refine p_kandT ?_ | refine p_kandF ?_ | refine p_korT ?_ | refine p_korF ?_ | refine p_nt ?_ | refine p_nf ?_)
local macro_rules | `(tactic| walk_at "pq") => `(tactic| repeat (first | walk_at "pq1" | walk_at "pq2" | walk_at "pq3"))
section
variable {Q : QD} {E : QR} {c x : Int} {rs : List (Int × Int)} {i : Nat}
theorem n_after_leg (hi : i < rs.length) (h : Q (dN (Oil.step c (nth rs i) x))) : S_after_leg [dW c rs, .int (i : Int), .int x] Q E := by
  refine ⟨rfl, ?_⟩
  show b_after_leg [.val (dW c rs), .val (.int (i : Int)), .val (.int x), .un, .un] _
  unfold b_after_leg
  walk_at "pq"
  refine n_taken hi ?_
  walk_at "pq"
  refine ⟨rfl, n_getitem hi ?_⟩
  unfold dP
  walk_at "pq"
  refine o_ixT (k := 1) rfl rfl ?_
  walk_at "pq"
  unfold Oil.step at h
  refine p_dec (fun z => ?_) (fun z => ?_)
  · rw [if_pos z] at h
    walk_at "pq"
    exact h
  · rw [if_neg z] at h
    walk_at "pq"
    exact h
end
/-- what is held, where one stopped -/
abbrev En := Int × List Int
def kE (e : En) : Int := (e.2.length : Int)
def keepP : List En → En → List En
  | [], e => [e]
  | a :: P, e => if kE a = kE e then (if a.1 < e.1 then e :: P else a :: P) else a :: keepP P e
def keepE (P : List En) (e : En) : List En := if e.1 < 0 then P else keepP P e
section
variable {P A : List En} {a e : En}
theorem keep_mem : ∀ {P : List En} {e b : En}, b ∈ keepP P e → b = e ∨ b ∈ P
  | [], e, b, h => by simp [keepP] at h; exact .inl h
  | a :: P, e, b, h => by
    unfold keepP at h
    split at h
    · split at h
      · rcases List.mem_cons.mp h with h | h
        · exact .inl h
        · exact .inr (by simp [h])
      · exact .inr h
    · rcases List.mem_cons.mp h with h | h
      · exact .inr (by simp [h])
      · rcases keep_mem h with h | h
        · exact .inl h
        · exact .inr (by simp [h])
theorem keep_keys : ∀ {P : List En} {e : En} {k : Int}, k ∈ (keepP P e).map kE → k = kE e ∨ k ∈ P.map kE
  | P, e, k, h => by
    obtain ⟨b, hb, rfl⟩ := List.mem_map.mp h
    rcases keep_mem hb with rfl | hb
    · exact .inl rfl
    · exact .inr (List.mem_map.mpr ⟨b, hb, rfl⟩)
theorem keep_nodup : ∀ {P : List En} {e : En}, (P.map kE).Nodup → ((keepP P e).map kE).Nodup
  | [], e, _ => by simp [keepP]
  | a :: P, e, h => by
    have h' := List.nodup_cons.mp (show (kE a :: P.map kE).Nodup from h)
    unfold keepP
    split
    · rename_i z
      split
      · show (kE e :: P.map kE).Nodup
        rw [← z]
        exact h
      · exact h
    · rename_i z
      refine List.nodup_cons.mpr ⟨fun q => ?_, keep_nodup h'.2⟩
      rcases keep_keys q with q | q
      · exact z q
      · exact h'.1 q
/-- keys all different, below B -/
structure KeyOk (B : Nat) (P : List En) : Prop where
  nd : (P.map kE).Nodup
  lt : ∀ a ∈ P, a.2.length < B
theorem nodup_len : ∀ (B : Nat) (l : List Int), l.Nodup → (∀ k ∈ l, 0 ≤ k ∧ k < (B : Int)) → l.length ≤ B
  | 0, l, _, h => by
    cases l with
    | nil => simp
    | cons k l =>
      have := h k (by simp)
      omega
  | B + 1, l, hn, h => by
    have h1 := nodup_len B (l.erase (B : Int)) (hn.erase _) fun k hk => by
      have h2 := (List.Nodup.mem_erase_iff hn).mp hk
      have h3 := h k h2.2
      have h4 := h2.1
      omega
    have h5 : l.length ≤ (l.erase (B : Int)).length + 1 := by
      by_cases z : (B : Int) ∈ l
      · rw [List.length_erase_of_mem z]
        omega
      · rw [List.erase_of_not_mem z]
        omega
    omega
theorem KeyOk.len {B : Nat} (h : KeyOk B P) : P.length ≤ B := by
  have := nodup_len B (P.map kE) h.nd fun k hk => by
    obtain ⟨a, ha, rfl⟩ := List.mem_map.mp hk
    have := h.lt a ha
    unfold kE
    omega
  rwa [List.length_map] at this
theorem KeyOk.keep {B : Nat} (h : KeyOk B P) (he : e.2.length < B) : KeyOk B (keepE P e) := by
  unfold keepE
  split
  · exact h
  · exact ⟨keep_nodup h.nd, fun a ha => by
      rcases keep_mem ha with rfl | ha
      · exact he
      · exact h.lt a ha⟩
end
end Oil
namespace Oil
open PySem PySem.Spec PyProof.Rows L2
def kNewL (j : Nat) (env : Ev) (Q : D → Ev → Prop) : QD
  | .lst xs => pushM j env (.lst xs) Q
  | _ => False
def kLF (j c : Nat) (f : Str) (env : Ev) (Q : QD) : QD
  | .loc a => cellI env j a c fun ns fs => ∃ d, (ns.zip fs).lookup f = some d ∧ Q d
  | _ => False
def kCell (j : Nat) (env : Ev) (Q : QD) : QD
  | .loc a => cellL env j a fun xs => Q (.lst xs)
  | _ => False
def kApp (j : Nat) (w : WM) (env : Ev) (Q : D → Ev → Prop) (E : Er → Ev → Prop) : QD
  | .loc a => cellL env j a (fun _ => True) ∧ w env (fun d env1 => putL j env1 a fun xs k => xs.length < LIM ∧ Q .non (k (xs ++ [d]))) E
  | _ => False
def kPop (j : Nat) (env : Ev) (Q : D → Ev → Prop) : QD
  | .loc a => putL j env a fun xs k => ∃ y, xs[xs.length - 1]? = some y ∧ Q y (k xs.dropLast)
  | _ => False
def kSetF (j c : Nat) (f : Str) (env1 : Ev) (d : D) (n : Ev → Prop) : QD
  | .loc a => ∃ (cs : Sto) (k m : Nat) (ns : List Str) (fs : List D), env1[j]? = some (.sto cs) ∧ cs[k]? = some (a, Ob.ins c ns fs) ∧ (ns.idxOf f = m ∧ m < ns.length ∧ ns.length < 1000) ∧ n (env1.set j (.sto (cs.set k (a, .ins c ns (fs.set m d)))))
  | _ => False
def kNewF (j c : Nat) (f : Str) (env1 : Ev) (d : D) (n : Ev → Prop) : QD
  | .loc a => ∃ (cs : Sto) (k : Nat) (ns : List Str) (fs : List D), env1[j]? = some (.sto cs) ∧ cs[k]? = some (a, Ob.ins c ns fs) ∧ (f ∉ ns ∧ ns.length < 1000) ∧ n (env1.set j (.sto (cs.set k (a, .ins c (ns ++ [f]) (fs ++ [d])))))
  | _ => False
def kMMeth (j c : Nat) (m : Str) (P : XSpec) (t : WMA) (env : Ev) (Q : D → Ev → Prop) (E : Er → Ev → Prop) : QD
  | .loc a => cellI env j a c fun ns _ => m ∉ ns ∧ t env (fun ds env1 => cellI env1 j a c (fun _ _ => True) ∧ giveM j P (.loc a :: ds) env1 Q E) E
  | _ => False
def kMProp (j c : Nat) (P : XSpec) (env : Ev) (Q : D → Ev → Prop) : QD
  | .loc a => cellI env j a c (fun _ _ => True) ∧ giveM j P [.loc a] env Q (fun _ _ => False)
  | _ => False
def kMVal (Q : Bool → Ev → Prop) : D → Ev → Prop := fun d env1 => match d with
  | .bl b => Q b env1
  | _ => False
def kMFz (j : Nat) (QM : D → Ev → Prop) : D → Ev → Prop := fun d env1 => ∃ cs n d', env1[j]? = some (.sto cs) ∧ FzD cs n d d' ∧ QM d' (env1.set j (.sto (cs.take n)))
def kMk (j c : Nat) (P : XSpec) (QM : D → Ev → Prop) (EM : Er → Ev → Prop) : List D → Ev → Prop := fun ds env1 => match env1[j]? with
  | some (.sto cs) => ∀ a, P (.loc a :: ds) (cs ++ [(a, .ins c [] [])]) (fun _ cs' => QM (.loc a) (env1.set j (.sto cs'))) (fun x cs' => EM x (env1.set j (.sto cs')))
  | _ => False
def kLD (j : Nat) (key : Str) (env : Ev) (Q : QD) : QD
  | .loc a => ∃ (cs : Sto) (k : Nat) (ks : List Str) (xs : List D), env[j]? = some (.sto cs) ∧ cs[k]? = some (a, Ob.dct ks xs) ∧ ks.Nodup ∧ ∃ d, getS ks xs key = some d ∧ Q d
  | _ => False
def kSD (key : Str) (Q : QD) : QD
  | .dcs ks xs => ks.Nodup ∧ ∃ d, getS ks xs key = some d ∧ Q d
  | _ => False
def kPutI2 (j : Nat) (env1 : Ev) (d : D) (n : Ev → Prop) (x : D) : QD := fun y => match x, y with
  | .loc a, .int i => putL j env1 a fun xs k => ∃ m, ixN xs.length i = some m ∧ n (k (xs.set m d))
  | _, _ => False
section
variable {env env' : Ev} {Q : QD} {QM : D → Ev → Prop} {QB : Bool → Ev → Prop} {QL : List D → Ev → Prop} {E : QR} {EM : Er → Ev → Prop} {n bk ct : Ev → Prop} {rt : D → Ev → Prop} {er : Er → Ev → Prop} {a b c : WE} {t u : WMT} {s s' : WS} {l : WA} {tm : WMA} {wm wm2 : WM} {g g2 : O2} {P : XSpec} {i j k : Nat} {d x y : D} {xs ys ds : List D} {f m key : Str} {cn : Nat} {ns ks : List Str} {p q : Int} {bb : Bool} {gt : Tgt} {cs : Sto} {ad : Addr} {ob : Ob} {fs : List D} {ut : WT}
theorem p_mP (h : a env (fun d => QM d env) (fun x => EM x env)) : wmP a env QM EM := h
theorem p_mtP (h : ut env (fun b => QB b env) (fun x => EM x env)) : wmtP ut env QB EM := h
theorem p_mA (h : l env (fun ds => QL ds env) (fun x => EM x env)) : wmA l env QL EM := h
theorem p_mnil (h : QL [] env) : wmNil env QL EM := h
theorem p_mcons (h : wm env (fun x env1 => tm env1 (fun xs env2 => QL (x :: xs) env2) EM) EM) : wmCons wm tm env QL EM := h
theorem p_mcall (h : tm env (fun ds env1 => giveM j P ds env1 QM EM) EM) : wmCall j P tm env QM EM := h
theorem p_give (e : env[j]? = some (.sto cs)) (h : P ds cs (fun d cs' => QM d (env.set j (.sto cs'))) (fun x cs' => EM x (env.set j (.sto cs')))) : giveM j P ds env QM EM := by
  unfold giveM
  rw [e]
  exact h
theorem p_mexpr (h : wm env (fun _ env1 => n env1) er) : wmExpr wm env ⟨n, rt, bk, ct, er⟩ := h
theorem p_mret (h : wm env rt er) : wmRet wm env ⟨n, rt, bk, ct, er⟩ := h
theorem p_mset (h : wm env (fun d env1 => n (env1.set i (.val d))) er) : wmSet i wm env ⟨n, rt, bk, ct, er⟩ := h
theorem p_munp (h : wm env (fun d env1 => gt.put env1 d n) er) : wmUnp gt wm env ⟨n, rt, bk, ct, er⟩ := h
theorem p_mpar {is : List Nat} (h : tm env (fun ds env1 => ds.length = is.length ∧ n (setAll env1 is ds)) er) : wmPar is tm env ⟨n, rt, bk, ct, er⟩ := h
theorem p_mif (h : t env (fun c env1 => if c = true then s env1 ⟨n, rt, bk, ct, er⟩ else s' env1 ⟨n, rt, bk, ct, er⟩) er) : wmIf t s s' env ⟨n, rt, bk, ct, er⟩ := h
theorem p_mval (h : wm env (kMVal QB) EM) : wmtVal wm env QB EM := h
theorem p_kmval (h : QB bb env) : kMVal QB (.bl bb) env := h
theorem p_mtnot (h : t env (fun b env1 => QB (!b) env1) EM) : wmtNot t env QB EM := h
theorem p_mop (h : wm env (fun x env1 => wm2 env1 (fun y env2 => g x y fun d => QM d env2) EM) EM) : wmOp g wm wm2 env QM EM := h
theorem p_mtup (h : tm env (fun xs env1 => xs.length ≤ LIM ∧ QM (.tup xs) env1) EM) : wmTup tm env QM EM := h
theorem p_mlst (h : tm env (fun xs env1 => xs.length ≤ LIM ∧ QM (.lst xs) env1) EM) : wmLst tm env QM EM := h
theorem p_mife (h : t env (fun c env1 => if c = true then wm env1 QM EM else wm2 env1 QM EM) EM) : wmIfE t wm wm2 env QM EM := h
theorem p_mnewL (h : a env (kNewL j env QM) (fun x => EM x env)) : wmNewL j a env QM EM := h
theorem p_knewL (h : pushM j env (.lst xs) QM) : kNewL j env QM (.lst xs) := h
theorem p_push (e : env[j]? = some (.sto cs)) (h : ∀ a, QM (.loc a) (env.set j (.sto (cs ++ [(a, ob)])))) : pushM j env ob QM := by
  unfold pushM
  rw [e]
  exact h
theorem p_lfld (h : a env (kLF j cn f env Q) E) : wLFld j cn f a env Q E := h
theorem p_klf (e : env[j]? = some (.sto cs)) (h : cs[k]? = some (ad, .ins cn ns fs)) (l : (ns.zip fs).lookup f = some d) (q : Q d) : kLF j cn f env Q (.loc ad) := ⟨cs, k, ns, fs, e, h, d, l, q⟩
theorem p_cell (h : a env (kCell j env Q) E) : wCell j a env Q E := h
theorem p_kcell (e : env[j]? = some (.sto cs)) (h : cs[k]? = some (ad, .lst xs)) (q : Q (.lst xs)) : kCell j env Q (.loc ad) := ⟨cs, k, xs, e, h, q⟩
theorem p_mapp (h : a env (kApp j wm env QM EM) (fun x => EM x env)) : wmApp j a wm env QM EM := h
theorem p_kmapp (e : env[j]? = some (.sto cs)) (h : cs[k]? = some (ad, .lst xs)) (q : wm env (fun d env1 => putL j env1 ad fun xs k => xs.length < LIM ∧ QM .non (k (xs ++ [d]))) EM) : kApp j wm env QM EM (.loc ad) := ⟨⟨cs, k, xs, e, h, True.intro⟩, q⟩
theorem p_putL {F : List D → (List D → Ev) → Prop} (e : env[j]? = some (.sto cs)) (h : cs[k]? = some (ad, .lst xs)) (q : F xs fun ys => env.set j (.sto (cs.set k (ad, .lst ys)))) : putL j env ad F := ⟨cs, k, xs, e, h, q⟩
theorem p_mpop (h : a env (kPop j env QM) (fun x => EM x env)) : wmPop j a env QM EM := h
theorem p_msetF (h : wm env (fun d env1 => a env1 (kSetF j cn f env1 d n) (fun x => er x env1)) er) : wmSetF j cn f a wm env ⟨n, rt, bk, ct, er⟩ := h
theorem p_mnewF (h : wm env (fun d env1 => a env1 (kNewF j cn f env1 d n) (fun x => er x env1)) er) : wmNewF j cn f a wm env ⟨n, rt, bk, ct, er⟩ := h
theorem p_mmeth (h : a env (kMMeth j cn m P tm env QM EM) (fun x => EM x env)) : wmMeth j cn m P a tm env QM EM := h
theorem p_kmmeth (e : env[j]? = some (.sto cs)) (h : cs[k]? = some (ad, .ins cn ns fs)) (e2 : m ∉ ns) (q : tm env (fun ds env1 => cellI env1 j ad cn (fun _ _ => True) ∧ giveM j P (.loc ad :: ds) env1 QM EM) EM) : kMMeth j cn m P tm env QM EM (.loc ad) := ⟨cs, k, ns, fs, e, h, e2, q⟩
theorem p_mprop (h : a env (kMProp j cn P env QM) (fun x => EM x env)) : wmProp j cn P a env QM EM := h
theorem p_kmprop (e : env[j]? = some (.sto cs)) (h : cs[k]? = some (ad, .ins cn ns fs)) (q : giveM j P [.loc ad] env QM (fun _ _ => False)) : kMProp j cn P env QM (.loc ad) := ⟨⟨cs, k, ns, fs, e, h, True.intro⟩, q⟩
theorem p_mmake (h : tm env (kMk j cn P QM EM) EM) : wmMake j cn P tm env QM EM := h
theorem p_mraised {tell : Er → QD → Prop} (h : wm env (fun _ env1 => QM .non env1) (fun er env1 => tell er fun d => QM d env1)) : wmToldR tell wm env QM EM := h
theorem p_mtold {tell : Er → QD → Prop} (h : wm env QM (fun er env1 => tell er fun d => QM d env1)) : wmTold tell wm env QM EM := h
theorem p_mfz (h : wm env (kMFz j QM) EM) : wmFz j wm env QM EM := h
theorem p_ldget (h : a env (kLD j key env Q) E) : wLDGet j key a env Q E := h
theorem p_sdget (h : a env (kSD key Q) E) : wSDGet key a env Q E := h
theorem p_mdput (h : wm env (fun d env1 => a env1 (fun x => putDc j env1 x key d n) (fun x => er x env1)) er) : wmDPut j key a wm env ⟨n, rt, bk, ct, er⟩ := h
theorem p_mputI (h : wm env (fun d env1 => a env1 (fun x => b env1 (kPutI2 j env1 d n x) (fun x => er x env1)) (fun x => er x env1)) er) : wmPutI j a b wm env ⟨n, rt, bk, ct, er⟩ := h
end
theorem sg_ne {cs : Sto} {k m : Nat} {x : Addr × Ob} {y : Option (Addr × Ob)} (h : k ≠ m) (e : cs[m]? = y) : (cs.set k x)[m]? = y := by rw [List.getElem?_set_ne h]; exact e
theorem sg_push {cs l : Sto} {m : Nat} {y : Addr × Ob} (e : cs[m]? = some y) : (cs ++ l)[m]? = some y := by rw [List.getElem?_append_left (List.getElem?_eq_some_iff.mp e).1]; exact e
theorem sg_dif {cs : Sto} {k m : Nat} {x y : Addr × Ob} (e : cs[k]? = some x) (e2 : cs[m]? = some y) (h : x.2 ≠ y.2) : k ≠ m := fun z => by
  subst z
  rw [e] at e2
  exact h (by rw [Option.some.inj e2])
/-- the cells but those of ks stand -/
def Kp (cs cs' : Sto) (ks : List Nat) : Prop := ∀ m x, cs[m]? = some x → m ∉ ks → cs'[m]? = some x
theorem Kp.refl {cs : Sto} {ks : List Nat} : Kp cs cs ks := fun m x h _ => h
theorem Kp.trans {cs cs' cs2 : Sto} {ks : List Nat} (h : Kp cs cs' ks) (h2 : Kp cs' cs2 ks) : Kp cs cs2 ks := fun m x e n => h2 m x (h m x e n) n
theorem Kp.wk {cs cs' : Sto} {ks ks' : List Nat} (h : Kp cs cs' ks) (s : ∀ k ∈ ks, k ∈ ks') : Kp cs cs' ks' := fun m x e n => h m x e fun z => n (s m z)
theorem Kp.set {cs : Sto} {ks : List Nat} {k : Nat} {x : Addr × Ob} (h : k ∈ ks) : Kp cs (cs.set k x) ks := fun m y e n => sg_ne (fun z => n (z ▸ h)) e
theorem Kp.push {cs l : Sto} {ks : List Nat} : Kp cs (cs ++ l) ks := fun m y e _ => sg_push e
end Oil
namespace Oil
open PySem PySem.Spec PyProof.Rows L2
local macro_rules | `(tactic| walk_at "pq1") => `(tactic| with_reducible first
  | refine p_seq ?_ | refine p_skip ?_ | refine p_set ?_ | refine p_setO ?_ | refine p_kown ?_ | refine p_unp ?_ | refine p_put rfl ?_ | refine p_put1 ?_
  | refine p_par ?_ | refine p_pnil ?_ | refine p_pval ?_ | refine p_pown ?_ | refine p_kpown ?_ | refine p_expr ?_ | refine p_ret ?_ | refine p_retN ?_ | refine p_ifS ?_
  | refine p_for ?_ | refine p_raise ?_ | refine p_c ?_ | refine p_op ?_ | refine p_neg ?_ | refine p_kneg ?_ | refine p_chain ?_ | refine p_and ?_ | refine p_or ?_ | refine p_not ?_ | refine p_knot ?_
  | refine p_if ?_ | refine p_nil ?_ | refine p_cons ?_ | refine p_star ?_ | refine p_kstarT ?_ | refine p_kstarL ?_ | refine p_tup ?_ | refine p_lst ?_ | refine p_call ?_ | refine p_cb ?_ | refine p_val ?_ | refine p_kval ?_
  | refine p_ttru ?_ | refine p_ktruN ?_ | refine p_ktruB ?_ | refine p_ktruI ?_ | refine p_ktruL ?_ | refine p_ktruT ?_ | refine p_tnot ?_ | refine p_tand ?_ | refine p_tor ?_
  | refine p_nopart ?_ | refine p_part ?_ | refine p_kpart ?_ | refine p_slice ?_ | refine p_ksliceL ?_ | refine p_ksliceT ?_ | refine p_fld ?_ | refine p_meth ?_ | refine p_clo ?_ | refine p_kclo rfl ?_ | refine p_prop ?_ | refine p_kprop rfl ?_
  | refine p_inv ?_ | refine p_kinv rfl ?_ | refine p_lenO ?_ | refine p_klenO rfl ?_ | refine p_get ?_ | refine p_kget rfl ?_ | refine p_cmeth ?_ | refine p_kcmeth rfl ?_ | refine p_opC ?_ | refine p_kopC rfl rfl ?_ | refine p_opF ?_ | refine p_kopF rfl rfl ?_
  | refine p_eqO ?_ | refine p_keqO rfl rfl ?_ | refine p_iter ?_ | refine p_kiterL ?_ | refine p_kiterT ?_ | refine p_rg1 ?_ | refine p_rg2 ?_ | refine p_enum ?_ | refine p_kenum ?_ | refine p_lc ?_ | refine p_yes ?_
  | refine p_tt ?_ | refine p_ff ?_
  | refine o_add ?_ | refine o_sub ?_ | refine o_lt ?_ | refine o_le ?_ | refine o_gt ?_ | refine o_ge ?_
  | refine b_lenL ?_ | refine b_lenT ?_ | refine b_int ?_ | refine b_tupL ?_ | refine b_tupT ?_ | refine b_listL ?_ | refine b_listT ?_ | refine b_max2 ?_ | refine b_min2 ?_)
local macro_rules | `(tactic| walk_at "pq2") => `(tactic| with_reducible first
  | refine p_name (by with_unfolding_all rfl) ?_ | refine p_ownV (by with_unfolding_all rfl) ?_ | refine p_own (by with_unfolding_all rfl) ?_ | refine p_app (by with_unfolding_all rfl) ?_ | refine p_putI (by with_unfolding_all rfl) ?_
  | refine p_frz (by with_unfolding_all rfl) ?_ | refine p_frzV (by with_unfolding_all rfl) ?_ | refine p_kfld (by with_unfolding_all rfl) (by with_unfolding_all rfl) ?_ | refine p_kmeth (by with_unfolding_all rfl) (by decide) ?_ | refine p_makL (by with_unfolding_all rfl) (by with_unfolding_all rfl) ?_
  | refine p_self (by with_unfolding_all rfl) (by decide) (by with_unfolding_all rfl) (by decide) ?_)
local macro_rules | `(tactic| walk_at "pq3") => `(tactic| with_reducible first
  | refine o_eqI ?_ | refine o_neI ?_ | refine o_isNon ?_ | refine o_isInt ?_ | refine o_isNotNon ?_ | refine o_isNotInt ?_ | refine p_kandT ?_ | refine p_kandF ?_ | refine p_korT ?_ | refine p_korF ?_ | refine p_nt ?_ | refine p_nf ?_)
local macro_rules | `(tactic| walk_at "pq") => `(tactic| repeat (first | walk_at "pq1" | walk_at "pq2" | walk_at "pq3"))
local macro_rules | `(tactic| walk_at "pm1") => `(tactic| with_reducible first
  | refine p_mP ?_ | refine p_mtP ?_ | refine p_mA ?_ | refine p_mnil ?_ | refine p_mcons ?_ | refine p_mcall ?_ | refine p_mexpr ?_ | refine p_mret ?_ | refine p_mset ?_ | refine p_munp ?_ | refine p_mpar ?_ | refine p_mif ?_
  | refine p_mval ?_ | refine p_kmval ?_ | refine p_mtnot ?_ | refine p_mop ?_ | refine p_mtup ?_ | refine p_mlst ?_ | refine p_mife ?_ | refine p_mnewL ?_ | refine p_knewL ?_ | refine p_lfld ?_ | refine p_cell ?_ | refine p_mapp ?_ | refine p_mpop ?_
  | refine p_msetF ?_ | refine p_mnewF ?_ | refine p_mmeth ?_ | refine p_mprop ?_ | refine p_mmake ?_ | refine p_mraised ?_ | refine p_mtold ?_ | refine p_mfz ?_ | refine p_ldget ?_ | refine p_sdget ?_ | refine p_mdput ?_ | refine p_mputI ?_)
local macro_rules | `(tactic| walk_at "pm2") => `(tactic| with_reducible first
  | refine p_push (by with_unfolding_all rfl) ?_ | refine p_give (by with_unfolding_all rfl) ?_
  | refine p_klf (by with_unfolding_all rfl) (by assumption) (by with_unfolding_all rfl) ?_ | refine p_kcell (by with_unfolding_all rfl) (by assumption) ?_ | refine p_kmmeth (by with_unfolding_all rfl) (by assumption) (by decide) ?_
  | refine p_kmprop (by with_unfolding_all rfl) (by assumption) ?_ | refine p_kmapp (by with_unfolding_all rfl) (by assumption) ?_ | refine p_putL (by with_unfolding_all rfl) (by assumption) ?_)
local macro_rules | `(tactic| walk_at "pm") => `(tactic| repeat (first | walk_at "pq1" | walk_at "pm1" | walk_at "pq2" | walk_at "pm2" | walk_at "pq3"))
def dPr (p : D × D) : D := .tup [p.1, p.2]
/-- a course in the store -/
structure CW (cs : Sto) (ac : Addr) (now : D) (dn un : List (D × D)) (k1 k2 k3 : Nat) (ad au : Addr) : Prop where
  c1 : cs[k1]? = some (ac, .ins 15 ["now", "done", "undone"] [now, .loc ad, .loc au])
  c2 : cs[k2]? = some (ad, .lst (dn.map dPr))
  c3 : cs[k3]? = some (au, .lst (un.map dPr))
  ne : k2 ≠ k3
theorem dif_il {cs : Sto} {k m : Nat} {a b : Addr} {c : Nat} {ns : List Str} {fs xs : List D} (e : cs[k]? = some (a, .ins c ns fs)) (e2 : cs[m]? = some (b, .lst xs)) : k ≠ m := sg_dif e e2 (by simp)
theorem dif_ii {cs : Sto} {k m : Nat} {a b : Addr} {c c' : Nat} {ns ns' : List Str} {fs xs : List D} (e : cs[k]? = some (a, .ins c ns fs)) (e2 : cs[m]? = some (b, .ins c' ns' xs)) (h : c ≠ c') : k ≠ m := sg_dif e e2 (by simp [h])
structure Mo where
  c : Int
  rs : List (Int × Int)
  p : Nat
  x : Int
  l : Int
structure Mo.Ok (m : Mo) : Prop where
  hv : WV m.c m.rs
  hp : m.p < m.rs.length
  x0 : 0 ≤ m.x
  x1 : m.x ≤ m.c
/-- leg by leg: the oil at each arrival, or the leg that cannot be walked and the oil there -/
def run (c : Int) (rs : List (Int × Int)) : Nat → Nat → Int → Nat → List Int → List Int ⊕ (Nat × Int)
  | 0, _, _, _, acc => .inl acc
  | n + 1, p, x, k, acc => if min c (x + (nth rs p).1) < (nth rs p).2 then .inr (k, min c (x + (nth rs p).1)) else run c rs n ((p + 1) % rs.length) (min c (x + (nth rs p).1) - (nth rs p).2) (k + 1) (acc ++ [min c (x + (nth rs p).1) - (nth rs p).2])
theorem next_p {rs : List (Int × Int)} {p : Nat} : ((p : Int) + 1).fmod (rs.length : Int) = (((p + 1) % rs.length : Nat) : Int) := by
  rw [Int.fmod_eq_emod_of_nonneg _ (by omega)]
  rfl
theorem intD_cons (a : Int) (n : Nat) : intD a (n + 1) = .int a :: intD (a + 1) n := by
  unfold intD
  rw [List.range_succ_eq_map, List.map_cons, List.map_map]
  congr 1
  · rw [show a + ((0 : Nat) : Int) = a by omega]
  · refine List.map_congr_left fun k _ => ?_
    show D.int _ = D.int _
    rw [show a + ((k + 1 : Nat) : Int) = a + 1 + (k : Int) by omega]
end Oil
namespace Oil
open PySem PySem.Spec PyProof.Rows L2
local macro_rules | `(tactic| walk_at "pq1") => `(tactic| with_reducible first
  | refine p_seq ?_ | refine p_skip ?_ | refine p_set ?_ | refine p_setO ?_ | refine p_kown ?_ | refine p_unp ?_ | refine p_put rfl ?_ | refine p_put1 ?_
  | refine p_par ?_ | refine p_pnil ?_ | refine p_pval ?_ | refine p_pown ?_ | refine p_kpown ?_ | refine p_expr ?_ | refine p_ret ?_ | refine p_retN ?_ | refine p_ifS ?_
  | refine p_for ?_ | refine p_raise ?_ | refine p_c ?_ | refine p_op ?_ | refine p_neg ?_ | refine p_kneg ?_ | refine p_chain ?_ | refine p_and ?_ | refine p_or ?_ | refine p_not ?_ | refine p_knot ?_
  | refine p_if ?_ | refine p_nil ?_ | refine p_cons ?_ | refine p_star ?_ | refine p_kstarT ?_ | refine p_kstarL ?_ | refine p_tup ?_ | refine p_lst ?_ | refine p_call ?_ | refine p_cb ?_ | refine p_val ?_ | refine p_kval ?_
  | refine p_ttru ?_ | refine p_ktruN ?_ | refine p_ktruB ?_ | refine p_ktruI ?_ | refine p_ktruL ?_ | refine p_ktruT ?_ | refine p_tnot ?_ | refine p_tand ?_ | refine p_tor ?_
  | refine p_nopart ?_ | refine p_part ?_ | refine p_kpart ?_ | refine p_slice ?_ | refine p_ksliceL ?_ | refine p_ksliceT ?_ | refine p_fld ?_ | refine p_meth ?_ | refine p_clo ?_ | refine p_kclo rfl ?_ | refine p_prop ?_ | refine p_kprop rfl ?_
  | refine p_inv ?_ | refine p_kinv rfl ?_ | refine p_lenO ?_ | refine p_klenO rfl ?_ | refine p_get ?_ | refine p_kget rfl ?_ | refine p_cmeth ?_ | refine p_kcmeth rfl ?_ | refine p_opC ?_ | refine p_kopC rfl rfl ?_ | refine p_opF ?_ | refine p_kopF rfl rfl ?_
  | refine p_eqO ?_ | refine p_keqO rfl rfl ?_ | refine p_iter ?_ | refine p_kiterL ?_ | refine p_kiterT ?_ | refine p_rg1 ?_ | refine p_rg2 ?_ | refine p_enum ?_ | refine p_kenum ?_ | refine p_lc ?_ | refine p_yes ?_
  | refine p_tt ?_ | refine p_ff ?_
  | refine o_add ?_ | refine o_sub ?_ | refine o_lt ?_ | refine o_le ?_ | refine o_gt ?_ | refine o_ge ?_
  | refine b_lenL ?_ | refine b_lenT ?_ | refine b_int ?_ | refine b_tupL ?_ | refine b_tupT ?_ | refine b_listL ?_ | refine b_listT ?_ | refine b_max2 ?_ | refine b_min2 ?_)
local macro_rules | `(tactic| walk_at "pq2") => `(tactic| with_reducible first
  | refine p_name (by with_unfolding_all rfl) ?_ | refine p_ownV (by with_unfolding_all rfl) ?_ | refine p_own (by with_unfolding_all rfl) ?_ | refine p_app (by with_unfolding_all rfl) ?_ | refine p_putI (by with_unfolding_all rfl) ?_
  | refine p_frz (by with_unfolding_all rfl) ?_ | refine p_frzV (by with_unfolding_all rfl) ?_ | refine p_kfld (by with_unfolding_all rfl) (by with_unfolding_all rfl) ?_ | refine p_kmeth (by with_unfolding_all rfl) (by decide) ?_ | refine p_makL (by with_unfolding_all rfl) (by with_unfolding_all rfl) ?_
  | refine p_self (by with_unfolding_all rfl) (by decide) (by with_unfolding_all rfl) (by decide) ?_)
local macro_rules | `(tactic| walk_at "pq3") => `(tactic| with_reducible first
  | refine o_eqI ?_ | refine o_neI ?_ | refine o_isNon ?_ | refine o_isInt ?_ | refine o_isNotNon ?_ | refine o_isNotInt ?_ | refine p_kandT ?_ | refine p_kandF ?_ | refine p_korT ?_ | refine p_korF ?_ | refine p_nt ?_ | refine p_nf ?_)
local macro_rules | `(tactic| walk_at "pq") => `(tactic| repeat (first | walk_at "pq1" | walk_at "pq2" | walk_at "pq3"))
local macro_rules | `(tactic| walk_at "pm1") => `(tactic| with_reducible first
  | refine p_mP ?_ | refine p_mtP ?_ | refine p_mA ?_ | refine p_mnil ?_ | refine p_mcons ?_ | refine p_mcall ?_ | refine p_mexpr ?_ | refine p_mret ?_ | refine p_mset ?_ | refine p_munp ?_ | refine p_mpar ?_ | refine p_mif ?_
  | refine p_mval ?_ | refine p_kmval ?_ | refine p_mtnot ?_ | refine p_mop ?_ | refine p_mtup ?_ | refine p_mlst ?_ | refine p_mife ?_ | refine p_mnewL ?_ | refine p_knewL ?_ | refine p_lfld ?_ | refine p_cell ?_ | refine p_mapp ?_ | refine p_mpop ?_
  | refine p_msetF ?_ | refine p_mnewF ?_ | refine p_mmeth ?_ | refine p_mprop ?_ | refine p_mmake ?_ | refine p_mraised ?_ | refine p_mtold ?_ | refine p_mfz ?_ | refine p_ldget ?_ | refine p_sdget ?_ | refine p_mdput ?_ | refine p_mputI ?_)
local macro_rules | `(tactic| walk_at "pm2") => `(tactic| with_reducible first
  | refine p_push (by with_unfolding_all rfl) ?_ | refine p_give (by with_unfolding_all rfl) ?_
  | refine p_klf (by with_unfolding_all rfl) (by assumption) (by with_unfolding_all rfl) ?_ | refine p_kcell (by with_unfolding_all rfl) (by assumption) ?_ | refine p_kmmeth (by with_unfolding_all rfl) (by assumption) (by decide) ?_
  | refine p_kmprop (by with_unfolding_all rfl) (by assumption) ?_ | refine p_kmapp (by with_unfolding_all rfl) (by assumption) ?_ | refine p_putL (by with_unfolding_all rfl) (by assumption) ?_)
local macro_rules | `(tactic| walk_at "pm") => `(tactic| repeat (first | walk_at "pq1" | walk_at "pm1" | walk_at "pq2" | walk_at "pm2" | walk_at "pq3"))
structure LW (cs : Sto) (a : Addr) (now kp : D) (dn un : List (D × D)) (k0 k1 k2 k3 : Nat) (ac ad au : Addr) : Prop where
  c0 : cs[k0]? = some (a, .ins 16 ["_course", "_kept"] [.loc ac, kp])
  w : CW cs ac now dn un k1 k2 k3 ad au
theorem LW.mv {cs cs' : Sto} {a ac ad au au' : Addr} {now now' kp : D} {dn un dn' un' : List (D × D)} {k0 k1 k2 k3 k3' : Nat} (H : LW cs a now kp dn un k0 k1 k2 k3 ac ad au) (w : CW cs' ac now' dn' un' k1 k2 k3' ad au') (kp' : Kp cs cs' [k1, k2, k3]) : LW cs' a now' kp dn' un' k0 k1 k2 k3' ac ad au' := by
  refine ⟨kp' _ _ H.c0 fun z => ?_, w⟩
  have h1 := dif_ii H.c0 H.w.c1 (by decide)
  have h2 := dif_il H.c0 H.w.c2
  have h3 := dif_il H.c0 H.w.c3
  simp only [List.mem_cons, List.not_mem_nil, or_false] at z
  omega
end Oil
namespace Oil
open PySem PySem.Spec PyProof.Rows L2
local macro_rules | `(tactic| walk_at "pq1") => `(tactic| with_reducible first
  | refine p_seq ?_ | refine p_skip ?_ | refine p_set ?_ | refine p_setO ?_ | refine p_kown ?_ | refine p_unp ?_ | refine p_put rfl ?_ | refine p_put1 ?_
  | refine p_par ?_ | refine p_pnil ?_ | refine p_pval ?_ | refine p_pown ?_ | refine p_kpown ?_ | refine p_expr ?_ | refine p_ret ?_ | refine p_retN ?_ | refine p_ifS ?_
  | refine p_for ?_ | refine p_raise ?_ | refine p_c ?_ | refine p_op ?_ | refine p_neg ?_ | refine p_kneg ?_ | refine p_chain ?_ | refine p_and ?_ | refine p_or ?_ | refine p_not ?_ | refine p_knot ?_
  | refine p_if ?_ | refine p_nil ?_ | refine p_cons ?_ | refine p_star ?_ | refine p_kstarT ?_ | refine p_kstarL ?_ | refine p_tup ?_ | refine p_lst ?_ | refine p_call ?_ | refine p_cb ?_ | refine p_val ?_ | refine p_kval ?_
  | refine p_ttru ?_ | refine p_ktruN ?_ | refine p_ktruB ?_ | refine p_ktruI ?_ | refine p_ktruL ?_ | refine p_ktruT ?_ | refine p_tnot ?_ | refine p_tand ?_ | refine p_tor ?_
  | refine p_nopart ?_ | refine p_part ?_ | refine p_kpart ?_ | refine p_slice ?_ | refine p_ksliceL ?_ | refine p_ksliceT ?_ | refine p_fld ?_ | refine p_meth ?_ | refine p_clo ?_ | refine p_kclo rfl ?_ | refine p_prop ?_ | refine p_kprop rfl ?_
  | refine p_inv ?_ | refine p_kinv rfl ?_ | refine p_lenO ?_ | refine p_klenO rfl ?_ | refine p_get ?_ | refine p_kget rfl ?_ | refine p_cmeth ?_ | refine p_kcmeth rfl ?_ | refine p_opC ?_ | refine p_kopC rfl rfl ?_ | refine p_opF ?_ | refine p_kopF rfl rfl ?_
  | refine p_eqO ?_ | refine p_keqO rfl rfl ?_ | refine p_iter ?_ | refine p_kiterL ?_ | refine p_kiterT ?_ | refine p_rg1 ?_ | refine p_rg2 ?_ | refine p_enum ?_ | refine p_kenum ?_ | refine p_lc ?_ | refine p_yes ?_
  | refine p_tt ?_ | refine p_ff ?_
  | refine o_add ?_ | refine o_sub ?_ | refine o_lt ?_ | refine o_le ?_ | refine o_gt ?_ | refine o_ge ?_
  | refine b_lenL ?_ | refine b_lenT ?_ | refine b_int ?_ | refine b_tupL ?_ | refine b_tupT ?_ | refine b_listL ?_ | refine b_listT ?_ | refine b_max2 ?_ | refine b_min2 ?_)
local macro_rules | `(tactic| walk_at "pq2") => `(tactic| with_reducible first
  | refine p_name (by with_unfolding_all rfl) ?_ | refine p_ownV (by with_unfolding_all rfl) ?_ | refine p_own (by with_unfolding_all rfl) ?_ | refine p_app (by with_unfolding_all rfl) ?_ | refine p_putI (by with_unfolding_all rfl) ?_
  | refine p_frz (by with_unfolding_all rfl) ?_ | refine p_frzV (by with_unfolding_all rfl) ?_ | refine p_kfld (by with_unfolding_all rfl) (by with_unfolding_all rfl) ?_ | refine p_kmeth (by with_unfolding_all rfl) (by decide) ?_ | refine p_makL (by with_unfolding_all rfl) (by with_unfolding_all rfl) ?_
  | refine p_self (by with_unfolding_all rfl) (by decide) (by with_unfolding_all rfl) (by decide) ?_)
local macro_rules | `(tactic| walk_at "pq3") => `(tactic| with_reducible first
  | refine o_eqI ?_ | refine o_neI ?_ | refine o_isNon ?_ | refine o_isInt ?_ | refine o_isNotNon ?_ | refine o_isNotInt ?_ | refine p_kandT ?_ | refine p_kandF ?_ | refine p_korT ?_ | refine p_korF ?_ | refine p_nt ?_ | refine p_nf ?_)
local macro_rules | `(tactic| walk_at "pq") => `(tactic| repeat (first | walk_at "pq1" | walk_at "pq2" | walk_at "pq3"))
local macro_rules | `(tactic| walk_at "pm1") => `(tactic| with_reducible first
  | refine p_mP ?_ | refine p_mtP ?_ | refine p_mA ?_ | refine p_mnil ?_ | refine p_mcons ?_ | refine p_mcall ?_ | refine p_mexpr ?_ | refine p_mret ?_ | refine p_mset ?_ | refine p_munp ?_ | refine p_mpar ?_ | refine p_mif ?_
  | refine p_mval ?_ | refine p_kmval ?_ | refine p_mtnot ?_ | refine p_mop ?_ | refine p_mtup ?_ | refine p_mlst ?_ | refine p_mife ?_ | refine p_mnewL ?_ | refine p_knewL ?_ | refine p_lfld ?_ | refine p_cell ?_ | refine p_mapp ?_ | refine p_mpop ?_
  | refine p_msetF ?_ | refine p_mnewF ?_ | refine p_mmeth ?_ | refine p_mprop ?_ | refine p_mmake ?_ | refine p_mraised ?_ | refine p_mtold ?_ | refine p_mfz ?_ | refine p_ldget ?_ | refine p_sdget ?_ | refine p_mdput ?_ | refine p_mputI ?_)
local macro_rules | `(tactic| walk_at "pm2") => `(tactic| with_reducible first
  | refine p_push (by with_unfolding_all rfl) ?_ | refine p_give (by with_unfolding_all rfl) ?_
  | refine p_klf (by with_unfolding_all rfl) (by assumption) (by with_unfolding_all rfl) ?_ | refine p_kcell (by with_unfolding_all rfl) (by assumption) ?_ | refine p_kmmeth (by with_unfolding_all rfl) (by assumption) (by decide) ?_
  | refine p_kmprop (by with_unfolding_all rfl) (by assumption) ?_ | refine p_kmapp (by with_unfolding_all rfl) (by assumption) ?_ | refine p_putL (by with_unfolding_all rfl) (by assumption) ?_)
local macro_rules | `(tactic| walk_at "pm") => `(tactic| repeat (first | walk_at "pq1" | walk_at "pm1" | walk_at "pq2" | walk_at "pm2" | walk_at "pq3"))
end Oil
namespace Oil
open PySem PySem.Spec PyProof.Rows L2
local macro_rules | `(tactic| walk_at "pq1") => `(tactic| with_reducible first
  | refine p_seq ?_ | refine p_skip ?_ | refine p_set ?_ | refine p_setO ?_ | refine p_kown ?_ | refine p_unp ?_ | refine p_put rfl ?_ | refine p_put1 ?_
  | refine p_par ?_ | refine p_pnil ?_ | refine p_pval ?_ | refine p_pown ?_ | refine p_kpown ?_ | refine p_expr ?_ | refine p_ret ?_ | refine p_retN ?_ | refine p_ifS ?_
  | refine p_for ?_ | refine p_raise ?_ | refine p_c ?_ | refine p_op ?_ | refine p_neg ?_ | refine p_kneg ?_ | refine p_chain ?_ | refine p_and ?_ | refine p_or ?_ | refine p_not ?_ | refine p_knot ?_
  | refine p_if ?_ | refine p_nil ?_ | refine p_cons ?_ | refine p_star ?_ | refine p_kstarT ?_ | refine p_kstarL ?_ | refine p_tup ?_ | refine p_lst ?_ | refine p_call ?_ | refine p_cb ?_ | refine p_val ?_ | refine p_kval ?_
  | refine p_ttru ?_ | refine p_ktruN ?_ | refine p_ktruB ?_ | refine p_ktruI ?_ | refine p_ktruL ?_ | refine p_ktruT ?_ | refine p_tnot ?_ | refine p_tand ?_ | refine p_tor ?_
  | refine p_nopart ?_ | refine p_part ?_ | refine p_kpart ?_ | refine p_slice ?_ | refine p_ksliceL ?_ | refine p_ksliceT ?_ | refine p_fld ?_ | refine p_meth ?_ | refine p_clo ?_ | refine p_kclo rfl ?_ | refine p_prop ?_ | refine p_kprop rfl ?_
  | refine p_inv ?_ | refine p_kinv rfl ?_ | refine p_lenO ?_ | refine p_klenO rfl ?_ | refine p_get ?_ | refine p_kget rfl ?_ | refine p_cmeth ?_ | refine p_kcmeth rfl ?_ | refine p_opC ?_ | refine p_kopC rfl rfl ?_ | refine p_opF ?_ | refine p_kopF rfl rfl ?_
  | refine p_eqO ?_ | refine p_keqO rfl rfl ?_ | refine p_iter ?_ | refine p_kiterL ?_ | refine p_kiterT ?_ | refine p_rg1 ?_ | refine p_rg2 ?_ | refine p_enum ?_ | refine p_kenum ?_ | refine p_lc ?_ | refine p_yes ?_
  | refine p_tt ?_ | refine p_ff ?_
  | refine o_add ?_ | refine o_sub ?_ | refine o_lt ?_ | refine o_le ?_ | refine o_gt ?_ | refine o_ge ?_
  | refine b_lenL ?_ | refine b_lenT ?_ | refine b_int ?_ | refine b_tupL ?_ | refine b_tupT ?_ | refine b_listL ?_ | refine b_listT ?_ | refine b_max2 ?_ | refine b_min2 ?_)
local macro_rules | `(tactic| walk_at "pq2") => `(tactic| with_reducible first
  | refine p_name (by with_unfolding_all rfl) ?_ | refine p_ownV (by with_unfolding_all rfl) ?_ | refine p_own (by with_unfolding_all rfl) ?_ | refine p_app (by with_unfolding_all rfl) ?_ | refine p_putI (by with_unfolding_all rfl) ?_
  | refine p_frz (by with_unfolding_all rfl) ?_ | refine p_frzV (by with_unfolding_all rfl) ?_ | refine p_kfld (by with_unfolding_all rfl) (by with_unfolding_all rfl) ?_ | refine p_kmeth (by with_unfolding_all rfl) (by decide) ?_ | refine p_makL (by with_unfolding_all rfl) (by with_unfolding_all rfl) ?_
  | refine p_self (by with_unfolding_all rfl) (by decide) (by with_unfolding_all rfl) (by decide) ?_)
local macro_rules | `(tactic| walk_at "pq3") => `(tactic| with_reducible first
  | refine o_eqI ?_ | refine o_neI ?_ | refine o_isNon ?_ | refine o_isInt ?_ | refine o_isNotNon ?_ | refine o_isNotInt ?_ | refine p_kandT ?_ | refine p_kandF ?_ | refine p_korT ?_ | refine p_korF ?_ | refine p_nt ?_ | refine p_nf ?_)
local macro_rules | `(tactic| walk_at "pq") => `(tactic| repeat (first | walk_at "pq1" | walk_at "pq2" | walk_at "pq3"))
local macro_rules | `(tactic| walk_at "pm1") => `(tactic| with_reducible first
  | refine p_mP ?_ | refine p_mtP ?_ | refine p_mA ?_ | refine p_mnil ?_ | refine p_mcons ?_ | refine p_mcall ?_ | refine p_mexpr ?_ | refine p_mret ?_ | refine p_mset ?_ | refine p_munp ?_ | refine p_mpar ?_ | refine p_mif ?_
  | refine p_mval ?_ | refine p_kmval ?_ | refine p_mtnot ?_ | refine p_mop ?_ | refine p_mtup ?_ | refine p_mlst ?_ | refine p_mife ?_ | refine p_mnewL ?_ | refine p_knewL ?_ | refine p_lfld ?_ | refine p_cell ?_ | refine p_mapp ?_ | refine p_mpop ?_
  | refine p_msetF ?_ | refine p_mnewF ?_ | refine p_mmeth ?_ | refine p_mprop ?_ | refine p_mmake ?_ | refine p_mraised ?_ | refine p_mtold ?_ | refine p_mfz ?_ | refine p_ldget ?_ | refine p_sdget ?_ | refine p_mdput ?_ | refine p_mputI ?_)
local macro_rules | `(tactic| walk_at "pm2") => `(tactic| with_reducible first
  | refine p_push (by with_unfolding_all rfl) ?_ | refine p_give (by with_unfolding_all rfl) ?_
  | refine p_klf (by with_unfolding_all rfl) (by assumption) (by with_unfolding_all rfl) ?_ | refine p_kcell (by with_unfolding_all rfl) (by assumption) ?_ | refine p_kmmeth (by with_unfolding_all rfl) (by assumption) (by decide) ?_
  | refine p_kmprop (by with_unfolding_all rfl) (by assumption) ?_ | refine p_kmapp (by with_unfolding_all rfl) (by assumption) ?_ | refine p_putL (by with_unfolding_all rfl) (by assumption) ?_)
local macro_rules | `(tactic| walk_at "pm") => `(tactic| repeat (first | walk_at "pq1" | walk_at "pm1" | walk_at "pq2" | walk_at "pm2" | walk_at "pq3"))
inductive Deed where
  | walk (n : Nat) | spill (o : Int) | refill (p : Nat) (o : Int) | trade (c : Int)
def dD : Deed → D
  | .walk n => .tup [.str "walk", .int (n : Int)]
  | .spill o => .tup [.str "spill", .int o]
  | .refill p o => .tup [.str "refill", .int (p : Int), .int o]
  | .trade c => .tup [.str "trade", .int c]
def Deed.Ok (m : Mo) : Deed → Prop
  | .walk n => n ≤ 1000
  | .spill o => 0 ≤ o ∧ o ≤ m.x
  | .refill p o => p < m.rs.length ∧ 0 ≤ o ∧ o ≤ 1000000000
  | .trade c => 1 ≤ c ∧ c ≤ 1000000000
def b_wlkd : WS := (wSeq (wUnp (.tp [9, 10]) (wOp oIx (wName 1) (wName 6)))
    (wSeq (wSet 7 (wCB bMin2 (wCons (wName 0) (wCons (wOp oAdd (wName 7) (wName 9)) wNil))))
    (wSeq (wIfS (wtVal (wOp oLt (wName 7) (wName 10)))
    (wFrz 5 (wRet (wTup (wCons (wName 5) (wCons (wTup (wCons (wName 8) (wCons (wName 7) wNil))) wNil)))))
    wSkip)
    (wSeq (wParN (wpVal 7 (wOp oSub (wName 7) (wName 10)) (wpVal 6 (wOp oMod (wCB bInt (wCons (wOp oAdd (wName 6) (wC (.int 1))) wNil)) (wCB bLen (wCons (wName 1) wNil))) wpNil)))
    (wApp 5 (wName 7))))))
theorem wlkd_go (K : KN) (c : Int) (rs : List (Int × Int)) (l2 : rs.length ≤ 12) (d2 d3 d4 : Sl) : ∀ (n p : Nat) (x : Int) (k : Nat) (acc : List Int) (e8 e9 e10 : Sl), p < rs.length → acc.length ≤ k → k + n ≤ 1000 →
    (∀ L e6 e7 e8 e9 e10, run c rs n p x k acc = .inl L → K.nx [.val (.int c), .val (.lst (rs.map dP)), d2, d3, d4, .own (L.map .int), e6, e7, e8, e9, e10]) →
    (∀ k' t (L : List Int) env, run c rs n p x k acc = .inr (k', t) → K.rt (.tup [.lst (L.map .int), .tup [.int ((k' : Nat) : Int), .int t]]) env) →
    wForGo (.nm 8) b_wlkd K (intD (k : Int) n) [.val (.int c), .val (.lst (rs.map dP)), d2, d3, d4, .own (acc.map .int), .val (.int (p : Int)), .val (.int x), e8, e9, e10]
  | 0, p, x, k, acc, e8, e9, e10, hp, ha, hk, hn, he => hn acc _ _ _ _ _ rfl
  | n + 1, p, x, k, acc, e8, e9, e10, hp, ha, hk, hn, he => by
    rw [intD_cons]
    refine p_put1 ?_
    dsimp only [List.set]
    unfold b_wlkd
    walk_at "pq"
    refine o_ixL (k := p) (x := dP (nth rs p)) (ixD_nat (by rw [List.length_map]; exact hp)) (by rw [nth_lt hp, List.getElem?_map, List.getElem?_eq_getElem hp]; rfl) ?_
    unfold dP
    refine p_put rfl ?_
    dsimp only [List.set, setMany]
    walk_at "pq"
    dsimp only [List.set]
    refine p_dec (fun z => ?_) (fun z => ?_)
    · walk_at "pq"
      refine ⟨by show 2 ≤ LIM; decide, ?_⟩
      walk_at "pq"
      refine ⟨by show 2 ≤ LIM; decide, ?_⟩
      exact he k _ acc _ (by unfold run; rw [if_pos z])
    · walk_at "pq"
      refine o_mod (by rw [List.length_map]; omega) ?_
      walk_at "pq"
      refine ⟨by rw [List.length_map]; unfold LIM; omega, ?_⟩
      dsimp only [List.set]
      rw [List.length_map, next_p]
      have e : acc.map D.int ++ [.int (min c (x + (nth rs p).1) - (nth rs p).2)] = (acc ++ [min c (x + (nth rs p).1) - (nth rs p).2]).map .int := by rw [List.map_append]; rfl
      rw [e]
      have r : run c rs (n + 1) p x k acc = run c rs n ((p + 1) % rs.length) (min c (x + (nth rs p).1) - (nth rs p).2) (k + 1) (acc ++ [min c (x + (nth rs p).1) - (nth rs p).2]) := by
        conv => lhs; unfold run
        rw [if_neg z]
      exact wlkd_go K c rs l2 d2 d3 d4 n _ _ (k + 1) _ _ _ _ (Nat.mod_lt _ (by omega)) (by simp; omega) (by omega) (fun L e6 e7 e8 e9 e10 q => hn L _ _ _ _ _ (by rw [r]; exact q)) (fun k' t L env q => he k' t L env (by rw [r]; exact q))
theorem n_law_walked {c x : Int} {rs : List (Int × Int)} {p n : Nat} {Q : QD} {E : QR} (hp : p < rs.length) (l2 : rs.length ≤ 12) (hn : n ≤ 1000) (h : ∀ L, run c rs n p x 0 [] = .inl L → Q (.tup [.lst (L.map .int), .non])) (he : ∀ k t (L : List Int), run c rs n p x 0 [] = .inr (k, t) → Q (.tup [.lst (L.map .int), .tup [.int ((k : Nat) : Int), .int t]])) : S_law_walked [.int c, .lst (rs.map dP), .int (p : Int), .int x, .int (n : Int)] Q E := by
  refine ⟨rfl, ?_⟩
  show b_law_walked [.val (.int c), .val (.lst (rs.map dP)), .val (.int (p : Int)), .val (.int x), .val (.int (n : Int)), .un, .un, .un, .un, .un, .un] _
  unfold b_law_walked
  walk_at "pq"
  refine ⟨by show 0 ≤ LIM; decide, ?_⟩
  walk_at "pq"
  dsimp only [List.set]
  walk_at "pq"
  refine p_krg1 (by omega) ?_
  rw [Int.toNat_natCast]
  refine wlkd_go _ c rs l2 _ _ _ n p x 0 [] _ _ _ hp (Nat.le_refl _) (by omega) (fun L e6 e7 e8 e9 e10 q => ?_) (fun k t L env q => he k t L q)
  walk_at "pq"
  refine ⟨by show 2 ≤ LIM; decide, ?_⟩
  exact h L q
theorem o_eqS {s t : Str} {b : Bool} {Q : QD} (e : PyData.eqv (.str s) (.str t) = b) (h : Q (.bl b)) (hs : SeqAt.shaped (.str s) = true := by decide +kernel) (ht : SeqAt.shaped (.str t) = true := by decide +kernel) : oEq (.str s) (.str t) Q := ⟨.str s, .str t, rfl, rfl, hs, ht, by rw [e]; exact h⟩
end Oil
namespace Oil
open PySem PySem.Spec PyProof.Rows L2 TL
local macro_rules | `(tactic| walk_at "pq1") => `(tactic| with_reducible first
  | refine p_seq ?_ | refine p_skip ?_ | refine p_set ?_ | refine p_setO ?_ | refine p_kown ?_ | refine p_unp ?_ | refine p_put rfl ?_ | refine p_put1 ?_
  | refine p_par ?_ | refine p_pnil ?_ | refine p_pval ?_ | refine p_pown ?_ | refine p_kpown ?_ | refine p_expr ?_ | refine p_ret ?_ | refine p_retN ?_ | refine p_ifS ?_
  | refine p_for ?_ | refine p_raise ?_ | refine p_c ?_ | refine p_op ?_ | refine p_neg ?_ | refine p_kneg ?_ | refine p_chain ?_ | refine p_and ?_ | refine p_or ?_ | refine p_not ?_ | refine p_knot ?_
  | refine p_if ?_ | refine p_nil ?_ | refine p_cons ?_ | refine p_star ?_ | refine p_kstarT ?_ | refine p_kstarL ?_ | refine p_tup ?_ | refine p_lst ?_ | refine p_call ?_ | refine p_cb ?_ | refine p_val ?_ | refine p_kval ?_
  | refine p_ttru ?_ | refine p_ktruN ?_ | refine p_ktruB ?_ | refine p_ktruI ?_ | refine p_ktruL ?_ | refine p_ktruT ?_ | refine p_tnot ?_ | refine p_tand ?_ | refine p_tor ?_
  | refine p_nopart ?_ | refine p_part ?_ | refine p_kpart ?_ | refine p_slice ?_ | refine p_ksliceL ?_ | refine p_ksliceT ?_ | refine p_fld ?_ | refine p_meth ?_ | refine p_clo ?_ | refine p_kclo rfl ?_ | refine p_prop ?_ | refine p_kprop rfl ?_
  | refine p_inv ?_ | refine p_kinv rfl ?_ | refine p_lenO ?_ | refine p_klenO rfl ?_ | refine p_get ?_ | refine p_kget rfl ?_ | refine p_cmeth ?_ | refine p_kcmeth rfl ?_ | refine p_opC ?_ | refine p_kopC rfl rfl ?_ | refine p_opF ?_ | refine p_kopF rfl rfl ?_
  | refine p_eqO ?_ | refine p_keqO rfl rfl ?_ | refine p_iter ?_ | refine p_kiterL ?_ | refine p_kiterT ?_ | refine p_rg1 ?_ | refine p_rg2 ?_ | refine p_enum ?_ | refine p_kenum ?_ | refine p_lc ?_ | refine p_yes ?_
  | refine p_tt ?_ | refine p_ff ?_
  | refine o_add ?_ | refine o_sub ?_ | refine o_lt ?_ | refine o_le ?_ | refine o_gt ?_ | refine o_ge ?_
  | refine b_lenL ?_ | refine b_lenT ?_ | refine b_int ?_ | refine b_tupL ?_ | refine b_tupT ?_ | refine b_listL ?_ | refine b_listT ?_ | refine b_max2 ?_ | refine b_min2 ?_)
local macro_rules | `(tactic| walk_at "pq2") => `(tactic| with_reducible first
  | refine p_name (by with_unfolding_all rfl) ?_ | refine p_ownV (by with_unfolding_all rfl) ?_ | refine p_own (by with_unfolding_all rfl) ?_ | refine p_app (by with_unfolding_all rfl) ?_ | refine p_putI (by with_unfolding_all rfl) ?_
  | refine p_frz (by with_unfolding_all rfl) ?_ | refine p_frzV (by with_unfolding_all rfl) ?_ | refine p_kfld (by with_unfolding_all rfl) (by with_unfolding_all rfl) ?_ | refine p_kmeth (by with_unfolding_all rfl) (by decide) ?_ | refine p_makL (by with_unfolding_all rfl) (by with_unfolding_all rfl) ?_
  | refine p_self (by with_unfolding_all rfl) (by decide) (by with_unfolding_all rfl) (by decide) ?_)
local macro_rules | `(tactic| walk_at "pq3") => `(tactic| with_reducible first
  | refine o_eqI ?_ | refine o_neI ?_ | refine o_isNon ?_ | refine o_isInt ?_ | refine o_isNotNon ?_ | refine o_isNotInt ?_ | refine p_kandT ?_ | refine p_kandF ?_ | refine p_korT ?_ | refine p_korF ?_ | refine p_nt ?_ | refine p_nf ?_)
local macro_rules | `(tactic| walk_at "pq") => `(tactic| repeat (first | walk_at "pq1" | walk_at "pq2" | walk_at "pq3"))
local macro_rules | `(tactic| walk_at "pt1") => `(tactic| with_reducible first
  | refine p_m0 ?_ | refine p_km0 ?_ | refine p_sw ?_ | refine p_ksw ?_ | refine p_toB ?_ | refine p_fromB ?_ | refine p_kfromB ?_ | refine p_js ?_ | refine p_jc ?_ | refine p_jn ?_ | refine p_fmt ?_ | refine p_fmts ?_
  | refine p_join ?_ | refine p_kjoin ?_ | refine p_int1 ?_ | refine p_kint1 ?_ | refine p_str1 ?_ | refine p_kstr1 ?_ | refine p_split ?_ | refine p_sliceS ?_ | refine p_ixB ?_ | refine p_listB ?_ | refine p_iterT ?_ | refine p_iterB ?_
  | refine p_kiterTx ?_ | refine p_kiterB ?_ | refine p_enumK ?_ | refine p_brk ?_ | refine p_cnt ?_ | refine b_isiB ?_)
local macro_rules | `(tactic| walk_at "pt") => `(tactic| repeat (first | walk_at "pq1" | walk_at "pq2" | walk_at "pt1" | walk_at "pq3"))
local macro_rules | `(tactic| walk_at "tlen") => `(tactic| (simp only [len_app, empty_len, empty_app, len_l0, len_l1, len_l2, len_l3, len_l4, len_l5, len_l6, len_l7, len_l8, len_l9, len_l10, len_l11, len_l12]; unfold LIM; omega))
section
variable {Q : QD} {E : QR} {c x : Int} {rs : List (Int × Int)} {i : Nat}
theorem sum_leN {k : Nat} : ∀ {l : List Nat}, (∀ x ∈ l, x ≤ k) → l.sum ≤ l.length * k
  | [], _ => Nat.zero_le _
  | x :: l, h => by
    have := sum_leN (l := l) fun y hy => h y (by simp [hy])
    have := h x (by simp)
    rw [List.sum_cons, List.length_cons, Nat.succ_mul]
    omega
theorem lens_le {ss : List Str} (h : ∀ s ∈ ss, s.length ≤ 40) : (ss.map (·.length)).sum ≤ ss.length * 40 := by
  have := sum_leN (l := ss.map (·.length)) (k := 40) (by simpa using h)
  rwa [List.length_map] at this
def rowP (r : Int × Int) : Str := "post " ++ nS r.1 ++ " " ++ nS r.2
def rowL (c : Int) : Str := "lantern " ++ nS c
def fmtW (c : Int) (rs : List (Int × Int)) : Str := Txt.join "\n" (rowL c :: rs.map rowP)
theorem rowP_len {r : Int × Int} (h : PV r) : (rowP r).length ≤ 40 := by
  have a := nS_le h.1.1 (by have := h.1.2; omega)
  have b := nS_le (n := r.2) (by have := h.2.1; omega) (by have := h.2.2; omega)
  unfold rowP
  rw [len_app, len_app, len_app]
  have e1 : (("post " : String) : Str).length = 5 := rfl
  have e2 : ((" " : String) : Str).length = 1 := rfl
  omega
theorem rowL_len {c : Int} (h : 1 ≤ c) (h1 : c ≤ 1000000000) : (rowL c).length ≤ 40 := by
  have a := nS_le (n := c) (by omega) (by omega)
  unfold rowL
  rw [len_app]
  rw [len_l1]
  omega
theorem rows_le (hv : WV c rs) : ∀ s ∈ rowL c :: rs.map rowP, s.length ≤ 40 := by
  intro s hs
  rcases List.mem_cons.mp hs with rfl | hs
  · exact rowL_len hv.c1 hv.c2
  · obtain ⟨r, hr, rfl⟩ := List.mem_map.mp hs
    exact rowP_len (hv.pv r hr)
theorem n_format_way (hv : WV c rs) (h : Q (.str (fmtW c rs))) : S_format_way [dW c rs] Q E := by
  refine ⟨rfl, ?_⟩
  show b_format_way [.val (dW c rs), .un, .un, .un] _
  unfold b_format_way
  walk_at "pt"
  refine ⟨rfl, n_posts ?_⟩
  walk_at "pt"
  refine ⟨by rw [List.length_map]; have := hv.l2; unfold LIM; omega, ?_⟩
  refine lc_mapT dP (fun r => .str (rowP r)) rs [] ?_ ?_
  · intro r hr A hA
    have p := hv.pv r hr
    have a := nS_le p.1.1 (by have := p.1.2; omega)
    have b := nS_le (n := r.2) (by have := p.2.1; omega) (by have := p.2.2; omega)
    refine p_put rfl ?_
    dsimp only [wipeE, List.set, setMany]
    walk_at "pt"
    refine p_kjs (by walk_at "tlen") ?_
    walk_at "pt"
    refine p_kfmtI p.1.1 (by have := p.1.2; omega) (p_kjs (by walk_at "tlen") ?_)
    walk_at "pt"
    refine p_kjs (by walk_at "tlen") ?_
    walk_at "pt"
    refine p_kfmtI (by have := p.2.1; omega) (by have := p.2.2; omega) (p_kjs (by walk_at "tlen") ?_)
    walk_at "pt"
    rw [empty_app]
    exact hA
  rw [List.nil_append]
  walk_at "pt"
  refine p_kjs (by walk_at "tlen") ?_
  walk_at "pt"
  refine ⟨rfl, n_capacity ?_⟩
  have c1 := hv.c1
  have c2 := hv.c2
  have l2 := hv.l2
  have a := nS_le (n := c) (by omega) (by omega)
  refine p_kfmtI (by omega) (by omega) (p_kjs (by walk_at "tlen") ?_)
  walk_at "pt"
  rw [empty_app]
  walk_at "pt"
  refine ⟨by show 1 ≤ LIM; decide, ?_⟩
  walk_at "pt"
  have e : [D.str (rowL c)] ++ rs.map (fun r => D.str (rowP r)) = (rowL c :: rs.map rowP).map .str := by rw [List.map_cons, List.map_map]; rfl
  refine ⟨by rw [List.length_map]; unfold LIM; simp; omega, ?_⟩
  show kJoin2 _ _ (.lst ([D.str (rowL c)] ++ _))
  rw [e]
  refine p_kjoin2 (strsOf_map _) ?_ h
  have := lens_le (rows_le hv)
  rw [len_l5]
  simp only [List.length_cons, List.length_map] at this ⊢
  unfold LIM
  omega
theorem eqv_str (s t : Str) : PyData.eqv (.str s) (.str t) = (s == t) := rfl
theorem o_eqT {s t : Str} (hs : Asc s) (ht : Asc t) (h : Q (.bl (s == t))) : oEq (.str s) (.str t) Q := o_eqS (eqv_str s t) h hs.shaped ht.shaped
theorem o_neT {s t : Str} (hs : Asc s) (ht : Asc t) (h : Q (.bl !(s == t))) : oNe (.str s) (.str t) Q := ⟨.str s, .str t, rfl, rfl, hs.shaped, ht.shaped, by rw [eqv_str]; exact h⟩
theorem asc_0 : Asc "0" := by unfold Asc; decide +kernel
theorem n_is_number_word {n : Nat} (hn : n < 10000000000) (h : Q (.bl true)) : S_is_number_word [.str (nS (n : Int))] Q E := by
  refine ⟨rfl, ?_⟩
  show b_is_number_word [.val (.str (nS (n : Int)))] _
  unfold b_is_number_word
  have l := nS_le (n := n) (by omega) (by omega)
  walk_at "pt"
  rw [nS_ascii]
  walk_at "pt"
  rw [nS_digit]
  walk_at "pt"
  refine b_lenS (by unfold LIM; omega) ?_
  walk_at "pt"
  refine p_dec (fun z => absurd z (by omega)) (fun _ => ?_)
  walk_at "pt"
  refine o_eqT (asc_nS (by omega)) asc_0 ?_
  by_cases z : n = 0
  · subst z
    exact h
  · rw [show (nS (n : Int) == Str.ofString "0") = false from ?_]
    · walk_at "pt"
      show Q (.bl !Txt.startswith _ _)
      rw [nS_start (by omega)]
      exact h
    · refine beq_eq_false_iff_ne.mpr fun e => ?_
      have := nS_start (n := n) (by omega)
      rw [e] at this
      exact absurd this (by decide +kernel)
def b_nb : WS := (wIfS (wtOr (wtVal (wOp oGe (wName 4) (wCB bLen (wCons (wName 1) wNil)))) (wtNot (wtVal (wCall S_is_number_word (wCons (wOp oIx (wName 1) (wName 4)) wNil)))))
    (wRaiseX 9 ["row", "word"] (wCons (wName 0) (wCons (wName 4) wNil)))
    wSkip)
def wds (nm : Str) (ns : List Nat) : List D := .str nm :: ns.map fun (n : Nat) => .str (nS (n : Int))
theorem nb_go {K : KN} {nm : Str} {ns : List Nat} {d0 d2 d3 : Sl} (hn : ∀ n ∈ ns, n < 10000000000) : ∀ (m k : Nat) (d4 : Sl), k + m = ns.length + 1 → 1 ≤ k → (∀ d4, K.nx [d0, .val (.lst (wds nm ns)), d2, d3, d4]) →
    wForGo (.nm 4) b_nb K (intD (k : Int) m) [d0, .val (.lst (wds nm ns)), d2, d3, d4]
  | 0, k, d4, e, hk, h => h d4
  | m + 1, k, d4, e, hk, h => by
    obtain ⟨nx, rt, bk, ct, er⟩ := K
    rw [intD_cons]
    refine p_put1 ?_
    dsimp only [List.set]
    unfold b_nb
    have hl : (wds nm ns).length = ns.length + 1 := by unfold wds; simp
    walk_at "pt"
    rw [hl]
    refine p_dec (fun z => absurd z (by omega)) (fun _ => ?_)
    walk_at "pt"
    have hlt : k - 1 < ns.length := by omega
    refine o_ixL (k := k) (x := .str (nS ((ns[k - 1]'hlt : Nat) : Int))) (ixD_nat (by rw [hl]; omega)) ?_ ?_
    · obtain ⟨j, rfl⟩ : ∃ j, k = j + 1 := ⟨k - 1, by omega⟩
      unfold wds
      rw [List.getElem?_cons_succ, List.getElem?_map, show ns[j]? = some (ns[j + 1 - 1]'hlt) from List.getElem?_eq_getElem hlt]
      rfl
    walk_at "pt"
    refine n_is_number_word (hn _ (List.getElem_mem hlt)) ?_
    walk_at "pt"
    have := nb_go (K := ⟨nx, rt, bk, ct, er⟩) (nm := nm) (ns := ns) (d0 := d0) (d2 := d2) (d3 := d3) hn m (k + 1) (.val (.int (k : Int))) (by omega) (by omega) h
    exact this
theorem n_numbers {row : Int} {nm : Str} {ns : List Nat} (hm : Asc nm) (hn : ∀ n ∈ ns, n < 10000000000) (hl : ns.length ≤ 5) (h : Q (.tup (ns.map fun (n : Nat) => .int (n : Int)))) : S_numbers [.int row, .lst (wds nm ns), .str nm, .int (ns.length : Int)] Q E := by
  refine ⟨rfl, ?_⟩
  show b_numbers [.val (.int row), .val (.lst (wds nm ns)), .val (.str nm), .val (.int (ns.length : Int)), .un] _
  unfold b_numbers
  walk_at "pt"
  refine o_ixL (k := 0) (x := .str nm) (ixD_nat (i := 0) (by unfold wds; simp)) rfl ?_
  walk_at "pt"
  refine o_neT hm hm ?_
  rw [beq_self_eq_true]
  walk_at "pt"
  refine p_krg2 (by omega) ?_
  rw [show ((ns.length : Int) + 1 - 1).toNat = ns.length by omega]
  refine nb_go hn ns.length 1 _ (by omega) (by omega) fun d4 => ?_
  have hlw : (wds nm ns).length = ns.length + 1 := by unfold wds; simp
  walk_at "pt"
  rw [hlw]
  refine p_dec (fun z => absurd z (by omega)) (fun _ => ?_)
  walk_at "pt"
  rw [show cutD (wds nm ns) (some 1) none = ns.map fun (n : Nat) => D.str (nS (n : Int)) from ?_]
  · refine ⟨by rw [List.length_map]; unfold LIM; omega, ?_⟩
    refine lc_mapT (fun (n : Nat) => D.str (nS (n : Int))) (fun (n : Nat) => .int (n : Int)) ns [] ?_ ?_
    · intro n hm A hA
      refine p_put1 ?_
      dsimp only [wipeE, List.set, setMany]
      walk_at "pt"
      have a := nS_le (n := (n : Int)) (by omega) (by have := hn n hm; omega)
      exact b_intS (nS_read (by omega) (by have := hn n hm; omega)) (by omega) hA
    rw [List.nil_append]
    walk_at "pt"
    exact h
  · exact cutD_from _ 1 (by omega)
theorem bsi_str {s : Str} (h : Q (.bl true)) : bIsiC [] [.str s, .ty "str"] Q := by
  refine ⟨fun c hc => ?_, "str", true, rfl, by decide +kernel, h⟩
  simp at hc
theorem joinL_len {y : List Nat} : ∀ (l : List (List Nat)), (joinL y l).length ≤ (l.map List.length).sum + l.length * y.length
  | [] => by simp [joinL]
  | [a] => by simp [joinL]
  | a :: b :: l => by
    have := joinL_len (y := y) (b :: l)
    show (a ++ (y ++ joinL y (b :: l))).length ≤ _
    simp only [List.length_append, List.map_cons, List.sum_cons, List.length_cons, Nat.succ_mul] at this ⊢
    omega
theorem join_len {y : Str} (parts : List Str) : (Txt.join y parts).length ≤ (parts.map (·.length)).sum + parts.length * y.length := by
  have := joinL_len (y := tl y) (parts.map tl)
  rw [len_tl, join_eq, tl_join]
  rw [List.map_map, List.length_map] at this
  rw [len_tl y]
  have e : (parts.map (·.length)) = parts.map (List.length ∘ tl) := List.map_congr_left fun p _ => len_tl p
  rw [e]
  exact this
theorem fmtW_len (hv : WV c rs) : (fmtW c rs).length ≤ 1000 := by
  have a := join_len (y := "\n") (rowL c :: rs.map rowP)
  have b := lens_le (rows_le hv)
  have l2 := hv.l2
  rw [len_l5] at a
  simp only [List.length_cons, List.length_map] at a b
  unfold fmtW
  omega
theorem rowL_join {n : Nat} : rowL (n : Int) = Txt.join " " [(("lantern" : String) : Str), nS (n : Int)] := by
  rw [join_eq]
  show ("lantern " : Str) ++ _ = ("lantern" : Str) ++ " " ++ nS (n : Int)
  rfl
theorem rowP_join {a b : Nat} : rowP ((a : Int), (b : Int)) = Txt.join " " [(("post" : String) : Str), nS (a : Int), nS (b : Int)] := by
  rw [join_eq]
  show ("post " : Str) ++ nS (a : Int) ++ " " ++ nS (b : Int) = ("post" : Str) ++ " " ++ (nS (a : Int) ++ " " ++ nS (b : Int))
  rw [show (("post " : String) : Str) = ("post" : Str) ++ (" " : Str) from rfl]
  simp only [app_asc]
theorem sp_split {parts : List Str} (hne : parts ≠ []) (hp : ∀ p ∈ parts, 32 ∉ tl p) : Txt.split (Txt.join " " parts) " " = parts := split_join (s := 32) (S := []) rfl (by decide +kernel) hne hp
theorem rowL_split {n : Nat} : Txt.split (rowL (n : Int)) " " = [(("lantern" : String) : Str), nS (n : Int)] := by
  rw [rowL_join]
  refine sp_split (by simp) fun p hp => ?_
  simp only [List.mem_cons, List.not_mem_nil, or_false] at hp
  rcases hp with rfl | rfl
  · decide +kernel
  · exact nS_no (by decide)
theorem rowP_split {a b : Nat} : Txt.split (rowP ((a : Int), (b : Int))) " " = [(("post" : String) : Str), nS (a : Int), nS (b : Int)] := by
  rw [rowP_join]
  refine sp_split (by simp) fun p hp => ?_
  simp only [List.mem_cons, List.not_mem_nil, or_false] at hp
  rcases hp with rfl | rfl | rfl
  · decide +kernel
  · exact nS_no (by decide)
  · exact nS_no (by decide)
theorem rows_split (hv : WV c rs) : Txt.split (fmtW c rs) "\n" = rowL c :: rs.map rowP := by
  refine split_join (s := 10) (S := []) rfl (by decide +kernel) (by simp) fun p hp => ?_
  rcases List.mem_cons.mp hp with rfl | hp
  · have := hv.c1
    obtain ⟨n, rfl⟩ := Int.eq_ofNat_of_zero_le (show 0 ≤ c by omega)
    unfold rowL
    rw [tl_append]
    intro z
    rcases List.mem_append.mp z with z | z
    · exact absurd z (by decide +kernel)
    · exact nS_no (by decide) z
  · obtain ⟨⟨a, b⟩, hr, rfl⟩ := List.mem_map.mp hp
    have p := hv.pv _ hr
    obtain ⟨a, rfl⟩ := Int.eq_ofNat_of_zero_le p.1.1
    obtain ⟨b, rfl⟩ := Int.eq_ofNat_of_zero_le (show 0 ≤ b by have := p.2.1; have : 1 ≤ b := this; omega)
    unfold rowP
    rw [tl_append, tl_append, tl_append]
    intro z
    rcases List.mem_append.mp z with z | z
    · rcases List.mem_append.mp z with z | z
      · rcases List.mem_append.mp z with z | z
        · exact absurd z (by decide +kernel)
        · exact nS_no (by decide) z
      · exact absurd z (by decide +kernel)
    · exact nS_no (by decide) z
theorem n_parse_way (hv : WV c rs) (h : Q (dW c rs)) : S_parse_way [.str (fmtW c rs)] Q E := by
  refine ⟨rfl, ?_⟩
  show b_parse_way [.val (.str (fmtW c rs)), .un, .un, .un, .un, .un] _
  unfold b_parse_way
  have c1 := hv.c1
  have c2 := hv.c2
  have l2 := hv.l2
  walk_at "pt"
  refine bsi_str ?_
  walk_at "pt"
  refine p_ksplit rfl (by have := fmtW_len hv; unfold LIM; omega) ?_
  rw [rows_split hv]
  walk_at "pt"
  refine ⟨by simp; unfold LIM; omega, ?_⟩
  refine lc_mapT D.str (fun s => .lst ((Txt.split s " ").map .str)) _ [] ?_ ?_
  · intro s hs A hA
    refine p_put1 ?_
    dsimp only [wipeE, List.set, setMany]
    walk_at "pt"
    exact p_ksplit rfl (by have := rows_le hv s hs; unfold LIM; omega) hA
  rw [List.nil_append, List.map_cons]
  obtain ⟨n, rfl⟩ := Int.eq_ofNat_of_zero_le (show 0 ≤ c by omega)
  rw [show (Txt.split (rowL (n : Int)) " ").map D.str = wds "lantern" [n] by rw [rowL_split]; rfl]
  rw [show (rs.map rowP).map (fun s => D.lst ((Txt.split s " ").map .str)) = rs.map fun r => D.lst (wds "post" [r.1.toNat, r.2.toNat]) from ?_]
  · walk_at "pt"
    dsimp only [List.set]
    walk_at "pt"
    refine o_ixL (k := 0) (x := .lst (wds "lantern" [n])) (ixD_nat (i := 0) (by simp)) rfl ?_
    walk_at "pt"
    refine n_numbers (ns := [n]) (by unfold Asc; decide +kernel) (by simp; omega) (by show 1 ≤ 5; decide) ?_
    walk_at "pt"
    refine o_ixT (k := 0) rfl rfl ?_
    dsimp only [List.set]
    walk_at "pt"
    show kEnumK _ (D.lst (cutD _ (some ((1 : Nat) : Int)) none)) _
    rw [cutD_from _ 1 (by simp), List.drop_one, List.tail_cons]
    refine p_kenumK (by decide) (by decide) ?_
    refine ⟨by simp; unfold LIM; omega, ?_⟩
    rw [List.zipIdx_map, List.map_map]
    refine lc_mapT (fun p : (Int × Int) × Nat => D.tup [.int (1 + (p.2 : Nat)), .lst (wds "post" [p.1.1.toNat, p.1.2.toNat])]) (fun p => dP p.1) _ [] ?_ ?_
    · intro p hp A hA
      refine p_put rfl ?_
      dsimp only [wipeE, List.set, setMany]
      have v := hv.pv p.1 (List.fst_mem_of_mem_zipIdx hp)
      walk_at "pt"
      refine n_numbers (ns := [p.1.1.toNat, p.1.2.toNat]) (by unfold Asc; decide +kernel) ?_ (by show 2 ≤ 5; decide) ?_
      · intro m hm
        simp only [List.mem_cons, List.not_mem_nil, or_false] at hm
        have a1 := v.1.1
        have a2 := v.1.2
        have a3 := v.2.1
        have a4 := v.2.2
        rcases hm with rfl | rfl <;> omega
      · show A (.tup [.int ((p.1.1.toNat : Nat) : Int), .int ((p.1.2.toNat : Nat) : Int)])
        rw [Int.toNat_of_nonneg v.1.1, Int.toNat_of_nonneg (by have := v.2.1; omega)]
        exact hA
    rw [List.nil_append, show (rs.zipIdx.map fun p => dP p.1) = rs.map dP from ?_]
    · walk_at "pt"
      rw [List.append_nil]
      exact n_Way_init hv h
    · have := congrArg (List.map dP) (List.zipIdx_map_fst 0 rs)
      rwa [List.map_map] at this
  · rw [List.map_map]
    refine List.map_congr_left fun r hr => ?_
    have v := hv.pv r hr
    obtain ⟨a, b⟩ := r
    obtain ⟨a, rfl⟩ := Int.eq_ofNat_of_zero_le v.1.1
    obtain ⟨b, rfl⟩ := Int.eq_ofNat_of_zero_le (show 0 ≤ b by have := v.2.1; have : 1 ≤ b := this; omega)
    show D.lst ((Txt.split (rowP ((a : Int), (b : Int))) " ").map .str) = _
    rw [rowP_split]
    rfl
def stepC (a b : Int) : Int := (4 * a + b) % 251
def chk (ns : List Int) : Int := ns.foldl stepC 9
def b_ck : WS := (wSet 1 (wOp oMod (wCB bInt (wCons (wOp oAdd (wOp oMul (wC (.int 4)) (wName 1)) (wName 2)) wNil)) (wC (.int 251))))
theorem ck_go {K : KN} {d0 : Sl} : ∀ (ns : List Int) (a : Int) (d2 : Sl), B8 ns → 0 ≤ a → a < 251 → (∀ d2, K.nx [d0, .val (.int (ns.foldl stepC a)), d2]) → wForGo (.nm 2) b_ck K (ns.map .int) [d0, .val (.int a), d2]
  | [], a, d2, hb, h0, h1, h => h d2
  | n :: ns, a, d2, hb, h0, h1, h => by
    obtain ⟨nx, rt, bk, ct, er⟩ := K
    refine p_put1 ?_
    dsimp only [List.set]
    unfold b_ck
    walk_at "pt"
    refine o_mul (big_of (by decide)) (big_of (by omega)) ?_
    walk_at "pt"
    refine o_mod (by decide) ?_
    dsimp only [List.set]
    have hn := hb n (by simp)
    have e : (4 * a + n).fmod 251 = stepC a n := by unfold stepC; rw [Int.fmod_eq_emod_of_nonneg _ (by decide)]
    rw [e]
    exact ck_go (K := ⟨nx, rt, bk, ct, er⟩) ns (stepC a n) _ (fun m hm => hb m (by simp [hm])) (Int.emod_nonneg _ (by decide)) (Int.emod_lt_of_pos _ (by decide)) h
theorem chk_range {ns : List Int} : 0 ≤ chk ns ∧ chk ns < 251 := by
  unfold chk
  rcases List.eq_nil_or_concat ns with rfl | ⟨l, x, rfl⟩
  · decide
  · rw [List.concat_eq_append, List.foldl_append]
    exact ⟨Int.emod_nonneg _ (by decide), Int.emod_lt_of_pos _ (by decide)⟩
theorem n_checksum {ns : List Int} (hb : B8 ns) (h : Q (.int (chk ns))) : S_checksum [.byt ns] Q E := by
  refine ⟨rfl, ?_⟩
  show b_checksum [.val (.byt ns), .un, .un] _
  unfold b_checksum
  walk_at "pt"
  refine ck_go ns 9 _ hb (by decide) (by decide) fun d2 => ?_
  walk_at "pt"
  exact h
theorem n_number_bytes {n : Int} (h0 : 0 ≤ n) (h1 : n < 4294967296) (h : Q (.byt (bigB 4 n))) : S_number_bytes [.int n] Q E := by
  refine ⟨rfl, ?_⟩
  show b_number_bytes [.val (.int n)] _
  unfold b_number_bytes
  walk_at "pt"
  exact p_ktoB4 h0 h1 h
def bP (r : Int × Int) : List Int := bigB 4 r.1 ++ bigB 4 r.2
def bH (c : Int) (k : Nat) : List Int := [79, (k : Int)] ++ bigB 4 c
def bW (c : Int) (rs : List (Int × Int)) : List Int := bH c rs.length ++ (rs.map bP).flatten
def enc (c : Int) (rs : List (Int × Int)) : List Int := bW c rs ++ [chk (bW c rs)]
theorem bP_len {r : Int × Int} : (bP r).length = 8 := by unfold bP; rw [List.length_append, bigB_len, bigB_len]
theorem bP_B8 {r : Int × Int} : B8 (bP r) := (bigB_B8 _).app (bigB_B8 _)
theorem bPs_len : ∀ {rs : List (Int × Int)}, (rs.map bP).flatten.length = 8 * rs.length
  | [] => rfl
  | r :: rs => by rw [List.map_cons, List.flatten_cons, List.length_append, bP_len, bPs_len, List.length_cons]; omega
theorem bPs_B8 : ∀ {rs : List (Int × Int)}, B8 (rs.map bP).flatten
  | [] => fun n h => by simp at h
  | r :: rs => by rw [List.map_cons, List.flatten_cons]; exact bP_B8.app bPs_B8
theorem bH_len {c : Int} {k : Nat} : (bH c k).length = 6 := by unfold bH; rw [List.length_append, bigB_len]; rfl
theorem bH_B8 {c : Int} {k : Nat} (h : k < 256) : B8 (bH c k) := B8.app (fun n hn => by simp only [List.mem_cons, List.not_mem_nil, or_false] at hn; rcases hn with rfl | rfl <;> omega) (bigB_B8 _)
theorem bW_len : (bW c rs).length = 6 + 8 * rs.length := by unfold bW; rw [List.length_append, bH_len, bPs_len]
theorem bW_B8 (h : rs.length < 256) : B8 (bW c rs) := (bH_B8 h).app bPs_B8
def b_en : WS := (wSet 1 (wOp oAddS (wOp oAddS (wName 1) (wCall S_number_bytes (wCons (wName 2) wNil))) (wCall S_number_bytes (wCons (wName 3) wNil))))
theorem en_go {K : KN} {d0 : Sl} : ∀ (rs : List (Int × Int)) (a : List Int) (d2 d3 : Sl), (∀ r ∈ rs, PV r) → a.length + 8 * rs.length ≤ 1000 → (∀ d2 d3, K.nx [d0, .val (.byt (a ++ (rs.map bP).flatten)), d2, d3]) → wForGo (.tp [2, 3]) b_en K (rs.map dP) [d0, .val (.byt a), d2, d3]
  | [], a, d2, d3, hb, hl, h => by have := h d2 d3; rw [List.map_nil, List.flatten_nil, List.append_nil] at this; exact this
  | r :: rs, a, d2, d3, hb, hl, h => by
    obtain ⟨nx, rt, bk, ct, er⟩ := K
    have v := hb r (by simp)
    have a1 := v.1.1
    have a2 := v.1.2
    have a3 := v.2.1
    have a4 := v.2.2
    rw [List.length_cons] at hl
    rw [List.map_cons]
    refine p_put rfl ?_
    dsimp only [List.set, setMany]
    unfold b_en
    walk_at "pt"
    refine n_number_bytes a1 (by omega) ?_
    refine o_addB (by rw [bigB_len]; unfold LIM; omega) ?_
    walk_at "pt"
    refine n_number_bytes (by omega) (by omega) ?_
    refine o_addB (by rw [List.length_append, bigB_len, bigB_len]; unfold LIM; omega) ?_
    dsimp only [List.set]
    refine en_go (K := ⟨nx, rt, bk, ct, er⟩) rs (a ++ bigB 4 r.1 ++ bigB 4 r.2) _ _ (fun s hs => hb s (by simp [hs])) (by simp only [List.length_append, bigB_len]; omega) fun d2 d3 => ?_
    have := h d2 d3
    rw [List.map_cons, List.flatten_cons] at this
    rw [List.append_assoc a]
    unfold bP at this
    rw [← List.append_assoc a] at this
    exact this
theorem n_encode_way (hv : WV c rs) (h : Q (.byt (enc c rs))) : S_encode_way [dW c rs] Q E := by
  refine ⟨rfl, ?_⟩
  show b_encode_way [.val (dW c rs), .un, .un, .un] _
  have c1 := hv.c1
  have c2 := hv.c2
  have l2 := hv.l2
  unfold b_encode_way
  walk_at "pt"
  refine ⟨rfl, n_len ?_⟩
  walk_at "pt"
  refine p_klenI (by omega) ?_
  walk_at "pt"
  refine ⟨by show 2 ≤ LIM; decide, ?_⟩
  walk_at "pt"
  refine b_bytes (ns := [79, (rs.length : Int)]) rfl (fun n hn => by simp only [List.mem_cons, List.not_mem_nil, or_false] at hn; rcases hn with rfl | rfl <;> omega) ?_
  walk_at "pt"
  refine ⟨rfl, n_capacity ?_⟩
  walk_at "pt"
  refine n_number_bytes (by omega) (by omega) ?_
  refine o_addB (by rw [bigB_len]; show 2 + 4 ≤ LIM; decide) ?_
  dsimp only [List.set]
  walk_at "pt"
  refine ⟨rfl, n_posts ?_⟩
  walk_at "pt"
  refine en_go rs (bH c rs.length) _ _ hv.pv (by rw [bH_len]; omega) fun d2 d3 => ?_
  walk_at "pt"
  refine n_checksum (bW_B8 (by omega)) ?_
  walk_at "pt"
  refine ⟨by show 1 ≤ LIM; decide, ?_⟩
  walk_at "pt"
  have ck := chk_range (ns := bW c rs)
  refine b_bytes (ns := [chk (bW c rs)]) rfl (fun n hn => by rw [List.mem_singleton.mp hn]; omega) ?_
  refine o_addB (by have := bW_len (c := c) (rs := rs); unfold bW at this; rw [this]; show _ + 1 ≤ LIM; unfold LIM; omega) ?_
  exact h
theorem getD_at {A B : List Int} {x : Int} : (A ++ x :: B).getD A.length 0 = x := by simp
theorem n_check_byte {A B : List Int} {x lo hi : Int} (hl : (A ++ x :: B).length ≤ LIM) (h1 : lo ≤ x) (h2 : x ≤ hi) (h : Q .non) : S_check_byte [.byt (A ++ x :: B), .int (A.length : Int), .int lo, .int hi] Q E := by
  refine ⟨rfl, ?_⟩
  show b_check_byte [.val (.byt (A ++ x :: B)), .val (.int (A.length : Int)), .val (.int lo), .val (.int hi)] _
  have hlt : A.length < (A ++ x :: B).length := by simp
  unfold b_check_byte
  walk_at "pt"
  refine b_lenB hl ?_
  walk_at "pt"
  refine p_dec (fun z => absurd z (by omega)) (fun _ => ?_)
  walk_at "pt"
  refine o_ixB hl (by omega) (by omega) ?_
  rw [Int.toNat_natCast, getD_at]
  refine p_kchain (fun _ => ?_) (fun z => absurd (of_decide_eq_false z) (by omega))
  walk_at "pt"
  rw [decide_eq_true h2]
  walk_at "pt"
  exact h
theorem n_number_at {A C : List Int} {x lo : Int} (hl : (A ++ (bigB 4 x ++ C)).length ≤ LIM) (h0 : 0 ≤ x) (h1 : lo ≤ x) (h2 : x ≤ 1000000000) (h : Q (.int x)) : S_number_at [.byt (A ++ (bigB 4 x ++ C)), .int (A.length : Int), .int lo] Q E := by
  refine ⟨rfl, ?_⟩
  show b_number_at [.val (.byt (A ++ (bigB 4 x ++ C))), .val (.int (A.length : Int)), .val (.int lo), .un, .un] _
  have hlt : A.length + 4 ≤ (A ++ (bigB 4 x ++ C)).length := by simp only [List.length_append, bigB_len]; omega
  unfold b_number_at
  walk_at "pt"
  dsimp only [List.set]
  walk_at "pt"
  refine b_lenB hl ?_
  walk_at "pt"
  refine p_dec (fun z => absurd z (by omega)) (fun _ => ?_)
  walk_at "pt"
  refine p_kslb (k := bigB 4 x) hl ?_ ?_
  · show (if _ ∧ _ then some _ else none) = _
    rw [if_pos ⟨by omega, by omega, by omega, by omega⟩, Int.toNat_natCast, show ((A.length : Int) + 4).toNat - A.length = (bigB 4 x).length by rw [bigB_len]; omega, List.drop_left, List.take_left]
  walk_at "pt"
  refine ⟨⟨rfl, by rw [bigB_len]; decide⟩, ?_⟩
  rw [valB_bigB h0 (by omega)]
  dsimp only [List.set]
  walk_at "pt"
  refine p_kchain (fun _ => ?_) (fun z => absurd (of_decide_eq_false z) (by omega))
  walk_at "pt"
  rw [decide_eq_true h2]
  walk_at "pt"
  exact h
def b_de : WS := (wSeq (wSet 5 (wCall S_number_at (wCons (wName 0) (wCons (wName 2) (wCons (wC (.int 0)) wNil)))))
    (wSeq (wSet 6 (wCall S_number_at (wCons (wName 0) (wCons (wOp oAdd (wName 2) (wC (.int 4))) (wCons (wC (.int 1)) wNil)))))
    (wSeq (wApp 3 (wTup (wCons (wName 5) (wCons (wName 6) wNil))))
    (wSet 2 (wOp oAdd (wName 2) (wOp oMul (wC (.int 2)) (wC (.int 4))))))))
theorem de_go {K : KN} {d1 d7 : Sl} {data H T : List Int} (hl : data.length ≤ LIM) : ∀ (qs done : List (Int × Int)) (d4 d5 d6 : Sl) (k : Nat), (∀ r ∈ qs, PV r) → done.length + qs.length ≤ 12 → data = H ++ ((done.map bP).flatten ++ ((qs.map bP).flatten ++ T)) → H.length = 6 →
    (∀ d4 d5 d6, K.nx [.val (.byt data), d1, .val (.int ((6 + 8 * (done.length + qs.length) : Nat) : Int)), .own ((done ++ qs).map dP), d4, d5, d6, d7]) →
    wForGo (.nm 4) b_de K (intD (k : Int) qs.length) [.val (.byt data), d1, .val (.int ((6 + 8 * done.length : Nat) : Int)), .own (done.map dP), d4, d5, d6, d7]
  | [], done, d4, d5, d6, k, hv, h12, e, hH, h => by
    have := h d4 d5 d6
    rw [List.append_nil, List.length_nil, Nat.add_zero] at this
    exact this
  | r :: qs, done, d4, d5, d6, k, hv, h12, e, hH, h => by
    obtain ⟨nx, rt, bk, ct, er⟩ := K
    rw [List.length_cons] at h12
    have v := hv r (by simp)
    have a1 := v.1.1
    have a2 := v.1.2
    have a3 := v.2.1
    have a4 := v.2.2
    rw [List.length_cons, intD_cons]
    refine p_put1 ?_
    dsimp only [List.set]
    unfold b_de
    have hA : (H ++ (done.map bP).flatten).length = 6 + 8 * done.length := by rw [List.length_append, bPs_len, hH]
    have hB : (H ++ (done.map bP).flatten ++ bigB 4 r.1).length = 6 + 8 * done.length + 4 := by rw [List.length_append, hA, bigB_len]
    have e1 : data = (H ++ (done.map bP).flatten) ++ (bigB 4 r.1 ++ (bigB 4 r.2 ++ ((qs.map bP).flatten ++ T))) := by
      rw [e, List.map_cons, List.flatten_cons]
      unfold bP
      simp only [List.append_assoc]
    have e2 : data = (H ++ (done.map bP).flatten ++ bigB 4 r.1) ++ (bigB 4 r.2 ++ ((qs.map bP).flatten ++ T)) := by rw [e1]; simp only [List.append_assoc]
    walk_at "pt"
    have s1 : ∀ {Q : QD} {E : QR}, Q (.int r.1) → S_number_at [.byt data, .int ((6 + 8 * done.length : Nat) : Int), .int 0] Q E := fun {Q E} q => by
      rw [e1, ← hA]
      rw [e1] at hl
      exact n_number_at hl a1 a1 (by omega) q
    have s2 : ∀ {Q : QD} {E : QR}, Q (.int r.2) → S_number_at [.byt data, .int (((6 + 8 * done.length : Nat) : Int) + 4), .int 1] Q E := fun {Q E} q => by
      rw [e2, show ((6 + 8 * done.length : Nat) : Int) + 4 = ((6 + 8 * done.length + 4 : Nat) : Int) by omega, ← hB]
      rw [e2] at hl
      exact n_number_at hl (by omega) a3 (by omega) q
    refine s1 ?_
    dsimp only [List.set]
    walk_at "pt"
    refine s2 ?_
    dsimp only [List.set]
    walk_at "pt"
    refine ⟨by show 2 ≤ LIM; decide, ?_⟩
    walk_at "pt"
    refine ⟨by rw [List.length_map]; unfold LIM; omega, ?_⟩
    dsimp only [List.set]
    walk_at "pt"
    refine o_mul (big_of (by decide)) (big_of (by decide)) ?_
    walk_at "pt"
    dsimp only [List.set]
    have em : done.map dP ++ [D.tup [.int r.1, .int r.2]] = (done ++ [r]).map dP := by rw [List.map_append]; rfl
    have en : ((6 + 8 * done.length : Nat) : Int) + 2 * 4 = ((6 + 8 * (done ++ [r]).length : Nat) : Int) := by rw [List.length_append, List.length_singleton]; omega
    rw [em, en]
    refine de_go (K := ⟨nx, rt, bk, ct, er⟩) (H := H) (T := T) hl qs (done ++ [r]) _ _ _ (k + 1) (fun s hs => hv s (by simp [hs])) (by rw [List.length_append, List.length_singleton]; omega) ?_ hH fun d4 d5 d6 => ?_
    · rw [e, List.map_append, List.flatten_append, List.map_cons, List.flatten_cons, List.map_singleton, List.flatten_singleton]
      simp only [List.append_assoc]
    · have := h d4 d5 d6
      rw [show done ++ [r] ++ qs = done ++ r :: qs by simp, show (done ++ [r]).length + qs.length = done.length + (r :: qs).length by simp; omega]
      exact this
theorem n_decode_way (hv : WV c rs) (h : Q (dW c rs)) : S_decode_way [.byt (enc c rs)] Q E := by
  refine ⟨rfl, ?_⟩
  show b_decode_way [.val (.byt (enc c rs)), .un, .un, .un, .un, .un, .un, .un] _
  have c1 := hv.c1
  have c2 := hv.c2
  have l1 := hv.l1
  have l2 := hv.l2
  have hlen : (enc c rs).length = 7 + 8 * rs.length := by unfold enc; rw [List.length_append, bW_len]; simp; omega
  have hl : (enc c rs).length ≤ LIM := by unfold LIM; omega
  have e0 : enc c rs = [] ++ 79 :: ((rs.length : Int) :: (bigB 4 c ++ ((rs.map bP).flatten ++ [chk (bW c rs)]))) := by unfold enc bW bH; simp
  have e1 : enc c rs = [79] ++ (rs.length : Int) :: (bigB 4 c ++ ((rs.map bP).flatten ++ [chk (bW c rs)])) := e0
  have e2 : enc c rs = [79, (rs.length : Int)] ++ (bigB 4 c ++ ((rs.map bP).flatten ++ [chk (bW c rs)])) := e0
  have e3 : enc c rs = bH c rs.length ++ ((([] : List (Int × Int)).map bP).flatten ++ ((rs.map bP).flatten ++ [chk (bW c rs)])) := by unfold enc bW; simp
  have e4 : enc c rs = bW c rs ++ chk (bW c rs) :: [] := rfl
  have s0 : ∀ {Q : QD} {E : QR}, Q .non → S_check_byte [.byt (enc c rs), .int 0, .int 79, .int 79] Q E := fun {Q E} q => by
    rw [e0] at hl ⊢
    exact n_check_byte (A := []) hl (by decide) (by decide) q
  have s1 : ∀ {Q : QD} {E : QR}, Q .non → S_check_byte [.byt (enc c rs), .int 1, .int 1, .int 12] Q E := fun {Q E} q => by
    rw [e1] at hl ⊢
    exact n_check_byte (A := [79]) hl (by omega) (by omega) q
  have s2 : ∀ {Q : QD} {E : QR}, Q (.int c) → S_number_at [.byt (enc c rs), .int 2, .int 1] Q E := fun {Q E} q => by
    rw [e2] at hl ⊢
    exact n_number_at (A := [79, (rs.length : Int)]) hl (by omega) (by omega) (by omega) q
  have s4 : ∀ {Q : QD} {E : QR}, Q .non → S_check_byte [.byt (enc c rs), .int ((6 + 8 * rs.length : Nat) : Int), .int (chk (bW c rs)), .int (chk (bW c rs))] Q E := fun {Q E} q => by
    rw [← bW_len (c := c) (rs := rs)]
    rw [e4] at hl ⊢
    exact n_check_byte hl (by omega) (by omega) q
  unfold b_decode_way
  walk_at "pt"
  refine s0 ?_
  walk_at "pt"
  refine s1 ?_
  walk_at "pt"
  refine s2 ?_
  walk_at "pt"
  refine ⟨by show 0 ≤ LIM; decide, ?_⟩
  dsimp only [List.set]
  walk_at "pt"
  refine o_ixB hl (by decide) (by omega) ?_
  rw [show (enc c rs).getD (1 : Int).toNat 0 = (rs.length : Int) by rw [e0]; rfl]
  refine p_krg1 (by omega) ?_
  rw [Int.toNat_natCast]
  refine de_go (H := bH c rs.length) (T := [chk (bW c rs)]) hl rs [] _ _ _ 0 hv.pv (by simpa using l2) e3 bH_len fun d4 d5 d6 => ?_
  rw [List.length_nil, Nat.zero_add, List.nil_append]
  walk_at "pt"
  refine p_kslb (k := bW c rs) hl ?_ ?_
  · show (if _ ∧ _ then some _ else none) = _
    rw [if_pos ⟨by omega, by omega⟩, Int.toNat_natCast, e4, ← bW_len (c := c) (rs := rs), List.take_left]
  walk_at "pt"
  refine n_checksum (bW_B8 (by omega)) ?_
  dsimp only [List.set]
  walk_at "pt"
  refine s4 ?_
  walk_at "pt"
  refine b_lenB hl ?_
  walk_at "pt"
  refine p_dec (fun z => absurd z (by omega)) (fun _ => ?_)
  walk_at "pt"
  rw [List.append_nil]
  exact n_Way_init hv h
end
end Oil
namespace Oil
open PySem PySem.Spec PyProof.Rows L2 TL
local macro_rules | `(tactic| walk_at "pq1") => `(tactic| with_reducible first
  | refine p_seq ?_ | refine p_skip ?_ | refine p_set ?_ | refine p_setO ?_ | refine p_kown ?_ | refine p_unp ?_ | refine p_put rfl ?_ | refine p_put1 ?_
  | refine p_par ?_ | refine p_pnil ?_ | refine p_pval ?_ | refine p_pown ?_ | refine p_kpown ?_ | refine p_expr ?_ | refine p_ret ?_ | refine p_retN ?_ | refine p_ifS ?_
  | refine p_for ?_ | refine p_raise ?_ | refine p_c ?_ | refine p_op ?_ | refine p_neg ?_ | refine p_kneg ?_ | refine p_chain ?_ | refine p_and ?_ | refine p_or ?_ | refine p_not ?_ | refine p_knot ?_
  | refine p_if ?_ | refine p_nil ?_ | refine p_cons ?_ | refine p_star ?_ | refine p_kstarT ?_ | refine p_kstarL ?_ | refine p_tup ?_ | refine p_lst ?_ | refine p_call ?_ | refine p_cb ?_ | refine p_val ?_ | refine p_kval ?_
  | refine p_ttru ?_ | refine p_ktruN ?_ | refine p_ktruB ?_ | refine p_ktruI ?_ | refine p_ktruL ?_ | refine p_ktruT ?_ | refine p_tnot ?_ | refine p_tand ?_ | refine p_tor ?_
  | refine p_nopart ?_ | refine p_part ?_ | refine p_kpart ?_ | refine p_slice ?_ | refine p_ksliceL ?_ | refine p_ksliceT ?_ | refine p_fld ?_ | refine p_meth ?_ | refine p_clo ?_ | refine p_kclo rfl ?_ | refine p_prop ?_ | refine p_kprop rfl ?_
  | refine p_inv ?_ | refine p_kinv rfl ?_ | refine p_lenO ?_ | refine p_klenO rfl ?_ | refine p_get ?_ | refine p_kget rfl ?_ | refine p_cmeth ?_ | refine p_kcmeth rfl ?_ | refine p_opC ?_ | refine p_kopC rfl rfl ?_ | refine p_opF ?_ | refine p_kopF rfl rfl ?_
  | refine p_eqO ?_ | refine p_keqO rfl rfl ?_ | refine p_iter ?_ | refine p_kiterL ?_ | refine p_kiterT ?_ | refine p_rg1 ?_ | refine p_rg2 ?_ | refine p_enum ?_ | refine p_kenum ?_ | refine p_lc ?_ | refine p_yes ?_
  | refine p_tt ?_ | refine p_ff ?_
  | refine o_add ?_ | refine o_sub ?_ | refine o_lt ?_ | refine o_le ?_ | refine o_gt ?_ | refine o_ge ?_
  | refine b_lenL ?_ | refine b_lenT ?_ | refine b_int ?_ | refine b_tupL ?_ | refine b_tupT ?_ | refine b_listL ?_ | refine b_listT ?_ | refine b_max2 ?_ | refine b_min2 ?_)
local macro_rules | `(tactic| walk_at "pq2") => `(tactic| with_reducible first
  | refine p_name (by with_unfolding_all rfl) ?_ | refine p_ownV (by with_unfolding_all rfl) ?_ | refine p_own (by with_unfolding_all rfl) ?_ | refine p_app (by with_unfolding_all rfl) ?_ | refine p_putI (by with_unfolding_all rfl) ?_
  | refine p_frz (by with_unfolding_all rfl) ?_ | refine p_frzV (by with_unfolding_all rfl) ?_ | refine p_kfld (by with_unfolding_all rfl) (by with_unfolding_all rfl) ?_ | refine p_kmeth (by with_unfolding_all rfl) (by decide) ?_ | refine p_makL (by with_unfolding_all rfl) (by with_unfolding_all rfl) ?_
  | refine p_self (by with_unfolding_all rfl) (by decide) (by with_unfolding_all rfl) (by decide) ?_)
local macro_rules | `(tactic| walk_at "pq3") => `(tactic| with_reducible first
  | refine o_eqI ?_ | refine o_neI ?_ | refine o_isNon ?_ | refine o_isInt ?_ | refine o_isNotNon ?_ | refine o_isNotInt ?_ | refine p_kandT ?_ | refine p_kandF ?_ | refine p_korT ?_ | refine p_korF ?_ | refine p_nt ?_ | refine p_nf ?_)
local macro_rules | `(tactic| walk_at "pq") => `(tactic| repeat (first | walk_at "pq1" | walk_at "pq2" | walk_at "pq3"))
local macro_rules | `(tactic| walk_at "pt1") => `(tactic| with_reducible first
  | refine p_m0 ?_ | refine p_km0 ?_ | refine p_sw ?_ | refine p_ksw ?_ | refine p_toB ?_ | refine p_fromB ?_ | refine p_kfromB ?_ | refine p_js ?_ | refine p_jc ?_ | refine p_jn ?_ | refine p_fmt ?_ | refine p_fmts ?_
  | refine p_join ?_ | refine p_kjoin ?_ | refine p_int1 ?_ | refine p_kint1 ?_ | refine p_str1 ?_ | refine p_kstr1 ?_ | refine p_split ?_ | refine p_sliceS ?_ | refine p_ixB ?_ | refine p_listB ?_ | refine p_iterT ?_ | refine p_iterB ?_
  | refine p_kiterTx ?_ | refine p_kiterB ?_ | refine p_enumK ?_ | refine p_brk ?_ | refine p_cnt ?_ | refine b_isiB ?_)
local macro_rules | `(tactic| walk_at "pt") => `(tactic| repeat (first | walk_at "pq1" | walk_at "pq2" | walk_at "pt1" | walk_at "pq3"))
local macro_rules | `(tactic| walk_at "tlen") => `(tactic| (simp only [len_app, empty_len, empty_app, len_l0, len_l1, len_l2, len_l3, len_l4, len_l5, len_l6, len_l7, len_l8, len_l9, len_l10, len_l11, len_l12]; unfold LIM; omega))
section
variable {Q : QD} {E : QR} {c x : Int} {rs : List (Int × Int)} {i : Nat}
def lnN (k p : Nat) (x : Int) : Str := fld f3 (k : Int) ++ " " ++ fld f2 (p : Int) ++ " " ++ fld f13 x
def lnO (k : Nat) (x : Int) : Str := fld f3 (k : Int) ++ " " ++ "--" ++ " " ++ fld f13 x
theorem lnN_len {k p : Nat} (hk : k ≤ 1000000) (hp : p ≤ 1000000) (h0 : 0 ≤ x) (h1 : x ≤ 1000000000) : (lnN k p x).length ≤ 100 := by
  have a := fld3_le (n := (k : Int)) (by omega) (by omega)
  have b := fld2_le (n := (p : Int)) (by omega) (by omega)
  have d := fld13_le h0 (by omega)
  unfold lnN
  simp only [len_app, len_l2]
  omega
theorem lnO_len {k : Nat} (hk : k ≤ 1000000) (h0 : 0 ≤ x) (h1 : x ≤ 1000000000) : (lnO k x).length ≤ 100 := by
  have a := fld3_le (n := (k : Int)) (by omega) (by omega)
  have d := fld13_le h0 (by omega)
  unfold lnO
  simp only [len_app, len_l2, len_l8]
  omega
theorem asc_lit {s : Str} (h : ((tl s).all fun c => decide (c < 256)) = true) : Asc s := fun c hc => of_decide_eq_true (List.all_eq_true.mp h c hc)
theorem lnN_asc {k p : Nat} (h0 : 0 ≤ x) : Asc (lnN k p x) := ((((asc_fld3 (by omega)).app (asc_lit (by decide +kernel))).app (asc_fld2 (by omega))).app (asc_lit (by decide +kernel))).app (asc_fld13 h0)
theorem lnO_asc {k : Nat} (h0 : 0 ≤ x) : Asc (lnO k x) := ((((asc_fld3 (by omega)).app (asc_lit (by decide +kernel))).app (asc_lit (by decide +kernel))).app (asc_lit (by decide +kernel))).app (asc_fld13 h0)
theorem n_log_line {k p : Nat} (hk : k ≤ 1000000) (hp : p ≤ 1000000) (h0 : 0 ≤ x) (h1 : x ≤ 1000000000) (h : Q (.str (lnN k p x))) : S_log_line [.int (k : Int), .int (p : Int), .int x] Q E := by
  refine ⟨rfl, ?_⟩
  show b_log_line [.val (.int (k : Int)), .val (.int (p : Int)), .val (.int x)] _
  have a := fld3_le (n := (k : Int)) (by omega) (by omega)
  have b := fld2_le (n := (p : Int)) (by omega) (by omega)
  have d := fld13_le h0 (by omega)
  unfold b_log_line
  walk_at "pt"
  refine p_kfmti (by omega) (by omega) (by unfold LIM; omega) (p_kjs (by walk_at "tlen") ?_)
  walk_at "pt"
  refine p_kjs (by walk_at "tlen") ?_
  walk_at "pt"
  refine p_kfmti (by omega) (by omega) (by unfold LIM; omega) (p_kjs (by walk_at "tlen") ?_)
  walk_at "pt"
  refine p_kjs (by walk_at "tlen") ?_
  walk_at "pt"
  refine p_kfmti (by omega) (by omega) (by unfold LIM; omega) (p_kjs (by walk_at "tlen") ?_)
  walk_at "pt"
  rw [empty_app]
  exact h
theorem n_log_lineO {k : Nat} (hk : k ≤ 1000000) (h0 : 0 ≤ x) (h1 : x ≤ 1000000000) (h : Q (.str (lnO k x))) : S_log_line [.int (k : Int), .str "--", .int x] Q E := by
  refine ⟨rfl, ?_⟩
  show b_log_line [.val (.int (k : Int)), .val (.str "--"), .val (.int x)] _
  have a := fld3_le (n := (k : Int)) (by omega) (by omega)
  have d := fld13_le h0 (by omega)
  unfold b_log_line
  walk_at "pt"
  refine p_kfmti (by omega) (by omega) (by unfold LIM; omega) (p_kjs (by walk_at "tlen") ?_)
  walk_at "pt"
  refine p_kjs (by walk_at "tlen") ?_
  walk_at "pt"
  refine p_kfmts rfl (p_kjs (by walk_at "tlen") ?_)
  walk_at "pt"
  refine p_kjs (by walk_at "tlen") ?_
  walk_at "pt"
  refine p_kfmti (by omega) (by omega) (by unfold LIM; omega) (p_kjs (by walk_at "tlen") ?_)
  walk_at "pt"
  rw [empty_app]
  exact h
/-- the lines behind the first -/
def rws (c : Int) (rs : List (Int × Int)) : Nat → Nat → Nat → Int → List Str
  | 0, _, _, _ => []
  | n + 1, k, p, x => if min c (x + (nth rs p).1) < (nth rs p).2 then [lnO (k + 1) (min c (x + (nth rs p).1))]
    else lnN (k + 1) ((p + 1) % rs.length) (min c (x + (nth rs p).1) - (nth rs p).2) :: rws c rs n (k + 1) ((p + 1) % rs.length) (min c (x + (nth rs p).1) - (nth rs p).2)
theorem rws_len : ∀ {n k p : Nat} {x : Int}, (rws c rs n k p x).length ≤ n
  | 0, k, p, x => Nat.le_refl _
  | n + 1, k, p, x => by
    unfold rws
    split
    · exact Nat.succ_le_succ (Nat.zero_le _)
    · exact Nat.succ_le_succ rws_len
def b_lg : WS := (wSeq (wSet 6 (wCall S_after_leg (wCons (wName 0) (wCons (wName 1) (wCons (wName 2) wNil)))))
    (wSeq (wIfS (wtVal (wOp oIs (wName 6) (wC .non)))
    (wSeq (wApp 4 (wCall S_log_line (wCons (wOp oAdd (wName 5) (wC (.int 1))) (wCons (wC (.str "--")) (wCons (wCall S_taken (wCons (wName 0) (wCons (wName 1) (wCons (wName 2) wNil)))) wNil)))))
    wBrk)
    wSkip)
    (wSeq (wSet 1 (wOp oMod (wCB bInt (wCons (wOp oAdd (wName 1) (wC (.int 1))) wNil)) (wLenO 13 S_Way_len (wName 0))))
    (wSeq (wSet 2 (wName 6))
    (wApp 4 (wCall S_log_line (wCons (wOp oAdd (wName 5) (wC (.int 1))) (wCons (wName 1) (wCons (wName 2) wNil)))))))))
theorem lg_go {K : KN} {d3 : Sl} (hv : WV c rs) : ∀ (n k p : Nat) (x : Int) (ls : List Str) (d5 d6 : Sl), p < rs.length → 0 ≤ x → x ≤ c → k + n ≤ 1000 → ls.length ≤ k + 1 →
    (∀ d1 d2 d5 d6, K.nx [.val (dW c rs), d1, d2, d3, .own ((ls ++ rws c rs n k p x).map .str), d5, d6]) →
    wForGo (.nm 5) b_lg K (intD (k : Int) n) [.val (dW c rs), .val (.int (p : Int)), .val (.int x), d3, .own (ls.map .str), d5, d6]
  | 0, k, p, x, ls, d5, d6, hp, h0, h1, hk, hl, h => by
    have := h (.val (.int (p : Int))) (.val (.int x)) d5 d6
    rw [show rws c rs 0 k p x = [] from rfl, List.append_nil] at this
    exact this
  | n + 1, k, p, x, ls, d5, d6, hp, h0, h1, hk, hl, h => by
    obtain ⟨nx, rt, bk, ct, er⟩ := K
    rw [intD_cons]
    refine p_put1 ?_
    dsimp only [List.set]
    unfold b_lg
    have v := hv.pv _ (nth_mem (k := p) (by omega))
    have a1 := v.1.1
    have a3 := v.2.1
    have c1 := hv.c1
    have c2 := hv.c2
    have l2 := hv.l2
    walk_at "pt"
    refine n_after_leg hp ?_
    unfold Oil.step
    by_cases z : min c (x + (nth rs p).1) < (nth rs p).2
    · rw [if_pos z]
      dsimp only [List.set, dN]
      walk_at "pt"
      refine n_taken hp ?_
      refine n_log_lineO (k := k + 1) (by omega) (by omega) (by omega) ?_
      walk_at "pt"
      refine ⟨by rw [List.length_map]; unfold LIM; omega, ?_⟩
      dsimp only [List.set]
      walk_at "pt"
      have := h (.val (.int (p : Int))) (.val (.int x)) (.val (.int (k : Int))) (.val .non)
      unfold rws at this
      rw [if_pos z, List.map_append] at this
      exact this
    · rw [if_neg z]
      dsimp only [List.set, dN]
      walk_at "pt"
      refine ⟨rfl, n_len ?_⟩
      refine p_klenI (by omega) ?_
      refine o_mod (by omega) ?_
      rw [next_p]
      dsimp only [List.set]
      walk_at "pt"
      have hp2 : (p + 1) % rs.length < rs.length := Nat.mod_lt _ (by omega)
      refine n_log_line (k := k + 1) (by omega) (by omega) (by omega) (by omega) ?_
      refine ⟨by rw [List.length_map]; unfold LIM; omega, ?_⟩
      dsimp only [List.set]
      have em : ls.map D.str ++ [.str (lnN (k + 1) ((p + 1) % rs.length) (min c (x + (nth rs p).1) - (nth rs p).2))] = (ls ++ [lnN (k + 1) ((p + 1) % rs.length) (min c (x + (nth rs p).1) - (nth rs p).2)]).map .str := by rw [List.map_append]; rfl
      rw [em]
      refine lg_go (K := ⟨nx, rt, bk, ct, er⟩) hv n (k + 1) _ _ _ _ _ hp2 (by omega) (by omega) (by omega) (by rw [List.length_append, List.length_singleton]; omega) fun d1 d2 d5 d6 => ?_
      have := h d1 d2 d5 d6
      unfold rws at this
      rw [if_neg z] at this
      rw [List.append_assoc]
      exact this
def logT (c : Int) (rs : List (Int × Int)) (p : Nat) (x : Int) (n : Nat) : Str := Txt.join "\n" (lnN 0 p x :: rws c rs n 0 p x)
theorem rws_ok (hv : WV c rs) : ∀ (n k p : Nat) (x : Int), p < rs.length → 0 ≤ x → x ≤ c → k + n ≤ 1000 → ∀ s ∈ rws c rs n k p x, s.length ≤ 100 ∧ Asc s
  | 0, k, p, x, hp, h0, h1, hk => fun s hs => by cases hs
  | n + 1, k, p, x, hp, h0, h1, hk => fun s hs => by
    have v := hv.pv _ (nth_mem (k := p) (by omega))
    have a1 := v.1.1
    have a3 := v.2.1
    have c1 := hv.c1
    have c2 := hv.c2
    have l2 := hv.l2
    unfold rws at hs
    have hp2 : (p + 1) % rs.length < rs.length := Nat.mod_lt _ (by omega)
    by_cases z : min c (x + (nth rs p).1) < (nth rs p).2
    · rw [if_pos z] at hs
      rw [List.mem_singleton.mp hs]
      exact ⟨lnO_len (by omega) (by omega) (by omega), lnO_asc (by omega)⟩
    · rw [if_neg z] at hs
      rcases List.mem_cons.mp hs with rfl | hs
      · exact ⟨lnN_len (by omega) (by omega) (by omega) (by omega), lnN_asc (by omega)⟩
      · exact rws_ok hv n (k + 1) _ _ hp2 (by omega) (by omega) (by omega) s hs
theorem log_ok {p n : Nat} (hv : WV c rs) (hp : p < rs.length) (h0 : 0 ≤ x) (h1 : x ≤ c) (hn : n ≤ 100) : ∀ s ∈ lnN 0 p x :: rws c rs n 0 p x, s.length ≤ 100 ∧ Asc s := by
  intro s hs
  have c2 := hv.c2
  have l2 := hv.l2
  rcases List.mem_cons.mp hs with rfl | hs
  · exact ⟨lnN_len (by omega) (by omega) h0 (by omega), lnN_asc h0⟩
  · exact rws_ok hv n 0 p x hp h0 h1 (by omega) s hs
theorem logT_asc {p n : Nat} (hv : WV c rs) (hp : p < rs.length) (h0 : 0 ≤ x) (h1 : x ≤ c) (hn : n ≤ 100) : Asc (logT c rs p x n) :=
  asc_join (asc_lit (by decide +kernel)) fun s hs => (log_ok hv hp h0 h1 hn s hs).2
theorem n_log_text {p n : Nat} (hv : WV c rs) (hp : p < rs.length) (h0 : 0 ≤ x) (h1 : x ≤ c) (n1 : 1 ≤ n) (n2 : n ≤ 100) (h : Q (.str (logT c rs p x n))) : S_log_text [dW c rs, .int (p : Int), .int x, .int (n : Int)] Q E := by
  refine ⟨rfl, ?_⟩
  show b_log_text [.val (dW c rs), .val (.int (p : Int)), .val (.int x), .val (.int (n : Int)), .un, .un, .un] _
  have c2 := hv.c2
  have l2 := hv.l2
  unfold b_log_text
  walk_at "pt"
  refine n_check_start hv hp h0 h1 ?_
  walk_at "pt"
  refine n_check_within (by omega) (by omega) ?_
  walk_at "pt"
  refine n_log_line (k := 0) (by omega) (by omega) h0 (by omega) ?_
  refine ⟨by show 1 ≤ LIM; decide, ?_⟩
  walk_at "pt"
  refine p_krg1 (by omega) ?_
  rw [Int.toNat_natCast]
  refine lg_go hv n 0 p x [lnN 0 p x] _ _ hp h0 h1 (by omega) (by simp) fun d1 d2 d5 d6 => ?_
  walk_at "pt"
  refine p_kjoin2 (strsOf_map _) ?_ h
  have a := sum_leN (l := (lnN 0 p x :: rws c rs n 0 p x).map (·.length)) (k := 100) (by
    intro y hy
    obtain ⟨s, hs, rfl⟩ := List.mem_map.mp hy
    exact (log_ok hv hp h0 h1 n2 s hs).1)
  have b := rws_len (c := c) (rs := rs) (n := n) (k := 0) (p := p) (x := x)
  rw [List.length_map] at a
  show ((lnN 0 p x :: rws c rs n 0 p x).map (·.length)).sum + (lnN 0 p x :: rws c rs n 0 p x).length * _ ≤ LIM
  rw [len_l5]
  simp only [List.length_cons] at a ⊢
  unfold LIM
  omega
theorem fld3_eq {n : Nat} : fld f3 (n : Int) = repS " " (3 - ((nS (n : Int)).length : Int)) ++ nS (n : Int) := by
  refine ext_tl ?_
  rw [tl_fld3, tl_append, repS1 32 _ rfl, tl_nS, nS_len, show (3 - (((dg n).length : Nat) : Int)).toNat = 3 - (dg n).length by omega]
theorem fld2_eq {n : Nat} : fld f2 (n : Int) = repS " " (2 - ((nS (n : Int)).length : Int)) ++ nS (n : Int) := by
  refine ext_tl ?_
  rw [tl_fld2, tl_append, repS1 32 _ rfl, tl_nS, nS_len, show (2 - (((dg n).length : Nat) : Int)).toNat = 2 - (dg n).length by omega]
theorem fld13_eq {n : Nat} {t o : Str} (h : tl t ++ tl o = grp n) : fld f13 (n : Int) = repS "_" (13 - ((t ++ o).length : Int)) ++ t ++ o := by
  refine ext_tl ?_
  rw [tl_fld13, tl_append, tl_append, repS1 95 _ rfl, len_tl, tl_append, h, show (13 - (((grp n).length : Nat) : Int)).toNat = 13 - (grp n).length by omega, List.append_assoc, h]
theorem cutS_lo {t : Str} (h : 3 ≤ t.length) : tl (cutS t none (some (-3))) = (tl t).take ((tl t).length - 3) := by
  show ((t.cps.toList.drop (HT.sIx t.length 0 none)).take (HT.sIx t.length t.length (some (-3)) - HT.sIx t.length 0 none)) = _
  rw [HT.sIx_none, show HT.sIx t.length t.length (some (-3)) = t.length - 3 by
    show (if (-3 : Int) < 0 then (-3 + (t.length : Int)).toNat else min (-3 : Int).toNat t.length) = _
    rw [if_pos (by decide)]
    omega, ← len_tl]
  rfl
theorem cutS_hi {t : Str} (h : 3 ≤ t.length) : tl (cutS t (some (-3)) none) = (tl t).drop ((tl t).length - 3) := by
  show ((t.cps.toList.drop (HT.sIx t.length 0 (some (-3)))).take (HT.sIx t.length t.length none - HT.sIx t.length 0 (some (-3)))) = _
  rw [HT.sIx_none, show HT.sIx t.length 0 (some (-3)) = t.length - 3 by
    show (if (-3 : Int) < 0 then (-3 + (t.length : Int)).toNat else min (-3 : Int).toNat t.length) = _
    rw [if_pos (by decide)]
    omega, ← len_tl]
  refine List.take_of_length_le ?_
  rw [List.length_drop, len_tl]
  exact Nat.le_refl _
theorem len_rep {k : Int} : (repS " " k).length = k.toNat := by rw [len_tl, repS1 32 _ rfl, List.length_replicate]
theorem row_eq {k p : Nat} {z : Str} : repS " " (3 - ((nS ((k : Int) + 1)).length : Int)) ++ nS ((k : Int) + 1) ++ " " ++ repS " " (2 - ((nS (p : Int)).length : Int)) ++ nS (p : Int) ++ " " ++ z = fld f3 ((k + 1 : Nat) : Int) ++ " " ++ fld f2 (p : Int) ++ " " ++ z := by
  rw [fld3_eq, fld2_eq]
  simp only [app_asc]
  rfl
theorem out_eq {k : Nat} {z : Str} : repS " " (3 - ((nS ((k : Int) + 1)).length : Int)) ++ nS ((k : Int) + 1) ++ " -- " ++ z = fld f3 ((k + 1 : Nat) : Int) ++ " " ++ "--" ++ " " ++ z := by
  rw [fld3_eq, show ((" -- " : String) : Str) = (" " : Str) ++ ("--" : Str) ++ (" " : Str) from rfl]
  simp only [app_asc]
  rfl
theorem first_eq {p : Nat} {z : Str} : (("  0 " : String) : Str) ++ repS " " (2 - ((nS (p : Int)).length : Int)) ++ nS (p : Int) ++ " " ++ z = fld f3 ((0 : Nat) : Int) ++ " " ++ fld f2 (p : Int) ++ " " ++ z := by
  rw [fld2_eq, show (("  0 " : String) : Str) = fld f3 ((0 : Nat) : Int) ++ (" " : Str) by decide +kernel]
  simp only [app_asc]
/-- what a walk of n legs comes to -/
def lwk (c : Int) (rs : List (Int × Int)) : Nat → Nat → Int → List Int × Option Int
  | 0, _, _ => ([], none)
  | n + 1, p, x => if min c (x + (nth rs p).1) < (nth rs p).2 then ([], some (min c (x + (nth rs p).1)))
    else ((min c (x + (nth rs p).1) - (nth rs p).2) :: (lwk c rs n ((p + 1) % rs.length) (min c (x + (nth rs p).1) - (nth rs p).2)).1, (lwk c rs n ((p + 1) % rs.length) (min c (x + (nth rs p).1) - (nth rs p).2)).2)
def lrs (m p0 : Nat) : List Int → Nat → List Str
  | [], _ => []
  | z :: L, k => lnN (k + 1) ((p0 + k + 1) % m) z :: lrs m p0 L (k + 1)
def lro (k : Nat) : Option Int → List Str
  | none => []
  | some y => [lnO (k + 1) y]
theorem lrs_len {m p0 : Nat} : ∀ (L : List Int) (k : Nat), (lrs m p0 L k).length = L.length
  | [], k => rfl
  | z :: L, k => by show (lrs m p0 L (k + 1)).length + 1 = _; rw [lrs_len]; rfl
theorem rws_eq {p0 : Nat} : ∀ (n k p : Nat) (x : Int), p = (p0 + k) % rs.length → rws c rs n k p x = lrs rs.length p0 (lwk c rs n p x).1 k ++ lro (k + (lwk c rs n p x).1.length) (lwk c rs n p x).2
  | 0, k, p, x, e => rfl
  | n + 1, k, p, x, e => by
    unfold rws lwk
    by_cases z : min c (x + (nth rs p).1) < (nth rs p).2
    · rw [if_pos z, if_pos z]
      rfl
    · rw [if_neg z, if_neg z]
      have e2 : (p + 1) % rs.length = (p0 + (k + 1)) % rs.length := by rw [e, Nat.mod_add_mod, Nat.add_assoc]
      rw [rws_eq n (k + 1) _ _ e2]
      show _ = lnN (k + 1) ((p0 + k + 1) % rs.length) _ :: (lrs rs.length p0 _ (k + 1) ++ lro _ _)
      rw [show (p0 + k + 1) = p0 + (k + 1) by omega, ← e2, List.length_cons]
      generalize lwk c rs n ((p + 1) % rs.length) (min c (x + (nth rs p).1) - (nth rs p).2) = W
      rw [show k + (W.1.length + 1) = k + 1 + W.1.length by omega]
theorem lwk_ok (hv : WV c rs) : ∀ (n p : Nat) (x : Int), p < rs.length → 0 ≤ x → x ≤ c → (lwk c rs n p x).1.length ≤ n ∧ (∀ z ∈ (lwk c rs n p x).1, 0 ≤ z ∧ z ≤ c) ∧ ∀ y, (lwk c rs n p x).2 = some y → 0 ≤ y ∧ y ≤ c
  | 0, p, x, hp, h0, h1 => ⟨Nat.le_refl _, fun z hz => (by cases hz), fun y hy => (by cases hy)⟩
  | n + 1, p, x, hp, h0, h1 => by
    have v := hv.pv _ (nth_mem (k := p) (by omega))
    have a1 := v.1.1
    have a3 := v.2.1
    have c1 := hv.c1
    unfold lwk
    have hp2 : (p + 1) % rs.length < rs.length := Nat.mod_lt _ (by omega)
    by_cases z : min c (x + (nth rs p).1) < (nth rs p).2
    · rw [if_pos z]
      refine ⟨Nat.zero_le _, fun z hz => (by cases hz), fun y hy => ?_⟩
      cases hy
      exact ⟨by omega, by omega⟩
    · rw [if_neg z]
      obtain ⟨i1, i2, i3⟩ := lwk_ok hv n _ (min c (x + (nth rs p).1) - (nth rs p).2) hp2 (by omega) (by omega)
      refine ⟨Nat.succ_le_succ i1, fun w hw => ?_, i3⟩
      rcases List.mem_cons.mp hw with rfl | hw
      · exact ⟨by omega, by omega⟩
      · exact i2 w hw
end
end Oil
namespace K59
open PySem PySem.Spec PyProof.Rows L2 Oil
def b_law_number : WS := (wSeq (wParN (wpVal 1 (wCB bStr (wCons (wName 0) wNil)) (wpVal 2 (wC (.str "")) wpNil)))
    (wSeq (wWhile (wtVal (wOp oGt (wCB bLenS (wCons (wName 1) wNil)) (wC (.int 3))))
    (wParN (wpVal 1 (wSliceS (wName 1) wNoPart (wPart (wNeg (wC (.int 3))))) (wpVal 2 (wOp oAddS (wOp oAddS (wC (.str ",")) (wSliceS (wName 1) (wPart (wNeg (wC (.int 3)))) wNoPart)) (wName 2)) wpNil))))
    (wRet (wOp oAddS (wOp oAddS (wOp oMulS (wC (.str "_")) (wOp oSub (wC (.int 13)) (wCB bLenS (wCons (wOp oAddS (wName 1) (wName 2)) wNil)))) (wName 1)) (wName 2)))))
def S_law_number : PSpec := specOf 1 3 b_law_number
def b_law : WS := (wSeq (wUnp (.tp [2, 3, 4, 5, 6]) (wCall S_law_drawn (wCons (wName 1) (wCons (wC (.int 12)) wNil))))
    (wSeq (wSet 7 (wOp oIx (wLst (wCons (wC (.int 1)) (wCons (wOp oAdd (wC (.int 1)) (wCall S_next (wCons (wName 1) (wCons (wOp oPow (wC (.int 10)) (wC (.int 6))) wNil)))) wNil))) (wCall S_next (wCons (wName 1) (wCons (wC (.int 2)) wNil)))))
    (wSeq (wUnp (.tp [4, 3, 6]) (wTup (wCons (wLc (wIter (wName 4)) (.tp [8, 21]) wYes (wTup (wCons (wOp oMul (wName 8) (wName 7)) (wCons (wOp oMul (wName 21) (wName 7)) wNil))) [8, 21]) (wCons (wOp oMul (wName 3) (wName 7)) (wCons (wOp oMul (wName 6) (wName 7)) wNil)))))
    (wSeq (wUnp (.tp [2, 9]) (wTup (wCons (wCall S_law_way (wCons (wName 3) (wCons (wName 4) wNil))) (wCons (wOp oAdd (wC (.int 1)) (wCall S_next (wCons (wName 1) (wCons (wC (.int 20)) wNil)))) wNil))))
    (wSeq (wUnp (.tp [10, 11]) (wCall S_law_walked (wCons (wName 3) (wCons (wName 4) (wCons (wName 5) (wCons (wName 6) (wCons (wName 9) wNil)))))))
    (wSeq (wSetO 12 (wLst (wCons (wOp oAddS (wOp oAddS (wOp oAddS (wOp oAddS (wC (.str "  0 ")) (wOp oMulS (wC (.str " ")) (wOp oSub (wC (.int 2)) (wCB bLenS (wCons (wCB bStr (wCons (wName 5) wNil)) wNil))))) (wCB bStr (wCons (wName 5) wNil))) (wC (.str " "))) (wCall S_law_number (wCons (wName 6) wNil))) wNil)))
    (wSeq (wFor (wRange1 (wCB bLen (wCons (wName 10) wNil))) (.nm 13)
    (wSeq (wSet 8 (wCB bStr (wCons (wOp oMod (wCB bInt (wCons (wOp oAdd (wOp oAdd (wName 5) (wName 13)) (wC (.int 1))) wNil)) (wCB bLen (wCons (wName 4) wNil))) wNil)))
    (wSeq (wSet 14 (wOp oAddS (wOp oAddS (wOp oAddS (wOp oAddS (wOp oMulS (wC (.str " ")) (wOp oSub (wC (.int 3)) (wCB bLenS (wCons (wCB bStr (wCons (wOp oAdd (wName 13) (wC (.int 1))) wNil)) wNil)))) (wCB bStr (wCons (wOp oAdd (wName 13) (wC (.int 1))) wNil))) (wC (.str " "))) (wOp oMulS (wC (.str " ")) (wOp oSub (wC (.int 2)) (wCB bLenS (wCons (wName 8) wNil))))) (wName 8)))
    (wApp 12 (wOp oAddS (wOp oAddS (wName 14) (wC (.str " "))) (wCall S_law_number (wCons (wOp oIx (wName 10) (wName 13)) wNil)))))))
    (wSeq (wIfS (wtVal (wOp oIsNot (wName 11) (wC .non)))
    (wSeq (wSet 15 (wCB bStr (wCons (wOp oAdd (wOp oIx (wName 11) (wC (.int 0))) (wC (.int 1))) wNil)))
    (wApp 12 (wOp oAddS (wOp oAddS (wOp oAddS (wOp oMulS (wC (.str " ")) (wOp oSub (wC (.int 3)) (wCB bLenS (wCons (wName 15) wNil)))) (wName 15)) (wC (.str " -- "))) (wCall S_law_number (wCons (wOp oIx (wName 11) (wC (.int 1))) wNil)))))
    wSkip)
    (wSeq (wFrz 12 (wIfS (wtVal (wOp oNe (wCall S_log_text (wCons (wName 2) (wCons (wName 5) (wCons (wName 6) (wCons (wName 9) wNil))))) (wJoin (wC (.str "\n")) (wOwn 12))))
    (wRet (wC (.bl false)))
    wSkip))
    (wSeq (wSet 16 (wLc (wIter (wName 4)) (.tp [8, 21]) wYes (wOp oAddS (wOp oAddS (wOp oAddS (wC (.str "post ")) (wCB bStr (wCons (wName 8) wNil))) (wC (.str " "))) (wCB bStr (wCons (wName 21) wNil))) [8, 21]))
    (wSeq (wSet 17 (wJoin (wC (.str "\n")) (wOp oAdd (wLst (wCons (wOp oAddS (wC (.str "lantern ")) (wCB bStr (wCons (wName 3) wNil))) wNil)) (wName 16))))
    (wSeq (wIfS (wtOr (wtVal (wOp oNe (wCall S_format_way (wCons (wName 2) wNil)) (wName 17))) (wtNot (wtVal (wEqO 13 S_Way_eq (wCall S_parse_way (wCons (wName 17) wNil)) (wName 2)))))
    (wRet (wC (.bl false)))
    wSkip)
    (wSeq (wSet 18 (wCall S_decode_way (wCons (wCall S_encode_way (wCons (wName 2) wNil)) wNil)))
    (wSeq (wSet 19 (wCall S_parse_way (wCons (wName 17) wNil)))
    (wSeq (wSet 20 (wLc (wIter (wTup (wCons (wName 18) (wCons (wName 19) wNil)))) (.nm 22) wYes (wCall S_log_text (wCons (wName 22) (wCons (wName 5) (wCons (wName 6) (wCons (wName 9) wNil))))) [22]))
    (wRet (wAnd (wEqO 13 S_Way_eq (wName 18) (wName 2)) (wOp oEq (wOp oIx (wName 20) (wC (.int 0))) (wOp oIx (wName 20) (wC (.int 1)))))))))))))))))))))
end K59
namespace K59
open PySem PySem.Spec PyProof.Rows L2 Oil TL
local macro_rules | `(tactic| walk_at "pq1") => `(tactic| with_reducible first
  | refine p_seq ?_ | refine p_skip ?_ | refine p_set ?_ | refine p_setO ?_ | refine p_kown ?_ | refine p_unp ?_ | refine p_put rfl ?_ | refine p_put1 ?_
  | refine p_par ?_ | refine p_pnil ?_ | refine p_pval ?_ | refine p_pown ?_ | refine p_kpown ?_ | refine p_expr ?_ | refine p_ret ?_ | refine p_retN ?_ | refine p_ifS ?_
  | refine p_for ?_ | refine p_raise ?_ | refine p_c ?_ | refine p_op ?_ | refine p_neg ?_ | refine p_kneg ?_ | refine p_chain ?_ | refine p_and ?_ | refine p_or ?_ | refine p_not ?_ | refine p_knot ?_
  | refine p_if ?_ | refine p_nil ?_ | refine p_cons ?_ | refine p_star ?_ | refine p_kstarT ?_ | refine p_kstarL ?_ | refine p_tup ?_ | refine p_lst ?_ | refine p_call ?_ | refine p_cb ?_ | refine p_val ?_ | refine p_kval ?_
  | refine p_ttru ?_ | refine p_ktruN ?_ | refine p_ktruB ?_ | refine p_ktruI ?_ | refine p_ktruL ?_ | refine p_ktruT ?_ | refine p_tnot ?_ | refine p_tand ?_ | refine p_tor ?_
  | refine p_nopart ?_ | refine p_part ?_ | refine p_kpart ?_ | refine p_slice ?_ | refine p_ksliceL ?_ | refine p_ksliceT ?_ | refine p_fld ?_ | refine p_meth ?_ | refine p_clo ?_ | refine p_kclo rfl ?_ | refine p_prop ?_ | refine p_kprop rfl ?_
  | refine p_inv ?_ | refine p_kinv rfl ?_ | refine p_lenO ?_ | refine p_klenO rfl ?_ | refine p_get ?_ | refine p_kget rfl ?_ | refine p_cmeth ?_ | refine p_kcmeth rfl ?_ | refine p_opC ?_ | refine p_kopC rfl rfl ?_ | refine p_opF ?_ | refine p_kopF rfl rfl ?_
  | refine p_eqO ?_ | refine p_keqO rfl rfl ?_ | refine p_iter ?_ | refine p_kiterL ?_ | refine p_kiterT ?_ | refine p_rg1 ?_ | refine p_rg2 ?_ | refine p_enum ?_ | refine p_kenum ?_ | refine p_lc ?_ | refine p_yes ?_
  | refine p_tt ?_ | refine p_ff ?_
  | refine o_add ?_ | refine o_sub ?_ | refine o_lt ?_ | refine o_le ?_ | refine o_gt ?_ | refine o_ge ?_
  | refine b_lenL ?_ | refine b_lenT ?_ | refine b_int ?_ | refine b_tupL ?_ | refine b_tupT ?_ | refine b_listL ?_ | refine b_listT ?_ | refine b_max2 ?_ | refine b_min2 ?_)
local macro_rules | `(tactic| walk_at "pq2") => `(tactic| with_reducible first
  | refine p_name (by with_unfolding_all rfl) ?_ | refine p_ownV (by with_unfolding_all rfl) ?_ | refine p_own (by with_unfolding_all rfl) ?_ | refine p_app (by with_unfolding_all rfl) ?_ | refine p_putI (by with_unfolding_all rfl) ?_
  | refine p_frz (by with_unfolding_all rfl) ?_ | refine p_frzV (by with_unfolding_all rfl) ?_ | refine p_kfld (by with_unfolding_all rfl) (by with_unfolding_all rfl) ?_ | refine p_kmeth (by with_unfolding_all rfl) (by decide) ?_ | refine p_makL (by with_unfolding_all rfl) (by with_unfolding_all rfl) ?_
  | refine p_self (by with_unfolding_all rfl) (by decide) (by with_unfolding_all rfl) (by decide) ?_)
local macro_rules | `(tactic| walk_at "pq3") => `(tactic| with_reducible first
  | refine o_eqI ?_ | refine o_neI ?_ | refine o_isNon ?_ | refine o_isInt ?_ | refine o_isNotNon ?_ | refine o_isNotInt ?_ | refine p_kandT ?_ | refine p_kandF ?_ | refine p_korT ?_ | refine p_korF ?_ | refine p_nt ?_ | refine p_nf ?_)
local macro_rules | `(tactic| walk_at "pq") => `(tactic| repeat (first | walk_at "pq1" | walk_at "pq2" | walk_at "pq3"))
local macro_rules | `(tactic| walk_at "pt1") => `(tactic| with_reducible first
  | refine p_m0 ?_ | refine p_km0 ?_ | refine p_sw ?_ | refine p_ksw ?_ | refine p_toB ?_ | refine p_fromB ?_ | refine p_kfromB ?_ | refine p_js ?_ | refine p_jc ?_ | refine p_jn ?_ | refine p_fmt ?_ | refine p_fmts ?_
  | refine p_join ?_ | refine p_kjoin ?_ | refine p_int1 ?_ | refine p_kint1 ?_ | refine p_str1 ?_ | refine p_kstr1 ?_ | refine p_split ?_ | refine p_sliceS ?_ | refine p_ixB ?_ | refine p_listB ?_ | refine p_iterT ?_ | refine p_iterB ?_
  | refine p_kiterTx ?_ | refine p_kiterB ?_ | refine p_enumK ?_ | refine p_brk ?_ | refine p_cnt ?_ | refine b_isiB ?_)
local macro_rules | `(tactic| walk_at "pt") => `(tactic| repeat (first | walk_at "pq1" | walk_at "pq2" | walk_at "pt1" | walk_at "pq3"))
local macro_rules | `(tactic| walk_at "tlen") => `(tactic| (simp only [len_app, empty_len, empty_app, len_rep, len_l0, len_l1, len_l2, len_l3, len_l4, len_l5, len_l6, len_l7, len_l8, len_l9, len_l10, len_l11, len_l12]; unfold LIM; omega))
def IvN (n : Nat) : Nat → Ev → Prop := fun m env => ∃ (t o : Str) (k : Nat), env = [.val (.int (n : Int)), .val (.str t), .val (.str o)] ∧ t.length = m ∧ lgo k (tl t) (tl o) = grp n ∧ t.length ≤ k ∧ 2 * t.length + o.length ≤ 20
theorem r_law_number {Q : QD} {E : QR} {n : Nat} (hn : n < 10000000000) (h : Q (.str (fld f13 (n : Int)))) : S_law_number [.int (n : Int)] Q E := by
  refine ⟨rfl, ?_⟩
  show b_law_number [.val (.int (n : Int)), .un, .un] _
  unfold b_law_number
  walk_at "pt"
  refine b_str (by omega) (by omega) ?_
  walk_at "pt"
  dsimp only [List.set]
  have l := nS_le (n := (n : Int)) (by omega) (by omega)
  refine ⟨IvN n, ⟨_, nS (n : Int), Str.ofString "", (dg n).length, rfl, rfl, ?_, by rw [nS_len]; exact Nat.le_refl _, by rw [len_l9]; omega⟩, ?_⟩
  · rw [tl_nS]
    rfl
  rintro m env ⟨t, o, k, rfl, hm, hg, hk, hb⟩
  walk_at "pt"
  refine b_lenS (by unfold LIM; omega) ?_
  walk_at "pt"
  refine p_dec (fun z => ?_) (fun z => ?_)
  · walk_at "pt"
    refine p_ksls (by unfold LIM; omega) ?_
    walk_at "pt"
    refine p_ksls (by unfold LIM; omega) ?_
    have h1 := cutS_lo (t := t) (by omega)
    have h2 := cutS_hi (t := t) (by omega)
    have l1 : (cutS t none (some (-3))).length = t.length - 3 := by rw [len_tl, h1, List.length_take, ← len_tl]; omega
    have l2 : (cutS t (some (-3)) none).length = 3 := by rw [len_tl, h2, List.length_drop, ← len_tl]; omega
    refine o_addS (by rw [l2, len_l7]; decide) ?_
    walk_at "pt"
    refine o_addS (by rw [len_app, l2, len_l7]; unfold LIM; omega) ?_
    walk_at "pt"
    dsimp only [List.set]
    refine ⟨t.length - 3, by omega, _, _, k - 1, rfl, l1, ?_, by omega, by rw [len_app, len_app, l1, l2, len_l7]; omega⟩
    rw [h1, tl_append, tl_append, h2]
    obtain ⟨k, rfl⟩ : ∃ k', k = k' + 1 := ⟨k - 1, by omega⟩
    unfold lgo at hg
    rw [if_pos (by rw [← len_tl]; omega)] at hg
    exact hg
  · walk_at "pt"
    have hg' : tl t ++ tl o = grp n := by rw [← hg, lgo_small (by rw [← len_tl]; omega)]
    refine o_addS (by unfold LIM; omega) ?_
    walk_at "pt"
    refine b_lenS (by rw [len_app]; unfold LIM; omega) ?_
    walk_at "pt"
    refine o_mulS (by rw [len_l6]; decide) (by rw [len_app]; omega) (by omega) ?_
    have e := fld13_eq hg'
    have le := fld13_le (n := (n : Int)) (by omega) (by omega)
    rw [e, len_app, len_app] at le
    walk_at "pt"
    refine o_addS (by unfold LIM; omega) ?_
    walk_at "pt"
    refine o_addS (by rw [len_app]; unfold LIM; omega) ?_
    rw [e] at h
    exact h
def b_wk : WS := (wSeq (wUnp (.tp [9, 10]) (wOp oIx (wName 1) (wName 6)))
    (wSeq (wSet 7 (wCB bMin2 (wCons (wName 0) (wCons (wOp oAdd (wName 7) (wName 9)) wNil))))
    (wSeq (wIfS (wtVal (wOp oLt (wName 7) (wName 10)))
    (wFrz 5 (wRet (wTup (wCons (wName 5) (wCons (wTup (wCons (wName 8) (wCons (wName 7) wNil))) wNil)))))
    wSkip)
    (wSeq (wParN (wpVal 7 (wOp oSub (wName 7) (wName 10)) (wpVal 6 (wOp oMod (wCB bInt (wCons (wOp oAdd (wName 6) (wC (.int 1))) wNil)) (wCB bLen (wCons (wName 1) wNil))) wpNil)))
    (wApp 5 (wName 7))))))
def dO (k : Nat) : Option Int → D
  | none => .non
  | some y => .tup [.int (k : Int), .int y]
theorem wk_go (K : KN) (c : Int) (rs : List (Int × Int)) (l2 : rs.length ≤ 12) (d2 d3 d4 : Sl) : ∀ (n p : Nat) (x : Int) (acc : List Int) (e8 e9 e10 : Sl), p < rs.length → acc.length + n ≤ 1000 →
    ((lwk c rs n p x).2 = none → ∀ e6 e7 e8 e9 e10, K.nx [.val (.int c), .val (.lst (rs.map dP)), d2, d3, d4, .own ((acc ++ (lwk c rs n p x).1).map .int), e6, e7, e8, e9, e10]) →
    (∀ y env, (lwk c rs n p x).2 = some y → K.rt (.tup [.lst ((acc ++ (lwk c rs n p x).1).map .int), .tup [.int (((acc ++ (lwk c rs n p x).1).length : Nat) : Int), .int y]]) env) →
    wForGo (.nm 8) b_wk K (intD ((acc.length : Nat) : Int) n) [.val (.int c), .val (.lst (rs.map dP)), d2, d3, d4, .own (acc.map .int), .val (.int (p : Int)), .val (.int x), e8, e9, e10]
  | 0, p, x, acc, e8, e9, e10, hp, hk, hn, he => by
    have := hn rfl (.val (.int (p : Int))) (.val (.int x)) e8 e9 e10
    rw [show (lwk c rs 0 p x).1 = [] from rfl, List.append_nil] at this
    exact this
  | n + 1, p, x, acc, e8, e9, e10, hp, hk, hn, he => by
    rw [intD_cons]
    refine p_put1 ?_
    dsimp only [List.set]
    unfold b_wk
    walk_at "pt"
    refine o_ixL (k := p) (x := dP (nth rs p)) (ixD_nat (by rw [List.length_map]; exact hp)) (by rw [nth_lt hp, List.getElem?_map, List.getElem?_eq_getElem hp]; rfl) ?_
    unfold dP
    refine p_put rfl ?_
    dsimp only [List.set, setMany]
    walk_at "pt"
    dsimp only [List.set]
    unfold lwk at hn he
    refine p_dec (fun z => ?_) (fun z => ?_)
    · rw [if_pos z] at he
      walk_at "pt"
      refine ⟨by show 2 ≤ LIM; decide, ?_⟩
      walk_at "pt"
      refine ⟨by show 2 ≤ LIM; decide, ?_⟩
      have := he _ [.val (.int c), .val (.lst (rs.map dP)), d2, d3, d4, .val (.lst (acc.map .int)), .val (.int (p : Int)), .val (.int (min c (x + (nth rs p).1))), .val (.int (acc.length : Int)), .val (.int (nth rs p).1), .val (.int (nth rs p).2)] rfl
      rw [List.append_nil] at this
      exact this
    · rw [if_neg z] at hn he
      walk_at "pt"
      refine o_mod (by rw [List.length_map]; omega) ?_
      walk_at "pt"
      refine ⟨by rw [List.length_map]; unfold LIM; omega, ?_⟩
      dsimp only [List.set]
      rw [List.length_map, next_p]
      have e : acc.map D.int ++ [.int (min c (x + (nth rs p).1) - (nth rs p).2)] = (acc ++ [min c (x + (nth rs p).1) - (nth rs p).2]).map .int := by rw [List.map_append]; rfl
      rw [e, show ((acc.length : Nat) : Int) + 1 = (((acc ++ [min c (x + (nth rs p).1) - (nth rs p).2]).length : Nat) : Int) by simp]
      refine wk_go K c rs l2 d2 d3 d4 n _ _ _ _ _ _ (Nat.mod_lt _ (by omega)) (by simp; omega) (fun q e6 e7 e8 e9 e10 => ?_) (fun y env q => ?_)
      · have := hn q e6 e7 e8 e9 e10
        rw [List.append_assoc]
        exact this
      · have := he y env q
        rw [List.append_assoc]
        exact this
theorem r_law_walked {c x : Int} {rs : List (Int × Int)} {p n : Nat} {Q : QD} {E : QR} (hp : p < rs.length) (l2 : rs.length ≤ 12) (hn : n ≤ 1000) (h : Q (.tup [.lst ((lwk c rs n p x).1.map .int), dO (lwk c rs n p x).1.length (lwk c rs n p x).2])) : S_law_walked [.int c, .lst (rs.map dP), .int (p : Int), .int x, .int (n : Int)] Q E := by
  refine ⟨rfl, ?_⟩
  show b_law_walked [.val (.int c), .val (.lst (rs.map dP)), .val (.int (p : Int)), .val (.int x), .val (.int (n : Int)), .un, .un, .un, .un, .un, .un] _
  unfold b_law_walked
  walk_at "pt"
  refine ⟨by show 0 ≤ LIM; decide, ?_⟩
  walk_at "pt"
  dsimp only [List.set]
  walk_at "pt"
  refine p_krg1 (by omega) ?_
  rw [Int.toNat_natCast]
  refine wk_go _ c rs l2 _ _ _ n p x [] _ _ _ hp (by simp; omega) (fun q e6 e7 e8 e9 e10 => ?_) (fun y env q => ?_)
  · rw [List.nil_append]
    walk_at "pt"
    refine ⟨by show 2 ≤ LIM; decide, ?_⟩
    rw [q] at h
    exact h
  · rw [List.nil_append]
    rw [q] at h
    exact h
def b_lr : WS := (wSeq (wSet 8 (wCB bStr (wCons (wOp oMod (wCB bInt (wCons (wOp oAdd (wOp oAdd (wName 5) (wName 13)) (wC (.int 1))) wNil)) (wCB bLen (wCons (wName 4) wNil))) wNil)))
    (wSeq (wSet 14 (wOp oAddS (wOp oAddS (wOp oAddS (wOp oAddS (wOp oMulS (wC (.str " ")) (wOp oSub (wC (.int 3)) (wCB bLenS (wCons (wCB bStr (wCons (wOp oAdd (wName 13) (wC (.int 1))) wNil)) wNil)))) (wCB bStr (wCons (wOp oAdd (wName 13) (wC (.int 1))) wNil))) (wC (.str " "))) (wOp oMulS (wC (.str " ")) (wOp oSub (wC (.int 2)) (wCB bLenS (wCons (wName 8) wNil))))) (wName 8)))
    (wApp 12 (wOp oAddS (wOp oAddS (wName 14) (wC (.str " "))) (wCall S_law_number (wCons (wOp oIx (wName 10) (wName 13)) wNil))))))
theorem lr_go {K : KN} {rs : List (Int × Int)} {p0 : Nat} {L : List Int} {d0 d1 d2 d3 d6 d7 d9 d11 d15 d16 d17 d18 d19 d20 d21 d22 : Sl} (h1 : 1 ≤ rs.length) (l2 : rs.length ≤ 12) (hp : p0 < rs.length) (hL : L.length ≤ 1000) (hz : ∀ z ∈ L, 0 ≤ z ∧ z ≤ 1000000000) : ∀ (T pre : List Int) (ls : List Str) (d8 d13 d14 : Sl), L = pre ++ T → ls.length ≤ pre.length + 1 →
    (∀ d8 d13 d14, K.nx [d0, d1, d2, d3, .val (.lst (rs.map dP)), .val (.int (p0 : Int)), d6, d7, d8, d9, .val (.lst (L.map .int)), d11, .own ((ls ++ lrs rs.length p0 T pre.length).map .str), d13, d14, d15, d16, d17, d18, d19, d20, d21, d22]) →
    wForGo (.nm 13) b_lr K (intD ((pre.length : Nat) : Int) T.length) [d0, d1, d2, d3, .val (.lst (rs.map dP)), .val (.int (p0 : Int)), d6, d7, d8, d9, .val (.lst (L.map .int)), d11, .own (ls.map .str), d13, d14, d15, d16, d17, d18, d19, d20, d21, d22]
  | [], pre, ls, d8, d13, d14, e, hl, h => by
    have := h d8 d13 d14
    rw [show lrs rs.length p0 [] pre.length = [] from rfl, List.append_nil] at this
    exact this
  | z :: T, pre, ls, d8, d13, d14, e, hl, h => by
    obtain ⟨nx, rt, bk, ct, er⟩ := K
    have hk : pre.length + T.length + 1 ≤ 1000 := by rw [e] at hL; simpa [Nat.add_assoc] using hL
    have zz := hz z (by rw [e]; simp)
    obtain ⟨zn, rfl⟩ := Int.eq_ofNat_of_zero_le zz.1
    have hq : (p0 + pre.length + 1) % rs.length < rs.length := Nat.mod_lt _ (by omega)
    rw [List.length_cons, intD_cons]
    refine p_put1 ?_
    dsimp only [List.set]
    unfold b_lr
    walk_at "pt"
    refine o_mod (by rw [List.length_map]; omega) ?_
    rw [List.length_map, show ((p0 : Int) + ((pre.length : Nat) : Int) + 1).fmod (rs.length : Int) = (((p0 + pre.length + 1) % rs.length : Nat) : Int) by rw [Int.fmod_eq_emod_of_nonneg _ (by omega)]; rfl]
    walk_at "pt"
    refine b_str (by omega) (by omega) ?_
    dsimp only [List.set]
    walk_at "pt"
    refine b_str (by omega) (by omega) ?_
    walk_at "pt"
    have a := nS_le (n := ((pre.length : Nat) : Int) + 1) (by omega) (by omega)
    have b := nS_le (n := (((p0 + pre.length + 1) % rs.length : Nat) : Int)) (by omega) (by omega)
    refine b_lenS (by unfold LIM; omega) ?_
    walk_at "pt"
    refine o_mulS (by rw [len_l2]; decide) (by omega) (by omega) ?_
    walk_at "pt"
    refine b_str (by omega) (by omega) ?_
    refine o_addS (by walk_at "tlen") ?_
    walk_at "pt"
    refine o_addS (by walk_at "tlen") ?_
    walk_at "pt"
    refine b_lenS (by unfold LIM; omega) ?_
    walk_at "pt"
    refine o_mulS (by rw [len_l2]; decide) (by omega) (by omega) ?_
    refine o_addS (by walk_at "tlen") ?_
    walk_at "pt"
    refine o_addS (by walk_at "tlen") ?_
    dsimp only [List.set]
    walk_at "pt"
    refine o_addS (by walk_at "tlen") ?_
    walk_at "pt"
    refine o_ixL (k := pre.length) (x := .int (zn : Int)) (ixD_nat (by rw [List.length_map, e]; simp)) (by rw [e]; simp) ?_
    walk_at "pt"
    refine r_law_number (by omega) ?_
    have lz := fld13_le (n := (zn : Int)) (by omega) (by omega)
    refine o_addS (by walk_at "tlen") ?_
    refine ⟨by rw [List.length_map]; unfold LIM; omega, ?_⟩
    dsimp only [List.set]
    rw [row_eq]
    have em : ls.map D.str ++ [.str (fld f3 ((pre.length + 1 : Nat) : Int) ++ " " ++ fld f2 (((p0 + pre.length + 1) % rs.length : Nat) : Int) ++ " " ++ fld f13 (zn : Int))] = (ls ++ [lnN (pre.length + 1) ((p0 + pre.length + 1) % rs.length) (zn : Int)]).map .str := by rw [List.map_append]; rfl
    rw [em, show ((pre.length : Nat) : Int) + 1 = (((pre ++ [(zn : Int)]).length : Nat) : Int) by simp]
    refine lr_go (K := ⟨nx, rt, bk, ct, er⟩) h1 l2 hp hL hz T (pre ++ [(zn : Int)]) _ _ _ _ (by rw [e]; simp) (by simp; omega) fun d8 d13 d14 => ?_
    have := h d8 d13 d14
    rw [List.append_assoc]
    rw [show (pre ++ [(zn : Int)]).length = pre.length + 1 by simp]
    exact this
theorem mulb {a u A U : Int} (h0 : 0 ≤ a) (h1 : a ≤ A) (h2 : 1 ≤ u) (h3 : u ≤ U) : a ≤ a * u ∧ a * u ≤ A * U := by
  refine ⟨?_, Int.mul_le_mul h1 h3 (by omega) (by omega)⟩
  have := Int.mul_le_mul_of_nonneg_left h2 h0
  rwa [Int.mul_one] at this
def sc (u : Int) (r : Int × Int) : Int × Int := (r.1 * u, r.2 * u)
def b_rest : WS := (wSeq (wFrz 12 (wIfS (wtVal (wOp oNe (wCall S_log_text (wCons (wName 2) (wCons (wName 5) (wCons (wName 6) (wCons (wName 9) wNil))))) (wJoin (wC (.str "\n")) (wOwn 12))))
    (wRet (wC (.bl false)))
    wSkip))
    (wSeq (wSet 16 (wLc (wIter (wName 4)) (.tp [8, 21]) wYes (wOp oAddS (wOp oAddS (wOp oAddS (wC (.str "post ")) (wCB bStr (wCons (wName 8) wNil))) (wC (.str " "))) (wCB bStr (wCons (wName 21) wNil))) [8, 21]))
    (wSeq (wSet 17 (wJoin (wC (.str "\n")) (wOp oAdd (wLst (wCons (wOp oAddS (wC (.str "lantern ")) (wCB bStr (wCons (wName 3) wNil))) wNil)) (wName 16))))
    (wSeq (wIfS (wtOr (wtVal (wOp oNe (wCall S_format_way (wCons (wName 2) wNil)) (wName 17))) (wtNot (wtVal (wEqO 13 S_Way_eq (wCall S_parse_way (wCons (wName 17) wNil)) (wName 2)))))
    (wRet (wC (.bl false)))
    wSkip)
    (wSeq (wSet 18 (wCall S_decode_way (wCons (wCall S_encode_way (wCons (wName 2) wNil)) wNil)))
    (wSeq (wSet 19 (wCall S_parse_way (wCons (wName 17) wNil)))
    (wSeq (wSet 20 (wLc (wIter (wTup (wCons (wName 18) (wCons (wName 19) wNil)))) (.nm 22) wYes (wCall S_log_text (wCons (wName 22) (wCons (wName 5) (wCons (wName 6) (wCons (wName 9) wNil))))) [22]))
    (wRet (wAnd (wEqO 13 S_Way_eq (wName 18) (wName 2)) (wOp oEq (wOp oIx (wName 20) (wC (.int 0))) (wOp oIx (wName 20) (wC (.int 1)))))))))))))
theorem rest_ok {c : Int} {rs : List (Int × Int)} {p n : Nat} {x : Int} {d0 d1 d7 d8 d10 d11 d13 d14 d15 : Sl} (hv : WV c rs) (hp : p < rs.length) (x0 : 0 ≤ x) (x1 : x ≤ c) (n1 : 1 ≤ n) (n2 : n ≤ 100) {nx bk ct : Ev → Prop} {er : Er → Ev → Prop} :
    b_rest [d0, d1, .val (dW c rs), .val (.int c), .val (.lst (rs.map dP)), .val (.int (p : Int)), .val (.int x), d7, d8, .val (.int (n : Int)), d10, d11, .own ((lnN 0 p x :: rws c rs n 0 p x).map .str), d13, d14, d15, .un, .un, .un, .un, .un, .un, .un] ⟨nx, fun d _ => d = .bl true, bk, ct, er⟩ := by
  unfold b_rest
  have c1 := hv.c1
  have c2 := hv.c2
  have l2 := hv.l2
  walk_at "pt"
  refine n_log_text hv hp x0 x1 n1 n2 ?_
  walk_at "pt"
  refine p_kjoin2 (strsOf_map _) ?_ ?_
  · have a := sum_leN (l := (lnN 0 p x :: rws c rs n 0 p x).map (·.length)) (k := 100) (by
      intro y hy
      obtain ⟨s, hs, rfl⟩ := List.mem_map.mp hy
      exact (log_ok hv hp x0 x1 n2 s hs).1)
    have b := rws_len (c := c) (rs := rs) (n := n) (k := 0) (p := p) (x := x)
    rw [List.length_map] at a
    rw [len_l5]
    simp only [List.length_cons] at a ⊢
    unfold LIM
    omega
  have ha := logT_asc hv hp x0 x1 n2
  refine o_neT ha ha ?_
  unfold logT
  rw [beq_self_eq_true]
  walk_at "pt"
  refine ⟨by rw [List.length_map]; unfold LIM; omega, ?_⟩
  refine lc_mapT dP (fun r => .str (rowP r)) rs [] ?_ ?_
  · intro r hr A hA
    have v := hv.pv r hr
    have v1 := v.1.1
    have v2 := v.1.2
    have v3 := v.2.1
    have v4 := v.2.2
    have a := nS_le v1 (by omega)
    have b := nS_le (n := r.2) (by omega) (by omega)
    refine p_put rfl ?_
    dsimp only [wipeE, List.set, setMany]
    walk_at "pt"
    refine b_str v1 (by omega) ?_
    refine o_addS (by walk_at "tlen") ?_
    walk_at "pt"
    refine o_addS (by walk_at "tlen") ?_
    walk_at "pt"
    refine b_str (by omega) (by omega) ?_
    refine o_addS (by walk_at "tlen") ?_
    exact hA
  rw [List.nil_append]
  walk_at "pt"
  refine b_str (by omega) (by omega) ?_
  have a := nS_le (n := c) (by omega) (by omega)
  refine o_addS (by walk_at "tlen") ?_
  walk_at "pt"
  refine ⟨by show 1 ≤ LIM; decide, ?_⟩
  walk_at "pt"
  have e : [D.str (rowL c)] ++ rs.map (fun r => D.str (rowP r)) = (rowL c :: rs.map rowP).map .str := by rw [List.map_cons, List.map_map]; rfl
  refine ⟨by rw [List.length_map]; unfold LIM; simp; omega, ?_⟩
  show kJoin2 _ _ (.lst ([D.str (rowL c)] ++ _))
  rw [e]
  refine p_kjoin2 (strsOf_map _) ?_ ?_
  · have := lens_le (rows_le hv)
    rw [len_l5]
    simp only [List.length_cons, List.length_map] at this ⊢
    unfold LIM
    omega
  walk_at "pt"
  refine n_format_way hv ?_
  walk_at "pt"
  have hf : Asc (fmtW c rs) := asc_join (asc_lit (by decide +kernel)) fun s hs => by
    rcases List.mem_cons.mp hs with rfl | hs
    · exact (asc_lit (by decide +kernel)).app (asc_nS (by omega))
    · obtain ⟨r, hr, rfl⟩ := List.mem_map.mp hs
      have v := hv.pv r hr
      exact (((asc_lit (by decide +kernel)).app (asc_nS v.1.1)).app (asc_lit (by decide +kernel))).app (asc_nS (by have := v.2.1; omega))
  refine o_neT hf hf ?_
  unfold fmtW
  rw [beq_self_eq_true]
  walk_at "pt"
  refine n_parse_way hv ?_
  walk_at "pt"
  refine ⟨rfl, rfl, n_Way_eq ?_⟩
  rw [decide_eq_true ⟨rfl, rfl⟩]
  walk_at "pt"
  refine n_encode_way hv ?_
  walk_at "pt"
  refine n_decode_way hv ?_
  walk_at "pt"
  refine n_parse_way hv ?_
  walk_at "pt"
  refine ⟨by show 2 ≤ LIM; decide, ?_⟩
  walk_at "pt"
  refine ⟨by show 2 ≤ LIM; decide, ?_⟩
  refine lc_mapT (α := Unit) (fun _ => dW c rs) (fun _ => .str (logT c rs p x n)) [(), ()] [] ?_ ?_
  · intro _ _ A hA
    refine p_put1 ?_
    dsimp only [wipeE, List.set, setMany]
    walk_at "pt"
    exact n_log_text hv hp x0 x1 n1 n2 hA
  rw [List.nil_append]
  walk_at "pt"
  refine ⟨rfl, rfl, n_Way_eq ?_⟩
  rw [decide_eq_true ⟨rfl, rfl⟩]
  walk_at "pt"
  refine o_ixL (k := 0) rfl rfl ?_
  walk_at "pt"
  refine o_ixL (k := 1) rfl rfl ?_
  refine o_eqT ha ha ?_
  rw [beq_self_eq_true]
theorem holds : b_law ((List.replicate 23 Sl.un).set 1 (.val .dice)) LawEnd := by
  show b_law [.un, .val .dice, .un, .un, .un, .un, .un, .un, .un, .un, .un, .un, .un, .un, .un, .un, .un, .un, .un, .un, .un, .un, .un] LawEnd
  unfold b_law LawEnd
  walk_at "pt"
  refine n_law_drawn (by decide) (by decide) fun c rs p x c1 c2 hr hp hx => ?_
  refine p_put rfl ?_
  dsimp only [List.set, setMany]
  walk_at "pt"
  refine o_pow (by decide) ?_
  walk_at "pt"
  refine n_next (by decide) (by decide) fun b b0 b1 => ?_
  walk_at "pt"
  have b1 : b < 1000000 := b1
  refine ⟨by show 2 ≤ LIM; decide, ?_⟩
  walk_at "pt"
  refine n_next (by decide) (by decide) fun j j0 j1 => ?_
  have pick : ∀ {Q : QD}, (∀ u : Int, 1 ≤ u → u ≤ 1000000 → Q (.int u)) → oIx (.lst [.int 1, .int (1 + b)]) (.int j) Q := fun {Q} q => by
    have : j = 0 ∨ j = 1 := by omega
    rcases this with rfl | rfl
    · exact o_ixL (k := 0) rfl rfl (q 1 (by decide) (by decide))
    · exact o_ixL (k := 1) rfl rfl (q _ (by omega) (by omega))
  refine pick fun u u1 u2 => ?_
  have hv0 := hr.wv (by decide) c1 (by omega)
  have hl1 := hv0.l1
  have hl2 := hv0.l2
  walk_at "pt"
  dsimp only [List.set]
  walk_at "pt"
  refine ⟨by rw [List.length_map]; unfold LIM; omega, ?_⟩
  refine lc_mapT dP (fun r => dP (sc u r)) rs [] ?_ ?_
  · intro r hrr A hA
    have v := hr.pv r hrr
    refine p_put rfl ?_
    dsimp only [wipeE, List.set, setMany]
    walk_at "pt"
    refine o_mul (big_of (by omega)) (big_of (by omega)) ?_
    walk_at "pt"
    refine o_mul (big_of (by omega)) (big_of (by omega)) ?_
    walk_at "pt"
    refine ⟨by show 2 ≤ LIM; decide, ?_⟩
    exact hA
  rw [List.nil_append]
  walk_at "pt"
  refine o_mul (big_of (by omega)) (big_of (by omega)) ?_
  walk_at "pt"
  refine o_mul (big_of (by omega)) (big_of (by omega)) ?_
  walk_at "pt"
  refine ⟨by show 3 ≤ LIM; decide, ?_⟩
  refine p_put rfl ?_
  dsimp only [List.set, setMany]
  have em : rs.map (fun r => dP (sc u r)) = (rs.map (sc u)).map dP := by rw [List.map_map]; rfl
  rw [em]
  have hv : WV (c * u) (rs.map (sc u)) := by
    have m := mulb (a := c) (by omega) c2 u1 u2
    refine ⟨by omega, by omega, by rw [List.length_map]; exact hl1, by rw [List.length_map]; exact hl2, fun r hrr => ?_⟩
    obtain ⟨q, hq, rfl⟩ := List.mem_map.mp hrr
    have v := hr.pv q hq
    have m1 := mulb (a := q.1) v.1.1 v.1.2 u1 u2
    have m2 := mulb (a := q.2) (by omega) v.2.2 u1 u2
    exact ⟨⟨by show 0 ≤ q.1 * u; omega, by show q.1 * u ≤ _; omega⟩, by show 1 ≤ q.2 * u; omega, by show q.2 * u ≤ _; omega⟩
  have hp' : p < (rs.map (sc u)).length := by rw [List.length_map]; exact hp
  have x0 : 0 ≤ (x : Int) * u := by have := mulb (a := (x : Int)) (by omega) hx u1 u2; omega
  have x1 : (x : Int) * u ≤ c * u := Int.mul_le_mul_of_nonneg_right hx (by omega)
  generalize c * u = C at hv x1 ⊢
  generalize (x : Int) * u = X at x0 x1 ⊢
  generalize rs.map (sc u) = R at hv hp' ⊢
  have R1 := hv.l1
  have R2 := hv.l2
  have C2 := hv.c2
  walk_at "pt"
  refine n_law_way hv ?_
  walk_at "pt"
  refine n_next (by decide) (by decide) fun g g0 g1 => ?_
  walk_at "pt"
  refine ⟨by show 2 ≤ LIM; decide, ?_⟩
  refine p_put rfl ?_
  dsimp only [List.set, setMany]
  obtain ⟨g, rfl⟩ := Int.eq_ofNat_of_zero_le g0
  rw [show 1 + (g : Int) = ((g + 1 : Nat) : Int) by omega]
  walk_at "pt"
  refine r_law_walked hp' R2 (by omega) ?_
  refine p_put rfl ?_
  dsimp only [List.set, setMany]
  obtain ⟨k1, k2, k3⟩ := lwk_ok hv (g + 1) p X hp' x0 x1
  have hlog := rws_eq (c := C) (rs := R) (p0 := p) (g + 1) 0 p X (by rw [Nat.add_zero, Nat.mod_eq_of_lt hp'])
  generalize lwk C R (g + 1) p X = W at k1 k2 k3 hlog ⊢
  obtain ⟨L, o⟩ := W
  have k1 : L.length ≤ g + 1 := k1
  have k2 : ∀ z ∈ L, 0 ≤ z ∧ z ≤ C := k2
  have k3 : ∀ y, o = some y → 0 ≤ y ∧ y ≤ C := k3
  have hlog : rws C R (g + 1) 0 p X = lrs R.length p L 0 ++ lro (0 + L.length) o := hlog
  obtain ⟨X, rfl⟩ := Int.eq_ofNat_of_zero_le x0
  have lp := nS_le (n := (p : Int)) (by omega) (by omega)
  have lx := fld13_le (n := (X : Int)) (by omega) (by omega)
  walk_at "pt"
  refine b_str (by omega) (by omega) ?_
  walk_at "pt"
  refine b_lenS (by unfold LIM; omega) ?_
  walk_at "pt"
  refine o_mulS (by rw [len_l2]; decide) (by omega) (by omega) ?_
  refine o_addS (by walk_at "tlen") ?_
  walk_at "pt"
  refine b_str (by omega) (by omega) ?_
  refine o_addS (by walk_at "tlen") ?_
  walk_at "pt"
  refine o_addS (by walk_at "tlen") ?_
  walk_at "pt"
  refine r_law_number (by omega) ?_
  refine o_addS (by walk_at "tlen") ?_
  walk_at "pt"
  refine ⟨by show 1 ≤ LIM; decide, ?_⟩
  dsimp only [List.set]
  rw [first_eq]
  walk_at "pt"
  rw [List.length_map]
  refine p_krg1 (by omega) ?_
  rw [Int.toNat_natCast]
  refine lr_go (p0 := p) (L := L) R1 R2 hp' (by omega) (fun z hz => ⟨(k2 z hz).1, by have := (k2 z hz).2; omega⟩) L [] [lnN 0 p X] _ _ _ rfl (by simp) fun d8 d13 d14 => ?_
  rw [show ([lnN 0 p (X : Int)] ++ lrs R.length p L ([] : List Int).length) = lnN 0 p (X : Int) :: lrs R.length p L 0 from rfl]
  cases o with
  | none =>
    rw [show lro (0 + L.length) none = [] from rfl, List.append_nil] at hlog
    rw [← hlog]
    dsimp only [dO]
    walk_at "pt"
    exact rest_ok hv hp' (by omega) x1 (by omega) (by omega)
  | some y =>
    have ky := k3 y rfl
    obtain ⟨y, rfl⟩ := Int.eq_ofNat_of_zero_le ky.1
    dsimp only [dO]
    walk_at "pt"
    refine o_isNot ?_
    refine p_kval (p_tt ?_)
    walk_at "pt"
    refine o_ixT (k := 0) rfl rfl ?_
    walk_at "pt"
    refine b_str (by omega) (by omega) ?_
    dsimp only [List.set]
    walk_at "pt"
    have lk := nS_le (n := ((L.length : Nat) : Int) + 1) (by omega) (by omega)
    have ly := fld13_le (n := (y : Int)) (by omega) (by omega)
    refine b_lenS (by unfold LIM; omega) ?_
    walk_at "pt"
    refine o_mulS (by rw [len_l2]; decide) (by omega) (by omega) ?_
    walk_at "pt"
    refine o_addS (by walk_at "tlen") ?_
    walk_at "pt"
    refine o_addS (by walk_at "tlen") ?_
    walk_at "pt"
    refine o_ixT (k := 1) rfl rfl ?_
    walk_at "pt"
    refine r_law_number (by omega) ?_
    refine o_addS (by walk_at "tlen") ?_
    refine ⟨by simp only [List.length_map, List.length_cons, lrs_len]; unfold LIM; omega, ?_⟩
    dsimp only [List.set]
    rw [out_eq]
    rw [Nat.zero_add] at hlog
    have em : (lnN 0 p (X : Int) :: lrs R.length p L 0).map D.str ++ [.str (fld f3 ((L.length + 1 : Nat) : Int) ++ " " ++ "--" ++ " " ++ fld f13 (y : Int))] = (lnN 0 p (X : Int) :: rws C R (g + 1) 0 p (X : Int)).map .str := by rw [hlog, ← List.cons_append, List.map_append]; rfl
    rw [em]
    exact rest_ok hv hp' (by omega) x1 (by omega) (by omega)
end K59
namespace K59
open PySem PySem.Spec PyProof.Rows L2 Oil
def top (i : Nat) : Stmt := PySem.Challenge.pw_oilwalk_k59_whole_logs_and_stored_ways.main.body.getD i (.Pass ⟨0, 0, 0, 0⟩)
abbrev s_law_taken : Stmt := (top 44)
def n_law_taken : List Str := ["_law_row", "_law_many", "_law_found", "_law_cell"]
theorem sc_law_taken : FnScope n_law_taken ["_law_row", "_law_many"] (defScope s_law_taken) := ⟨rfl, rfl, rfl, by decide +kernel, rfl, by decide +kernel, by decide +kernel⟩
abbrev s_law_capacity : Stmt := (top 46)
def n_law_capacity : List Str := ["_law_row"]
theorem sc_law_capacity : FnScope n_law_capacity ["_law_row"] (defScope s_law_capacity) := ⟨rfl, rfl, rfl, by decide +kernel, rfl, by decide +kernel, by decide +kernel⟩
abbrev s_law_posts : Stmt := (top 45)
def n_law_posts : List Str := ["_law_row", "_law_most", "_law_size", "_law_posts_here", "_law_short", "_law_k", "_law_oil", "_law_steps"]
theorem sc_law_posts : FnScope n_law_posts ["_law_row", "_law_most"] (defScope s_law_posts) := ⟨rfl, rfl, rfl, by decide +kernel, rfl, by decide +kernel, by decide +kernel⟩
abbrev s_is_number : Stmt := (top 10)
def n_is_number : List Str := ["value"]
theorem sc_is_number : FnScope n_is_number ["value"] (defScope s_is_number) := ⟨rfl, rfl, rfl, by decide +kernel, rfl, by decide +kernel, by decide +kernel⟩
abbrev s_is_number_within : Stmt := (top 11)
def n_is_number_within : List Str := ["value", "least", "most"]
theorem sc_is_number_within : FnScope n_is_number_within ["value", "least", "most"] (defScope s_is_number_within) := ⟨rfl, rfl, rfl, by decide +kernel, rfl, by decide +kernel, by decide +kernel⟩
abbrev s_check_number_within : Stmt := (top 12)
def n_check_number_within : List Str := ["value", "least", "most"]
theorem sc_check_number_within : FnScope n_check_number_within ["value", "least", "most"] (defScope s_check_number_within) := ⟨rfl, rfl, rfl, by decide +kernel, rfl, by decide +kernel, by decide +kernel⟩
abbrev s_is_post : Stmt := (top 21)
def n_is_post : List Str := ["value"]
theorem sc_is_post : FnScope n_is_post ["value"] (defScope s_is_post) := ⟨rfl, rfl, rfl, by decide +kernel, rfl, by decide +kernel, by decide +kernel⟩
abbrev s_first_wrong : Stmt := (top 22)
def n_first_wrong : List Str := ["posts", "index", "post"]
theorem sc_first_wrong : FnScope n_first_wrong ["posts"] (defScope s_first_wrong) := ⟨rfl, rfl, rfl, by decide +kernel, rfl, by decide +kernel, by decide +kernel⟩
abbrev s_InvalidWay_init : Stmt := (inClass (top 3) 0)
def n_InvalidWay_init : List Str := ["self", "part", "index", "__class__"]
abbrev s_Way_init : Stmt := (inClass (top 20) 0)
def n_Way_init : List Str := ["self", "capacity", "posts", "wrong"]
theorem sc_Way_init : FnScope n_Way_init ["self", "capacity", "posts"] (defScope s_Way_init) := ⟨rfl, rfl, rfl, by decide +kernel, rfl, by decide +kernel, by decide +kernel⟩
abbrev s_Way_even : Stmt := (inClass (top 20) 1)
def n_Way_even : List Str := ["cls", "capacity", "count", "oil", "steps", "posts", "_"]
theorem sc_Way_even : FnScope n_Way_even ["cls", "capacity", "count", "oil", "steps"] (defScope s_Way_even) := ⟨rfl, rfl, rfl, by decide +kernel, rfl, by decide +kernel, by decide +kernel⟩
abbrev s_check_post : Stmt := (top 13)
def n_check_post : List Str := ["value", "many"]
theorem sc_check_post : FnScope n_check_post ["value", "many"] (defScope s_check_post) := ⟨rfl, rfl, rfl, by decide +kernel, rfl, by decide +kernel, by decide +kernel⟩
abbrev s_Way_with_post : Stmt := (inClass (top 20) 11)
def n_Way_with_post : List Str := ["self", "post", "oil", "steps", "posts"]
theorem sc_Way_with_post : FnScope n_Way_with_post ["self", "post", "oil", "steps"] (defScope s_Way_with_post) := ⟨rfl, rfl, rfl, by decide +kernel, rfl, by decide +kernel, by decide +kernel⟩
abbrev s_law_way : Stmt := (top 47)
def n_law_way : List Str := ["_law_capacity_here", "_law_posts_here", "_law_way_here", "_law_k"]
theorem sc_law_way : FnScope n_law_way ["_law_capacity_here", "_law_posts_here"] (defScope s_law_way) := ⟨rfl, rfl, rfl, by decide +kernel, rfl, by decide +kernel, by decide +kernel⟩
abbrev s_law_drawn : Stmt := (top 48)
def n_law_drawn : List Str := ["_law_row", "_law_most", "_law_posts_here", "_law_capacity_here"]
theorem sc_law_drawn : FnScope n_law_drawn ["_law_row", "_law_most"] (defScope s_law_drawn) := ⟨rfl, rfl, rfl, by decide +kernel, rfl, by decide +kernel, by decide +kernel⟩
abbrev s_law_number : Stmt := (top 50)
def n_law_number : List Str := ["_law_number_here", "_law_text", "_law_found"]
theorem sc_law_number : FnScope n_law_number ["_law_number_here"] (defScope s_law_number) := ⟨rfl, rfl, rfl, by decide +kernel, rfl, by decide +kernel, by decide +kernel⟩
abbrev s_law_walked : Stmt := (top 49)
def n_law_walked : List Str := ["_law_capacity_here", "_law_posts_here", "_law_post", "_law_oil", "_law_legs", "_law_found", "_law_here", "_law_left", "_law_turn", "_law_there", "_law_steps"]
theorem sc_law_walked : FnScope n_law_walked ["_law_capacity_here", "_law_posts_here", "_law_post", "_law_oil", "_law_legs"] (defScope s_law_walked) := ⟨rfl, rfl, rfl, by decide +kernel, rfl, by decide +kernel, by decide +kernel⟩
abbrev s_DecodeError_init : Stmt := (inClass (top 7) 0)
def n_DecodeError_init : List Str := ["self", "offset", "__class__"]
abbrev s_check_byte : Stmt := (top 41)
def n_check_byte : List Str := ["data", "at", "least", "most"]
theorem sc_check_byte : FnScope n_check_byte ["data", "at", "least", "most"] (defScope s_check_byte) := ⟨rfl, rfl, rfl, by decide +kernel, rfl, by decide +kernel, by decide +kernel⟩
abbrev s_checksum : Stmt := (top 40)
def n_checksum : List Str := ["data", "checksum", "byte"]
theorem sc_checksum : FnScope n_checksum ["data"] (defScope s_checksum) := ⟨rfl, rfl, rfl, by decide +kernel, rfl, by decide +kernel, by decide +kernel⟩
abbrev s_number_at : Stmt := (top 42)
def n_number_at : List Str := ["data", "at", "least", "end", "number"]
theorem sc_number_at : FnScope n_number_at ["data", "at", "least"] (defScope s_number_at) := ⟨rfl, rfl, rfl, by decide +kernel, rfl, by decide +kernel, by decide +kernel⟩
abbrev s_decode_way : Stmt := (top 38)
def n_decode_way : List Str := ["data", "capacity", "at", "posts", "_", "oil", "steps", "checksum"]
theorem sc_decode_way : FnScope n_decode_way ["data"] (defScope s_decode_way) := ⟨rfl, rfl, rfl, by decide +kernel, rfl, by decide +kernel, by decide +kernel⟩
abbrev s_number_bytes : Stmt := (top 39)
def n_number_bytes : List Str := ["number"]
theorem sc_number_bytes : FnScope n_number_bytes ["number"] (defScope s_number_bytes) := ⟨rfl, rfl, rfl, by decide +kernel, rfl, by decide +kernel, by decide +kernel⟩
abbrev s_Way_len : Stmt := (inClass (top 20) 5)
def n_Way_len : List Str := ["self"]
theorem sc_Way_len : FnScope n_Way_len ["self"] (defScope s_Way_len) := ⟨rfl, rfl, rfl, by decide +kernel, rfl, by decide +kernel, by decide +kernel⟩
abbrev s_Way_capacity : Stmt := (inClass (top 20) 2)
def n_Way_capacity : List Str := ["self"]
theorem sc_Way_capacity : FnScope n_Way_capacity ["self"] (defScope s_Way_capacity) := ⟨rfl, rfl, rfl, by decide +kernel, rfl, by decide +kernel, by decide +kernel⟩
abbrev s_Way_posts : Stmt := (inClass (top 20) 3)
def n_Way_posts : List Str := ["self"]
theorem sc_Way_posts : FnScope n_Way_posts ["self"] (defScope s_Way_posts) := ⟨rfl, rfl, rfl, by decide +kernel, rfl, by decide +kernel, by decide +kernel⟩
abbrev s_encode_way : Stmt := (top 37)
def n_encode_way : List Str := ["way", "data", "oil", "steps"]
theorem sc_encode_way : FnScope n_encode_way ["way"] (defScope s_encode_way) := ⟨rfl, rfl, rfl, by decide +kernel, rfl, by decide +kernel, by decide +kernel⟩
abbrev s_format_way : Stmt := (top 26)
def n_format_way : List Str := ["way", "rows", "oil", "steps"]
theorem sc_format_way : FnScope n_format_way ["way"] (defScope s_format_way) := ⟨rfl, rfl, rfl, by decide +kernel, rfl, by decide +kernel, by decide +kernel⟩
abbrev s_log_line : Stmt := (top 31)
def n_log_line : List Str := ["legs", "place", "amount"]
theorem sc_log_line : FnScope n_log_line ["legs", "place", "amount"] (defScope s_log_line) := ⟨rfl, rfl, rfl, by decide +kernel, rfl, by decide +kernel, by decide +kernel⟩
abbrev s_Way_getitem : Stmt := (inClass (top 20) 6)
def n_Way_getitem : List Str := ["self", "at"]
theorem sc_Way_getitem : FnScope n_Way_getitem ["self", "at"] (defScope s_Way_getitem) := ⟨rfl, rfl, rfl, by decide +kernel, rfl, by decide +kernel, by decide +kernel⟩
abbrev s_taken : Stmt := (top 16)
def n_taken : List Str := ["way", "post", "oil"]
theorem sc_taken : FnScope n_taken ["way", "post", "oil"] (defScope s_taken) := ⟨rfl, rfl, rfl, by decide +kernel, rfl, by decide +kernel, by decide +kernel⟩
abbrev s_after_leg : Stmt := (top 17)
def n_after_leg : List Str := ["way", "post", "oil", "held", "steps"]
theorem sc_after_leg : FnScope n_after_leg ["way", "post", "oil"] (defScope s_after_leg) := ⟨rfl, rfl, rfl, by decide +kernel, rfl, by decide +kernel, by decide +kernel⟩
abbrev s_check_start : Stmt := (top 14)
def n_check_start : List Str := ["way", "post", "oil"]
theorem sc_check_start : FnScope n_check_start ["way", "post", "oil"] (defScope s_check_start) := ⟨rfl, rfl, rfl, by decide +kernel, rfl, by decide +kernel, by decide +kernel⟩
abbrev s_log_text : Stmt := (top 28)
def n_log_text : List Str := ["way", "post", "oil", "legs", "lines", "leg", "left"]
theorem sc_log_text : FnScope n_log_text ["way", "post", "oil", "legs"] (defScope s_log_text) := ⟨rfl, rfl, rfl, by decide +kernel, rfl, by decide +kernel, by decide +kernel⟩
abbrev s_is_number_word : Stmt := (top 30)
def n_is_number_word : List Str := ["word"]
theorem sc_is_number_word : FnScope n_is_number_word ["word"] (defScope s_is_number_word) := ⟨rfl, rfl, rfl, by decide +kernel, rfl, by decide +kernel, by decide +kernel⟩
abbrev s_NotationError_init : Stmt := (inClass (top 6) 0)
def n_NotationError_init : List Str := ["self", "row", "word", "__class__"]
abbrev s_numbers : Stmt := (top 29)
def n_numbers : List Str := ["row", "words", "name", "many", "word"]
theorem sc_numbers : FnScope n_numbers ["row", "words", "name", "many"] (defScope s_numbers) := ⟨rfl, rfl, rfl, by decide +kernel, rfl, by decide +kernel, by decide +kernel⟩
abbrev s_parse_way : Stmt := (top 27)
def n_parse_way : List Str := ["text", "rows", "capacity", "posts", "row", "words"]
theorem sc_parse_way : FnScope n_parse_way ["text"] (defScope s_parse_way) := ⟨rfl, rfl, rfl, by decide +kernel, rfl, by decide +kernel, by decide +kernel⟩
abbrev s_Way_eq : Stmt := (inClass (top 20) 10)
def n_Way_eq : List Str := ["self", "other"]
theorem sc_Way_eq : FnScope n_Way_eq ["self", "other"] (defScope s_Way_eq) := ⟨rfl, rfl, rfl, by decide +kernel, rfl, by decide +kernel, by decide +kernel⟩
abbrev s_law : Stmt := (top 51)
def n_law : List Str := ["_law_script", "_law_row", "_law_way_here", "_law_capacity_here", "_law_posts_here", "_law_post", "_law_oil", "_law_by", "_law_there", "_law_legs", "_law_found", "_law_out", "_law_rows", "_law_k", "_law_head", "_law_leg", "_law_words", "_law_text", "_law_other", "_law_again", "_law_logs", "_law_steps", "_law_one"]
theorem sc_law : FnScope n_law ["_law_script"] (defScope s_law) := ⟨rfl, rfl, rfl, by decide +kernel, rfl, by decide +kernel, by decide +kernel⟩
structure Txt (K : PySem.W.Frag) (mg : Str → Option Value) (Z : ZG) : Prop where
  g_DecodeError : mg "DecodeError" = some (.ref (Z 11))
  g_InvalidNumber : mg "InvalidNumber" = some (.ref (Z 3))
  g_InvalidWay : mg "InvalidWay" = some (.ref (Z 1))
  g_NotationError : mg "NotationError" = some (.ref (Z 9))
  g_UnknownPost : mg "UnknownPost" = some (.ref (Z 2))
  g_Way : mg "Way" = some (.ref (Z 13))
  g_FIRST_CHECKSUM : ∃ t, mg "FIRST_CHECKSUM" = some (.int 9 t)
  g_HEAD_SIZE : ∃ t, mg "HEAD_SIZE" = some (.int 2 t)
  g_MARK : ∃ t, mg "MARK" = some (.int 79 t)
  g_MOST_DIGITS : ∃ t, mg "MOST_DIGITS" = some (.int 10 t)
  g_MOST_LEGS_IN_A_LOG : ∃ t, mg "MOST_LEGS_IN_A_LOG" = some (.int 100 t)
  g_MOST_POSTS : ∃ t, mg "MOST_POSTS" = some (.int 12 t)
  g_MOST_UNITS : ∃ t, mg "MOST_UNITS" = some (.int 1000000000 t)
  g_NUMBER_SIZE : ∃ t, mg "NUMBER_SIZE" = some (.int 4 t)
  n_bool : mg "bool" = none
  n_bytes : mg "bytes" = none
  n_enumerate : mg "enumerate" = none
  n_int : mg "int" = none
  n_isinstance : mg "isinstance" = none
  n_len : mg "len" = none
  n_list : mg "list" = none
  n_min : mg "min" = none
  n_range : mg "range" = none
  n_str : mg "str" = none
  n_sum : mg "sum" = none
  n_tuple : mg "tuple" = none
  o_Way : Oc K (Z 13)
  c_Way : NotC K (Z 13)
  nf_Way : ∀ T ∈ ["NoneType", "bool", "int", "str", "tuple", "list"], PySem.W.notFirst K (Z 13) (.type T) = true
  na_Way__capacity : NoAttr K (Z 13) "_capacity"
  na_Way__posts : NoAttr K (Z 13) "_posts"
  x_InvalidNumber : PySem.W.excIn K (Z 3) [.type "ValueError", .type "Exception", .type "BaseException", .type "object"] "ValueError.__new__" = true
  k_InvalidNumber : PySem.W.keepIn K (.ref (Z 3)) = true
  b_InvalidNumber : PySem.W.subIn K (.ref (Z 3)) (.type "BaseException") = some true
  t_InvalidNumber : PySem.W.typeIn K (.ref (Z 3)) = some (.type "type")
  x_UnknownPost : PySem.W.excIn K (Z 2) [.type "ValueError", .type "Exception", .type "BaseException", .type "object"] "ValueError.__new__" = true
  k_UnknownPost : PySem.W.keepIn K (.ref (Z 2)) = true
  b_UnknownPost : PySem.W.subIn K (.ref (Z 2)) (.type "BaseException") = some true
  t_UnknownPost : PySem.W.typeIn K (.ref (Z 2)) = some (.type "type")
end K59
namespace K59
open PySem PySem.Spec PyProof.Rows L2 Oil
section
variable {P : Program} {w : World} {K : PySem.W.Frag} {mg : Str → Option Value} {base : Heap} {Z : ZG}
local macro_rules | `(tactic| walk_at "kn") => `(tactic| first | exact Kn.non | exact Kn.int _ | exact Kn.bl _ | exact Kn.str _ | exact Kn.tup (by assumption) | exact Kn.lst (by assumption) | assumption)
local macro_rules | `(tactic| walk_at "rd1") => `(tactic| with_reducible first
  | refine f_seq ?_ | refine f_next ?_ | refine f_drop ?_ | refine f_ret ?_ | refine f_retN ?_ | refine f_asg ?_ | refine f_par ?_
  | refine r_var rfl ?_ | refine r_c ?_ | refine r_nx ?_ | refine r_rt ?_ | refine r_ct ?_ | refine r_bk ?_ | refine r_cons ?_ | refine r_nil ?_ | refine r_seq ?_ | refine r_next ?_
  | refine r_op ?_ | refine r_I0 ?_ | refine r_asg ?_ | refine r_gname ?_ | refine r_ret ?_ | refine r_ifS ?_ | refine r_test ?_ | refine r_bl ?_ | refine r_blQ ?_ | refine r_B ?_
  | refine r_and ?_ | refine r_or ?_ | refine r_not ?_ | refine r_andV ?_ | refine r_orV ?_ | refine r_notV ?_ | refine r_if ?_ | refine r_chain ?_ | refine r_cb ?_
  | refine r_cal ?_ | refine r_mak ?_ | refine r_prp ?_ | refine r_mt ?_ | refine r_cmt ?_ | refine r_clo ?_ | refine r_fld ?_ | refine r_sfld ?_ | refine r_par ?_ | refine r_par2 ?_
  | refine r_tup ?_ | refine r_lst ?_ | refine r_un ?_ | refine r_drop ?_ | refine r_retN ?_ | refine r_isn ?_ | refine r_notn ?_ | refine r_U ?_
  | refine r_sp1 ?_ | refine r_sp2 ?_ | refine r_sp3 ?_ | refine r_sp4 ?_ | refine r_sp5 ?_ | refine r_eq rfl ?_ | refine r_ne rfl ?_ | refine r_makL rfl ?_ | refine r_odd ?_ | refine r_rfl ?_ | refine r_max2 ?_ | refine r_min2 ?_ | refine r_int1 ?_ | refine r_int1b ?_ | refine r_truI ?_ | refine r_truB ?_ | refine r_truN ?_ | refine r_tru ?_ | refine r_truR ?_ | refine r_for ?_ | refine r_ilist ?_ | refine r_itup ?_ | refine r_irng1 ?_ | refine r_irng2 ?_ | refine r_gsub ?_ | refine r_bm ?_ | refine r_lc ?_ | refine r_yes ?_)
local macro_rules | `(tactic| walk_at "rd2") => `(tactic| first | (with_reducible refine r_T rfl ?_) | (with_reducible refine r_F rfl ?_) | (with_reducible refine r_T ?_ ?_; (rfl)) | (with_reducible refine r_F ?_ ?_; (rfl)))
local macro_rules | `(tactic| walk_at "rd3") => `(tactic| first | ((with_reducible refine r_isiT (T := ?_) ?_ ?_ ?_); rotate_left; (walk_at "kn"); (decide +kernel)) | ((with_reducible refine r_isiF (T := ?_) ?_ ?_ ?_); rotate_left; (walk_at "kn"); (decide +kernel)))
local macro_rules | `(tactic| walk_at "rd") => `(tactic| repeat (first | walk_at "rd1" | walk_at "rd2" | walk_at "rd3" | walk_at "rdx"))
theorem ok_law_taken {f : Addr} {fd : FuncData} (F : Fun K "_law_taken" "_law_taken" s_law_taken f fd) (T : Txt K mg Z) : FnR P w K mg base (L2.CX P w) 2 f (SpD Z K S_next) := by
  have R : FnR P w K mg base (L2.CX P w) 2 f (Sp2 (q_next K)) := by
    refine fnR_of (fd := fd) (ps := ["_law_row", "_law_many"]) (F.okX sc_law_taken (fun vs H Q E h => ?_) (fun cdv A outer s H vs Q E hr h => ?_)) (F.binds (ps := ["_law_row", "_law_many"]) fun _ _ _ _ _ _ us hl => match us, hl with | [_, _], _ => rfl)
    · obtain ⟨_, _, rfl, _⟩ := h
      rfl
    · obtain ⟨v0, v1, rfl, h⟩ := h
      refine ⟨_, (pss_cons (ps_if (pt_cmpR op_gt (pe_ix ix_list (pv 0) pe_int (fun _ _ => rfl)) pe_int (nomark _)) (pss_cons (ps_set (i := 2) sc_law_taken.nd rfl (Or.inl rfl) (pe_op op_modN (pe_callTy call_in (by rfl) T.n_int (by decide +kernel) (pa_cons (pe_ix ix_list (pv 0) pe_int (fun _ _ => rfl)) pa_nil)) (pv 1)))
      (pss_cons (ps_asg (pe_op op_fdivW (pe_ix ix_list (pv 0) pe_int (fun _ _ => rfl)) (pv 1)) (pg_sub (pv 0) pe_int set_list))
      (pss_one (ps_ret (pv 2))))) pss_nil)
      (pss_cons (ps_asg (pe_op op_add (pe_ix ix_list (pv 0) pe_int (fun _ _ => rfl)) pe_int) (pg_sub (pv 0) pe_int set_list))
      (pss_cons (ps_if (pt_cmpR op_gt (pe_ix ix_list (pv 0) pe_int (fun _ _ => rfl)) (pe_callB call_ln (by rfl) T.n_len (by decide +kernel) (pa_cons (pe_ix ix_list (pv 0) pe_int (fun _ _ => rfl)) pa_nil)) (nomark _)) (pss_cons (ps_asg (pe_op op_modN (pe_callTy call_in (by rfl) T.n_int (by decide +kernel) (pa_cons (pe_op op_add (pe_op op_mulW (pe_ix ix_list (pv 0) pe_int (fun _ _ => rfl)) pe_int) pe_int) pa_nil)) pe_int) (pg_sub (pv 0) pe_int set_list))
      (pss_one (ps_ret (pe_op op_modN (pe_callTy call_in (by rfl) T.n_int (by decide +kernel) (pa_cons (pe_op op_fdivW (pe_ix ix_list (pv 0) pe_int (fun _ _ => rfl)) pe_int) pa_nil)) (pv 1))))) pss_nil)
      (pss_cons (ps_set (i := 3) sc_law_taken.nd rfl (Or.inl rfl) (pe_ix ix_list (pe_ix ix_list (pv 0) pe_int (fun _ _ => rfl)) (pe_op op_sub (pe_ix ix_list (pv 0) pe_int (fun _ _ => rfl)) pe_int) (fun _ _ => rfl)))
      (pss_cons (ps_asg (pe_op op_modN (pe_callTy call_in (by rfl) T.n_int (by decide +kernel) (pa_cons (pe_op op_add (pe_op op_add (pe_op op_mulW (pe_ix ix_list (pv 0) pe_int (fun _ _ => rfl)) pe_int) (pv 3)) pe_int) pa_nil)) pe_int) (pg_sub (pv 0) pe_int set_list))
      (pss_cons (ps_asg (pe_ifExp (pt_cmpR op_ge (pv 3) (pe_op op_pow pe_int pe_int) (nomark _)) (pe_op op_fdivW (pv 3) (pv 1)) pe_int) (pg_sub (pv 0) pe_int set_list))
      (pss_one (ps_ret (pe_op op_modN (pe_callTy call_in (by rfl) T.n_int (by decide +kernel) (pa_cons (pv 3) pa_nil)) (pv 1)))))))))), ?_⟩
      obtain ⟨d, n, rfl, rfl, n0, n1, hD, q⟩ := h
      obtain ⟨sa, ns, p, m, c, hd, p0, m0, m1, hl, hS⟩ := hD.ex
      have fm : ∀ x : Int, 0 ≤ x.fmod n ∧ x.fmod n < n := fun x => by
        have b1 := Int.fmod_eq_emod_of_nonneg x (Int.le_of_lt n0)
        have b2 := Int.emod_nonneg x (Int.ne_of_gt n0)
        have b3 := Int.emod_lt_of_pos x n0
        omega
      have nn : n ≠ 0 := Int.ne_of_gt n0
      have nb : n.natAbs < 2 ^ 100 := by omega
      walk_at "rd"
      refine r_ixL (SqL.of hd) rfl ?_
      walk_at "rd"
      refine r_by (fun e => ?_) (fun e => ?_)
      · walk_at "rd"
        refine r_ixL (SqL.of hd) rfl ?_
        walk_at "rd"
        refine r_I nn ?_
        walk_at "rd"
        refine r_ixL (SqL.of hd) rfl ?_
        walk_at "rd"
        refine r_I (wide_div n0 nb (by decide) (by decide)) ?_
        walk_at "rd"
        refine r_setL hd rfl ?_
        walk_at "rd"
        exact q _ _ (fm _).1 (fm _).2 (Dice.put hd p0 m0 m1 hl hS)
      · walk_at "rd"
        refine r_ixL (SqL.of hd) rfl ?_
        walk_at "rd"
        refine r_setL hd rfl ?_
        walk_at "rd"
        have h1 : upd H d (HO.lst (List.set [V.ref sa, V.int p, V.int m, V.int c] 1 (V.int (p + 1)))) d = some (.lst [.ref sa, .int (p + 1), .int m, .int c]) := upd_same
        have hS1 : SqL K (upd H d (HO.lst (List.set [V.ref sa, V.int p, V.int m, V.int c] 1 (V.int (p + 1))))) sa (ns.map V.int) := hS _
        refine r_ixL (SqL.of h1) rfl ?_
        walk_at "rd"
        refine r_ixL (SqL.of h1) rfl ?_
        walk_at "rd"
        refine ⟨sa, _, rfl, .inl hS1, ?_⟩
        walk_at "rd"
        refine r_by (fun e1 => ?_) (fun e1 => ?_)
        · walk_at "rd"
          refine r_ixL (SqL.of h1) rfl ?_
          walk_at "rd"
          refine r_I (wide_mul (a := 32) (b := 20) (by omega) (by decide) (by decide) (by decide) (by decide)) ?_
          walk_at "rd"
          refine r_I (by decide) ?_
          walk_at "rd"
          refine r_setL h1 rfl ?_
          walk_at "rd"
          refine r_ixL (SqL.of (upd_same)) rfl ?_
          walk_at "rd"
          refine r_I (wide_div (b := 4) (by decide) (by decide) (by decide) (by decide)) ?_
          walk_at "rd"
          refine r_I nn ?_
          walk_at "rd"
          rw [upd_upd]
          have b3 := Int.fmod_eq_emod_of_nonneg (m * 48271 + 11) (show (0 : Int) ≤ 2147483647 by decide)
          exact q _ _ (fm _).1 (fm _).2 (Dice.put hd (by omega) (by omega) (by omega) hl hS)
        · have e2 := of_decide_eq_false e1
          rw [List.length_map] at e2
          walk_at "rd"
          refine r_ixL (SqL.of h1) rfl ?_
          walk_at "rd"
          refine r_ixL (SqL.of h1) rfl ?_
          walk_at "rd"
          obtain ⟨j, rfl⟩ := Int.eq_ofNat_of_zero_le p0
          have ej : (j : Int) + 1 - 1 = (j : Int) := by omega
          have hj : j < ns.length := by omega
          rw [ej]
          refine r_ixL hS1 (at_nat (v := .int ns[j]) (by rw [List.getElem?_map, List.getElem?_eq_getElem hj] <;> rfl)) ?_
          walk_at "rd"
          refine r_ixL (SqL.of h1) rfl ?_
          walk_at "rd"
          refine r_I (wide_mul (a := 32) (b := 20) (by omega) (by decide) (by decide) (by decide) (by decide)) ?_
          walk_at "rd"
          refine r_I (by decide) ?_
          walk_at "rd"
          refine r_setL h1 rfl ?_
          walk_at "rd"
          have b3 := Int.fmod_eq_emod_of_nonneg (m * 48271 + ns[j] + 11) (show (0 : Int) ≤ 2147483647 by decide)
          have m0' : 0 ≤ (m * 48271 + ns[j] + 11).fmod 2147483647 := by omega
          have m1' : (m * 48271 + ns[j] + 11).fmod 2147483647 < 2147483647 := by omega
          rw [upd_upd]
          generalize (m * 48271 + ns[j] + 11).fmod 2147483647 = m' at m0' m1' ⊢
          refine r_I ⟨by decide, by decide, by decide⟩ ?_
          walk_at "rd"
          refine r_by (fun e3 => ?_) (fun e3 => ?_)
          · walk_at "rd"
            refine r_I (wide_div n0 nb (by decide) (by decide)) ?_
            walk_at "rd"
            refine r_setL upd_same rfl ?_
            walk_at "rd"
            refine r_I nn ?_
            walk_at "rd"
            rw [upd_upd]
            exact q _ _ (fm _).1 (fm _).2 (Dice.put hd (by omega) m0' m1' hl hS)
          · walk_at "rd"
            refine r_setL upd_same rfl ?_
            walk_at "rd"
            refine r_I nn ?_
            walk_at "rd"
            rw [upd_upd]
            exact q _ _ (fm _).1 (fm _).2 (Dice.put hd (by omega) m0' m1' hl hS)
  exact R.imp fun vs H Q E h => next_spd h
end
end K59
namespace K59
open PySem PySem.Spec PyProof.Rows L2 Oil
section
variable {P : Program} {w : World} {K : PySem.W.Frag} {mg : Str → Option Value} {base : Heap} {Z : ZG}
theorem ok_law_capacity {f : Addr} {fd : FuncData} (F : Fun K "_law_capacity" "_law_capacity" s_law_capacity f fd) (T : Txt K mg Z) (G_law_taken : Cal P w K mg base 2 "_law_taken" (SpD Z K S_next)) : FnR P w K mg base (L2.CX P w) 3 f (SpD Z K S_law_capacity) := by
  refine fnR_of (fd := fd) (ps := ["_law_row"]) (F.okX sc_law_capacity (fun vs H Q E h => def_len (Z := Z.m) (N := n_law_capacity) h) (fun cdv A outer s H vs Q E hr h => ⟨_, (show QSs Z.m _ _ _ _ from (qss_one (qs_ret (qe_op op_addU ops_add (qb_of (qe_c pe_int fun _ _ _ => .int _)) (qb_of (qe_call G_law_taken hr (by omega) (passes_call (takes_of rfl rfl rfl rfl) (fun _ _ _ _ h => h)) (qa_cons (qe_name 0) (qa_cons (qe_ix (ix_any rfl) ops_ix (qb_of (qe_new (qf_lst (qa_cons (qe_c pe_int fun _ _ _ => .int _) (qa_cons (qe_c pe_int fun _ _ _ => .int _) (qa_cons (qe_c pe_int fun _ _ _ => .int _) qa_nil)))))) (qb_of (qe_call G_law_taken hr (by omega) (passes_call (takes_of rfl rfl rfl rfl) (fun _ _ _ _ h => h)) (qa_cons (qe_name 0) (qa_cons (qe_c pe_int fun _ _ _ => .int _) qa_nil)))) (fun _ _ => rfl)) qa_nil)))))))), def_rd (Z := Z.m) (by decide) (by decide) h⟩)) (F.binds (ps := ["_law_row"]) fun _ _ _ _ _ _ us hl => match us, hl with | [_], _ => rfl)
end
end K59
namespace K59
open PySem PySem.Spec PyProof.Rows L2 Oil
section
variable {P : Program} {w : World} {K : PySem.W.Frag} {mg : Str → Option Value} {base : Heap} {Z : ZG}
theorem ok_law_posts {f : Addr} {fd : FuncData} (F : Fun K "_law_posts" "_law_posts" s_law_posts f fd) (T : Txt K mg Z) (G_law_taken : Cal P w K mg base 2 "_law_taken" (SpD Z K S_next)) : FnR P w K mg base (L2.CX P w) 3 f (SpD Z K S_law_posts) := by
  refine fnR_of (fd := fd) (ps := ["_law_row", "_law_most"]) (F.okX sc_law_posts (fun vs H Q E h => def_len (Z := Z.m) (N := n_law_posts) h) (fun cdv A outer s H vs Q E hr h => ⟨_, (show QSs Z.m _ _ _ _ from (qss_cons (qs_set 2 sc_law_posts.nd rfl (Or.inr rfl) (qe_ix (ix_any rfl) ops_ix (qb_of (qe_new (qf_lst (qa_cons (qe_c pe_int fun _ _ _ => .int _) (qa_cons (qe_c pe_int fun _ _ _ => .int _) (qa_cons (qe_c pe_int fun _ _ _ => .int _) qa_nil)))))) (qb_of (qe_call G_law_taken hr (by omega) (passes_call (takes_of rfl rfl rfl rfl) (fun _ _ _ _ h => h)) (qa_cons (qe_name 0) (qa_cons (qe_c pe_int fun _ _ _ => .int _) qa_nil)))) (fun _ _ => rfl)))
      (qss_cons (qs_setLcO (own := [("_law_k", 5)]) 3 (.nm 5) rfl sc_law_posts.nd rfl rfl (sw_true rfl rfl rfl (by decide +kernel)) (qi_range1 (by rfl) T.n_range (qe_op op_addU ops_add (qb_of (qe_c pe_int fun _ _ _ => .int _)) (qb_of (qe_call G_law_taken hr (by omega) (passes_call (takes_of rfl rfl rfl rfl) (fun _ _ _ _ h => h)) (qa_cons (qe_name 0) (qa_cons (qe_name 1) qa_nil)))))) (blkOk_by (own := [("_law_k", 5)]) (N := n_law_posts) (sc := defScope s_law_posts) (by decide +kernel)) (fun _ _ _ _ _ => (pg_name (i := 5) sc_law_posts.nd rfl (Or.inl rfl))) (fun _ _ _ _ _ => qts_nil) (fun _ _ _ _ _ => (qe_tup (qa_cons (qe_call G_law_taken hr (by omega) passL (qa_cons (qe_name 0) (qa_cons (qe_op op_addU ops_add (qb_of (qe_name 2)) (qb_of (qe_c pe_int fun _ _ _ => .int _))) qa_nil))) (qa_cons (qe_op op_addU ops_add (qb_of (qe_c pe_int fun _ _ _ => .int _)) (qb_of (qe_call G_law_taken hr (by omega) passL (qa_cons (qe_name 0) (qa_cons (qe_name 2) qa_nil))))) qa_nil)))) (by decide))
      (qss_cons (qs_set 4 sc_law_posts.nd rfl (Or.inl rfl) (qe_cb (cr_sum rfl) cbs_sum (by rfl) T.n_sum (by decide +kernel) (qab_cons (qb_of (qe_new (qf_lc (own := [("_law_oil", 6), ("_law_steps", 7)]) (.tp [6, 7]) rfl sc_law_posts.nd (qi_own (qb_own 3)) (blkOk_by (own := [("_law_oil", 6), ("_law_steps", 7)]) (N := n_law_posts) (sc := defScope s_law_posts) (by decide +kernel)) (fun _ _ _ _ _ => (pg_tp (is := [6, 7]) rfl rfl (pgs_cons (pg_name (i := 6) sc_law_posts.nd rfl (Or.inl rfl)) (pgs_cons (pg_name (i := 7) sc_law_posts.nd rfl (Or.inl rfl)) pgs_nil)))) (fun _ _ _ _ _ => qts_nil) (fun _ _ _ _ _ => (qe_op op_sub ops_sub (qb_of (qe_name 7)) (qb_of (qe_name 6)))) (by decide)))) qab_nil)))
      (qss_cons (qs_if (qt_w (qw_and (qt_cmp op_gt ops_gt (qb_of (qe_name 4)) (qb_of (qe_c pe_int fun _ _ _ => .int _))) (qw_and1 (qt_cmp op_gt ops_gt (qb_of (qe_call G_law_taken hr (by omega) (passes_call (takes_of rfl rfl rfl rfl) (fun _ _ _ _ h => h)) (qa_cons (qe_name 0) (qa_cons (qe_c pe_int fun _ _ _ => .int _) qa_nil)))) (qb_of (qe_c pe_int fun _ _ _ => .int _)))))) (qss_one (qs_put 3 rfl (Or.inl rfl) (qe_c pe_int fun _ _ _ => .int _) (qe_tup (qa_cons (qe_op op_addU ops_add (qb_of (qe_ix (ix_any rfl) ops_ix (qb_of (qe_ix (ix_any rfl) ops_ix (qb_own 3) (qb_of (qe_c pe_int fun _ _ _ => .int _)) (fun _ _ => rfl))) (qb_of (qe_c pe_int fun _ _ _ => .int _)) (fun _ _ => rfl))) (qb_of (qe_name 4))) (qa_cons (qe_ix (ix_any rfl) ops_ix (qb_of (qe_ix (ix_any rfl) ops_ix (qb_own 3) (qb_of (qe_c pe_int fun _ _ _ => .int _)) (fun _ _ => rfl))) (qb_of (qe_c pe_int fun _ _ _ => .int _)) (fun _ _ => rfl)) qa_nil))))) qss_nil)
      (qss_one (qs_frz 3 (qs_ret (qe_name 3))))))))), def_rd (Z := Z.m) (by decide) (by decide) h⟩)) (F.binds (ps := ["_law_row", "_law_most"]) fun _ _ _ _ _ _ us hl => match us, hl with | [_, _], _ => rfl)
end
end K59
namespace K59
open PySem PySem.Spec PyProof.Rows L2 Oil
section
variable {P : Program} {w : World} {K : PySem.W.Frag} {mg : Str → Option Value} {base : Heap} {Z : ZG}
theorem ok_is_number {f : Addr} {fd : FuncData} (F : Fun K "is_number" "is_number" s_is_number f fd) (T : Txt K mg Z) : FnR P w K mg base (L2.CX P w) 1 f (SpD Z K S_is_number) := by
  refine fnR_of (fd := fd) (ps := ["value"]) (F.okX sc_is_number (fun vs H Q E h => def_len (Z := Z.m) (N := n_is_number) h) (fun cdv A outer s H vs Q E hr h => ⟨_, (show QSs Z.m _ _ _ _ from (qss_one (qs_ret (qe_and (qe_isi (cs := []) (cs0 _) (by rfl) T.n_isinstance (by decide +kernel) (qab_cons (qb_of (qe_name 0)) (qab_cons (qb_of (qe_c (v := .ty "int") (pe_bltn (by rfl) T.n_int (by decide +kernel) rfl) fun _ _ _ => .ty "int")) qab_nil))) (qe_one (qe_not (qe_isi (cs := []) (cs0 _) (by rfl) T.n_isinstance (by decide +kernel) (qab_cons (qb_of (qe_name 0)) (qab_cons (qb_of (qe_c (v := .ty "bool") (pe_bltn (by rfl) T.n_bool (by decide +kernel) rfl) fun _ _ _ => .ty "bool")) qab_nil))))))))), def_rd (Z := Z.m) (by decide) (by decide) h⟩)) (F.binds (ps := ["value"]) fun _ _ _ _ _ _ us hl => match us, hl with | [_], _ => rfl)
end
end K59
namespace K59
open PySem PySem.Spec PyProof.Rows L2 Oil
section
variable {P : Program} {w : World} {K : PySem.W.Frag} {mg : Str → Option Value} {base : Heap} {Z : ZG}
theorem ok_is_number_within {f : Addr} {fd : FuncData} (F : Fun K "is_number_within" "is_number_within" s_is_number_within f fd) (T : Txt K mg Z) (G_is_number : Cal P w K mg base 1 "is_number" (SpD Z K S_is_number)) : FnR P w K mg base (L2.CX P w) 2 f (SpD Z K S_is_number_within) := by
  refine fnR_of (fd := fd) (ps := ["value", "least", "most"]) (F.okX sc_is_number_within (fun vs H Q E h => def_len (Z := Z.m) (N := n_is_number_within) h) (fun cdv A outer s H vs Q E hr h => ⟨_, (show QSs Z.m _ _ _ _ from (qss_one (qs_ret (qe_and (qe_call G_is_number hr (by omega) (passes_call (takes_of rfl rfl rfl rfl) (fun _ _ _ _ h => h)) (qa_cons (qe_name 0) qa_nil)) (qe_one (qe_chain op_le ops_le op_le ops_le (qb_of (qe_name 1)) (qb_of (qe_name 0)) (qb_of (qe_name 2)))))))), def_rd (Z := Z.m) (by decide) (by decide) h⟩)) (F.binds (ps := ["value", "least", "most"]) fun _ _ _ _ _ _ us hl => match us, hl with | [_, _, _], _ => rfl)
end
end K59
namespace K59
open PySem PySem.Spec PyProof.Rows L2 Oil
section
variable {P : Program} {w : World} {K : PySem.W.Frag} {mg : Str → Option Value} {base : Heap} {Z : ZG}
theorem ok_check_number_within {f : Addr} {fd : FuncData} (F : Fun K "check_number_within" "check_number_within" s_check_number_within f fd) (T : Txt K mg Z) (G_is_number_within : Cal P w K mg base 2 "is_number_within" (SpD Z K S_is_number_within)) : FnR P w K mg base (L2.CX P w) 3 f (SpD Z K S_check_number_within) := by
  refine fnR_of (fd := fd) (ps := ["value", "least", "most"]) (F.okX sc_check_number_within (fun vs H Q E h => def_len (Z := Z.m) (N := n_check_number_within) h) (fun cdv A outer s H vs Q E hr h => ⟨_, (show QSs Z.m _ _ _ _ from (qss_one (qs_if (qt_not (qt_val (qe_call G_is_number_within hr (by omega) (passes_call (takes_of rfl rfl rfl rfl) (fun _ _ _ _ h => h)) (qa_cons (qe_name 0) (qa_cons (qe_name 1) (qa_cons (qe_name 2) qa_nil)))))) (qss_one (qs_raise (c := 3) rfl (takes_of rfl rfl rfl rfl) (pmk_own PySem.F.excBase_ValueError T.x_InvalidNumber T.g_InvalidNumber T.k_InvalidNumber (raises_own T.b_InvalidNumber T.t_InvalidNumber) rfl))) qss_nil))), def_rd (Z := Z.m) (by decide) (by decide) h⟩)) (F.binds (ps := ["value", "least", "most"]) fun _ _ _ _ _ _ us hl => match us, hl with | [_, _, _], _ => rfl)
end
end K59
namespace K59
open PySem PySem.Spec PyProof.Rows L2 Oil
section
variable {P : Program} {w : World} {K : PySem.W.Frag} {mg : Str → Option Value} {base : Heap} {Z : ZG}
theorem ok_is_post {f : Addr} {fd : FuncData} (F : Fun K "_is_post" "_is_post" s_is_post f fd) (T : Txt K mg Z) (G_is_number_within : Cal P w K mg base 2 "is_number_within" (SpD Z K S_is_number_within)) : FnR P w K mg base (L2.CX P w) 3 f (SpD Z K S_is_post) := by
  refine fnR_of (fd := fd) (ps := ["value"]) (F.okX sc_is_post (fun vs H Q E h => def_len (Z := Z.m) (N := n_is_post) h) (fun cdv A outer s H vs Q E hr h => ⟨_, (show QSs Z.m _ _ _ _ from (qss_one (qs_ret (qe_and (qe_isi (cs := []) (cs0 _) (by rfl) T.n_isinstance (by decide +kernel) (qab_cons (qb_of (qe_name 0)) (qab_cons (qb_of (qe_c (v := .ty "tuple") (pe_bltn (by rfl) T.n_tuple (by decide +kernel) rfl) fun _ _ _ => .ty "tuple")) qab_nil))) (qe_and (qe_cmp (op_eqD hr.units) ops_eq (qb_of (qe_cb call_ln cbs_len (by rfl) T.n_len (by decide +kernel) (qab_cons (qb_of (qe_name 0)) qab_nil))) (qb_of (qe_c pe_int fun _ _ _ => .int _)) (nomark _)) (qe_and (qe_call G_is_number_within hr (by omega) (passes_call (takes_of rfl rfl rfl rfl) (fun _ _ _ _ h => h)) (qa_cons (qe_ix (ix_any rfl) ops_ix (qb_of (qe_name 0)) (qb_of (qe_c pe_int fun _ _ _ => .int _)) (fun _ _ => rfl)) (qa_cons (qe_c pe_int fun _ _ _ => .int _) (qa_cons (qe_c (v := .int 1000000000) (pe_glob (by rfl) T.g_MOST_UNITS.choose_spec ⟨_, rfl⟩) fun _ _ _ => .int 1000000000) qa_nil)))) (qe_one (qe_call G_is_number_within hr (by omega) (passes_call (takes_of rfl rfl rfl rfl) (fun _ _ _ _ h => h)) (qa_cons (qe_ix (ix_any rfl) ops_ix (qb_of (qe_name 0)) (qb_of (qe_c pe_int fun _ _ _ => .int _)) (fun _ _ => rfl)) (qa_cons (qe_c pe_int fun _ _ _ => .int _) (qa_cons (qe_c (v := .int 1000000000) (pe_glob (by rfl) T.g_MOST_UNITS.choose_spec ⟨_, rfl⟩) fun _ _ _ => .int 1000000000) qa_nil))))))))))), def_rd (Z := Z.m) (by decide) (by decide) h⟩)) (F.binds (ps := ["value"]) fun _ _ _ _ _ _ us hl => match us, hl with | [_], _ => rfl)
end
end K59
namespace K59
open PySem PySem.Spec PyProof.Rows L2 Oil
section
variable {P : Program} {w : World} {K : PySem.W.Frag} {mg : Str → Option Value} {base : Heap} {Z : ZG}
theorem ok_first_wrong {f : Addr} {fd : FuncData} (F : Fun K "_first_wrong" "_first_wrong" s_first_wrong f fd) (T : Txt K mg Z) (G_is_post : Cal P w K mg base 3 "_is_post" (SpD Z K S_is_post)) : FnR P w K mg base (L2.CX P w) 4 f (SpD Z K S_first_wrong) := by
  refine fnR_of (fd := fd) (ps := ["posts"]) (F.okX sc_first_wrong (fun vs H Q E h => def_len (Z := Z.m) (N := n_first_wrong) h) (fun cdv A outer s H vs Q E hr h => ⟨_, (show QSs Z.m _ _ _ _ from (qss_cons (qs_for (.tp [1, 2]) (passes_of rfl) rfl (qi_enum (by rfl) T.n_enumerate (qe_name 0)) (pg_tp (is := [1, 2]) rfl rfl (pgs_cons (pg_name (i := 1) sc_first_wrong.nd rfl (Or.inl rfl)) (pgs_cons (pg_name (i := 2) sc_first_wrong.nd rfl (Or.inl rfl)) pgs_nil))) (qss_one (qs_if (qt_w (qw_or (qt_cmp (op_eqD hr.units) ops_eq (qb_of (qe_name 1)) (qb_of (qe_c (v := .int 12) (pe_glob (by rfl) T.g_MOST_POSTS.choose_spec ⟨_, rfl⟩) fun _ _ _ => .int 12))) (qw_or1 (qt_not (qt_val (qe_call G_is_post hr (by omega) (passes_call (takes_of rfl rfl rfl rfl) (fun _ _ _ _ h => h)) (qa_cons (qe_name 2) qa_nil))))))) (qss_one (qs_ret (qe_name 1))) qss_nil)))
      (qss_one (qs_ret (qe_if (qt_tru (qb_of (qe_name 0))) (qe_c pe_non fun _ _ _ => .non) (qe_c pe_int fun _ _ _ => .int _)))))), def_rd (Z := Z.m) (by decide) (by decide) h⟩)) (F.binds (ps := ["posts"]) fun _ _ _ _ _ _ us hl => match us, hl with | [_], _ => rfl)
end
end K59
namespace K59
open PySem PySem.Spec PyProof.Rows L2 Oil
section
variable {P : Program} {w : World} {K : PySem.W.Frag} {mg : Str → Option Value} {base : Heap} {Z : ZG}
theorem scl_InvalidWay_init : ClScope n_InvalidWay_init ["self", "part", "index"] (defScope s_InvalidWay_init) := ⟨rfl, rfl, rfl, by decide +kernel, rfl, by decide +kernel, by decide +kernel, by decide +kernel⟩
theorem ok_InvalidWay_init {f cc cda C : Addr} {ot : Value} {od an : Option Addr} {osl : Array (Option Value)} {dV kV doc pm ct : Value}
    (lk : K.lookup f = some ⟨ot, od, .func (PySem.W.fnX "__init__" "InvalidWay.__init__" (defArgs s_InvalidWay_init) (defBody s_InvalidWay_init) (defScope s_InvalidWay_init) [("__class__", cc)] dV kV doc pm an (.ref cda) ct), osl⟩)
    (hcd : PySem.W.codeIn K (.ref cda) "InvalidWay.__init__" = true) (F : SupF P K mg C f cc cda "self") (h0 : PySem.W.findIn K (.ref C) "part" = some none) (h1 : PySem.W.findIn K (.ref C) "index" = some none) :
    FnOk P w K mg base (L2.CX P w) 2 f (PySem.W.fnX "__init__" "InvalidWay.__init__" (defArgs s_InvalidWay_init) (defBody s_InvalidWay_init) (defScope s_InvalidWay_init) [("__class__", cc)] dV kV doc pm an (.ref cda) ct) ["self", "part", "index"] (SpX C ["part", "index"]) := by
  refine fn_sup (N := n_InvalidWay_init) (me := "self") lk hcd scl_InvalidWay_init F rfl rfl rfl rfl (fun vs H Q E h => ?_) (fun _ => rfl) (fun _ => rfl) (fun _ => by rfl) (fun _ => rfl) (fun _ => rfl) (fun A outer s H vs Q E hr h => ?_)
  · obtain ⟨x, us, rfl, hl, _⟩ := h
    match us, hl with
    | [_, _], _ => rfl
  · obtain ⟨x, us, rfl, hl, hok, hx, q⟩ := h
    match us, hl with
    | [v1, v2], _ =>
    refine ⟨x, _, _, rfl, hx, pa_cons (pe_joined (.cons pe_str (.cons (pe_fmt (pv 1)) (.cons pe_str (.cons (pe_fmt (pv 2)) .nil))))) pa_nil, pss_cons (ps_ost (pv 0) (pv 1)) (pss_one (ps_ost (pv 0) (pv 2))), ?_⟩
    refine fstr2 (i := 1) (j := 2) rfl rfl (hok v1 (by simp)) (hok v2 (by simp)) (by decide +kernel) (by decide +kernel) fun o => ⟨(by show 1 ≤ 1000; decide), hx, v1, rfl, .ref x, rfl, x, C, rfl, F.oex, h0, .inl ⟨hx, fun dx hdx hne => ?_⟩⟩
    refine ⟨v2, rfl, .ref x, rfl, x, C, rfl, F.oex, h1, .inr ⟨dx, _, upd_same, by rw [upd_ne hne, upd_same], by show 1 ≤ 900; decide, ?_⟩⟩
    have e : upd (upd (upd H dx (exd dx [("part", v1)])) x (exo x C (some dx))) dx (exd dx [("index", v2), ("part", v1)]) = upd (upd H dx (exd dx [("index", v2), ("part", v1)])) x (exo x C (some dx)) := by
      funext b
      by_cases e1 : b = dx
      · rw [e1, upd_same, upd_ne hne, upd_same]
      · rw [upd_ne e1]
        by_cases e2 : b = x
        · rw [e2, upd_same, upd_same]
        · rw [upd_ne e2, upd_ne e2, upd_ne e1, upd_ne e1]
    rw [e]
    exact q dx hdx hne
end
end K59
namespace K59
open PySem PySem.Spec PyProof.Rows L2 Oil
section
variable {P : Program} {w : World} {K : PySem.W.Frag} {mg : Str → Option Value} {base : Heap} {Z : ZG}
theorem ok_Way_init {f : Addr} {fd : FuncData} (F : Fun K "__init__" "Way.__init__" s_Way_init f fd) (T : Txt K mg Z) (G_first_wrong : Cal P w K mg base 4 "_first_wrong" (SpD Z K S_first_wrong)) (G_is_number_within : Cal P w K mg base 2 "is_number_within" (SpD Z K S_is_number_within)) (X_InvalidWay : Exo P w K mg base 2 "InvalidWay" (Z 1) (SpX (Z 1) ["part", "index"])) : FnR P w K mg base (L2.CX P w) 5 f (SpI Z K 13 S_Way_init) := by
  obtain ⟨oc, od, kV, doc, pm, an, cdv, ct, osl, rfl, lk, hcd⟩ := F.ex
  have FS := StX.fn_star (P := P) (w := w) (mg := mg) (base := base) (ps := ["self", "capacity"]) (pv := "posts") (N := n_Way_init) (CX := L2.CX P w) (k := 4) (sp := SpT 2 (SpI Z K 13 S_Way_init)) lk hcd sc_Way_init StX.cxUp (StX.bind_star2 (B := fun xs => bindArgs (PySem.W.fnOf "__init__" "Way.__init__" (defArgs s_Way_init) (defBody s_Way_init) (defScope s_Way_init) .none kV doc pm an cdv ct) ⟨xs, []⟩) (fun a0 a1 => rfl) (fun a0 a1 r rs => rfl)) (fun A outer s H vs Q E hr h => ⟨_, (show QSs Z.m _ _ _ _ from (qss_cons (qs_if (qt_not (qt_val (qe_call G_is_number_within hr (by omega) (passes_call (takes_of rfl rfl rfl rfl) (fun _ _ _ _ h => h)) (qa_cons (qe_name 1) (qa_cons (qe_c pe_int fun _ _ _ => .int _) (qa_cons (qe_c (v := .int 1000000000) (pe_glob (by rfl) T.g_MOST_UNITS.choose_spec ⟨_, rfl⟩) fun _ _ _ => .int 1000000000) qa_nil)))))) (qss_one (qs_raiseX (c := 1) (X_InvalidWay) hr (by omega) rfl (takes_of rfl rfl rfl rfl) passL (qa_cons (qe_c pe_str fun _ _ _ => .str _) (qa_cons (qe_c pe_int fun _ _ _ => .int _) qa_nil)))) qss_nil)
      (qss_cons (qs_set 3 sc_Way_init.nd rfl (Or.inl rfl) (qe_call G_first_wrong hr (by omega) (passes_call (takes_of rfl rfl rfl rfl) (fun _ _ _ _ h => h)) (qa_cons (qe_name 2) qa_nil)))
      (qss_cons (qs_if (qt_cmp op_notN1 ops_isNot (qb_of (qe_name 3)) (qb_of (qe_c pe_non fun _ _ _ => .non))) (qss_one (qs_raiseX (c := 1) (X_InvalidWay) hr (by omega) rfl (takes_of rfl rfl rfl rfl) passL (qa_cons (qe_c pe_str fun _ _ _ => .str _) (qa_cons (qe_name 3) qa_nil)))) qss_nil)
      (qss_cons (qs_self 0 (c := 13) T.o_Way.cl T.na_Way__capacity rfl (Or.inl rfl) (qe_name 1))
      (qss_one (qs_self 0 (c := 13) T.o_Way.cl T.na_Way__posts rfl (Or.inl rfl) (qe_name 2)))))))), initS_rd (by decide) (by decide) h⟩)
  exact FS.imp fun vs H Q E h => spt_of (initS_len (Z := Z.m) (N := n_Way_init) h).1 (initS_len (Z := Z.m) (N := n_Way_init) h).2 h
end
end K59
namespace K59
open PySem PySem.Spec PyProof.Rows L2 Oil
section
variable {P : Program} {w : World} {K : PySem.W.Frag} {mg : Str → Option Value} {base : Heap} {Z : ZG}
theorem ok_Way_even {f : Addr} {fd : FuncData} (F : Fun K "even" "Way.even" s_Way_even f fd) (T : Txt K mg Z) (G_check_number_within : Cal P w K mg base 3 "check_number_within" (SpD Z K S_check_number_within)) (M_Way : Mak P w K mg base 5 "Way" (Z 13) (SpI Z K 13 S_Way_init)) : FnR P w K mg base (L2.CX P w) 7 f (SpD Z K S_Way_even) := by
  refine fnR_of (fd := fd) (ps := ["cls", "capacity", "count", "oil", "steps"]) (F.okX sc_Way_even (fun vs H Q E h => def_len (Z := Z.m) (N := n_Way_even) h) (fun cdv A outer s H vs Q E hr h => ⟨_, (show QSs Z.m _ _ _ _ from (qss_cons (qs_expr (qe_call G_check_number_within hr (by omega) (passes_call (takes_of rfl rfl rfl rfl) (fun _ _ _ _ h => h)) (qa_cons (qe_name 2) (qa_cons (qe_c pe_int fun _ _ _ => .int _) (qa_cons (qe_c (v := .int 12) (pe_glob (by rfl) T.g_MOST_POSTS.choose_spec ⟨_, rfl⟩) fun _ _ _ => .int 12) qa_nil)))))
      (qss_cons (qs_setLc (own := [("_", 6)]) 5 (.nm 6) rfl sc_Way_even.nd rfl rfl (sw_true rfl rfl rfl (by decide +kernel)) (qi_range1 (by rfl) T.n_range (qe_name 2)) (blkOk_by (own := [("_", 6)]) (N := n_Way_even) (sc := defScope s_Way_even) (by decide +kernel)) (fun _ _ _ _ _ => (pg_name (i := 6) sc_Way_even.nd rfl (Or.inl rfl))) (fun _ _ _ _ _ => qts_nil) (fun _ _ _ _ _ => (qe_tup (qa_cons (qe_name 3) (qa_cons (qe_name 4) qa_nil)))) (by decide))
      (qss_one (qs_ret (qe_makLS 0 M_Way hr (by omega) (passes_call (takes_of rfl rfl rfl rfl) (fun _ _ _ _ h => h)) (qa_cons (qe_name 1) (qa_star (qb_of (qe_name 5)) qa_nil)))))))), def_rd (Z := Z.m) (by decide) (by decide) h⟩)) (F.binds (ps := ["cls", "capacity", "count", "oil", "steps"]) fun _ _ _ _ _ _ us hl => match us, hl with | [_, _, _, _, _], _ => rfl)
end
end K59
namespace K59
open PySem PySem.Spec PyProof.Rows L2 Oil
section
variable {P : Program} {w : World} {K : PySem.W.Frag} {mg : Str → Option Value} {base : Heap} {Z : ZG}
theorem ok_check_post {f : Addr} {fd : FuncData} (F : Fun K "check_post" "check_post" s_check_post f fd) (T : Txt K mg Z) (G_is_number_within : Cal P w K mg base 2 "is_number_within" (SpD Z K S_is_number_within)) : FnR P w K mg base (L2.CX P w) 3 f (SpD Z K S_check_post) := by
  refine fnR_of (fd := fd) (ps := ["value", "many"]) (F.okX sc_check_post (fun vs H Q E h => def_len (Z := Z.m) (N := n_check_post) h) (fun cdv A outer s H vs Q E hr h => ⟨_, (show QSs Z.m _ _ _ _ from (qss_one (qs_if (qt_not (qt_val (qe_call G_is_number_within hr (by omega) (passes_call (takes_of rfl rfl rfl rfl) (fun _ _ _ _ h => h)) (qa_cons (qe_name 0) (qa_cons (qe_c pe_int fun _ _ _ => .int _) (qa_cons (qe_op op_sub ops_sub (qb_of (qe_name 1)) (qb_of (qe_c pe_int fun _ _ _ => .int _))) qa_nil)))))) (qss_one (qs_raise (c := 2) rfl (takes_of rfl rfl rfl rfl) (pmk_own PySem.F.excBase_ValueError T.x_UnknownPost T.g_UnknownPost T.k_UnknownPost (raises_own T.b_UnknownPost T.t_UnknownPost) rfl))) qss_nil))), def_rd (Z := Z.m) (by decide) (by decide) h⟩)) (F.binds (ps := ["value", "many"]) fun _ _ _ _ _ _ us hl => match us, hl with | [_, _], _ => rfl)
end
end K59
namespace K59
open PySem PySem.Spec PyProof.Rows L2 Oil
section
variable {P : Program} {w : World} {K : PySem.W.Frag} {mg : Str → Option Value} {base : Heap} {Z : ZG}
theorem ok_Way_with_post {f : Addr} {fd : FuncData} (F : Fun K "with_post" "Way.with_post" s_Way_with_post f fd) (T : Txt K mg Z) (G_check_post : Cal P w K mg base 3 "check_post" (SpD Z K S_check_post)) (M_Way : Mak P w K mg base 5 "Way" (Z 13) (SpI Z K 13 S_Way_init)) : FnR P w K mg base (L2.CX P w) 7 f (SpD Z K S_Way_with_post) := by
  refine fnR_of (fd := fd) (ps := ["self", "post", "oil", "steps"]) (F.okX sc_Way_with_post (fun vs H Q E h => def_len (Z := Z.m) (N := n_Way_with_post) h) (fun cdv A outer s H vs Q E hr h => ⟨_, (show QSs Z.m _ _ _ _ from (qss_cons (qs_expr (qe_call G_check_post hr (by omega) (passes_call (takes_of rfl rfl rfl rfl) (fun _ _ _ _ h => h)) (qa_cons (qe_name 1) (qa_cons (qe_cb call_ln cbs_len (by rfl) T.n_len (by decide +kernel) (qab_cons (qb_of (qe_fld (c := 13) T.o_Way.cl T.na_Way__posts (qe_name 0))) qab_nil)) qa_nil))))
      (qss_cons (qs_setO 4 sc_Way_with_post.nd rfl (Or.inl rfl) (qf_list (by rfl) T.n_list (by decide +kernel) (qab_cons (qb_of (qe_fld (c := 13) T.o_Way.cl T.na_Way__posts (qe_name 0))) qab_nil)))
      (qss_cons (qs_put 4 rfl (Or.inl rfl) (qe_name 1) (qe_tup (qa_cons (qe_name 2) (qa_cons (qe_name 3) qa_nil))))
      (qss_one (qs_ret (qe_makeS M_Way hr (by omega) (passes_call (takes_of rfl rfl rfl rfl) (fun _ _ _ _ h => h)) (qa_cons (qe_fld (c := 13) T.o_Way.cl T.na_Way__capacity (qe_name 0)) (qa_star (qb_own 4) qa_nil))))))))), def_rd (Z := Z.m) (by decide) (by decide) h⟩)) (F.binds (ps := ["self", "post", "oil", "steps"]) fun _ _ _ _ _ _ us hl => match us, hl with | [_, _, _, _], _ => rfl)
end
end K59
namespace K59
open PySem PySem.Spec PyProof.Rows L2 Oil
section
variable {P : Program} {w : World} {K : PySem.W.Frag} {mg : Str → Option Value} {base : Heap} {Z : ZG}
theorem ok_law_way {f : Addr} {fd : FuncData} (F : Fun K "_law_way" "_law_way" s_law_way f fd) (T : Txt K mg Z) (K_Way_even : Cmt P w K mg base 7 (Z 13) "even" (SpD Z K S_Way_even)) (D_Way_with_post : Met P w K mg base 7 (Z 13) "with_post" (SpD Z K S_Way_with_post)) : FnR P w K mg base (L2.CX P w) 8 f (SpD Z K S_law_way) := by
  refine fnR_of (fd := fd) (ps := ["_law_capacity_here", "_law_posts_here"]) (F.okX sc_law_way (fun vs H Q E h => def_len (Z := Z.m) (N := n_law_way) h) (fun cdv A outer s H vs Q E hr h => ⟨_, (show QSs Z.m _ _ _ _ from (qss_cons (qs_set 2 sc_law_way.nd rfl (Or.inl rfl) (qe_cmeth (qe_c (v := .ref (Z 13)) (pe_glob (by rfl) T.g_Way rfl) fun _ _ _ => .cls 13) K_Way_even hr (by omega) (passes_call (takes_of rfl rfl rfl rfl) (fun _ _ _ _ h => h)) (qa_cons (qe_name 0) (qa_cons (qe_cb call_ln cbs_len (by rfl) T.n_len (by decide +kernel) (qab_cons (qb_of (qe_name 1)) qab_nil)) (qa_cons (qe_c pe_int fun _ _ _ => .int _) (qa_cons (qe_c pe_int fun _ _ _ => .int _) qa_nil))))))
      (qss_cons (qs_for (.nm 3) (passes_of rfl) rfl (qi_range1 (by rfl) T.n_range (qe_cb call_ln cbs_len (by rfl) T.n_len (by decide +kernel) (qab_cons (qb_of (qe_name 1)) qab_nil))) (pg_name (i := 3) sc_law_way.nd rfl (Or.inl rfl)) (qss_one (qs_set 2 sc_law_way.nd rfl (Or.inl rfl) (qe_meth (qe_name 2) D_Way_with_post hr (by omega) (passes_call (takes_of rfl rfl rfl rfl) (fun _ _ _ _ h => h)) (qa_cons (qe_name 3) (qa_cons (qe_ix (ix_any rfl) ops_ix (qb_of (qe_ix (ix_any rfl) ops_ix (qb_of (qe_name 1)) (qb_of (qe_name 3)) (fun _ _ => rfl))) (qb_of (qe_c pe_int fun _ _ _ => .int _)) (fun _ _ => rfl)) (qa_cons (qe_ix (ix_any rfl) ops_ix (qb_of (qe_ix (ix_any rfl) ops_ix (qb_of (qe_name 1)) (qb_of (qe_name 3)) (fun _ _ => rfl))) (qb_of (qe_c pe_int fun _ _ _ => .int _)) (fun _ _ => rfl)) qa_nil)))))))
      (qss_one (qs_ret (qe_name 2)))))), def_rd (Z := Z.m) (by decide) (by decide) h⟩)) (F.binds (ps := ["_law_capacity_here", "_law_posts_here"]) fun _ _ _ _ _ _ us hl => match us, hl with | [_, _], _ => rfl)
end
end K59
namespace K59
open PySem PySem.Spec PyProof.Rows L2 Oil
section
variable {P : Program} {w : World} {K : PySem.W.Frag} {mg : Str → Option Value} {base : Heap} {Z : ZG}
theorem ok_law_drawn {f : Addr} {fd : FuncData} (F : Fun K "_law_drawn" "_law_drawn" s_law_drawn f fd) (T : Txt K mg Z) (G_law_capacity : Cal P w K mg base 3 "_law_capacity" (SpD Z K S_law_capacity)) (G_law_posts : Cal P w K mg base 3 "_law_posts" (SpD Z K S_law_posts)) (G_law_taken : Cal P w K mg base 2 "_law_taken" (SpD Z K S_next)) (G_law_way : Cal P w K mg base 8 "_law_way" (SpD Z K S_law_way)) : FnR P w K mg base (L2.CX P w) 9 f (SpD Z K S_law_drawn) := by
  refine fnR_of (fd := fd) (ps := ["_law_row", "_law_most"]) (F.okX sc_law_drawn (fun vs H Q E h => def_len (Z := Z.m) (N := n_law_drawn) h) (fun cdv A outer s H vs Q E hr h => ⟨_, (show QSs Z.m _ _ _ _ from (qss_cons (qs_par2 (i := 2) (j := 3) (by rfl) sc_law_drawn.nd rfl rfl (by decide) rfl rfl (par_val 2 (qe_call G_law_posts hr (by omega) (passes_call (takes_of rfl rfl rfl rfl) (fun _ _ _ _ h => h)) (qa_cons (qe_name 0) (qa_cons (qe_name 1) qa_nil))) (par_val 3 (qe_call G_law_capacity hr (by omega) (passes_call (takes_of rfl rfl rfl rfl) (fun _ _ _ _ h => h)) (qa_cons (qe_name 0) qa_nil)) par_nil)) (by rfl))
      (qss_one (qs_ret (qe_tup (qa_cons (qe_call G_law_way hr (by omega) (passes_call (takes_of rfl rfl rfl rfl) (fun _ _ _ _ h => h)) (qa_cons (qe_name 3) (qa_cons (qe_name 2) qa_nil))) (qa_cons (qe_name 3) (qa_cons (qe_name 2) (qa_cons (qe_call G_law_taken hr (by omega) (passes_call (takes_of rfl rfl rfl rfl) (fun _ _ _ _ h => h)) (qa_cons (qe_name 0) (qa_cons (qe_cb call_ln cbs_len (by rfl) T.n_len (by decide +kernel) (qab_cons (qb_of (qe_name 2)) qab_nil)) qa_nil))) (qa_cons (qe_call G_law_taken hr (by omega) (passes_call (takes_of rfl rfl rfl rfl) (fun _ _ _ _ h => h)) (qa_cons (qe_name 0) (qa_cons (qe_op op_addU ops_add (qb_of (qe_name 3)) (qb_of (qe_c pe_int fun _ _ _ => .int _))) qa_nil))) qa_nil)))))))))), def_rd (Z := Z.m) (by decide) (by decide) h⟩)) (F.binds (ps := ["_law_row", "_law_most"]) fun _ _ _ _ _ _ us hl => match us, hl with | [_, _], _ => rfl)
end
end K59
namespace K59
open PySem PySem.Spec PyProof.Rows L2 Oil
section
variable {P : Program} {w : World} {K : PySem.W.Frag} {mg : Str → Option Value} {base : Heap} {Z : ZG}
theorem ok_law_number {f : Addr} {fd : FuncData} (F : Fun K "_law_number" "_law_number" s_law_number f fd) (T : Txt K mg Z) : FnR P w K mg base (L2.CX P w) 1 f (SpD Z K S_law_number) := by
  refine fnR_of (fd := fd) (ps := ["_law_number_here"]) (F.okX sc_law_number (fun vs H Q E h => def_len (Z := Z.m) (N := n_law_number) h) (fun cdv A outer s H vs Q E hr h => ⟨_, (show QSs Z.m _ _ _ _ from (qss_cons (qs_par2 (i := 1) (j := 2) (by rfl) sc_law_number.nd rfl rfl (by decide) rfl rfl (par_val 1 (qe_cty call_strI cbs_str (by rfl) T.n_str (by decide +kernel) (qab_cons (qb_of (qe_name 0)) qab_nil)) (par_val 2 (qe_c pe_str fun _ _ _ => .str _) par_nil)) (by rfl))
      (qss_cons (qs_while (passes_of rfl) (qt_cmp op_gt ops_gt (qb_of (qe_cb call_lenX cbs_lenS (by rfl) T.n_len (by decide +kernel) (qab_cons (qb_of (qe_name 1)) qab_nil))) (qb_of (qe_c pe_int fun _ _ _ => .int _))) (qss_one (qs_par2 (i := 1) (j := 2) (by rfl) sc_law_number.nd rfl rfl (by decide) rfl rfl (par_val 1 (qe_sliceS (qe_name 1) qo_none (qo_some (qe_neg (qe_c pe_int fun _ _ _ => .int _)))) (par_val 2 (qe_op op_addS ops_addS (qb_of (qe_op op_addS ops_addS (qb_of (qe_c pe_str fun _ _ _ => .str _)) (qb_of (qe_sliceS (qe_name 1) (qo_some (qe_neg (qe_c pe_int fun _ _ _ => .int _))) qo_none)))) (qb_of (qe_name 2))) par_nil)) (by rfl))))
      (qss_one (qs_ret (qe_op op_addS ops_addS (qb_of (qe_op op_addS ops_addS (qb_of (qe_op op_mulS ops_mulS (qb_of (qe_c pe_str fun _ _ _ => .str _)) (qb_of (qe_op op_sub ops_sub (qb_of (qe_c pe_int fun _ _ _ => .int _)) (qb_of (qe_cb call_lenX cbs_lenS (by rfl) T.n_len (by decide +kernel) (qab_cons (qb_of (qe_op op_addS ops_addS (qb_of (qe_name 1)) (qb_of (qe_name 2)))) qab_nil))))))) (qb_of (qe_name 1)))) (qb_of (qe_name 2)))))))), def_rd (Z := Z.m) (by decide) (by decide) h⟩)) (F.binds (ps := ["_law_number_here"]) fun _ _ _ _ _ _ us hl => match us, hl with | [_], _ => rfl)
end
end K59
namespace K59
open PySem PySem.Spec PyProof.Rows L2 Oil
section
variable {P : Program} {w : World} {K : PySem.W.Frag} {mg : Str → Option Value} {base : Heap} {Z : ZG}
theorem ok_law_walked {f : Addr} {fd : FuncData} (F : Fun K "_law_walked" "_law_walked" s_law_walked f fd) (T : Txt K mg Z) : FnR P w K mg base (L2.CX P w) 1 f (SpD Z K S_law_walked) := by
  refine fnR_of (fd := fd) (ps := ["_law_capacity_here", "_law_posts_here", "_law_post", "_law_oil", "_law_legs"]) (F.okX sc_law_walked (fun vs H Q E h => def_len (Z := Z.m) (N := n_law_walked) h) (fun cdv A outer s H vs Q E hr h => ⟨_, (show QSs Z.m _ _ _ _ from (qss_cons (qs_par3 (i := 5) (j := 6) (l := 7) (by rfl) sc_law_walked.nd rfl rfl rfl (by decide) (by decide) (by decide) rfl rfl rfl (par_own 5 (qf_lst qa_nil) (par_val 6 (qe_name 2) (par_val 7 (qe_name 3) par_nil))) (by rfl))
      (qss_cons (qs_for (.nm 8) (passes_of rfl) rfl (qi_range1 (by rfl) T.n_range (qe_name 4)) (pg_name (i := 8) sc_law_walked.nd rfl (Or.inl rfl)) (qss_cons (qs_unp (.tp [9, 10]) (qe_ix (ix_any rfl) ops_ix (qb_of (qe_name 1)) (qb_of (qe_name 6)) (fun _ _ => rfl)) (pg_tp (is := [9, 10]) rfl rfl (pgs_cons (pg_name (i := 9) sc_law_walked.nd rfl (Or.inl rfl)) (pgs_cons (pg_name (i := 10) sc_law_walked.nd rfl (Or.inl rfl)) pgs_nil))))
      (qss_cons (qs_set 7 sc_law_walked.nd rfl (Or.inl rfl) (qe_cb (call_mn rfl) cbs_min2 (by rfl) T.n_min (by decide +kernel) (qab_cons (qb_of (qe_name 0)) (qab_cons (qb_of (qe_op op_addU ops_add (qb_of (qe_name 7)) (qb_of (qe_name 9)))) qab_nil))))
      (qss_cons (qs_if (qt_cmp op_lt ops_lt (qb_of (qe_name 7)) (qb_of (qe_name 10))) (qss_one (qs_frz 5 (qs_ret (qe_tup (qa_cons (qe_name 5) (qa_cons (qe_tup (qa_cons (qe_name 8) (qa_cons (qe_name 7) qa_nil))) qa_nil)))))) qss_nil)
      (qss_cons (qs_par2 (i := 7) (j := 6) (by rfl) sc_law_walked.nd rfl rfl (by decide) rfl rfl (par_val 7 (qe_op op_sub ops_sub (qb_of (qe_name 7)) (qb_of (qe_name 10))) (par_val 6 (qe_op op_modN ops_mod (qb_of (qe_cty call_in cbs_int (by rfl) T.n_int (by decide +kernel) (qab_cons (qb_of (qe_op op_addU ops_add (qb_of (qe_name 6)) (qb_of (qe_c pe_int fun _ _ _ => .int _)))) qab_nil))) (qb_of (qe_cb call_ln cbs_len (by rfl) T.n_len (by decide +kernel) (qab_cons (qb_of (qe_name 1)) qab_nil)))) par_nil)) (by rfl))
      (qss_one (qs_app 5 rfl (Or.inl rfl) (qe_name 7))))))))
      (qss_one (qs_frz 5 (qs_ret (qe_tup (qa_cons (qe_name 5) (qa_cons (qe_c pe_non fun _ _ _ => .non) qa_nil))))))))), def_rd (Z := Z.m) (by decide) (by decide) h⟩)) (F.binds (ps := ["_law_capacity_here", "_law_posts_here", "_law_post", "_law_oil", "_law_legs"]) fun _ _ _ _ _ _ us hl => match us, hl with | [_, _, _, _, _], _ => rfl)
end
end K59
namespace K59
open PySem PySem.Spec PyProof.Rows L2 Oil
section
variable {P : Program} {w : World} {K : PySem.W.Frag} {mg : Str → Option Value} {base : Heap} {Z : ZG}
theorem scl_DecodeError_init : ClScope n_DecodeError_init ["self", "offset"] (defScope s_DecodeError_init) := ⟨rfl, rfl, rfl, by decide +kernel, rfl, by decide +kernel, by decide +kernel, by decide +kernel⟩
theorem ok_DecodeError_init {f cc cda C : Addr} {ot : Value} {od an : Option Addr} {osl : Array (Option Value)} {dV kV doc pm ct : Value}
    (lk : K.lookup f = some ⟨ot, od, .func (PySem.W.fnX "__init__" "DecodeError.__init__" (defArgs s_DecodeError_init) (defBody s_DecodeError_init) (defScope s_DecodeError_init) [("__class__", cc)] dV kV doc pm an (.ref cda) ct), osl⟩)
    (hcd : PySem.W.codeIn K (.ref cda) "DecodeError.__init__" = true) (F : SupF P K mg C f cc cda "self") (h0 : PySem.W.findIn K (.ref C) "offset" = some none) :
    FnOk P w K mg base (L2.CX P w) 2 f (PySem.W.fnX "__init__" "DecodeError.__init__" (defArgs s_DecodeError_init) (defBody s_DecodeError_init) (defScope s_DecodeError_init) [("__class__", cc)] dV kV doc pm an (.ref cda) ct) ["self", "offset"] (SpX C ["offset"]) := by
  refine fn_sup (N := n_DecodeError_init) (me := "self") lk hcd scl_DecodeError_init F rfl rfl rfl rfl (fun vs H Q E h => ?_) (fun _ => rfl) (fun _ => rfl) (fun _ => by rfl) (fun _ => rfl) (fun _ => rfl) (fun A outer s H vs Q E hr h => ?_)
  · obtain ⟨x, us, rfl, hl, _⟩ := h
    match us, hl with
    | [_], _ => rfl
  · obtain ⟨x, us, rfl, hl, hok, hx, q⟩ := h
    match us, hl with
    | [v1], _ =>
    refine ⟨x, _, _, rfl, hx, pa_cons (pe_joined (.cons pe_str (.cons (pe_fmt (pv 1)) .nil))) pa_nil, pss_one (ps_ost (pv 0) (pv 1)), ?_⟩
    exact fstr1 (i := 1) rfl (hok v1 (by simp)) (by decide +kernel) fun o => ⟨(by show 1 ≤ 1000; decide), hx, v1, rfl, .ref x, rfl, x, C, rfl, F.oex, h0, .inl ⟨hx, q⟩⟩
end
end K59
namespace K59
open PySem PySem.Spec PyProof.Rows L2 Oil
section
variable {P : Program} {w : World} {K : PySem.W.Frag} {mg : Str → Option Value} {base : Heap} {Z : ZG}
theorem ok_check_byte {f : Addr} {fd : FuncData} (F : Fun K "_check_byte" "_check_byte" s_check_byte f fd) (T : Txt K mg Z) (X_DecodeError : Exo P w K mg base 2 "DecodeError" (Z 11) (SpX (Z 11) ["offset"])) : FnR P w K mg base (L2.CX P w) 4 f (SpD Z K S_check_byte) := by
  refine fnR_of (fd := fd) (ps := ["data", "at", "least", "most"]) (F.okX sc_check_byte (fun vs H Q E h => def_len (Z := Z.m) (N := n_check_byte) h) (fun cdv A outer s H vs Q E hr h => ⟨_, (show QSs Z.m _ _ _ _ from (qss_one (qs_if (qt_w (qw_or (qt_cmp op_le ops_le (qb_of (qe_cb call_lenX cbs_lenS (by rfl) T.n_len (by decide +kernel) (qab_cons (qb_of (qe_name 0)) qab_nil))) (qb_of (qe_name 1))) (qw_or1 (qt_not (qt_chain op_le ops_le op_le ops_le (qb_of (qe_name 2)) (qb_of (qe_ixB (qe_name 0) (qe_name 1) (fun _ _ => rfl))) (qb_of (qe_name 3))))))) (qss_one (qs_raiseX (c := 11) (X_DecodeError) hr (by omega) rfl (takes_of rfl rfl rfl rfl) passL (qa_cons (qe_name 1) qa_nil))) qss_nil))), def_rd (Z := Z.m) (by decide) (by decide) h⟩)) (F.binds (ps := ["data", "at", "least", "most"]) fun _ _ _ _ _ _ us hl => match us, hl with | [_, _, _, _], _ => rfl)
end
end K59
namespace K59
open PySem PySem.Spec PyProof.Rows L2 Oil
section
variable {P : Program} {w : World} {K : PySem.W.Frag} {mg : Str → Option Value} {base : Heap} {Z : ZG}
theorem ok_checksum {f : Addr} {fd : FuncData} (F : Fun K "_checksum" "_checksum" s_checksum f fd) (T : Txt K mg Z) : FnR P w K mg base (L2.CX P w) 1 f (SpD Z K S_checksum) := by
  refine fnR_of (fd := fd) (ps := ["data"]) (F.okX sc_checksum (fun vs H Q E h => def_len (Z := Z.m) (N := n_checksum) h) (fun cdv A outer s H vs Q E hr h => ⟨_, (show QSs Z.m _ _ _ _ from (qss_cons (qs_set 1 sc_checksum.nd rfl (Or.inl rfl) (qe_c (v := .int 9) (pe_glob (by rfl) T.g_FIRST_CHECKSUM.choose_spec ⟨_, rfl⟩) fun _ _ _ => .int 9))
      (qss_cons (qs_for (.nm 2) (passes_of rfl) rfl (qi_byt (qe_name 0)) (pg_name (i := 2) sc_checksum.nd rfl (Or.inl rfl)) (qss_one (qs_set 1 sc_checksum.nd rfl (Or.inl rfl) (qe_op op_modN ops_mod (qb_of (qe_cty call_in cbs_int (by rfl) T.n_int (by decide +kernel) (qab_cons (qb_of (qe_op op_addU ops_add (qb_of (qe_op op_mulU ops_mul (qb_of (qe_c pe_int fun _ _ _ => .int _)) (qb_of (qe_name 1)))) (qb_of (qe_name 2)))) qab_nil))) (qb_of (qe_c pe_int fun _ _ _ => .int _))))))
      (qss_one (qs_ret (qe_name 1)))))), def_rd (Z := Z.m) (by decide) (by decide) h⟩)) (F.binds (ps := ["data"]) fun _ _ _ _ _ _ us hl => match us, hl with | [_], _ => rfl)
end
end K59
namespace K59
open PySem PySem.Spec PyProof.Rows L2 Oil
section
variable {P : Program} {w : World} {K : PySem.W.Frag} {mg : Str → Option Value} {base : Heap} {Z : ZG}
theorem ok_number_at {f : Addr} {fd : FuncData} (F : Fun K "_number_at" "_number_at" s_number_at f fd) (T : Txt K mg Z) (X_DecodeError : Exo P w K mg base 2 "DecodeError" (Z 11) (SpX (Z 11) ["offset"])) : FnR P w K mg base (L2.CX P w) 4 f (SpD Z K S_number_at) := by
  refine fnR_of (fd := fd) (ps := ["data", "at", "least"]) (F.okX sc_number_at (fun vs H Q E h => def_len (Z := Z.m) (N := n_number_at) h) (fun cdv A outer s H vs Q E hr h => ⟨_, (show QSs Z.m _ _ _ _ from (qss_cons (qs_set 3 sc_number_at.nd rfl (Or.inl rfl) (qe_op op_addU ops_add (qb_of (qe_name 1)) (qb_of (qe_c (v := .int 4) (pe_glob (by rfl) T.g_NUMBER_SIZE.choose_spec ⟨_, rfl⟩) fun _ _ _ => .int 4))))
      (qss_cons (qs_if (qt_cmp op_lt ops_lt (qb_of (qe_cb call_lenX cbs_lenS (by rfl) T.n_len (by decide +kernel) (qab_cons (qb_of (qe_name 0)) qab_nil))) (qb_of (qe_name 3))) (qss_one (qs_raiseX (c := 11) (X_DecodeError) hr (by omega) rfl (takes_of rfl rfl rfl rfl) passL (qa_cons (qe_cb call_lenX cbs_lenS (by rfl) T.n_len (by decide +kernel) (qab_cons (qb_of (qe_name 0)) qab_nil)) qa_nil))) qss_nil)
      (qss_cons (qs_set 4 sc_number_at.nd rfl (Or.inl rfl) (qe_fromB (qe_c (v := .ty "int") (pe_bltn (by rfl) T.n_int (by decide +kernel) rfl) fun _ _ _ => .ty "int") (qa_cons (qe_sliceS (qe_name 0) (qo_some (qe_name 1)) (qo_some (qe_name 3))) (qa_cons (qe_c pe_str fun _ _ _ => .str _) qa_nil))))
      (qss_cons (qs_if (qt_not (qt_chain op_le ops_le op_le ops_le (qb_of (qe_name 2)) (qb_of (qe_name 4)) (qb_of (qe_c (v := .int 1000000000) (pe_glob (by rfl) T.g_MOST_UNITS.choose_spec ⟨_, rfl⟩) fun _ _ _ => .int 1000000000)))) (qss_one (qs_raiseX (c := 11) (X_DecodeError) hr (by omega) rfl (takes_of rfl rfl rfl rfl) passL (qa_cons (qe_name 1) qa_nil))) qss_nil)
      (qss_one (qs_ret (qe_name 4)))))))), def_rd (Z := Z.m) (by decide) (by decide) h⟩)) (F.binds (ps := ["data", "at", "least"]) fun _ _ _ _ _ _ us hl => match us, hl with | [_, _, _], _ => rfl)
end
end K59
namespace K59
open PySem PySem.Spec PyProof.Rows L2 Oil
section
variable {P : Program} {w : World} {K : PySem.W.Frag} {mg : Str → Option Value} {base : Heap} {Z : ZG}
theorem ok_decode_way {f : Addr} {fd : FuncData} (F : Fun K "decode_way" "decode_way" s_decode_way f fd) (T : Txt K mg Z) (G_check_byte : Cal P w K mg base 4 "_check_byte" (SpD Z K S_check_byte)) (G_checksum : Cal P w K mg base 1 "_checksum" (SpD Z K S_checksum)) (G_number_at : Cal P w K mg base 4 "_number_at" (SpD Z K S_number_at)) (X_DecodeError : Exo P w K mg base 2 "DecodeError" (Z 11) (SpX (Z 11) ["offset"])) (M_Way : Mak P w K mg base 5 "Way" (Z 13) (SpI Z K 13 S_Way_init)) : FnR P w K mg base (L2.CX P w) 7 f (SpD Z K S_decode_way) := by
  refine fnR_of (fd := fd) (ps := ["data"]) (F.okX sc_decode_way (fun vs H Q E h => def_len (Z := Z.m) (N := n_decode_way) h) (fun cdv A outer s H vs Q E hr h => ⟨_, (show QSs Z.m _ _ _ _ from (qss_cons (qs_if (qt_not (qt_val (qe_cb call_isiB cbs_isiB (by rfl) T.n_isinstance (by decide +kernel) (qab_cons (qb_of (qe_name 0)) (qab_cons (qb_of (qe_c (v := .ty "bytes") (pe_bltn (by rfl) T.n_bytes (by decide +kernel) rfl) fun _ _ _ => .ty "bytes")) qab_nil))))) (qss_one (qs_raiseX (c := 11) (X_DecodeError) hr (by omega) rfl (takes_of rfl rfl rfl rfl) passL (qa_cons (qe_c pe_int fun _ _ _ => .int _) qa_nil))) qss_nil)
      (qss_cons (qs_expr (qe_call G_check_byte hr (by omega) (passes_call (takes_of rfl rfl rfl rfl) (fun _ _ _ _ h => h)) (qa_cons (qe_name 0) (qa_cons (qe_c pe_int fun _ _ _ => .int _) (qa_cons (qe_c (v := .int 79) (pe_glob (by rfl) T.g_MARK.choose_spec ⟨_, rfl⟩) fun _ _ _ => .int 79) (qa_cons (qe_c (v := .int 79) (pe_glob (by rfl) T.g_MARK.choose_spec ⟨_, rfl⟩) fun _ _ _ => .int 79) qa_nil))))))
      (qss_cons (qs_expr (qe_call G_check_byte hr (by omega) (passes_call (takes_of rfl rfl rfl rfl) (fun _ _ _ _ h => h)) (qa_cons (qe_name 0) (qa_cons (qe_c pe_int fun _ _ _ => .int _) (qa_cons (qe_c pe_int fun _ _ _ => .int _) (qa_cons (qe_c (v := .int 12) (pe_glob (by rfl) T.g_MOST_POSTS.choose_spec ⟨_, rfl⟩) fun _ _ _ => .int 12) qa_nil))))))
      (qss_cons (qs_set 1 sc_decode_way.nd rfl (Or.inl rfl) (qe_call G_number_at hr (by omega) (passes_call (takes_of rfl rfl rfl rfl) (fun _ _ _ _ h => h)) (qa_cons (qe_name 0) (qa_cons (qe_c (v := .int 2) (pe_glob (by rfl) T.g_HEAD_SIZE.choose_spec ⟨_, rfl⟩) fun _ _ _ => .int 2) (qa_cons (qe_c pe_int fun _ _ _ => .int _) qa_nil)))))
      (qss_cons (qs_set 2 sc_decode_way.nd rfl (Or.inl rfl) (qe_op op_addU ops_add (qb_of (qe_c (v := .int 2) (pe_glob (by rfl) T.g_HEAD_SIZE.choose_spec ⟨_, rfl⟩) fun _ _ _ => .int 2)) (qb_of (qe_c (v := .int 4) (pe_glob (by rfl) T.g_NUMBER_SIZE.choose_spec ⟨_, rfl⟩) fun _ _ _ => .int 4))))
      (qss_cons (qs_setO 3 sc_decode_way.nd rfl (Or.inl rfl) (qf_lst qa_nil))
      (qss_cons (qs_for (.nm 4) (passes_of rfl) rfl (qi_range1 (by rfl) T.n_range (qe_ixB (qe_name 0) (qe_c pe_int fun _ _ _ => .int _) (fun _ _ => rfl))) (pg_name (i := 4) sc_decode_way.nd rfl (Or.inl rfl)) (qss_cons (qs_set 5 sc_decode_way.nd rfl (Or.inl rfl) (qe_call G_number_at hr (by omega) (passes_call (takes_of rfl rfl rfl rfl) (fun _ _ _ _ h => h)) (qa_cons (qe_name 0) (qa_cons (qe_name 2) (qa_cons (qe_c pe_int fun _ _ _ => .int _) qa_nil)))))
      (qss_cons (qs_set 6 sc_decode_way.nd rfl (Or.inl rfl) (qe_call G_number_at hr (by omega) (passes_call (takes_of rfl rfl rfl rfl) (fun _ _ _ _ h => h)) (qa_cons (qe_name 0) (qa_cons (qe_op op_addU ops_add (qb_of (qe_name 2)) (qb_of (qe_c (v := .int 4) (pe_glob (by rfl) T.g_NUMBER_SIZE.choose_spec ⟨_, rfl⟩) fun _ _ _ => .int 4))) (qa_cons (qe_c pe_int fun _ _ _ => .int _) qa_nil)))))
      (qss_cons (qs_app 3 rfl (Or.inl rfl) (qe_tup (qa_cons (qe_name 5) (qa_cons (qe_name 6) qa_nil))))
      (qss_one (qs_set 2 sc_decode_way.nd rfl (Or.inl rfl) (qe_op op_addU ops_add (qb_of (qe_name 2)) (qb_of (qe_op op_mulU ops_mul (qb_of (qe_c pe_int fun _ _ _ => .int _)) (qb_of (qe_c (v := .int 4) (pe_glob (by rfl) T.g_NUMBER_SIZE.choose_spec ⟨_, rfl⟩) fun _ _ _ => .int 4)))))))))))
      (qss_cons (qs_set 7 sc_decode_way.nd rfl (Or.inl rfl) (qe_call G_checksum hr (by omega) (passes_call (takes_of rfl rfl rfl rfl) (fun _ _ _ _ h => h)) (qa_cons (qe_sliceS (qe_name 0) qo_none (qo_some (qe_name 2))) qa_nil)))
      (qss_cons (qs_expr (qe_call G_check_byte hr (by omega) (passes_call (takes_of rfl rfl rfl rfl) (fun _ _ _ _ h => h)) (qa_cons (qe_name 0) (qa_cons (qe_name 2) (qa_cons (qe_name 7) (qa_cons (qe_name 7) qa_nil))))))
      (qss_cons (qs_if (qt_cmp op_gt ops_gt (qb_of (qe_cb call_lenX cbs_lenS (by rfl) T.n_len (by decide +kernel) (qab_cons (qb_of (qe_name 0)) qab_nil))) (qb_of (qe_op op_addU ops_add (qb_of (qe_name 2)) (qb_of (qe_c pe_int fun _ _ _ => .int _))))) (qss_one (qs_raiseX (c := 11) (X_DecodeError) hr (by omega) rfl (takes_of rfl rfl rfl rfl) passL (qa_cons (qe_op op_addU ops_add (qb_of (qe_name 2)) (qb_of (qe_c pe_int fun _ _ _ => .int _))) qa_nil))) qss_nil)
      (qss_one (qs_ret (qe_makeS M_Way hr (by omega) (passes_call (takes_of rfl rfl rfl rfl) (fun _ _ _ _ h => h)) (qa_cons (qe_name 1) (qa_star (qb_own 3) qa_nil)))))))))))))))), def_rd (Z := Z.m) (by decide) (by decide) h⟩)) (F.binds (ps := ["data"]) fun _ _ _ _ _ _ us hl => match us, hl with | [_], _ => rfl)
end
end K59
namespace K59
open PySem PySem.Spec PyProof.Rows L2 Oil
section
variable {P : Program} {w : World} {K : PySem.W.Frag} {mg : Str → Option Value} {base : Heap} {Z : ZG}
theorem ok_number_bytes {f : Addr} {fd : FuncData} (F : Fun K "_number_bytes" "_number_bytes" s_number_bytes f fd) (T : Txt K mg Z) : FnR P w K mg base (L2.CX P w) 1 f (SpD Z K S_number_bytes) := by
  refine fnR_of (fd := fd) (ps := ["number"]) (F.okX sc_number_bytes (fun vs H Q E h => def_len (Z := Z.m) (N := n_number_bytes) h) (fun cdv A outer s H vs Q E hr h => ⟨_, (show QSs Z.m _ _ _ _ from (qss_one (qs_ret (qe_toB (qe_name 0) (qe_c pe_int fun _ _ _ => .int _) (qe_c pe_str fun _ _ _ => .str _))))), def_rd (Z := Z.m) (by decide) (by decide) h⟩)) (F.binds (ps := ["number"]) fun _ _ _ _ _ _ us hl => match us, hl with | [_], _ => rfl)
end
end K59
namespace K59
open PySem PySem.Spec PyProof.Rows L2 Oil
section
variable {P : Program} {w : World} {K : PySem.W.Frag} {mg : Str → Option Value} {base : Heap} {Z : ZG}
theorem ok_Way_len {f : Addr} {fd : FuncData} (F : Fun K "__len__" "Way.__len__" s_Way_len f fd) (T : Txt K mg Z) : FnR P w K mg base (L2.CX P w) 1 f (SpD Z K S_Way_len) := by
  refine fnR_of (fd := fd) (ps := ["self"]) (F.okX sc_Way_len (fun vs H Q E h => def_len (Z := Z.m) (N := n_Way_len) h) (fun cdv A outer s H vs Q E hr h => ⟨_, (show QSs Z.m _ _ _ _ from (qss_one (qs_ret (qe_cb call_ln cbs_len (by rfl) T.n_len (by decide +kernel) (qab_cons (qb_of (qe_fld (c := 13) T.o_Way.cl T.na_Way__posts (qe_name 0))) qab_nil))))), def_rd (Z := Z.m) (by decide) (by decide) h⟩)) (F.binds (ps := ["self"]) fun _ _ _ _ _ _ us hl => match us, hl with | [_], _ => rfl)
end
end K59
namespace K59
open PySem PySem.Spec PyProof.Rows L2 Oil
section
variable {P : Program} {w : World} {K : PySem.W.Frag} {mg : Str → Option Value} {base : Heap} {Z : ZG}
theorem ok_Way_capacity {f : Addr} {fd : FuncData} (F : Fun K "capacity" "Way.capacity" s_Way_capacity f fd) (T : Txt K mg Z) : FnR P w K mg base (L2.CX P w) 1 f (SpD Z K S_Way_capacity) := by
  refine fnR_of (fd := fd) (ps := ["self"]) (F.okX sc_Way_capacity (fun vs H Q E h => def_len (Z := Z.m) (N := n_Way_capacity) h) (fun cdv A outer s H vs Q E hr h => ⟨_, (show QSs Z.m _ _ _ _ from (qss_one (qs_ret (qe_fld (c := 13) T.o_Way.cl T.na_Way__capacity (qe_name 0))))), def_rd (Z := Z.m) (by decide) (by decide) h⟩)) (F.binds (ps := ["self"]) fun _ _ _ _ _ _ us hl => match us, hl with | [_], _ => rfl)
end
end K59
namespace K59
open PySem PySem.Spec PyProof.Rows L2 Oil
section
variable {P : Program} {w : World} {K : PySem.W.Frag} {mg : Str → Option Value} {base : Heap} {Z : ZG}
theorem ok_Way_posts {f : Addr} {fd : FuncData} (F : Fun K "posts" "Way.posts" s_Way_posts f fd) (T : Txt K mg Z) : FnR P w K mg base (L2.CX P w) 1 f (SpD Z K S_Way_posts) := by
  refine fnR_of (fd := fd) (ps := ["self"]) (F.okX sc_Way_posts (fun vs H Q E h => def_len (Z := Z.m) (N := n_Way_posts) h) (fun cdv A outer s H vs Q E hr h => ⟨_, (show QSs Z.m _ _ _ _ from (qss_one (qs_ret (qe_fld (c := 13) T.o_Way.cl T.na_Way__posts (qe_name 0))))), def_rd (Z := Z.m) (by decide) (by decide) h⟩)) (F.binds (ps := ["self"]) fun _ _ _ _ _ _ us hl => match us, hl with | [_], _ => rfl)
end
end K59
namespace K59
open PySem PySem.Spec PyProof.Rows L2 Oil
section
variable {P : Program} {w : World} {K : PySem.W.Frag} {mg : Str → Option Value} {base : Heap} {Z : ZG}
theorem ok_encode_way {f : Addr} {fd : FuncData} (F : Fun K "encode_way" "encode_way" s_encode_way f fd) (T : Txt K mg Z) (G_checksum : Cal P w K mg base 1 "_checksum" (SpD Z K S_checksum)) (G_number_bytes : Cal P w K mg base 1 "_number_bytes" (SpD Z K S_number_bytes)) (L_Way : LenO P w K mg base 1 (Z 13) (SpD Z K S_Way_len)) (P_Way_capacity : Prp P w K mg base 1 (Z 13) "capacity" (SpD Z K S_Way_capacity)) (P_Way_posts : Prp P w K mg base 1 (Z 13) "posts" (SpD Z K S_Way_posts)) : FnR P w K mg base (L2.CX P w) 3 f (SpD Z K S_encode_way) := by
  refine fnR_of (fd := fd) (ps := ["way"]) (F.okX sc_encode_way (fun vs H Q E h => def_len (Z := Z.m) (N := n_encode_way) h) (fun cdv A outer s H vs Q E hr h => ⟨_, (show QSs Z.m _ _ _ _ from (qss_cons (qs_set 1 sc_encode_way.nd rfl (Or.inl rfl) (qe_op op_addS ops_addS (qb_of (qe_cty (call_bytesL rfl) cbs_bytes (by rfl) T.n_bytes (by decide +kernel) (qab_cons (qb_of (qe_new (qf_lst (qa_cons (qe_c (v := .int 79) (pe_glob (by rfl) T.g_MARK.choose_spec ⟨_, rfl⟩) fun _ _ _ => .int 79) (qa_cons (qe_lenO L_Way hr (by omega) (passes_call (takes_of rfl rfl rfl rfl) (fun _ _ _ _ h => h)) (by rfl) T.n_len (by decide +kernel) (qe_name 0)) qa_nil))))) qab_nil))) (qb_of (qe_call G_number_bytes hr (by omega) (passes_call (takes_of rfl rfl rfl rfl) (fun _ _ _ _ h => h)) (qa_cons (qe_prop (qe_name 0) P_Way_capacity hr (by omega)) qa_nil)))))
      (qss_cons (qs_for (.tp [2, 3]) (passes_of rfl) rfl (qi_seq (qe_prop (qe_name 0) P_Way_posts hr (by omega))) (pg_tp (is := [2, 3]) rfl rfl (pgs_cons (pg_name (i := 2) sc_encode_way.nd rfl (Or.inl rfl)) (pgs_cons (pg_name (i := 3) sc_encode_way.nd rfl (Or.inl rfl)) pgs_nil))) (qss_one (qs_set 1 sc_encode_way.nd rfl (Or.inl rfl) (qe_op op_addS ops_addS (qb_of (qe_op op_addS ops_addS (qb_of (qe_name 1)) (qb_of (qe_call G_number_bytes hr (by omega) (passes_call (takes_of rfl rfl rfl rfl) (fun _ _ _ _ h => h)) (qa_cons (qe_name 2) qa_nil))))) (qb_of (qe_call G_number_bytes hr (by omega) (passes_call (takes_of rfl rfl rfl rfl) (fun _ _ _ _ h => h)) (qa_cons (qe_name 3) qa_nil)))))))
      (qss_one (qs_ret (qe_op op_addS ops_addS (qb_of (qe_name 1)) (qb_of (qe_cty (call_bytesL rfl) cbs_bytes (by rfl) T.n_bytes (by decide +kernel) (qab_cons (qb_of (qe_new (qf_lst (qa_cons (qe_call G_checksum hr (by omega) (passes_call (takes_of rfl rfl rfl rfl) (fun _ _ _ _ h => h)) (qa_cons (qe_name 1) qa_nil)) qa_nil)))) qab_nil))))))))), def_rd (Z := Z.m) (by decide) (by decide) h⟩)) (F.binds (ps := ["way"]) fun _ _ _ _ _ _ us hl => match us, hl with | [_], _ => rfl)
end
end K59
namespace K59
open PySem PySem.Spec PyProof.Rows L2 Oil
section
variable {P : Program} {w : World} {K : PySem.W.Frag} {mg : Str → Option Value} {base : Heap} {Z : ZG}
theorem ok_format_way {f : Addr} {fd : FuncData} (F : Fun K "format_way" "format_way" s_format_way f fd) (T : Txt K mg Z) (P_Way_capacity : Prp P w K mg base 1 (Z 13) "capacity" (SpD Z K S_Way_capacity)) (P_Way_posts : Prp P w K mg base 1 (Z 13) "posts" (SpD Z K S_Way_posts)) : FnR P w K mg base (L2.CX P w) 3 f (SpD Z K S_format_way) := by
  refine fnR_of (fd := fd) (ps := ["way"]) (F.okX sc_format_way (fun vs H Q E h => def_len (Z := Z.m) (N := n_format_way) h) (fun cdv A outer s H vs Q E hr h => ⟨_, (show QSs Z.m _ _ _ _ from (qss_cons (qs_setLc (own := [("oil", 2), ("steps", 3)]) 1 (.tp [2, 3]) rfl sc_format_way.nd rfl rfl (sw_true rfl rfl rfl (by decide +kernel)) (qi_own (qb_of (qe_prop (qe_name 0) P_Way_posts hr (by omega)))) (blkOk_by (own := [("oil", 2), ("steps", 3)]) (N := n_format_way) (sc := defScope s_format_way) (by decide +kernel)) (fun _ _ _ _ _ => (pg_tp (is := [2, 3]) rfl rfl (pgs_cons (pg_name (i := 2) sc_format_way.nd rfl (Or.inl rfl)) (pgs_cons (pg_name (i := 3) sc_format_way.nd rfl (Or.inl rfl)) pgs_nil)))) (fun _ _ _ _ _ => qts_nil) (fun _ _ _ _ _ => (qe_js (qj_cons (qe_c pe_str fun _ _ _ => .str _) (qj_cons (qe_fmt (qe_name 2)) (qj_cons (qe_c pe_str fun _ _ _ => .str _) (qj_cons (qe_fmt (qe_name 3)) qj_nil)))))) (by decide))
      (qss_one (qs_ret (qe_join (qe_c pe_str fun _ _ _ => .str _) (qb_of (qe_op op_addU ops_add (qb_of (qe_new (qf_lst (qa_cons (qe_js (qj_cons (qe_c pe_str fun _ _ _ => .str _) (qj_cons (qe_fmt (qe_prop (qe_name 0) P_Way_capacity hr (by omega))) qj_nil))) qa_nil)))) (qb_of (qe_name 1))))))))), def_rd (Z := Z.m) (by decide) (by decide) h⟩)) (F.binds (ps := ["way"]) fun _ _ _ _ _ _ us hl => match us, hl with | [_], _ => rfl)
end
end K59
namespace K59
open PySem PySem.Spec PyProof.Rows L2 Oil
section
variable {P : Program} {w : World} {K : PySem.W.Frag} {mg : Str → Option Value} {base : Heap} {Z : ZG}
theorem ok_log_line {f : Addr} {fd : FuncData} (F : Fun K "_log_line" "_log_line" s_log_line f fd) (T : Txt K mg Z) : FnR P w K mg base (L2.CX P w) 1 f (SpD Z K S_log_line) := by
  refine fnR_of (fd := fd) (ps := ["legs", "place", "amount"]) (F.okX sc_log_line (fun vs H Q E h => def_len (Z := Z.m) (N := n_log_line) h) (fun cdv A outer s H vs Q E hr h => ⟨_, (show QSs Z.m _ _ _ _ from (qss_one (qs_ret (qe_js (qj_cons (qe_fmt3 (qe_name 0) pe_str) (qj_cons (qe_c pe_str fun _ _ _ => .str _) (qj_cons (qe_fmt2 (qe_name 1) pe_str) (qj_cons (qe_c pe_str fun _ _ _ => .str _) (qj_cons (qe_fmt13 (qe_name 2) pe_str) qj_nil))))))))), def_rd (Z := Z.m) (by decide) (by decide) h⟩)) (F.binds (ps := ["legs", "place", "amount"]) fun _ _ _ _ _ _ us hl => match us, hl with | [_, _, _], _ => rfl)
end
end K59
namespace K59
open PySem PySem.Spec PyProof.Rows L2 Oil
section
variable {P : Program} {w : World} {K : PySem.W.Frag} {mg : Str → Option Value} {base : Heap} {Z : ZG}
theorem ok_Way_getitem {f : Addr} {fd : FuncData} (F : Fun K "__getitem__" "Way.__getitem__" s_Way_getitem f fd) (T : Txt K mg Z) (G_check_post : Cal P w K mg base 3 "check_post" (SpD Z K S_check_post)) : FnR P w K mg base (L2.CX P w) 4 f (SpD Z K S_Way_getitem) := by
  refine fnR_of (fd := fd) (ps := ["self", "at"]) (F.okX sc_Way_getitem (fun vs H Q E h => def_len (Z := Z.m) (N := n_Way_getitem) h) (fun cdv A outer s H vs Q E hr h => ⟨_, (show QSs Z.m _ _ _ _ from (qss_cons (qs_expr (qe_call G_check_post hr (by omega) (passes_call (takes_of rfl rfl rfl rfl) (fun _ _ _ _ h => h)) (qa_cons (qe_name 1) (qa_cons (qe_cb call_ln cbs_len (by rfl) T.n_len (by decide +kernel) (qab_cons (qb_of (qe_fld (c := 13) T.o_Way.cl T.na_Way__posts (qe_name 0))) qab_nil)) qa_nil))))
      (qss_one (qs_ret (qe_ix (ix_any rfl) ops_ix (qb_of (qe_fld (c := 13) T.o_Way.cl T.na_Way__posts (qe_name 0))) (qb_of (qe_name 1)) (fun _ _ => rfl)))))), def_rd (Z := Z.m) (by decide) (by decide) h⟩)) (F.binds (ps := ["self", "at"]) fun _ _ _ _ _ _ us hl => match us, hl with | [_, _], _ => rfl)
end
end K59
namespace K59
open PySem PySem.Spec PyProof.Rows L2 Oil
section
variable {P : Program} {w : World} {K : PySem.W.Frag} {mg : Str → Option Value} {base : Heap} {Z : ZG}
theorem ok_taken {f : Addr} {fd : FuncData} (F : Fun K "taken" "taken" s_taken f fd) (T : Txt K mg Z) (X_Way : GetO P w K mg base 4 (Z 13) (SpD Z K S_Way_getitem)) (P_Way_capacity : Prp P w K mg base 1 (Z 13) "capacity" (SpD Z K S_Way_capacity)) : FnR P w K mg base (L2.CX P w) 6 f (SpD Z K S_taken) := by
  refine fnR_of (fd := fd) (ps := ["way", "post", "oil"]) (F.okX sc_taken (fun vs H Q E h => def_len (Z := Z.m) (N := n_taken) h) (fun cdv A outer s H vs Q E hr h => ⟨_, (show QSs Z.m _ _ _ _ from (qss_one (qs_ret (qe_cb (call_mn rfl) cbs_min2 (by rfl) T.n_min (by decide +kernel) (qab_cons (qb_of (qe_prop (qe_name 0) P_Way_capacity hr (by omega))) (qab_cons (qb_of (qe_op op_addU ops_add (qb_of (qe_name 2)) (qb_of (qe_ix (ix_any rfl) ops_ix (qb_of (qe_get X_Way hr (by omega) (passes_call (takes_of rfl rfl rfl rfl) (fun _ _ _ _ h => h)) (qe_name 0) (qe_name 1) (fun _ _ => rfl))) (qb_of (qe_c pe_int fun _ _ _ => .int _)) (fun _ _ => rfl))))) qab_nil)))))), def_rd (Z := Z.m) (by decide) (by decide) h⟩)) (F.binds (ps := ["way", "post", "oil"]) fun _ _ _ _ _ _ us hl => match us, hl with | [_, _, _], _ => rfl)
end
end K59
namespace K59
open PySem PySem.Spec PyProof.Rows L2 Oil
section
variable {P : Program} {w : World} {K : PySem.W.Frag} {mg : Str → Option Value} {base : Heap} {Z : ZG}
theorem ok_after_leg {f : Addr} {fd : FuncData} (F : Fun K "after_leg" "after_leg" s_after_leg f fd) (T : Txt K mg Z) (G_taken : Cal P w K mg base 6 "taken" (SpD Z K S_taken)) (X_Way : GetO P w K mg base 4 (Z 13) (SpD Z K S_Way_getitem)) : FnR P w K mg base (L2.CX P w) 7 f (SpD Z K S_after_leg) := by
  refine fnR_of (fd := fd) (ps := ["way", "post", "oil"]) (F.okX sc_after_leg (fun vs H Q E h => def_len (Z := Z.m) (N := n_after_leg) h) (fun cdv A outer s H vs Q E hr h => ⟨_, (show QSs Z.m _ _ _ _ from (qss_cons (qs_set 3 sc_after_leg.nd rfl (Or.inl rfl) (qe_call G_taken hr (by omega) (passes_call (takes_of rfl rfl rfl rfl) (fun _ _ _ _ h => h)) (qa_cons (qe_name 0) (qa_cons (qe_name 1) (qa_cons (qe_name 2) qa_nil)))))
      (qss_cons (qs_set 4 sc_after_leg.nd rfl (Or.inl rfl) (qe_ix (ix_any rfl) ops_ix (qb_of (qe_get X_Way hr (by omega) (passes_call (takes_of rfl rfl rfl rfl) (fun _ _ _ _ h => h)) (qe_name 0) (qe_name 1) (fun _ _ => rfl))) (qb_of (qe_c pe_int fun _ _ _ => .int _)) (fun _ _ => rfl)))
      (qss_one (qs_ret (qe_if (qt_cmp op_lt ops_lt (qb_of (qe_name 3)) (qb_of (qe_name 4))) (qe_c pe_non fun _ _ _ => .non) (qe_op op_sub ops_sub (qb_of (qe_name 3)) (qb_of (qe_name 4))))))))), def_rd (Z := Z.m) (by decide) (by decide) h⟩)) (F.binds (ps := ["way", "post", "oil"]) fun _ _ _ _ _ _ us hl => match us, hl with | [_, _, _], _ => rfl)
end
end K59
namespace K59
open PySem PySem.Spec PyProof.Rows L2 Oil
section
variable {P : Program} {w : World} {K : PySem.W.Frag} {mg : Str → Option Value} {base : Heap} {Z : ZG}
theorem ok_check_start {f : Addr} {fd : FuncData} (F : Fun K "check_start" "check_start" s_check_start f fd) (T : Txt K mg Z) (G_check_number_within : Cal P w K mg base 3 "check_number_within" (SpD Z K S_check_number_within)) (G_check_post : Cal P w K mg base 3 "check_post" (SpD Z K S_check_post)) (L_Way : LenO P w K mg base 1 (Z 13) (SpD Z K S_Way_len)) (P_Way_capacity : Prp P w K mg base 1 (Z 13) "capacity" (SpD Z K S_Way_capacity)) : FnR P w K mg base (L2.CX P w) 4 f (SpD Z K S_check_start) := by
  refine fnR_of (fd := fd) (ps := ["way", "post", "oil"]) (F.okX sc_check_start (fun vs H Q E h => def_len (Z := Z.m) (N := n_check_start) h) (fun cdv A outer s H vs Q E hr h => ⟨_, (show QSs Z.m _ _ _ _ from (qss_cons (qs_expr (qe_call G_check_post hr (by omega) (passes_call (takes_of rfl rfl rfl rfl) (fun _ _ _ _ h => h)) (qa_cons (qe_name 1) (qa_cons (qe_lenO L_Way hr (by omega) (passes_call (takes_of rfl rfl rfl rfl) (fun _ _ _ _ h => h)) (by rfl) T.n_len (by decide +kernel) (qe_name 0)) qa_nil))))
      (qss_one (qs_expr (qe_call G_check_number_within hr (by omega) (passes_call (takes_of rfl rfl rfl rfl) (fun _ _ _ _ h => h)) (qa_cons (qe_name 2) (qa_cons (qe_c pe_int fun _ _ _ => .int _) (qa_cons (qe_prop (qe_name 0) P_Way_capacity hr (by omega)) qa_nil)))))))), def_rd (Z := Z.m) (by decide) (by decide) h⟩)) (F.binds (ps := ["way", "post", "oil"]) fun _ _ _ _ _ _ us hl => match us, hl with | [_, _, _], _ => rfl)
end
end K59
namespace K59
open PySem PySem.Spec PyProof.Rows L2 Oil
section
variable {P : Program} {w : World} {K : PySem.W.Frag} {mg : Str → Option Value} {base : Heap} {Z : ZG}
theorem ok_log_text {f : Addr} {fd : FuncData} (F : Fun K "log_text" "log_text" s_log_text f fd) (T : Txt K mg Z) (G_log_line : Cal P w K mg base 1 "_log_line" (SpD Z K S_log_line)) (G_after_leg : Cal P w K mg base 7 "after_leg" (SpD Z K S_after_leg)) (G_check_number_within : Cal P w K mg base 3 "check_number_within" (SpD Z K S_check_number_within)) (G_check_start : Cal P w K mg base 4 "check_start" (SpD Z K S_check_start)) (G_taken : Cal P w K mg base 6 "taken" (SpD Z K S_taken)) (L_Way : LenO P w K mg base 1 (Z 13) (SpD Z K S_Way_len)) : FnR P w K mg base (L2.CX P w) 8 f (SpD Z K S_log_text) := by
  refine fnR_of (fd := fd) (ps := ["way", "post", "oil", "legs"]) (F.okX sc_log_text (fun vs H Q E h => def_len (Z := Z.m) (N := n_log_text) h) (fun cdv A outer s H vs Q E hr h => ⟨_, (show QSs Z.m _ _ _ _ from (qss_cons (qs_expr (qe_call G_check_start hr (by omega) (passes_call (takes_of rfl rfl rfl rfl) (fun _ _ _ _ h => h)) (qa_cons (qe_name 0) (qa_cons (qe_name 1) (qa_cons (qe_name 2) qa_nil)))))
      (qss_cons (qs_expr (qe_call G_check_number_within hr (by omega) (passes_call (takes_of rfl rfl rfl rfl) (fun _ _ _ _ h => h)) (qa_cons (qe_name 3) (qa_cons (qe_c pe_int fun _ _ _ => .int _) (qa_cons (qe_c (v := .int 100) (pe_glob (by rfl) T.g_MOST_LEGS_IN_A_LOG.choose_spec ⟨_, rfl⟩) fun _ _ _ => .int 100) qa_nil)))))
      (qss_cons (qs_setO 4 sc_log_text.nd rfl (Or.inl rfl) (qf_lst (qa_cons (qe_call G_log_line hr (by omega) (passes_call (takes_of rfl rfl rfl rfl) (fun _ _ _ _ h => h)) (qa_cons (qe_c pe_int fun _ _ _ => .int _) (qa_cons (qe_name 1) (qa_cons (qe_name 2) qa_nil)))) qa_nil)))
      (qss_cons (qs_for (.nm 5) (passes_of rfl) rfl (qi_range1 (by rfl) T.n_range (qe_name 3)) (pg_name (i := 5) sc_log_text.nd rfl (Or.inl rfl)) (qss_cons (qs_set 6 sc_log_text.nd rfl (Or.inl rfl) (qe_call G_after_leg hr (by omega) (passes_call (takes_of rfl rfl rfl rfl) (fun _ _ _ _ h => h)) (qa_cons (qe_name 0) (qa_cons (qe_name 1) (qa_cons (qe_name 2) qa_nil)))))
      (qss_cons (qs_if (qt_cmp op_isN1 ops_is (qb_of (qe_name 6)) (qb_of (qe_c pe_non fun _ _ _ => .non))) (qss_cons (qs_app 4 rfl (Or.inl rfl) (qe_call G_log_line hr (by omega) (passes_call (takes_of rfl rfl rfl rfl) (fun _ _ _ _ h => h)) (qa_cons (qe_op op_addU ops_add (qb_of (qe_name 5)) (qb_of (qe_c pe_int fun _ _ _ => .int _))) (qa_cons (qe_c pe_str fun _ _ _ => .str _) (qa_cons (qe_call G_taken hr (by omega) (passes_call (takes_of rfl rfl rfl rfl) (fun _ _ _ _ h => h)) (qa_cons (qe_name 0) (qa_cons (qe_name 1) (qa_cons (qe_name 2) qa_nil)))) qa_nil)))))
      (qss_one qs_brk)) qss_nil)
      (qss_cons (qs_set 1 sc_log_text.nd rfl (Or.inl rfl) (qe_op op_modN ops_mod (qb_of (qe_cty call_in cbs_int (by rfl) T.n_int (by decide +kernel) (qab_cons (qb_of (qe_op op_addU ops_add (qb_of (qe_name 1)) (qb_of (qe_c pe_int fun _ _ _ => .int _)))) qab_nil))) (qb_of (qe_lenO L_Way hr (by omega) (passes_call (takes_of rfl rfl rfl rfl) (fun _ _ _ _ h => h)) (by rfl) T.n_len (by decide +kernel) (qe_name 0)))))
      (qss_cons (qs_set 2 sc_log_text.nd rfl (Or.inl rfl) (qe_name 6))
      (qss_one (qs_app 4 rfl (Or.inl rfl) (qe_call G_log_line hr (by omega) (passes_call (takes_of rfl rfl rfl rfl) (fun _ _ _ _ h => h)) (qa_cons (qe_op op_addU ops_add (qb_of (qe_name 5)) (qb_of (qe_c pe_int fun _ _ _ => .int _))) (qa_cons (qe_name 1) (qa_cons (qe_name 2) qa_nil)))))))))))
      (qss_one (qs_frz 4 (qs_ret (qe_join (qe_c pe_str fun _ _ _ => .str _) (qb_own 4)))))))))), def_rd (Z := Z.m) (by decide) (by decide) h⟩)) (F.binds (ps := ["way", "post", "oil", "legs"]) fun _ _ _ _ _ _ us hl => match us, hl with | [_, _, _, _], _ => rfl)
end
end K59
namespace K59
open PySem PySem.Spec PyProof.Rows L2 Oil
section
variable {P : Program} {w : World} {K : PySem.W.Frag} {mg : Str → Option Value} {base : Heap} {Z : ZG}
theorem ok_is_number_word {f : Addr} {fd : FuncData} (F : Fun K "_is_number_word" "_is_number_word" s_is_number_word f fd) (T : Txt K mg Z) : FnR P w K mg base (L2.CX P w) 1 f (SpD Z K S_is_number_word) := by
  refine fnR_of (fd := fd) (ps := ["word"]) (F.okX sc_is_number_word (fun vs H Q E h => def_len (Z := Z.m) (N := n_is_number_word) h) (fun cdv A outer s H vs Q E hr h => ⟨_, (show QSs Z.m _ _ _ _ from (qss_cons (qs_if (qt_w (qw_or (qt_not (qt_val (qe_isascii (qe_name 0)))) (qw_or (qt_not (qt_val (qe_isdigit (qe_name 0)))) (qw_or1 (qt_cmp op_gt ops_gt (qb_of (qe_cb call_lenX cbs_lenS (by rfl) T.n_len (by decide +kernel) (qab_cons (qb_of (qe_name 0)) qab_nil))) (qb_of (qe_c (v := .int 10) (pe_glob (by rfl) T.g_MOST_DIGITS.choose_spec ⟨_, rfl⟩) fun _ _ _ => .int 10))))))) (qss_one (qs_ret (qe_c pe_bl fun _ _ _ => .bl _))) qss_nil)
      (qss_one (qs_ret (qe_or (qe_cmp (op_eqD hr.units) ops_eq (qb_of (qe_name 0)) (qb_of (qe_c pe_str fun _ _ _ => .str _)) (nomark _)) (qe_one (qe_not (qe_startswith (qe_name 0) (qa_cons (qe_c pe_str fun _ _ _ => .str _) qa_nil))))))))), def_rd (Z := Z.m) (by decide) (by decide) h⟩)) (F.binds (ps := ["word"]) fun _ _ _ _ _ _ us hl => match us, hl with | [_], _ => rfl)
end
end K59
namespace K59
open PySem PySem.Spec PyProof.Rows L2 Oil
section
variable {P : Program} {w : World} {K : PySem.W.Frag} {mg : Str → Option Value} {base : Heap} {Z : ZG}
theorem scl_NotationError_init : ClScope n_NotationError_init ["self", "row", "word"] (defScope s_NotationError_init) := ⟨rfl, rfl, rfl, by decide +kernel, rfl, by decide +kernel, by decide +kernel, by decide +kernel⟩
theorem ok_NotationError_init {f cc cda C : Addr} {ot : Value} {od an : Option Addr} {osl : Array (Option Value)} {dV kV doc pm ct : Value}
    (lk : K.lookup f = some ⟨ot, od, .func (PySem.W.fnX "__init__" "NotationError.__init__" (defArgs s_NotationError_init) (defBody s_NotationError_init) (defScope s_NotationError_init) [("__class__", cc)] dV kV doc pm an (.ref cda) ct), osl⟩)
    (hcd : PySem.W.codeIn K (.ref cda) "NotationError.__init__" = true) (F : SupF P K mg C f cc cda "self") (h0 : PySem.W.findIn K (.ref C) "row" = some none) (h1 : PySem.W.findIn K (.ref C) "word" = some none) :
    FnOk P w K mg base (L2.CX P w) 2 f (PySem.W.fnX "__init__" "NotationError.__init__" (defArgs s_NotationError_init) (defBody s_NotationError_init) (defScope s_NotationError_init) [("__class__", cc)] dV kV doc pm an (.ref cda) ct) ["self", "row", "word"] (SpX C ["row", "word"]) := by
  refine fn_sup (N := n_NotationError_init) (me := "self") lk hcd scl_NotationError_init F rfl rfl rfl rfl (fun vs H Q E h => ?_) (fun _ => rfl) (fun _ => rfl) (fun _ => by rfl) (fun _ => rfl) (fun _ => rfl) (fun A outer s H vs Q E hr h => ?_)
  · obtain ⟨x, us, rfl, hl, _⟩ := h
    match us, hl with
    | [_, _], _ => rfl
  · obtain ⟨x, us, rfl, hl, hok, hx, q⟩ := h
    match us, hl with
    | [v1, v2], _ =>
    refine ⟨x, _, _, rfl, hx, pa_cons (pe_joined (.cons pe_str (.cons (pe_fmt (pv 1)) (.cons pe_str (.cons (pe_fmt (pv 2)) .nil))))) pa_nil, pss_cons (ps_ost (pv 0) (pv 1)) (pss_one (ps_ost (pv 0) (pv 2))), ?_⟩
    refine fstr2 (i := 1) (j := 2) rfl rfl (hok v1 (by simp)) (hok v2 (by simp)) (by decide +kernel) (by decide +kernel) fun o => ⟨(by show 1 ≤ 1000; decide), hx, v1, rfl, .ref x, rfl, x, C, rfl, F.oex, h0, .inl ⟨hx, fun dx hdx hne => ?_⟩⟩
    refine ⟨v2, rfl, .ref x, rfl, x, C, rfl, F.oex, h1, .inr ⟨dx, _, upd_same, by rw [upd_ne hne, upd_same], by show 1 ≤ 900; decide, ?_⟩⟩
    have e : upd (upd (upd H dx (exd dx [("row", v1)])) x (exo x C (some dx))) dx (exd dx [("word", v2), ("row", v1)]) = upd (upd H dx (exd dx [("word", v2), ("row", v1)])) x (exo x C (some dx)) := by
      funext b
      by_cases e1 : b = dx
      · rw [e1, upd_same, upd_ne hne, upd_same]
      · rw [upd_ne e1]
        by_cases e2 : b = x
        · rw [e2, upd_same, upd_same]
        · rw [upd_ne e2, upd_ne e2, upd_ne e1, upd_ne e1]
    rw [e]
    exact q dx hdx hne
end
end K59
namespace K59
open PySem PySem.Spec PyProof.Rows L2 Oil
section
variable {P : Program} {w : World} {K : PySem.W.Frag} {mg : Str → Option Value} {base : Heap} {Z : ZG}
theorem ok_numbers {f : Addr} {fd : FuncData} (F : Fun K "_numbers" "_numbers" s_numbers f fd) (T : Txt K mg Z) (G_is_number_word : Cal P w K mg base 1 "_is_number_word" (SpD Z K S_is_number_word)) (X_NotationError : Exo P w K mg base 2 "NotationError" (Z 9) (SpX (Z 9) ["row", "word"])) : FnR P w K mg base (L2.CX P w) 4 f (SpD Z K S_numbers) := by
  refine fnR_of (fd := fd) (ps := ["row", "words", "name", "many"]) (F.okX sc_numbers (fun vs H Q E h => def_len (Z := Z.m) (N := n_numbers) h) (fun cdv A outer s H vs Q E hr h => ⟨_, (show QSs Z.m _ _ _ _ from (qss_cons (qs_if (qt_cmp (op_neD hr.units) ops_ne (qb_of (qe_ix (ix_any rfl) ops_ix (qb_of (qe_name 1)) (qb_of (qe_c pe_int fun _ _ _ => .int _)) (fun _ _ => rfl))) (qb_of (qe_name 2))) (qss_one (qs_raiseX (c := 9) (X_NotationError) hr (by omega) rfl (takes_of rfl rfl rfl rfl) passL (qa_cons (qe_name 0) (qa_cons (qe_c pe_int fun _ _ _ => .int _) qa_nil)))) qss_nil)
      (qss_cons (qs_for (.nm 4) (passes_of rfl) rfl (qi_range2 (by rfl) T.n_range (qe_c pe_int fun _ _ _ => .int _) (qe_op op_addU ops_add (qb_of (qe_name 3)) (qb_of (qe_c pe_int fun _ _ _ => .int _)))) (pg_name (i := 4) sc_numbers.nd rfl (Or.inl rfl)) (qss_one (qs_if (qt_w (qw_or (qt_cmp op_ge ops_ge (qb_of (qe_name 4)) (qb_of (qe_cb call_ln cbs_len (by rfl) T.n_len (by decide +kernel) (qab_cons (qb_of (qe_name 1)) qab_nil)))) (qw_or1 (qt_not (qt_val (qe_call G_is_number_word hr (by omega) (passes_call (takes_of rfl rfl rfl rfl) (fun _ _ _ _ h => h)) (qa_cons (qe_ix (ix_any rfl) ops_ix (qb_of (qe_name 1)) (qb_of (qe_name 4)) (fun _ _ => rfl)) qa_nil))))))) (qss_one (qs_raiseX (c := 9) (X_NotationError) hr (by omega) rfl (takes_of rfl rfl rfl rfl) passL (qa_cons (qe_name 0) (qa_cons (qe_name 4) qa_nil)))) qss_nil)))
      (qss_cons (qs_if (qt_cmp op_gt ops_gt (qb_of (qe_cb call_ln cbs_len (by rfl) T.n_len (by decide +kernel) (qab_cons (qb_of (qe_name 1)) qab_nil))) (qb_of (qe_op op_addU ops_add (qb_of (qe_name 3)) (qb_of (qe_c pe_int fun _ _ _ => .int _))))) (qss_one (qs_raiseX (c := 9) (X_NotationError) hr (by omega) rfl (takes_of rfl rfl rfl rfl) passL (qa_cons (qe_name 0) (qa_cons (qe_op op_addU ops_add (qb_of (qe_name 3)) (qb_of (qe_c pe_int fun _ _ _ => .int _))) qa_nil)))) qss_nil)
      (qss_one (qs_ret (qe_cty call_tu cbs_tuple (by rfl) T.n_tuple (by decide +kernel) (qab_cons (qb_of (qe_new (qf_lc (own := [("word", 4)]) (.nm 4) rfl sc_numbers.nd (qi_own (qb_of (qe_slice (qb_of (qe_name 1)) (qo_some (qe_c pe_int fun _ _ _ => .int _)) qo_none))) (blkOk_by (own := [("word", 4)]) (N := n_numbers) (sc := defScope s_numbers) (by decide +kernel)) (fun _ _ _ _ _ => (pg_name (i := 4) sc_numbers.nd rfl (Or.inl rfl))) (fun _ _ _ _ _ => qts_nil) (fun _ _ _ _ _ => (qe_cty call_intS cbs_intS (by rfl) T.n_int (by decide +kernel) (qab_cons (qb_of (qe_name 4)) qab_nil))) (by decide)))) qab_nil)))))))), def_rd (Z := Z.m) (by decide) (by decide) h⟩)) (F.binds (ps := ["row", "words", "name", "many"]) fun _ _ _ _ _ _ us hl => match us, hl with | [_, _, _, _], _ => rfl)
end
end K59
namespace K59
open PySem PySem.Spec PyProof.Rows L2 Oil
section
variable {P : Program} {w : World} {K : PySem.W.Frag} {mg : Str → Option Value} {base : Heap} {Z : ZG}
theorem ok_parse_way {f : Addr} {fd : FuncData} (F : Fun K "parse_way" "parse_way" s_parse_way f fd) (T : Txt K mg Z) (G_numbers : Cal P w K mg base 4 "_numbers" (SpD Z K S_numbers)) (X_NotationError : Exo P w K mg base 2 "NotationError" (Z 9) (SpX (Z 9) ["row", "word"])) (M_Way : Mak P w K mg base 5 "Way" (Z 13) (SpI Z K 13 S_Way_init)) : FnR P w K mg base (L2.CX P w) 7 f (SpD Z K S_parse_way) := by
  refine fnR_of (fd := fd) (ps := ["text"]) (F.okX sc_parse_way (fun vs H Q E h => def_len (Z := Z.m) (N := n_parse_way) h) (fun cdv A outer s H vs Q E hr h => ⟨_, (show QSs Z.m _ _ _ _ from (qss_cons (qs_if (qt_not (qt_val (qe_isi (cs := []) (cs0 _) (by rfl) T.n_isinstance (by decide +kernel) (qab_cons (qb_of (qe_name 0)) (qab_cons (qb_of (qe_c (v := .ty "str") (pe_bltn (by rfl) T.n_str (by decide +kernel) rfl) fun _ _ _ => .ty "str")) qab_nil))))) (qss_one (qs_raiseX (c := 9) (X_NotationError) hr (by omega) rfl (takes_of rfl rfl rfl rfl) passL (qa_cons (qe_c pe_int fun _ _ _ => .int _) (qa_cons (qe_c pe_int fun _ _ _ => .int _) qa_nil)))) qss_nil)
      (qss_cons (qs_setLc (own := [("row", 4)]) 1 (.nm 4) rfl sc_parse_way.nd rfl rfl (sw_true rfl rfl rfl (by decide +kernel)) (qi_own (qb_of (qe_new (qf_split (qe_name 0) (qe_c pe_str fun _ _ _ => .str _))))) (blkOk_by (own := [("row", 4)]) (N := n_parse_way) (sc := defScope s_parse_way) (by decide +kernel)) (fun _ _ _ _ _ => (pg_name (i := 4) sc_parse_way.nd rfl (Or.inl rfl))) (fun _ _ _ _ _ => qts_nil) (fun _ _ _ _ _ => (qe_new (qf_split (qe_name 4) (qe_c pe_str fun _ _ _ => .str _)))) (by decide))
      (qss_cons (qs_set 2 sc_parse_way.nd rfl (Or.inl rfl) (qe_ix (ix_any rfl) ops_ix (qb_of (qe_call G_numbers hr (by omega) (passes_call (takes_of rfl rfl rfl rfl) (fun _ _ _ _ h => h)) (qa_cons (qe_c pe_int fun _ _ _ => .int _) (qa_cons (qe_ix (ix_any rfl) ops_ix (qb_of (qe_name 1)) (qb_of (qe_c pe_int fun _ _ _ => .int _)) (fun _ _ => rfl)) (qa_cons (qe_c pe_str fun _ _ _ => .str _) (qa_cons (qe_c pe_int fun _ _ _ => .int _) qa_nil)))))) (qb_of (qe_c pe_int fun _ _ _ => .int _)) (fun _ _ => rfl)))
      (qss_cons (qs_setLc (own := [("row", 4), ("words", 5)]) 3 (.tp [4, 5]) rfl sc_parse_way.nd rfl rfl (sw_true rfl rfl rfl (by decide +kernel)) (qi_enumK (by rfl) T.n_enumerate (qe_slice (qb_of (qe_name 1)) (qo_some (qe_c pe_int fun _ _ _ => .int _)) qo_none) (qe_c pe_int fun _ _ _ => .int _)) (blkOk_by (own := [("row", 4), ("words", 5)]) (N := n_parse_way) (sc := defScope s_parse_way) (by decide +kernel)) (fun _ _ _ _ _ => (pg_tp (is := [4, 5]) rfl rfl (pgs_cons (pg_name (i := 4) sc_parse_way.nd rfl (Or.inl rfl)) (pgs_cons (pg_name (i := 5) sc_parse_way.nd rfl (Or.inl rfl)) pgs_nil)))) (fun _ _ _ _ _ => qts_nil) (fun _ _ _ _ _ => (qe_call G_numbers hr (by omega) passL (qa_cons (qe_name 4) (qa_cons (qe_name 5) (qa_cons (qe_c pe_str fun _ _ _ => .str _) (qa_cons (qe_c pe_int fun _ _ _ => .int _) qa_nil)))))) (by decide))
      (qss_one (qs_ret (qe_makeS M_Way hr (by omega) (passes_call (takes_of rfl rfl rfl rfl) (fun _ _ _ _ h => h)) (qa_cons (qe_name 2) (qa_star (qb_of (qe_name 3)) qa_nil)))))))))), def_rd (Z := Z.m) (by decide) (by decide) h⟩)) (F.binds (ps := ["text"]) fun _ _ _ _ _ _ us hl => match us, hl with | [_], _ => rfl)
end
end K59
namespace K59
open PySem PySem.Spec PyProof.Rows L2 Oil
section
variable {P : Program} {w : World} {K : PySem.W.Frag} {mg : Str → Option Value} {base : Heap} {Z : ZG}
theorem ok_Way_eq {f : Addr} {fd : FuncData} (F : Fun K "__eq__" "Way.__eq__" s_Way_eq f fd) (T : Txt K mg Z) : FnR P w K mg base (L2.CX P w) 1 f (SpD Z K S_Way_eq) := by
  refine fnR_of (fd := fd) (ps := ["self", "other"]) (F.okX sc_Way_eq (fun vs H Q E h => def_len (Z := Z.m) (N := n_Way_eq) h) (fun cdv A outer s H vs Q E hr h => ⟨_, (show QSs Z.m _ _ _ _ from (qss_one (qs_ret (qe_and (qe_isi (cs := [13]) (cs1 T.o_Way T.c_Way) (by rfl) T.n_isinstance (by decide +kernel) (qab_cons (qb_of (qe_name 1)) (qab_cons (qb_of (qe_c (v := .ref (Z 13)) (pe_glob (by rfl) T.g_Way rfl) fun _ _ _ => .cls 13)) qab_nil))) (qe_and (qe_cmp (op_eqD hr.units) ops_eq (qb_of (qe_fld (c := 13) T.o_Way.cl T.na_Way__capacity (qe_name 0))) (qb_of (qe_fld (c := 13) T.o_Way.cl T.na_Way__capacity (qe_name 1))) (nomark _)) (qe_one (qe_cmp (op_eqD hr.units) ops_eq (qb_of (qe_fld (c := 13) T.o_Way.cl T.na_Way__posts (qe_name 0))) (qb_of (qe_fld (c := 13) T.o_Way.cl T.na_Way__posts (qe_name 1))) (nomark _)))))))), def_rd (Z := Z.m) (by decide) (by decide) h⟩)) (F.binds (ps := ["self", "other"]) fun _ _ _ _ _ _ us hl => match us, hl with | [_, _], _ => rfl)
end
end K59
namespace K59
open PySem PySem.Spec PyProof.Rows L2 Oil
/-- the law holds on every script -/
def lawSp (K : PySem.W.Frag) (Z : ZG) : Sp := Sp1 fun v H Q _ => ∃ (a : Addr) (ns : List Int), v = .ref a ∧ SqL K H a (ns.map V.int) ∧ ns.length ≤ 63 ∧ LamX.Tabs Z.tb H ∧ ∀ H1, Q (.bl true) H1
section
variable {P : Program} {w : World} {K : PySem.W.Frag} {mg : Str → Option Value} {base : Heap} {Z : ZG}
theorem ok_law {f : Addr} {fd : FuncData} (F : Fun K "law" "law" s_law f fd) (T : Txt K mg Z) (G_law_drawn : Cal P w K mg base 9 "_law_drawn" (SpD Z K S_law_drawn)) (G_law_number : Cal P w K mg base 1 "_law_number" (SpD Z K S_law_number)) (G_law_taken : Cal P w K mg base 2 "_law_taken" (SpD Z K S_next)) (G_law_walked : Cal P w K mg base 1 "_law_walked" (SpD Z K S_law_walked)) (G_law_way : Cal P w K mg base 8 "_law_way" (SpD Z K S_law_way)) (G_decode_way : Cal P w K mg base 7 "decode_way" (SpD Z K S_decode_way)) (G_encode_way : Cal P w K mg base 3 "encode_way" (SpD Z K S_encode_way)) (G_format_way : Cal P w K mg base 3 "format_way" (SpD Z K S_format_way)) (G_log_text : Cal P w K mg base 8 "log_text" (SpD Z K S_log_text)) (G_parse_way : Cal P w K mg base 7 "parse_way" (SpD Z K S_parse_way)) (Q_Way : EqO P w K mg base 1 (Z 13) (SpD Z K S_Way_eq)) (HB : b_law ((List.replicate 23 Sl.un).set 1 (.val .dice)) LawEnd) : FnOk P w K mg base (L2.CX P w) 10 f fd ["_law_script"] (lawSp K Z) := by
  refine F.okX sc_law (fun vs H Q E h => ?_) (fun cdv A outer s H vs Q E hr h => ?_)
  · obtain ⟨_, rfl, _⟩ := h
    rfl
  · obtain ⟨v0, rfl, a, ns, rfl, hS, hl, hT, q⟩ := h
    exact ⟨_, pss_cons (ps_set (i := 1) sc_law.nd rfl (Or.inl rfl) (pe_lst (pa_cons (pv 0) (pa_cons pe_int (pa_cons pe_int (pa_cons pe_int pa_nil)))))) (show QSs Z.m _ _ _ _ from (qss_cons (qs_unp (.tp [2, 3, 4, 5, 6]) (qe_call G_law_drawn hr (by omega) (passes_call (takes_of rfl rfl rfl rfl) (fun _ _ _ _ h => h)) (qa_cons (qe_name 1) (qa_cons (qe_c pe_int fun _ _ _ => .int _) qa_nil))) (pg_tp (is := [2, 3, 4, 5, 6]) rfl rfl (pgs_cons (pg_name (i := 2) sc_law.nd rfl (Or.inl rfl)) (pgs_cons (pg_name (i := 3) sc_law.nd rfl (Or.inl rfl)) (pgs_cons (pg_name (i := 4) sc_law.nd rfl (Or.inl rfl)) (pgs_cons (pg_name (i := 5) sc_law.nd rfl (Or.inr rfl)) (pgs_cons (pg_name (i := 6) sc_law.nd rfl (Or.inr rfl)) pgs_nil)))))))
      (qss_cons (qs_set 7 sc_law.nd rfl (Or.inr rfl) (qe_ix (ix_any rfl) ops_ix (qb_of (qe_new (qf_lst (qa_cons (qe_c pe_int fun _ _ _ => .int _) (qa_cons (qe_op op_addU ops_add (qb_of (qe_c pe_int fun _ _ _ => .int _)) (qb_of (qe_call G_law_taken hr (by omega) (passes_call (takes_of rfl rfl rfl rfl) (fun _ _ _ _ h => h)) (qa_cons (qe_name 1) (qa_cons (qe_op op_pow ops_pow (qb_of (qe_c pe_int fun _ _ _ => .int _)) (qb_of (qe_c pe_int fun _ _ _ => .int _))) qa_nil))))) qa_nil))))) (qb_of (qe_call G_law_taken hr (by omega) (passes_call (takes_of rfl rfl rfl rfl) (fun _ _ _ _ h => h)) (qa_cons (qe_name 1) (qa_cons (qe_c pe_int fun _ _ _ => .int _) qa_nil)))) (fun _ _ => rfl)))
      (qss_cons (qs_unp (.tp [4, 3, 6]) (qe_tup (qa_cons (qe_new (qf_lc (own := [("_law_there", 8), ("_law_steps", 21)]) (.tp [8, 21]) rfl sc_law.nd (qi_own (qb_of (qe_name 4))) (blkOk_by (own := [("_law_there", 8), ("_law_steps", 21)]) (N := n_law) (sc := defScope s_law) (by decide +kernel)) (fun _ _ _ _ _ => (pg_tp (is := [8, 21]) rfl rfl (pgs_cons (pg_name (i := 8) sc_law.nd rfl (Or.inl rfl)) (pgs_cons (pg_name (i := 21) sc_law.nd rfl (Or.inl rfl)) pgs_nil)))) (fun _ _ _ _ _ => qts_nil) (fun _ _ _ _ _ => (qe_tup (qa_cons (qe_op op_mulU ops_mul (qb_of (qe_name 8)) (qb_of (qe_name 7))) (qa_cons (qe_op op_mulU ops_mul (qb_of (qe_name 21)) (qb_of (qe_name 7))) qa_nil)))) (by decide))) (qa_cons (qe_op op_mulU ops_mul (qb_of (qe_name 3)) (qb_of (qe_name 7))) (qa_cons (qe_op op_mulU ops_mul (qb_of (qe_name 6)) (qb_of (qe_name 7))) qa_nil)))) (pg_tp (is := [4, 3, 6]) rfl rfl (pgs_cons (pg_name (i := 4) sc_law.nd rfl (Or.inl rfl)) (pgs_cons (pg_name (i := 3) sc_law.nd rfl (Or.inl rfl)) (pgs_cons (pg_name (i := 6) sc_law.nd rfl (Or.inr rfl)) pgs_nil)))))
      (qss_cons (qs_unp (.tp [2, 9]) (qe_tup (qa_cons (qe_call G_law_way hr (by omega) (passes_call (takes_of rfl rfl rfl rfl) (fun _ _ _ _ h => h)) (qa_cons (qe_name 3) (qa_cons (qe_name 4) qa_nil))) (qa_cons (qe_op op_addU ops_add (qb_of (qe_c pe_int fun _ _ _ => .int _)) (qb_of (qe_call G_law_taken hr (by omega) (passes_call (takes_of rfl rfl rfl rfl) (fun _ _ _ _ h => h)) (qa_cons (qe_name 1) (qa_cons (qe_c pe_int fun _ _ _ => .int _) qa_nil))))) qa_nil))) (pg_tp (is := [2, 9]) rfl rfl (pgs_cons (pg_name (i := 2) sc_law.nd rfl (Or.inl rfl)) (pgs_cons (pg_name (i := 9) sc_law.nd rfl (Or.inr rfl)) pgs_nil))))
      (qss_cons (qs_unp (.tp [10, 11]) (qe_call G_law_walked hr (by omega) (passes_call (takes_of rfl rfl rfl rfl) (fun _ _ _ _ h => h)) (qa_cons (qe_name 3) (qa_cons (qe_name 4) (qa_cons (qe_name 5) (qa_cons (qe_name 6) (qa_cons (qe_name 9) qa_nil)))))) (pg_tp (is := [10, 11]) rfl rfl (pgs_cons (pg_name (i := 10) sc_law.nd rfl (Or.inl rfl)) (pgs_cons (pg_name (i := 11) sc_law.nd rfl (Or.inl rfl)) pgs_nil))))
      (qss_cons (qs_setO 12 sc_law.nd rfl (Or.inl rfl) (qf_lst (qa_cons (qe_op op_addS ops_addS (qb_of (qe_op op_addS ops_addS (qb_of (qe_op op_addS ops_addS (qb_of (qe_op op_addS ops_addS (qb_of (qe_c pe_str fun _ _ _ => .str _)) (qb_of (qe_op op_mulS ops_mulS (qb_of (qe_c pe_str fun _ _ _ => .str _)) (qb_of (qe_op op_sub ops_sub (qb_of (qe_c pe_int fun _ _ _ => .int _)) (qb_of (qe_cb call_lenX cbs_lenS (by rfl) T.n_len (by decide +kernel) (qab_cons (qb_of (qe_cty call_strI cbs_str (by rfl) T.n_str (by decide +kernel) (qab_cons (qb_of (qe_name 5)) qab_nil))) qab_nil))))))))) (qb_of (qe_cty call_strI cbs_str (by rfl) T.n_str (by decide +kernel) (qab_cons (qb_of (qe_name 5)) qab_nil))))) (qb_of (qe_c pe_str fun _ _ _ => .str _)))) (qb_of (qe_call G_law_number hr (by omega) (passes_call (takes_of rfl rfl rfl rfl) (fun _ _ _ _ h => h)) (qa_cons (qe_name 6) qa_nil)))) qa_nil)))
      (qss_cons (qs_for (.nm 13) (passes_of rfl) rfl (qi_range1 (by rfl) T.n_range (qe_cb call_ln cbs_len (by rfl) T.n_len (by decide +kernel) (qab_cons (qb_of (qe_name 10)) qab_nil))) (pg_name (i := 13) sc_law.nd rfl (Or.inl rfl)) (qss_cons (qs_set 8 sc_law.nd rfl (Or.inl rfl) (qe_cty call_strI cbs_str (by rfl) T.n_str (by decide +kernel) (qab_cons (qb_of (qe_op op_modN ops_mod (qb_of (qe_cty call_in cbs_int (by rfl) T.n_int (by decide +kernel) (qab_cons (qb_of (qe_op op_addU ops_add (qb_of (qe_op op_addU ops_add (qb_of (qe_name 5)) (qb_of (qe_name 13)))) (qb_of (qe_c pe_int fun _ _ _ => .int _)))) qab_nil))) (qb_of (qe_cb call_ln cbs_len (by rfl) T.n_len (by decide +kernel) (qab_cons (qb_of (qe_name 4)) qab_nil))))) qab_nil)))
      (qss_cons (qs_set 14 sc_law.nd rfl (Or.inl rfl) (qe_op op_addS ops_addS (qb_of (qe_op op_addS ops_addS (qb_of (qe_op op_addS ops_addS (qb_of (qe_op op_addS ops_addS (qb_of (qe_op op_mulS ops_mulS (qb_of (qe_c pe_str fun _ _ _ => .str _)) (qb_of (qe_op op_sub ops_sub (qb_of (qe_c pe_int fun _ _ _ => .int _)) (qb_of (qe_cb call_lenX cbs_lenS (by rfl) T.n_len (by decide +kernel) (qab_cons (qb_of (qe_cty call_strI cbs_str (by rfl) T.n_str (by decide +kernel) (qab_cons (qb_of (qe_op op_addU ops_add (qb_of (qe_name 13)) (qb_of (qe_c pe_int fun _ _ _ => .int _)))) qab_nil))) qab_nil))))))) (qb_of (qe_cty call_strI cbs_str (by rfl) T.n_str (by decide +kernel) (qab_cons (qb_of (qe_op op_addU ops_add (qb_of (qe_name 13)) (qb_of (qe_c pe_int fun _ _ _ => .int _)))) qab_nil))))) (qb_of (qe_c pe_str fun _ _ _ => .str _)))) (qb_of (qe_op op_mulS ops_mulS (qb_of (qe_c pe_str fun _ _ _ => .str _)) (qb_of (qe_op op_sub ops_sub (qb_of (qe_c pe_int fun _ _ _ => .int _)) (qb_of (qe_cb call_lenX cbs_lenS (by rfl) T.n_len (by decide +kernel) (qab_cons (qb_of (qe_name 8)) qab_nil))))))))) (qb_of (qe_name 8))))
      (qss_one (qs_app 12 rfl (Or.inl rfl) (qe_op op_addS ops_addS (qb_of (qe_op op_addS ops_addS (qb_of (qe_name 14)) (qb_of (qe_c pe_str fun _ _ _ => .str _)))) (qb_of (qe_call G_law_number hr (by omega) (passes_call (takes_of rfl rfl rfl rfl) (fun _ _ _ _ h => h)) (qa_cons (qe_ix (ix_any rfl) ops_ix (qb_of (qe_name 10)) (qb_of (qe_name 13)) (fun _ _ => rfl)) qa_nil)))))))))
      (qss_cons (qs_if (qt_cmp op_notN1 ops_isNot (qb_of (qe_name 11)) (qb_of (qe_c pe_non fun _ _ _ => .non))) (qss_cons (qs_set 15 sc_law.nd rfl (Or.inl rfl) (qe_cty call_strI cbs_str (by rfl) T.n_str (by decide +kernel) (qab_cons (qb_of (qe_op op_addU ops_add (qb_of (qe_ix (ix_any rfl) ops_ix (qb_of (qe_name 11)) (qb_of (qe_c pe_int fun _ _ _ => .int _)) (fun _ _ => rfl))) (qb_of (qe_c pe_int fun _ _ _ => .int _)))) qab_nil)))
      (qss_one (qs_app 12 rfl (Or.inl rfl) (qe_op op_addS ops_addS (qb_of (qe_op op_addS ops_addS (qb_of (qe_op op_addS ops_addS (qb_of (qe_op op_mulS ops_mulS (qb_of (qe_c pe_str fun _ _ _ => .str _)) (qb_of (qe_op op_sub ops_sub (qb_of (qe_c pe_int fun _ _ _ => .int _)) (qb_of (qe_cb call_lenX cbs_lenS (by rfl) T.n_len (by decide +kernel) (qab_cons (qb_of (qe_name 15)) qab_nil))))))) (qb_of (qe_name 15)))) (qb_of (qe_c pe_str fun _ _ _ => .str _)))) (qb_of (qe_call G_law_number hr (by omega) (passes_call (takes_of rfl rfl rfl rfl) (fun _ _ _ _ h => h)) (qa_cons (qe_ix (ix_any rfl) ops_ix (qb_of (qe_name 11)) (qb_of (qe_c pe_int fun _ _ _ => .int _)) (fun _ _ => rfl)) qa_nil))))))) qss_nil)
      (qss_cons (qs_frz 12 (qs_if (qt_cmp (op_neD hr.units) ops_ne (qb_of (qe_call G_log_text hr (by omega) (passes_call (takes_of rfl rfl rfl rfl) (fun _ _ _ _ h => h)) (qa_cons (qe_name 2) (qa_cons (qe_name 5) (qa_cons (qe_name 6) (qa_cons (qe_name 9) qa_nil)))))) (qb_of (qe_join (qe_c pe_str fun _ _ _ => .str _) (qb_own 12)))) (qss_one (qs_ret (qe_c pe_bl fun _ _ _ => .bl _))) qss_nil))
      (qss_cons (qs_setLc (own := [("_law_there", 8), ("_law_steps", 21)]) 16 (.tp [8, 21]) rfl sc_law.nd rfl rfl (sw_true rfl rfl rfl (by decide +kernel)) (qi_own (qb_of (qe_name 4))) (blkOk_by (own := [("_law_there", 8), ("_law_steps", 21)]) (N := n_law) (sc := defScope s_law) (by decide +kernel)) (fun _ _ _ _ _ => (pg_tp (is := [8, 21]) rfl rfl (pgs_cons (pg_name (i := 8) sc_law.nd rfl (Or.inl rfl)) (pgs_cons (pg_name (i := 21) sc_law.nd rfl (Or.inl rfl)) pgs_nil)))) (fun _ _ _ _ _ => qts_nil) (fun _ _ _ _ _ => (qe_op op_addS ops_addS (qb_of (qe_op op_addS ops_addS (qb_of (qe_op op_addS ops_addS (qb_of (qe_c pe_str fun _ _ _ => .str _)) (qb_of (qe_cty call_strI cbs_str (by rfl) T.n_str (by decide +kernel) (qab_cons (qb_of (qe_name 8)) qab_nil))))) (qb_of (qe_c pe_str fun _ _ _ => .str _)))) (qb_of (qe_cty call_strI cbs_str (by rfl) T.n_str (by decide +kernel) (qab_cons (qb_of (qe_name 21)) qab_nil))))) (by decide))
      (qss_cons (qs_set 17 sc_law.nd rfl (Or.inl rfl) (qe_join (qe_c pe_str fun _ _ _ => .str _) (qb_of (qe_op op_addU ops_add (qb_of (qe_new (qf_lst (qa_cons (qe_op op_addS ops_addS (qb_of (qe_c pe_str fun _ _ _ => .str _)) (qb_of (qe_cty call_strI cbs_str (by rfl) T.n_str (by decide +kernel) (qab_cons (qb_of (qe_name 3)) qab_nil)))) qa_nil)))) (qb_of (qe_name 16))))))
      (qss_cons (qs_if (qt_w (qw_or (qt_cmp (op_neD hr.units) ops_ne (qb_of (qe_call G_format_way hr (by omega) (passes_call (takes_of rfl rfl rfl rfl) (fun _ _ _ _ h => h)) (qa_cons (qe_name 2) qa_nil))) (qb_of (qe_name 17))) (qw_or1 (qt_not (qt_eqO Q_Way hr (by omega) (passes_call (takes_of rfl rfl rfl rfl) (fun _ _ _ _ h => h)) T.nf_Way (qe_call G_parse_way hr (by omega) (passes_call (takes_of rfl rfl rfl rfl) (fun _ _ _ _ h => h)) (qa_cons (qe_name 17) qa_nil)) (qe_name 2)))))) (qss_one (qs_ret (qe_c pe_bl fun _ _ _ => .bl _))) qss_nil)
      (qss_cons (qs_set 18 sc_law.nd rfl (Or.inl rfl) (qe_call G_decode_way hr (by omega) (passes_call (takes_of rfl rfl rfl rfl) (fun _ _ _ _ h => h)) (qa_cons (qe_call G_encode_way hr (by omega) (passes_call (takes_of rfl rfl rfl rfl) (fun _ _ _ _ h => h)) (qa_cons (qe_name 2) qa_nil)) qa_nil)))
      (qss_cons (qs_set 19 sc_law.nd rfl (Or.inl rfl) (qe_call G_parse_way hr (by omega) (passes_call (takes_of rfl rfl rfl rfl) (fun _ _ _ _ h => h)) (qa_cons (qe_name 17) qa_nil)))
      (qss_cons (qs_setLc (own := [("_law_one", 22)]) 20 (.nm 22) rfl sc_law.nd rfl rfl (sw_true rfl rfl rfl (by decide +kernel)) (qi_own (qb_of (qe_tup (qa_cons (qe_name 18) (qa_cons (qe_name 19) qa_nil))))) (blkOk_by (own := [("_law_one", 22)]) (N := n_law) (sc := defScope s_law) (by decide +kernel)) (fun _ _ _ _ _ => (pg_name (i := 22) sc_law.nd rfl (Or.inl rfl))) (fun _ _ _ _ _ => qts_nil) (fun _ _ _ _ _ => (qe_call G_log_text hr (by omega) passL (qa_cons (qe_name 22) (qa_cons (qe_name 5) (qa_cons (qe_name 6) (qa_cons (qe_name 9) qa_nil)))))) (by decide))
      (qss_one (qs_ret (qe_and (qe_eqO Q_Way hr (by omega) (passes_call (takes_of rfl rfl rfl rfl) (fun _ _ _ _ h => h)) T.nf_Way (qe_name 18) (qe_name 2)) (qe_one (qe_cmp (op_eqD hr.units) ops_eq (qb_of (qe_ix (ix_any rfl) ops_ix (qb_of (qe_name 20)) (qb_of (qe_c pe_int fun _ _ _ => .int _)) (fun _ _ => rfl))) (qb_of (qe_ix (ix_any rfl) ops_ix (qb_of (qe_name 20)) (qb_of (qe_c pe_int fun _ _ _ => .int _)) (fun _ _ => rfl))) (nomark _)))))))))))))))))))))), ⟨_, rfl, (by show 4 ≤ sizeLine; decide), fun d hd => law_rd (i := 1) (n := 23) (Dice.new hd (by decide) (by decide) (by decide) hl hS) (hT.ext (Same.new hd)) rfl (by decide) rfl (by decide) HB fun H2 => q H2⟩⟩
end
end K59
namespace K59
open PySem PySem.Spec PyProof.Rows L2 Oil
theorem notc_mk {K : PySem.W.Frag} {C : Addr} (h1 : PySem.W.kitOne K (.type "NoneType") (.ref C) = some false) (h2 : PySem.W.kitOne K (.type "bool") (.ref C) = some false) (h3 : PySem.W.kitOne K (.type "int") (.ref C) = some false) (h4 : PySem.W.kitOne K (.type "str") (.ref C) = some false) (h5 : PySem.W.kitOne K (.type "tuple") (.ref C) = some false) (h6 : PySem.W.kitOne K (.type "list") (.ref C) = some false) : NotC K C := fun T hT => by
  simp only [List.mem_cons, List.not_mem_nil, or_false] at hT
  rcases hT with rfl | rfl | rfl | rfl | rfl | rfl <;> assumption
theorem nf_mk {K : PySem.W.Frag} {C : Addr} (h1 : PySem.W.notFirst K C (.type "NoneType") = true) (h2 : PySem.W.notFirst K C (.type "bool") = true) (h3 : PySem.W.notFirst K C (.type "int") = true) (h4 : PySem.W.notFirst K C (.type "str") = true) (h5 : PySem.W.notFirst K C (.type "tuple") = true) (h6 : PySem.W.notFirst K C (.type "list") = true) : ∀ T ∈ ["NoneType", "bool", "int", "str", "tuple", "list"], PySem.W.notFirst K C (.type T) = true := fun T hT => by
  simp only [List.mem_cons, List.not_mem_nil, or_false] at hT
  rcases hT with rfl | rfl | rfl | rfl | rfl | rfl <;> assumption
/-- where the classes stand -/
def Zl (l : List Addr) : Nat → Addr := fun i => l.getD i 0
section
open PySem.W
theorem kit_cls1 {K : Frag} {C : Addr} {t : Value} {b : Bool} (hi : isClsIn K C = true) (ht : typeIn K (.ref C) = some (.type "type")) (hs : subIn K t (.ref C) = some b) : kitCls K t (.ref C) = some b := by
  show (if ((clsIn K C).isSome && typeIn K (Value.ref C) == some (Value.type "type")) = true then subIn K t (Value.ref C) else none) = some b
  have h1 : (clsIn K C).isSome = true := hi
  rw [h1, ht, beq_self_eq_true, hs]
  rfl
theorem kit_ref {K : Frag} {C : Addr} {t : Value} {b : Bool} (hn : (t == .ref C) = false) (hi : isClsIn K C = true) (ht : typeIn K (.ref C) = some (.type "type")) (hs : subIn K t (.ref C) = some b) : kitOne K t (.ref C) = some b := by
  unfold kitOne
  rw [hn, if_neg Bool.false_ne_true]
  exact kit_cls1 hi ht hs
end
theorem all_mk {l : PySem.W.OpenLaw} {w : World} {K : PySem.W.Frag} {h : Heap} {mg : Str → Option Value} {fa : Addr} (HB : b_law ((List.replicate 23 Sl.un).set 1 (.val .dice)) LawEnd) (KX : K.In h) (G : h.Ns mainGlobals mg) (hfa : mg "law" = some (.ref fa))
    {z_WalkError z_InvalidWay z_UnknownPost z_InvalidNumber z_NotationError z_DecodeError z_Way f_law_taken f_law_capacity f_law_posts f_is_number f_is_number_within f_check_number_within f_is_post f_first_wrong f_Way_init f_InvalidWay_init cc_InvalidWay_init cda_InvalidWay_init w_Way_even f_Way_even f_check_post f_Way_with_post f_law_way f_law_drawn f_law_number f_law_walked f_check_byte f_DecodeError_init cc_DecodeError_init cda_DecodeError_init f_checksum f_number_at f_decode_way f_number_bytes f_Way_len w_Way_capacity f_Way_capacity w_Way_posts f_Way_posts f_encode_way f_format_way f_log_line f_Way_getitem f_taken f_after_leg f_check_start f_log_text f_is_number_word f_numbers f_NotationError_init cc_NotationError_init cda_NotationError_init f_parse_way f_Way_eq f_law : Addr} {oc_law_taken kV_law_taken dc_law_taken pm_law_taken ct_law_taken cd_law_taken oc_law_capacity kV_law_capacity dc_law_capacity pm_law_capacity ct_law_capacity cd_law_capacity oc_law_posts kV_law_posts dc_law_posts pm_law_posts ct_law_posts cd_law_posts oc_is_number kV_is_number dc_is_number pm_is_number ct_is_number cd_is_number oc_is_number_within kV_is_number_within dc_is_number_within pm_is_number_within ct_is_number_within cd_is_number_within oc_check_number_within kV_check_number_within dc_check_number_within pm_check_number_within ct_check_number_within cd_check_number_within oc_is_post kV_is_post dc_is_post pm_is_post ct_is_post cd_is_post oc_first_wrong kV_first_wrong dc_first_wrong pm_first_wrong ct_first_wrong cd_first_wrong oc_Way_init kV_Way_init dc_Way_init pm_Way_init ct_Way_init cd_Way_init ot_InvalidWay_init kV_InvalidWay_init dc_InvalidWay_init pm_InvalidWay_init ct_InvalidWay_init oc_Way_even kV_Way_even dc_Way_even pm_Way_even ct_Way_even cd_Way_even oc_check_post kV_check_post dc_check_post pm_check_post ct_check_post cd_check_post oc_Way_with_post kV_Way_with_post dc_Way_with_post pm_Way_with_post ct_Way_with_post cd_Way_with_post oc_law_way kV_law_way dc_law_way pm_law_way ct_law_way cd_law_way oc_law_drawn kV_law_drawn dc_law_drawn pm_law_drawn ct_law_drawn cd_law_drawn oc_law_number kV_law_number dc_law_number pm_law_number ct_law_number cd_law_number oc_law_walked kV_law_walked dc_law_walked pm_law_walked ct_law_walked cd_law_walked oc_check_byte kV_check_byte dc_check_byte pm_check_byte ct_check_byte cd_check_byte ot_DecodeError_init kV_DecodeError_init dc_DecodeError_init pm_DecodeError_init ct_DecodeError_init oc_checksum kV_checksum dc_checksum pm_checksum ct_checksum cd_checksum oc_number_at kV_number_at dc_number_at pm_number_at ct_number_at cd_number_at oc_decode_way kV_decode_way dc_decode_way pm_decode_way ct_decode_way cd_decode_way oc_number_bytes kV_number_bytes dc_number_bytes pm_number_bytes ct_number_bytes cd_number_bytes oc_Way_len kV_Way_len dc_Way_len pm_Way_len ct_Way_len cd_Way_len oc_Way_capacity kV_Way_capacity dc_Way_capacity pm_Way_capacity ct_Way_capacity cd_Way_capacity oc_Way_posts kV_Way_posts dc_Way_posts pm_Way_posts ct_Way_posts cd_Way_posts oc_encode_way kV_encode_way dc_encode_way pm_encode_way ct_encode_way cd_encode_way oc_format_way kV_format_way dc_format_way pm_format_way ct_format_way cd_format_way oc_log_line kV_log_line dc_log_line pm_log_line ct_log_line cd_log_line oc_Way_getitem kV_Way_getitem dc_Way_getitem pm_Way_getitem ct_Way_getitem cd_Way_getitem oc_taken kV_taken dc_taken pm_taken ct_taken cd_taken oc_after_leg kV_after_leg dc_after_leg pm_after_leg ct_after_leg cd_after_leg oc_check_start kV_check_start dc_check_start pm_check_start ct_check_start cd_check_start oc_log_text kV_log_text dc_log_text pm_log_text ct_log_text cd_log_text oc_is_number_word kV_is_number_word dc_is_number_word pm_is_number_word ct_is_number_word cd_is_number_word oc_numbers kV_numbers dc_numbers pm_numbers ct_numbers cd_numbers ot_NotationError_init kV_NotationError_init dc_NotationError_init pm_NotationError_init ct_NotationError_init oc_parse_way kV_parse_way dc_parse_way pm_parse_way ct_parse_way cd_parse_way oc_Way_eq kV_Way_eq dc_Way_eq pm_Way_eq ct_Way_eq cd_Way_eq oc_law kV_law dc_law pm_law ct_law cd_law : Value} {od_law_taken an_law_taken od_law_capacity an_law_capacity od_law_posts an_law_posts od_is_number an_is_number od_is_number_within an_is_number_within od_check_number_within an_check_number_within od_is_post an_is_post od_first_wrong an_first_wrong od_Way_init an_Way_init od_InvalidWay_init an_InvalidWay_init od_Way_even an_Way_even od_check_post an_check_post od_Way_with_post an_Way_with_post od_law_way an_law_way od_law_drawn an_law_drawn od_law_number an_law_number od_law_walked an_law_walked od_check_byte an_check_byte od_DecodeError_init an_DecodeError_init od_checksum an_checksum od_number_at an_number_at od_decode_way an_decode_way od_number_bytes an_number_bytes od_Way_len an_Way_len od_Way_capacity an_Way_capacity od_Way_posts an_Way_posts od_encode_way an_encode_way od_format_way an_format_way od_log_line an_log_line od_Way_getitem an_Way_getitem od_taken an_taken od_after_leg an_after_leg od_check_start an_check_start od_log_text an_log_text od_is_number_word an_is_number_word od_numbers an_numbers od_NotationError_init an_NotationError_init od_parse_way an_parse_way od_Way_eq an_Way_eq od_law an_law : Option Addr} {sl_law_taken sl_law_capacity sl_law_posts sl_is_number sl_is_number_within sl_check_number_within sl_is_post sl_first_wrong sl_Way_init sl_InvalidWay_init sl_Way_even sl_check_post sl_Way_with_post sl_law_way sl_law_drawn sl_law_number sl_law_walked sl_check_byte sl_DecodeError_init sl_checksum sl_number_at sl_decode_way sl_number_bytes sl_Way_len sl_Way_capacity sl_Way_posts sl_encode_way sl_format_way sl_log_line sl_Way_getitem sl_taken sl_after_leg sl_check_start sl_log_text sl_is_number_word sl_numbers sl_NotationError_init sl_parse_way sl_Way_eq sl_law : Array (Option Value)} {rest_Way_even rest_Way_capacity rest_Way_posts : List Value} {tk_FIRST_CHECKSUM tk_HEAD_SIZE tk_MARK tk_MOST_DIGITS tk_MOST_LEGS_IN_A_LOG tk_MOST_POSTS tk_MOST_UNITS tk_NUMBER_SIZE : Tok}
    (a_WalkError : PySem.W.nsIn K mainGlobals "WalkError" = some (some (.ref z_WalkError)))
    (a_InvalidWay : PySem.W.nsIn K mainGlobals "InvalidWay" = some (some (.ref z_InvalidWay)))
    (a_UnknownPost : PySem.W.nsIn K mainGlobals "UnknownPost" = some (some (.ref z_UnknownPost)))
    (a_InvalidNumber : PySem.W.nsIn K mainGlobals "InvalidNumber" = some (some (.ref z_InvalidNumber)))
    (a_NotationError : PySem.W.nsIn K mainGlobals "NotationError" = some (some (.ref z_NotationError)))
    (a_DecodeError : PySem.W.nsIn K mainGlobals "DecodeError" = some (some (.ref z_DecodeError)))
    (a_Way : PySem.W.nsIn K mainGlobals "Way" = some (some (.ref z_Way)))
    (a_FIRST_CHECKSUM : PySem.W.nsIn K mainGlobals "FIRST_CHECKSUM" = some (some (.int 9 tk_FIRST_CHECKSUM)))
    (a_HEAD_SIZE : PySem.W.nsIn K mainGlobals "HEAD_SIZE" = some (some (.int 2 tk_HEAD_SIZE)))
    (a_MARK : PySem.W.nsIn K mainGlobals "MARK" = some (some (.int 79 tk_MARK)))
    (a_MOST_DIGITS : PySem.W.nsIn K mainGlobals "MOST_DIGITS" = some (some (.int 10 tk_MOST_DIGITS)))
    (a_MOST_LEGS_IN_A_LOG : PySem.W.nsIn K mainGlobals "MOST_LEGS_IN_A_LOG" = some (some (.int 100 tk_MOST_LEGS_IN_A_LOG)))
    (a_MOST_POSTS : PySem.W.nsIn K mainGlobals "MOST_POSTS" = some (some (.int 12 tk_MOST_POSTS)))
    (a_MOST_UNITS : PySem.W.nsIn K mainGlobals "MOST_UNITS" = some (some (.int 1000000000 tk_MOST_UNITS)))
    (a_NUMBER_SIZE : PySem.W.nsIn K mainGlobals "NUMBER_SIZE" = some (some (.int 4 tk_NUMBER_SIZE)))
    (n_bool : PySem.W.nsIn K mainGlobals "bool" = some none)
    (n_bytes : PySem.W.nsIn K mainGlobals "bytes" = some none)
    (n_enumerate : PySem.W.nsIn K mainGlobals "enumerate" = some none)
    (n_int : PySem.W.nsIn K mainGlobals "int" = some none)
    (n_isinstance : PySem.W.nsIn K mainGlobals "isinstance" = some none)
    (n_len : PySem.W.nsIn K mainGlobals "len" = some none)
    (n_list : PySem.W.nsIn K mainGlobals "list" = some none)
    (n_min : PySem.W.nsIn K mainGlobals "min" = some none)
    (n_range : PySem.W.nsIn K mainGlobals "range" = some none)
    (n_str : PySem.W.nsIn K mainGlobals "str" = some none)
    (n_sum : PySem.W.nsIn K mainGlobals "sum" = some none)
    (n_tuple : PySem.W.nsIn K mainGlobals "tuple" = some none)
    (pgc_Way : PySem.W.plainGet K z_Way Str.empty = true)
    (hdc_Way : PySem.W.hasDictIn K z_Way = true)
    (poc_Way : PySem.W.plainOver K z_Way = true)
    (sac_Way : PySem.W.findIn K (.ref z_Way) "__setattr__" = some (some (.builtin "object.__setattr__")))
    (hac_Way : PySem.W.findIn K (.ref z_Way) "__class__" = some (some (.builtin "object.__class__")))
    (hn_oc : PySem.W.specialIn K (.builtin "object.__class__") "__get__" = some (some (.builtin "getset_descriptor.__get__")))
    (ht_oc : PySem.W.takesIn K (.builtin "object.__class__") = some true)
    (hmc_Way : PySem.W.mroIn K z_Way (.type "object") = some true)
    (ic_Way : PySem.W.isClsIn K z_Way = true)
    (ty_Way : PySem.W.typeIn K (.ref z_Way) = some (.type "type"))
    (nc_Way_NoneType : PySem.W.subIn K (.type "NoneType") (.ref z_Way) = some false)
    (nc_Way_bool : PySem.W.subIn K (.type "bool") (.ref z_Way) = some false)
    (nc_Way_int : PySem.W.subIn K (.type "int") (.ref z_Way) = some false)
    (nc_Way_str : PySem.W.subIn K (.type "str") (.ref z_Way) = some false)
    (nc_Way_tuple : PySem.W.subIn K (.type "tuple") (.ref z_Way) = some false)
    (nc_Way_list : PySem.W.subIn K (.type "list") (.ref z_Way) = some false)
    (nf_Way_NoneType : PySem.W.notFirst K z_Way (.type "NoneType") = true)
    (nf_Way_bool : PySem.W.notFirst K z_Way (.type "bool") = true)
    (nf_Way_int : PySem.W.notFirst K z_Way (.type "int") = true)
    (nf_Way_str : PySem.W.notFirst K z_Way (.type "str") = true)
    (nf_Way_tuple : PySem.W.notFirst K z_Way (.type "tuple") = true)
    (nf_Way_list : PySem.W.notFirst K z_Way (.type "list") = true)
    (x_na_Way__capacity : PySem.W.findIn K (.ref z_Way) "_capacity" = some none)
    (x_na_Way__posts : PySem.W.findIn K (.ref z_Way) "_posts" = some none)
    (x_x_InvalidNumber : PySem.W.excIn K z_InvalidNumber [.type "ValueError", .type "Exception", .type "BaseException", .type "object"] "ValueError.__new__" = true)
    (x_k_InvalidNumber : PySem.W.keepIn K (.ref z_InvalidNumber) = true)
    (x_b_InvalidNumber : PySem.W.subIn K (.ref z_InvalidNumber) (.type "BaseException") = some true)
    (x_t_InvalidNumber : PySem.W.typeIn K (.ref z_InvalidNumber) = some (.type "type"))
    (x_x_UnknownPost : PySem.W.excIn K z_UnknownPost [.type "ValueError", .type "Exception", .type "BaseException", .type "object"] "ValueError.__new__" = true)
    (x_k_UnknownPost : PySem.W.keepIn K (.ref z_UnknownPost) = true)
    (x_b_UnknownPost : PySem.W.subIn K (.ref z_UnknownPost) (.type "BaseException") = some true)
    (x_t_UnknownPost : PySem.W.typeIn K (.ref z_UnknownPost) = some (.type "type"))
    (a_law_taken : PySem.W.nsIn K mainGlobals "_law_taken" = some (some (.ref f_law_taken)))
    (l_law_taken : K.lookup f_law_taken = some ⟨oc_law_taken, od_law_taken, .func (PySem.W.fnOf "_law_taken" "_law_taken" (defArgs s_law_taken) (defBody s_law_taken) (defScope s_law_taken) .none kV_law_taken dc_law_taken pm_law_taken an_law_taken cd_law_taken ct_law_taken), sl_law_taken⟩)
    (c_law_taken : PySem.W.codeIn K cd_law_taken "_law_taken" = true)
    (k_law_taken : PySem.W.keepIn K (.ref f_law_taken) = true)
    (a_law_capacity : PySem.W.nsIn K mainGlobals "_law_capacity" = some (some (.ref f_law_capacity)))
    (l_law_capacity : K.lookup f_law_capacity = some ⟨oc_law_capacity, od_law_capacity, .func (PySem.W.fnOf "_law_capacity" "_law_capacity" (defArgs s_law_capacity) (defBody s_law_capacity) (defScope s_law_capacity) .none kV_law_capacity dc_law_capacity pm_law_capacity an_law_capacity cd_law_capacity ct_law_capacity), sl_law_capacity⟩)
    (c_law_capacity : PySem.W.codeIn K cd_law_capacity "_law_capacity" = true)
    (k_law_capacity : PySem.W.keepIn K (.ref f_law_capacity) = true)
    (a_law_posts : PySem.W.nsIn K mainGlobals "_law_posts" = some (some (.ref f_law_posts)))
    (l_law_posts : K.lookup f_law_posts = some ⟨oc_law_posts, od_law_posts, .func (PySem.W.fnOf "_law_posts" "_law_posts" (defArgs s_law_posts) (defBody s_law_posts) (defScope s_law_posts) .none kV_law_posts dc_law_posts pm_law_posts an_law_posts cd_law_posts ct_law_posts), sl_law_posts⟩)
    (c_law_posts : PySem.W.codeIn K cd_law_posts "_law_posts" = true)
    (k_law_posts : PySem.W.keepIn K (.ref f_law_posts) = true)
    (a_is_number : PySem.W.nsIn K mainGlobals "is_number" = some (some (.ref f_is_number)))
    (l_is_number : K.lookup f_is_number = some ⟨oc_is_number, od_is_number, .func (PySem.W.fnOf "is_number" "is_number" (defArgs s_is_number) (defBody s_is_number) (defScope s_is_number) .none kV_is_number dc_is_number pm_is_number an_is_number cd_is_number ct_is_number), sl_is_number⟩)
    (c_is_number : PySem.W.codeIn K cd_is_number "is_number" = true)
    (k_is_number : PySem.W.keepIn K (.ref f_is_number) = true)
    (a_is_number_within : PySem.W.nsIn K mainGlobals "is_number_within" = some (some (.ref f_is_number_within)))
    (l_is_number_within : K.lookup f_is_number_within = some ⟨oc_is_number_within, od_is_number_within, .func (PySem.W.fnOf "is_number_within" "is_number_within" (defArgs s_is_number_within) (defBody s_is_number_within) (defScope s_is_number_within) .none kV_is_number_within dc_is_number_within pm_is_number_within an_is_number_within cd_is_number_within ct_is_number_within), sl_is_number_within⟩)
    (c_is_number_within : PySem.W.codeIn K cd_is_number_within "is_number_within" = true)
    (k_is_number_within : PySem.W.keepIn K (.ref f_is_number_within) = true)
    (a_check_number_within : PySem.W.nsIn K mainGlobals "check_number_within" = some (some (.ref f_check_number_within)))
    (l_check_number_within : K.lookup f_check_number_within = some ⟨oc_check_number_within, od_check_number_within, .func (PySem.W.fnOf "check_number_within" "check_number_within" (defArgs s_check_number_within) (defBody s_check_number_within) (defScope s_check_number_within) .none kV_check_number_within dc_check_number_within pm_check_number_within an_check_number_within cd_check_number_within ct_check_number_within), sl_check_number_within⟩)
    (c_check_number_within : PySem.W.codeIn K cd_check_number_within "check_number_within" = true)
    (k_check_number_within : PySem.W.keepIn K (.ref f_check_number_within) = true)
    (a_is_post : PySem.W.nsIn K mainGlobals "_is_post" = some (some (.ref f_is_post)))
    (l_is_post : K.lookup f_is_post = some ⟨oc_is_post, od_is_post, .func (PySem.W.fnOf "_is_post" "_is_post" (defArgs s_is_post) (defBody s_is_post) (defScope s_is_post) .none kV_is_post dc_is_post pm_is_post an_is_post cd_is_post ct_is_post), sl_is_post⟩)
    (c_is_post : PySem.W.codeIn K cd_is_post "_is_post" = true)
    (k_is_post : PySem.W.keepIn K (.ref f_is_post) = true)
    (a_first_wrong : PySem.W.nsIn K mainGlobals "_first_wrong" = some (some (.ref f_first_wrong)))
    (l_first_wrong : K.lookup f_first_wrong = some ⟨oc_first_wrong, od_first_wrong, .func (PySem.W.fnOf "_first_wrong" "_first_wrong" (defArgs s_first_wrong) (defBody s_first_wrong) (defScope s_first_wrong) .none kV_first_wrong dc_first_wrong pm_first_wrong an_first_wrong cd_first_wrong ct_first_wrong), sl_first_wrong⟩)
    (c_first_wrong : PySem.W.codeIn K cd_first_wrong "_first_wrong" = true)
    (k_first_wrong : PySem.W.keepIn K (.ref f_first_wrong) = true)
    (a_Way_init : PySem.W.findIn K (.ref z_Way) "__init__" = some (some (.ref f_Way_init)))
    (i_Way_init : PySem.W.isFn K (.ref f_Way_init) = true)
    (l_Way_init : K.lookup f_Way_init = some ⟨oc_Way_init, od_Way_init, .func (PySem.W.fnOf "__init__" "Way.__init__" (defArgs s_Way_init) (defBody s_Way_init) (defScope s_Way_init) .none kV_Way_init dc_Way_init pm_Way_init an_Way_init cd_Way_init ct_Way_init), sl_Way_init⟩)
    (c_Way_init : PySem.W.codeIn K cd_Way_init "Way.__init__" = true)
    (k_Way_init : PySem.W.keepIn K (.ref f_Way_init) = true)
    (oex_InvalidWay : OexC K z_InvalidWay)
    (ini_InvalidWay_init : PySem.W.findIn K (.ref z_InvalidWay) "__init__" = some (some (.ref f_InvalidWay_init)))
    (l_InvalidWay_init : K.lookup f_InvalidWay_init = some ⟨ot_InvalidWay_init, od_InvalidWay_init, .func (PySem.W.fnX "__init__" "InvalidWay.__init__" (defArgs s_InvalidWay_init) (defBody s_InvalidWay_init) (defScope s_InvalidWay_init) [("__class__", cc_InvalidWay_init)] .none kV_InvalidWay_init dc_InvalidWay_init pm_InvalidWay_init an_InvalidWay_init (.ref cda_InvalidWay_init) ct_InvalidWay_init), sl_InvalidWay_init⟩)
    (tyf_InvalidWay_init : PySem.W.typeIn K (.ref f_InvalidWay_init) = some (.type "function"))
    (c_InvalidWay_init : PySem.W.codeIn K (.ref cda_InvalidWay_init) "InvalidWay.__init__" = true)
    (cdf_InvalidWay_init : ∃ (oc : Obj) (vs : Array Value) (file : Str) (tf : Tok), K.lookup cda_InvalidWay_init = some oc ∧ oc.data = .fields vs ∧ vs[2]? = some (.str file tf) ∧ ((l.prog.main.file : Str) == file) = true)
    (topsup : (l.prog.main.scope.names.lookup ("super" : Str)).isSome = false)
    (cell_InvalidWay_init : ∃ oc : Obj, K.lookup cc_InvalidWay_init = some oc ∧ oc.data = .cell (some (.ref z_InvalidWay)))
    (n_super : PySem.W.nsIn K mainGlobals "super" = some none)
    (tpany : PySem.W.nsIn K cStatics "thirdparty.any" = some none)
    (mro_InvalidWay : PySem.W.mroIn K z_InvalidWay (.ref z_InvalidWay) = some true)
    (ksi_InvalidWay : PySem.W.ks_superIn K z_InvalidWay z_InvalidWay "__init__" = some (some (.builtin "ValueError.__init__")))
    (ev_InvalidWay : PySem.W.subIn K (.ref z_InvalidWay) (.type "ValueError") = some true)
    (xn_InvalidWay_part : PySem.W.findIn K (.ref z_InvalidWay) "part" = some none)
    (xn_InvalidWay_index : PySem.W.findIn K (.ref z_InvalidWay) "index" = some none)
    (cr_Way : PySem.W.readsIn K z_Way (.type "type") = true)
    (cg_Way : PySem.W.specialIn K (.ref z_Way) "__getattribute__" = some (some (.builtin "type.__getattribute__")))
    (ca_Way_even : PySem.W.findCls K (.ref z_Way) (.type "type") "even" = some (.get (.builtin "classmethod.__get__") (.ref w_Way_even) .none (.ref z_Way)))
    (cc_Way_even : PySem.W.recIn K w_Way_even "classmethod" = some (.ref f_Way_even :: rest_Way_even))
    (cf_Way_even : PySem.W.fnIn K f_Way_even = true)
    (l_Way_even : K.lookup f_Way_even = some ⟨oc_Way_even, od_Way_even, .func (PySem.W.fnOf "even" "Way.even" (defArgs s_Way_even) (defBody s_Way_even) (defScope s_Way_even) .none kV_Way_even dc_Way_even pm_Way_even an_Way_even cd_Way_even ct_Way_even), sl_Way_even⟩)
    (c_Way_even : PySem.W.codeIn K cd_Way_even "Way.even" = true)
    (k_Way_even : PySem.W.keepIn K (.ref f_Way_even) = true)
    (mk_Way : PySem.W.makesIn K z_Way = true)
    (kc_Way : PySem.W.keepIn K (.ref z_Way) = true)
    (a_check_post : PySem.W.nsIn K mainGlobals "check_post" = some (some (.ref f_check_post)))
    (l_check_post : K.lookup f_check_post = some ⟨oc_check_post, od_check_post, .func (PySem.W.fnOf "check_post" "check_post" (defArgs s_check_post) (defBody s_check_post) (defScope s_check_post) .none kV_check_post dc_check_post pm_check_post an_check_post cd_check_post ct_check_post), sl_check_post⟩)
    (c_check_post : PySem.W.codeIn K cd_check_post "check_post" = true)
    (k_check_post : PySem.W.keepIn K (.ref f_check_post) = true)
    (a_Way_with_post : PySem.W.findIn K (.ref z_Way) "with_post" = some (some (.ref f_Way_with_post)))
    (i_Way_with_post : PySem.W.isFn K (.ref f_Way_with_post) = true)
    (l_Way_with_post : K.lookup f_Way_with_post = some ⟨oc_Way_with_post, od_Way_with_post, .func (PySem.W.fnOf "with_post" "Way.with_post" (defArgs s_Way_with_post) (defBody s_Way_with_post) (defScope s_Way_with_post) .none kV_Way_with_post dc_Way_with_post pm_Way_with_post an_Way_with_post cd_Way_with_post ct_Way_with_post), sl_Way_with_post⟩)
    (c_Way_with_post : PySem.W.codeIn K cd_Way_with_post "Way.with_post" = true)
    (k_Way_with_post : PySem.W.keepIn K (.ref f_Way_with_post) = true)
    (a_law_way : PySem.W.nsIn K mainGlobals "_law_way" = some (some (.ref f_law_way)))
    (l_law_way : K.lookup f_law_way = some ⟨oc_law_way, od_law_way, .func (PySem.W.fnOf "_law_way" "_law_way" (defArgs s_law_way) (defBody s_law_way) (defScope s_law_way) .none kV_law_way dc_law_way pm_law_way an_law_way cd_law_way ct_law_way), sl_law_way⟩)
    (c_law_way : PySem.W.codeIn K cd_law_way "_law_way" = true)
    (k_law_way : PySem.W.keepIn K (.ref f_law_way) = true)
    (a_law_drawn : PySem.W.nsIn K mainGlobals "_law_drawn" = some (some (.ref f_law_drawn)))
    (l_law_drawn : K.lookup f_law_drawn = some ⟨oc_law_drawn, od_law_drawn, .func (PySem.W.fnOf "_law_drawn" "_law_drawn" (defArgs s_law_drawn) (defBody s_law_drawn) (defScope s_law_drawn) .none kV_law_drawn dc_law_drawn pm_law_drawn an_law_drawn cd_law_drawn ct_law_drawn), sl_law_drawn⟩)
    (c_law_drawn : PySem.W.codeIn K cd_law_drawn "_law_drawn" = true)
    (k_law_drawn : PySem.W.keepIn K (.ref f_law_drawn) = true)
    (a_law_number : PySem.W.nsIn K mainGlobals "_law_number" = some (some (.ref f_law_number)))
    (l_law_number : K.lookup f_law_number = some ⟨oc_law_number, od_law_number, .func (PySem.W.fnOf "_law_number" "_law_number" (defArgs s_law_number) (defBody s_law_number) (defScope s_law_number) .none kV_law_number dc_law_number pm_law_number an_law_number cd_law_number ct_law_number), sl_law_number⟩)
    (c_law_number : PySem.W.codeIn K cd_law_number "_law_number" = true)
    (k_law_number : PySem.W.keepIn K (.ref f_law_number) = true)
    (a_law_walked : PySem.W.nsIn K mainGlobals "_law_walked" = some (some (.ref f_law_walked)))
    (l_law_walked : K.lookup f_law_walked = some ⟨oc_law_walked, od_law_walked, .func (PySem.W.fnOf "_law_walked" "_law_walked" (defArgs s_law_walked) (defBody s_law_walked) (defScope s_law_walked) .none kV_law_walked dc_law_walked pm_law_walked an_law_walked cd_law_walked ct_law_walked), sl_law_walked⟩)
    (c_law_walked : PySem.W.codeIn K cd_law_walked "_law_walked" = true)
    (k_law_walked : PySem.W.keepIn K (.ref f_law_walked) = true)
    (a_check_byte : PySem.W.nsIn K mainGlobals "_check_byte" = some (some (.ref f_check_byte)))
    (l_check_byte : K.lookup f_check_byte = some ⟨oc_check_byte, od_check_byte, .func (PySem.W.fnOf "_check_byte" "_check_byte" (defArgs s_check_byte) (defBody s_check_byte) (defScope s_check_byte) .none kV_check_byte dc_check_byte pm_check_byte an_check_byte cd_check_byte ct_check_byte), sl_check_byte⟩)
    (c_check_byte : PySem.W.codeIn K cd_check_byte "_check_byte" = true)
    (k_check_byte : PySem.W.keepIn K (.ref f_check_byte) = true)
    (oex_DecodeError : OexC K z_DecodeError)
    (ini_DecodeError_init : PySem.W.findIn K (.ref z_DecodeError) "__init__" = some (some (.ref f_DecodeError_init)))
    (l_DecodeError_init : K.lookup f_DecodeError_init = some ⟨ot_DecodeError_init, od_DecodeError_init, .func (PySem.W.fnX "__init__" "DecodeError.__init__" (defArgs s_DecodeError_init) (defBody s_DecodeError_init) (defScope s_DecodeError_init) [("__class__", cc_DecodeError_init)] .none kV_DecodeError_init dc_DecodeError_init pm_DecodeError_init an_DecodeError_init (.ref cda_DecodeError_init) ct_DecodeError_init), sl_DecodeError_init⟩)
    (tyf_DecodeError_init : PySem.W.typeIn K (.ref f_DecodeError_init) = some (.type "function"))
    (c_DecodeError_init : PySem.W.codeIn K (.ref cda_DecodeError_init) "DecodeError.__init__" = true)
    (cdf_DecodeError_init : ∃ (oc : Obj) (vs : Array Value) (file : Str) (tf : Tok), K.lookup cda_DecodeError_init = some oc ∧ oc.data = .fields vs ∧ vs[2]? = some (.str file tf) ∧ ((l.prog.main.file : Str) == file) = true)
    (cell_DecodeError_init : ∃ oc : Obj, K.lookup cc_DecodeError_init = some oc ∧ oc.data = .cell (some (.ref z_DecodeError)))
    (mro_DecodeError : PySem.W.mroIn K z_DecodeError (.ref z_DecodeError) = some true)
    (ksi_DecodeError : PySem.W.ks_superIn K z_DecodeError z_DecodeError "__init__" = some (some (.builtin "ValueError.__init__")))
    (ev_DecodeError : PySem.W.subIn K (.ref z_DecodeError) (.type "ValueError") = some true)
    (xn_DecodeError_offset : PySem.W.findIn K (.ref z_DecodeError) "offset" = some none)
    (a_checksum : PySem.W.nsIn K mainGlobals "_checksum" = some (some (.ref f_checksum)))
    (l_checksum : K.lookup f_checksum = some ⟨oc_checksum, od_checksum, .func (PySem.W.fnOf "_checksum" "_checksum" (defArgs s_checksum) (defBody s_checksum) (defScope s_checksum) .none kV_checksum dc_checksum pm_checksum an_checksum cd_checksum ct_checksum), sl_checksum⟩)
    (c_checksum : PySem.W.codeIn K cd_checksum "_checksum" = true)
    (k_checksum : PySem.W.keepIn K (.ref f_checksum) = true)
    (a_number_at : PySem.W.nsIn K mainGlobals "_number_at" = some (some (.ref f_number_at)))
    (l_number_at : K.lookup f_number_at = some ⟨oc_number_at, od_number_at, .func (PySem.W.fnOf "_number_at" "_number_at" (defArgs s_number_at) (defBody s_number_at) (defScope s_number_at) .none kV_number_at dc_number_at pm_number_at an_number_at cd_number_at ct_number_at), sl_number_at⟩)
    (c_number_at : PySem.W.codeIn K cd_number_at "_number_at" = true)
    (k_number_at : PySem.W.keepIn K (.ref f_number_at) = true)
    (a_decode_way : PySem.W.nsIn K mainGlobals "decode_way" = some (some (.ref f_decode_way)))
    (l_decode_way : K.lookup f_decode_way = some ⟨oc_decode_way, od_decode_way, .func (PySem.W.fnOf "decode_way" "decode_way" (defArgs s_decode_way) (defBody s_decode_way) (defScope s_decode_way) .none kV_decode_way dc_decode_way pm_decode_way an_decode_way cd_decode_way ct_decode_way), sl_decode_way⟩)
    (c_decode_way : PySem.W.codeIn K cd_decode_way "decode_way" = true)
    (k_decode_way : PySem.W.keepIn K (.ref f_decode_way) = true)
    (a_number_bytes : PySem.W.nsIn K mainGlobals "_number_bytes" = some (some (.ref f_number_bytes)))
    (l_number_bytes : K.lookup f_number_bytes = some ⟨oc_number_bytes, od_number_bytes, .func (PySem.W.fnOf "_number_bytes" "_number_bytes" (defArgs s_number_bytes) (defBody s_number_bytes) (defScope s_number_bytes) .none kV_number_bytes dc_number_bytes pm_number_bytes an_number_bytes cd_number_bytes ct_number_bytes), sl_number_bytes⟩)
    (c_number_bytes : PySem.W.codeIn K cd_number_bytes "_number_bytes" = true)
    (k_number_bytes : PySem.W.keepIn K (.ref f_number_bytes) = true)
    (a_Way_len : PySem.W.findIn K (.ref z_Way) "__len__" = some (some (.ref f_Way_len)))
    (i_Way_len : PySem.W.isFn K (.ref f_Way_len) = true)
    (l_Way_len : K.lookup f_Way_len = some ⟨oc_Way_len, od_Way_len, .func (PySem.W.fnOf "__len__" "Way.__len__" (defArgs s_Way_len) (defBody s_Way_len) (defScope s_Way_len) .none kV_Way_len dc_Way_len pm_Way_len an_Way_len cd_Way_len ct_Way_len), sl_Way_len⟩)
    (c_Way_len : PySem.W.codeIn K cd_Way_len "Way.__len__" = true)
    (k_Way_len : PySem.W.keepIn K (.ref f_Way_len) = true)
    (pa_Way_capacity : PySem.W.findIn K (.ref z_Way) "capacity" = some (some (.ref w_Way_capacity)))
    (pg_Way_capacity : PySem.W.specialIn K (.ref w_Way_capacity) "__get__" = some (some (.builtin "property.__get__")))
    (pt_Way_capacity : PySem.W.takesIn K (.ref w_Way_capacity) = some true)
    (pr_Way_capacity : PySem.W.recIn K w_Way_capacity "property" = some (.ref f_Way_capacity :: rest_Way_capacity))
    (l_Way_capacity : K.lookup f_Way_capacity = some ⟨oc_Way_capacity, od_Way_capacity, .func (PySem.W.fnOf "capacity" "Way.capacity" (defArgs s_Way_capacity) (defBody s_Way_capacity) (defScope s_Way_capacity) .none kV_Way_capacity dc_Way_capacity pm_Way_capacity an_Way_capacity cd_Way_capacity ct_Way_capacity), sl_Way_capacity⟩)
    (c_Way_capacity : PySem.W.codeIn K cd_Way_capacity "Way.capacity" = true)
    (k_Way_capacity : PySem.W.keepIn K (.ref f_Way_capacity) = true)
    (pa_Way_posts : PySem.W.findIn K (.ref z_Way) "posts" = some (some (.ref w_Way_posts)))
    (pg_Way_posts : PySem.W.specialIn K (.ref w_Way_posts) "__get__" = some (some (.builtin "property.__get__")))
    (pt_Way_posts : PySem.W.takesIn K (.ref w_Way_posts) = some true)
    (pr_Way_posts : PySem.W.recIn K w_Way_posts "property" = some (.ref f_Way_posts :: rest_Way_posts))
    (l_Way_posts : K.lookup f_Way_posts = some ⟨oc_Way_posts, od_Way_posts, .func (PySem.W.fnOf "posts" "Way.posts" (defArgs s_Way_posts) (defBody s_Way_posts) (defScope s_Way_posts) .none kV_Way_posts dc_Way_posts pm_Way_posts an_Way_posts cd_Way_posts ct_Way_posts), sl_Way_posts⟩)
    (c_Way_posts : PySem.W.codeIn K cd_Way_posts "Way.posts" = true)
    (k_Way_posts : PySem.W.keepIn K (.ref f_Way_posts) = true)
    (a_encode_way : PySem.W.nsIn K mainGlobals "encode_way" = some (some (.ref f_encode_way)))
    (l_encode_way : K.lookup f_encode_way = some ⟨oc_encode_way, od_encode_way, .func (PySem.W.fnOf "encode_way" "encode_way" (defArgs s_encode_way) (defBody s_encode_way) (defScope s_encode_way) .none kV_encode_way dc_encode_way pm_encode_way an_encode_way cd_encode_way ct_encode_way), sl_encode_way⟩)
    (c_encode_way : PySem.W.codeIn K cd_encode_way "encode_way" = true)
    (k_encode_way : PySem.W.keepIn K (.ref f_encode_way) = true)
    (a_format_way : PySem.W.nsIn K mainGlobals "format_way" = some (some (.ref f_format_way)))
    (l_format_way : K.lookup f_format_way = some ⟨oc_format_way, od_format_way, .func (PySem.W.fnOf "format_way" "format_way" (defArgs s_format_way) (defBody s_format_way) (defScope s_format_way) .none kV_format_way dc_format_way pm_format_way an_format_way cd_format_way ct_format_way), sl_format_way⟩)
    (c_format_way : PySem.W.codeIn K cd_format_way "format_way" = true)
    (k_format_way : PySem.W.keepIn K (.ref f_format_way) = true)
    (a_log_line : PySem.W.nsIn K mainGlobals "_log_line" = some (some (.ref f_log_line)))
    (l_log_line : K.lookup f_log_line = some ⟨oc_log_line, od_log_line, .func (PySem.W.fnOf "_log_line" "_log_line" (defArgs s_log_line) (defBody s_log_line) (defScope s_log_line) .none kV_log_line dc_log_line pm_log_line an_log_line cd_log_line ct_log_line), sl_log_line⟩)
    (c_log_line : PySem.W.codeIn K cd_log_line "_log_line" = true)
    (k_log_line : PySem.W.keepIn K (.ref f_log_line) = true)
    (a_Way_getitem : PySem.W.findIn K (.ref z_Way) "__getitem__" = some (some (.ref f_Way_getitem)))
    (i_Way_getitem : PySem.W.isFn K (.ref f_Way_getitem) = true)
    (l_Way_getitem : K.lookup f_Way_getitem = some ⟨oc_Way_getitem, od_Way_getitem, .func (PySem.W.fnOf "__getitem__" "Way.__getitem__" (defArgs s_Way_getitem) (defBody s_Way_getitem) (defScope s_Way_getitem) .none kV_Way_getitem dc_Way_getitem pm_Way_getitem an_Way_getitem cd_Way_getitem ct_Way_getitem), sl_Way_getitem⟩)
    (c_Way_getitem : PySem.W.codeIn K cd_Way_getitem "Way.__getitem__" = true)
    (k_Way_getitem : PySem.W.keepIn K (.ref f_Way_getitem) = true)
    (a_taken : PySem.W.nsIn K mainGlobals "taken" = some (some (.ref f_taken)))
    (l_taken : K.lookup f_taken = some ⟨oc_taken, od_taken, .func (PySem.W.fnOf "taken" "taken" (defArgs s_taken) (defBody s_taken) (defScope s_taken) .none kV_taken dc_taken pm_taken an_taken cd_taken ct_taken), sl_taken⟩)
    (c_taken : PySem.W.codeIn K cd_taken "taken" = true)
    (k_taken : PySem.W.keepIn K (.ref f_taken) = true)
    (fn_Way_getitem : PySem.W.fnIn K f_Way_getitem = true)
    (a_after_leg : PySem.W.nsIn K mainGlobals "after_leg" = some (some (.ref f_after_leg)))
    (l_after_leg : K.lookup f_after_leg = some ⟨oc_after_leg, od_after_leg, .func (PySem.W.fnOf "after_leg" "after_leg" (defArgs s_after_leg) (defBody s_after_leg) (defScope s_after_leg) .none kV_after_leg dc_after_leg pm_after_leg an_after_leg cd_after_leg ct_after_leg), sl_after_leg⟩)
    (c_after_leg : PySem.W.codeIn K cd_after_leg "after_leg" = true)
    (k_after_leg : PySem.W.keepIn K (.ref f_after_leg) = true)
    (a_check_start : PySem.W.nsIn K mainGlobals "check_start" = some (some (.ref f_check_start)))
    (l_check_start : K.lookup f_check_start = some ⟨oc_check_start, od_check_start, .func (PySem.W.fnOf "check_start" "check_start" (defArgs s_check_start) (defBody s_check_start) (defScope s_check_start) .none kV_check_start dc_check_start pm_check_start an_check_start cd_check_start ct_check_start), sl_check_start⟩)
    (c_check_start : PySem.W.codeIn K cd_check_start "check_start" = true)
    (k_check_start : PySem.W.keepIn K (.ref f_check_start) = true)
    (a_log_text : PySem.W.nsIn K mainGlobals "log_text" = some (some (.ref f_log_text)))
    (l_log_text : K.lookup f_log_text = some ⟨oc_log_text, od_log_text, .func (PySem.W.fnOf "log_text" "log_text" (defArgs s_log_text) (defBody s_log_text) (defScope s_log_text) .none kV_log_text dc_log_text pm_log_text an_log_text cd_log_text ct_log_text), sl_log_text⟩)
    (c_log_text : PySem.W.codeIn K cd_log_text "log_text" = true)
    (k_log_text : PySem.W.keepIn K (.ref f_log_text) = true)
    (a_is_number_word : PySem.W.nsIn K mainGlobals "_is_number_word" = some (some (.ref f_is_number_word)))
    (l_is_number_word : K.lookup f_is_number_word = some ⟨oc_is_number_word, od_is_number_word, .func (PySem.W.fnOf "_is_number_word" "_is_number_word" (defArgs s_is_number_word) (defBody s_is_number_word) (defScope s_is_number_word) .none kV_is_number_word dc_is_number_word pm_is_number_word an_is_number_word cd_is_number_word ct_is_number_word), sl_is_number_word⟩)
    (c_is_number_word : PySem.W.codeIn K cd_is_number_word "_is_number_word" = true)
    (k_is_number_word : PySem.W.keepIn K (.ref f_is_number_word) = true)
    (a_numbers : PySem.W.nsIn K mainGlobals "_numbers" = some (some (.ref f_numbers)))
    (l_numbers : K.lookup f_numbers = some ⟨oc_numbers, od_numbers, .func (PySem.W.fnOf "_numbers" "_numbers" (defArgs s_numbers) (defBody s_numbers) (defScope s_numbers) .none kV_numbers dc_numbers pm_numbers an_numbers cd_numbers ct_numbers), sl_numbers⟩)
    (c_numbers : PySem.W.codeIn K cd_numbers "_numbers" = true)
    (k_numbers : PySem.W.keepIn K (.ref f_numbers) = true)
    (oex_NotationError : OexC K z_NotationError)
    (ini_NotationError_init : PySem.W.findIn K (.ref z_NotationError) "__init__" = some (some (.ref f_NotationError_init)))
    (l_NotationError_init : K.lookup f_NotationError_init = some ⟨ot_NotationError_init, od_NotationError_init, .func (PySem.W.fnX "__init__" "NotationError.__init__" (defArgs s_NotationError_init) (defBody s_NotationError_init) (defScope s_NotationError_init) [("__class__", cc_NotationError_init)] .none kV_NotationError_init dc_NotationError_init pm_NotationError_init an_NotationError_init (.ref cda_NotationError_init) ct_NotationError_init), sl_NotationError_init⟩)
    (tyf_NotationError_init : PySem.W.typeIn K (.ref f_NotationError_init) = some (.type "function"))
    (c_NotationError_init : PySem.W.codeIn K (.ref cda_NotationError_init) "NotationError.__init__" = true)
    (cdf_NotationError_init : ∃ (oc : Obj) (vs : Array Value) (file : Str) (tf : Tok), K.lookup cda_NotationError_init = some oc ∧ oc.data = .fields vs ∧ vs[2]? = some (.str file tf) ∧ ((l.prog.main.file : Str) == file) = true)
    (cell_NotationError_init : ∃ oc : Obj, K.lookup cc_NotationError_init = some oc ∧ oc.data = .cell (some (.ref z_NotationError)))
    (mro_NotationError : PySem.W.mroIn K z_NotationError (.ref z_NotationError) = some true)
    (ksi_NotationError : PySem.W.ks_superIn K z_NotationError z_NotationError "__init__" = some (some (.builtin "ValueError.__init__")))
    (ev_NotationError : PySem.W.subIn K (.ref z_NotationError) (.type "ValueError") = some true)
    (xn_NotationError_row : PySem.W.findIn K (.ref z_NotationError) "row" = some none)
    (xn_NotationError_word : PySem.W.findIn K (.ref z_NotationError) "word" = some none)
    (a_parse_way : PySem.W.nsIn K mainGlobals "parse_way" = some (some (.ref f_parse_way)))
    (l_parse_way : K.lookup f_parse_way = some ⟨oc_parse_way, od_parse_way, .func (PySem.W.fnOf "parse_way" "parse_way" (defArgs s_parse_way) (defBody s_parse_way) (defScope s_parse_way) .none kV_parse_way dc_parse_way pm_parse_way an_parse_way cd_parse_way ct_parse_way), sl_parse_way⟩)
    (c_parse_way : PySem.W.codeIn K cd_parse_way "parse_way" = true)
    (k_parse_way : PySem.W.keepIn K (.ref f_parse_way) = true)
    (a_Way_eq : PySem.W.findIn K (.ref z_Way) "__eq__" = some (some (.ref f_Way_eq)))
    (i_Way_eq : PySem.W.isFn K (.ref f_Way_eq) = true)
    (l_Way_eq : K.lookup f_Way_eq = some ⟨oc_Way_eq, od_Way_eq, .func (PySem.W.fnOf "__eq__" "Way.__eq__" (defArgs s_Way_eq) (defBody s_Way_eq) (defScope s_Way_eq) .none kV_Way_eq dc_Way_eq pm_Way_eq an_Way_eq cd_Way_eq ct_Way_eq), sl_Way_eq⟩)
    (c_Way_eq : PySem.W.codeIn K cd_Way_eq "Way.__eq__" = true)
    (k_Way_eq : PySem.W.keepIn K (.ref f_Way_eq) = true)
    (a_law : PySem.W.nsIn K mainGlobals "law" = some (some (.ref f_law)))
    (l_law : K.lookup f_law = some ⟨oc_law, od_law, .func (PySem.W.fnOf "law" "law" (defArgs s_law) (defBody s_law) (defScope s_law) .none kV_law dc_law pm_law an_law cd_law ct_law), sl_law⟩)
    (c_law : PySem.W.codeIn K cd_law "law" = true)
    (k_law : PySem.W.keepIn K (.ref f_law) = true)
    : LamX.LawAtS l w K (L2.CX l.prog w) 10 63 "_law_script" mg fa h := by
  have SUP_InvalidWay : SupF l.prog K mg z_InvalidWay f_InvalidWay_init cc_InvalidWay_init cda_InvalidWay_init "self" := ⟨⟨_, _, _, l_InvalidWay_init, rfl, rfl, rfl⟩, cdf_InvalidWay_init, topsup, cell_InvalidWay_init, PySem.W.mg_none_of KX G n_super, rfl, oex_InvalidWay, tpany, mro_InvalidWay, ksi_InvalidWay, ev_InvalidWay⟩
  have SUP_DecodeError : SupF l.prog K mg z_DecodeError f_DecodeError_init cc_DecodeError_init cda_DecodeError_init "self" := ⟨⟨_, _, _, l_DecodeError_init, rfl, rfl, rfl⟩, cdf_DecodeError_init, topsup, cell_DecodeError_init, PySem.W.mg_none_of KX G n_super, rfl, oex_DecodeError, tpany, mro_DecodeError, ksi_DecodeError, ev_DecodeError⟩
  have SUP_NotationError : SupF l.prog K mg z_NotationError f_NotationError_init cc_NotationError_init cda_NotationError_init "self" := ⟨⟨_, _, _, l_NotationError_init, rfl, rfl, rfl⟩, cdf_NotationError_init, topsup, cell_NotationError_init, PySem.W.mg_none_of KX G n_super, rfl, oex_NotationError, tpany, mro_NotationError, ksi_NotationError, ev_NotationError⟩
  have T : Txt K mg (⟨Zl [z_WalkError, z_InvalidWay, z_UnknownPost, z_InvalidNumber, 0, 0, 0, 0, 0, z_NotationError, 0, z_DecodeError, 0, z_Way], []⟩ : ZG) := ⟨PySem.W.mg_of KX G a_DecodeError,
    PySem.W.mg_of KX G a_InvalidNumber,
    PySem.W.mg_of KX G a_InvalidWay,
    PySem.W.mg_of KX G a_NotationError,
    PySem.W.mg_of KX G a_UnknownPost,
    PySem.W.mg_of KX G a_Way,
    ⟨_, PySem.W.mg_of KX G a_FIRST_CHECKSUM⟩,
    ⟨_, PySem.W.mg_of KX G a_HEAD_SIZE⟩,
    ⟨_, PySem.W.mg_of KX G a_MARK⟩,
    ⟨_, PySem.W.mg_of KX G a_MOST_DIGITS⟩,
    ⟨_, PySem.W.mg_of KX G a_MOST_LEGS_IN_A_LOG⟩,
    ⟨_, PySem.W.mg_of KX G a_MOST_POSTS⟩,
    ⟨_, PySem.W.mg_of KX G a_MOST_UNITS⟩,
    ⟨_, PySem.W.mg_of KX G a_NUMBER_SIZE⟩,
    PySem.W.mg_none_of KX G n_bool,
    PySem.W.mg_none_of KX G n_bytes,
    PySem.W.mg_none_of KX G n_enumerate,
    PySem.W.mg_none_of KX G n_int,
    PySem.W.mg_none_of KX G n_isinstance,
    PySem.W.mg_none_of KX G n_len,
    PySem.W.mg_none_of KX G n_list,
    PySem.W.mg_none_of KX G n_min,
    PySem.W.mg_none_of KX G n_range,
    PySem.W.mg_none_of KX G n_str,
    PySem.W.mg_none_of KX G n_sum,
    PySem.W.mg_none_of KX G n_tuple,
    ⟨⟨pgc_Way, hdc_Way, poc_Way, sac_Way⟩, hac_Way, hn_oc, ht_oc, hmc_Way⟩,
    notc_mk (kit_ref rfl ic_Way ty_Way nc_Way_NoneType) (kit_ref rfl ic_Way ty_Way nc_Way_bool) (kit_ref rfl ic_Way ty_Way nc_Way_int) (kit_ref rfl ic_Way ty_Way nc_Way_str) (kit_ref rfl ic_Way ty_Way nc_Way_tuple) (kit_ref rfl ic_Way ty_Way nc_Way_list),
    nf_mk nf_Way_NoneType nf_Way_bool nf_Way_int nf_Way_str nf_Way_tuple nf_Way_list,
    x_na_Way__capacity,
    x_na_Way__posts,
    x_x_InvalidNumber,
    x_k_InvalidNumber,
    x_b_InvalidNumber,
    x_t_InvalidNumber,
    x_x_UnknownPost,
    x_k_UnknownPost,
    x_b_UnknownPost,
    x_t_UnknownPost⟩
  have F_law_taken := fun_mk (st := s_law_taken) l_law_taken c_law_taken k_law_taken
  have R_law_taken : ∀ base : Heap, K.In base → base.Ns mainGlobals mg → FnR l.prog w K mg base (L2.CX l.prog w) 2 f_law_taken (SpD (⟨Zl [z_WalkError, z_InvalidWay, z_UnknownPost, z_InvalidNumber, 0, 0, 0, 0, 0, z_NotationError, 0, z_DecodeError, 0, z_Way], []⟩ : ZG) K S_next) := fun base Kb Nb => ok_law_taken F_law_taken T
  have F_law_capacity := fun_mk (st := s_law_capacity) l_law_capacity c_law_capacity k_law_capacity
  have G_law_taken__law_capacity : ∀ base : Heap, K.In base → base.Ns mainGlobals mg → Cal l.prog w K mg base 2 "_law_taken" (SpD (⟨Zl [z_WalkError, z_InvalidWay, z_UnknownPost, z_InvalidNumber, 0, 0, 0, 0, 0, z_NotationError, 0, z_DecodeError, 0, z_Way], []⟩ : ZG) K S_next) := fun base Kb Nb => ⟨f_law_taken, PySem.W.mg_of KX G a_law_taken, k_law_taken, (R_law_taken base Kb Nb)⟩
  have R_law_capacity : ∀ base : Heap, K.In base → base.Ns mainGlobals mg → FnR l.prog w K mg base (L2.CX l.prog w) 3 f_law_capacity (SpD (⟨Zl [z_WalkError, z_InvalidWay, z_UnknownPost, z_InvalidNumber, 0, 0, 0, 0, 0, z_NotationError, 0, z_DecodeError, 0, z_Way], []⟩ : ZG) K S_law_capacity) := fun base Kb Nb => ok_law_capacity F_law_capacity T (G_law_taken__law_capacity base Kb Nb)
  have F_law_posts := fun_mk (st := s_law_posts) l_law_posts c_law_posts k_law_posts
  have G_law_taken__law_posts : ∀ base : Heap, K.In base → base.Ns mainGlobals mg → Cal l.prog w K mg base 2 "_law_taken" (SpD (⟨Zl [z_WalkError, z_InvalidWay, z_UnknownPost, z_InvalidNumber, 0, 0, 0, 0, 0, z_NotationError, 0, z_DecodeError, 0, z_Way], []⟩ : ZG) K S_next) := fun base Kb Nb => ⟨f_law_taken, PySem.W.mg_of KX G a_law_taken, k_law_taken, (R_law_taken base Kb Nb)⟩
  have R_law_posts : ∀ base : Heap, K.In base → base.Ns mainGlobals mg → FnR l.prog w K mg base (L2.CX l.prog w) 3 f_law_posts (SpD (⟨Zl [z_WalkError, z_InvalidWay, z_UnknownPost, z_InvalidNumber, 0, 0, 0, 0, 0, z_NotationError, 0, z_DecodeError, 0, z_Way], []⟩ : ZG) K S_law_posts) := fun base Kb Nb => ok_law_posts F_law_posts T (G_law_taken__law_posts base Kb Nb)
  have F_is_number := fun_mk (st := s_is_number) l_is_number c_is_number k_is_number
  have R_is_number : ∀ base : Heap, K.In base → base.Ns mainGlobals mg → FnR l.prog w K mg base (L2.CX l.prog w) 1 f_is_number (SpD (⟨Zl [z_WalkError, z_InvalidWay, z_UnknownPost, z_InvalidNumber, 0, 0, 0, 0, 0, z_NotationError, 0, z_DecodeError, 0, z_Way], []⟩ : ZG) K S_is_number) := fun base Kb Nb => ok_is_number F_is_number T
  have F_is_number_within := fun_mk (st := s_is_number_within) l_is_number_within c_is_number_within k_is_number_within
  have G_is_number__is_number_within : ∀ base : Heap, K.In base → base.Ns mainGlobals mg → Cal l.prog w K mg base 1 "is_number" (SpD (⟨Zl [z_WalkError, z_InvalidWay, z_UnknownPost, z_InvalidNumber, 0, 0, 0, 0, 0, z_NotationError, 0, z_DecodeError, 0, z_Way], []⟩ : ZG) K S_is_number) := fun base Kb Nb => ⟨f_is_number, PySem.W.mg_of KX G a_is_number, k_is_number, (R_is_number base Kb Nb)⟩
  have R_is_number_within : ∀ base : Heap, K.In base → base.Ns mainGlobals mg → FnR l.prog w K mg base (L2.CX l.prog w) 2 f_is_number_within (SpD (⟨Zl [z_WalkError, z_InvalidWay, z_UnknownPost, z_InvalidNumber, 0, 0, 0, 0, 0, z_NotationError, 0, z_DecodeError, 0, z_Way], []⟩ : ZG) K S_is_number_within) := fun base Kb Nb => ok_is_number_within F_is_number_within T (G_is_number__is_number_within base Kb Nb)
  have F_check_number_within := fun_mk (st := s_check_number_within) l_check_number_within c_check_number_within k_check_number_within
  have G_is_number_within__check_number_within : ∀ base : Heap, K.In base → base.Ns mainGlobals mg → Cal l.prog w K mg base 2 "is_number_within" (SpD (⟨Zl [z_WalkError, z_InvalidWay, z_UnknownPost, z_InvalidNumber, 0, 0, 0, 0, 0, z_NotationError, 0, z_DecodeError, 0, z_Way], []⟩ : ZG) K S_is_number_within) := fun base Kb Nb => ⟨f_is_number_within, PySem.W.mg_of KX G a_is_number_within, k_is_number_within, (R_is_number_within base Kb Nb)⟩
  have R_check_number_within : ∀ base : Heap, K.In base → base.Ns mainGlobals mg → FnR l.prog w K mg base (L2.CX l.prog w) 3 f_check_number_within (SpD (⟨Zl [z_WalkError, z_InvalidWay, z_UnknownPost, z_InvalidNumber, 0, 0, 0, 0, 0, z_NotationError, 0, z_DecodeError, 0, z_Way], []⟩ : ZG) K S_check_number_within) := fun base Kb Nb => ok_check_number_within F_check_number_within T (G_is_number_within__check_number_within base Kb Nb)
  have F_is_post := fun_mk (st := s_is_post) l_is_post c_is_post k_is_post
  have G_is_number_within__is_post : ∀ base : Heap, K.In base → base.Ns mainGlobals mg → Cal l.prog w K mg base 2 "is_number_within" (SpD (⟨Zl [z_WalkError, z_InvalidWay, z_UnknownPost, z_InvalidNumber, 0, 0, 0, 0, 0, z_NotationError, 0, z_DecodeError, 0, z_Way], []⟩ : ZG) K S_is_number_within) := fun base Kb Nb => ⟨f_is_number_within, PySem.W.mg_of KX G a_is_number_within, k_is_number_within, (R_is_number_within base Kb Nb)⟩
  have R_is_post : ∀ base : Heap, K.In base → base.Ns mainGlobals mg → FnR l.prog w K mg base (L2.CX l.prog w) 3 f_is_post (SpD (⟨Zl [z_WalkError, z_InvalidWay, z_UnknownPost, z_InvalidNumber, 0, 0, 0, 0, 0, z_NotationError, 0, z_DecodeError, 0, z_Way], []⟩ : ZG) K S_is_post) := fun base Kb Nb => ok_is_post F_is_post T (G_is_number_within__is_post base Kb Nb)
  have F_first_wrong := fun_mk (st := s_first_wrong) l_first_wrong c_first_wrong k_first_wrong
  have G_is_post__first_wrong : ∀ base : Heap, K.In base → base.Ns mainGlobals mg → Cal l.prog w K mg base 3 "_is_post" (SpD (⟨Zl [z_WalkError, z_InvalidWay, z_UnknownPost, z_InvalidNumber, 0, 0, 0, 0, 0, z_NotationError, 0, z_DecodeError, 0, z_Way], []⟩ : ZG) K S_is_post) := fun base Kb Nb => ⟨f_is_post, PySem.W.mg_of KX G a_is_post, k_is_post, (R_is_post base Kb Nb)⟩
  have R_first_wrong : ∀ base : Heap, K.In base → base.Ns mainGlobals mg → FnR l.prog w K mg base (L2.CX l.prog w) 4 f_first_wrong (SpD (⟨Zl [z_WalkError, z_InvalidWay, z_UnknownPost, z_InvalidNumber, 0, 0, 0, 0, 0, z_NotationError, 0, z_DecodeError, 0, z_Way], []⟩ : ZG) K S_first_wrong) := fun base Kb Nb => ok_first_wrong F_first_wrong T (G_is_post__first_wrong base Kb Nb)
  have F_Way_init := fun_mk (st := s_Way_init) l_Way_init c_Way_init k_Way_init
  have G_first_wrong__Way_init : ∀ base : Heap, K.In base → base.Ns mainGlobals mg → Cal l.prog w K mg base 4 "_first_wrong" (SpD (⟨Zl [z_WalkError, z_InvalidWay, z_UnknownPost, z_InvalidNumber, 0, 0, 0, 0, 0, z_NotationError, 0, z_DecodeError, 0, z_Way], []⟩ : ZG) K S_first_wrong) := fun base Kb Nb => ⟨f_first_wrong, PySem.W.mg_of KX G a_first_wrong, k_first_wrong, (R_first_wrong base Kb Nb)⟩
  have G_is_number_within__Way_init : ∀ base : Heap, K.In base → base.Ns mainGlobals mg → Cal l.prog w K mg base 2 "is_number_within" (SpD (⟨Zl [z_WalkError, z_InvalidWay, z_UnknownPost, z_InvalidNumber, 0, 0, 0, 0, 0, z_NotationError, 0, z_DecodeError, 0, z_Way], []⟩ : ZG) K S_is_number_within) := fun base Kb Nb => ⟨f_is_number_within, PySem.W.mg_of KX G a_is_number_within, k_is_number_within, (R_is_number_within base Kb Nb)⟩
  have X_InvalidWay__Way_init : ∀ base : Heap, K.In base → base.Ns mainGlobals mg → Exo l.prog w K mg base 2 "InvalidWay" z_InvalidWay (SpX z_InvalidWay ["part", "index"]) := fun base Kb Nb => ⟨PySem.W.mg_of KX G a_InvalidWay, f_InvalidWay_init, _, ["self", "part", "index"], oex_InvalidWay, ini_InvalidWay_init, tyf_InvalidWay_init, ok_InvalidWay_init l_InvalidWay_init c_InvalidWay_init SUP_InvalidWay xn_InvalidWay_part xn_InvalidWay_index, .all (fun us hl => match us, hl with | [_, _, _], _ => rfl)⟩
  have R_Way_init : ∀ base : Heap, K.In base → base.Ns mainGlobals mg → FnR l.prog w K mg base (L2.CX l.prog w) 5 f_Way_init (SpI (⟨Zl [z_WalkError, z_InvalidWay, z_UnknownPost, z_InvalidNumber, 0, 0, 0, 0, 0, z_NotationError, 0, z_DecodeError, 0, z_Way], []⟩ : ZG) K 13 S_Way_init) := fun base Kb Nb => ok_Way_init F_Way_init T (G_first_wrong__Way_init base Kb Nb) (G_is_number_within__Way_init base Kb Nb) (X_InvalidWay__Way_init base Kb Nb)
  have F_Way_even := fun_mk (st := s_Way_even) l_Way_even c_Way_even k_Way_even
  have G_check_number_within__Way_even : ∀ base : Heap, K.In base → base.Ns mainGlobals mg → Cal l.prog w K mg base 3 "check_number_within" (SpD (⟨Zl [z_WalkError, z_InvalidWay, z_UnknownPost, z_InvalidNumber, 0, 0, 0, 0, 0, z_NotationError, 0, z_DecodeError, 0, z_Way], []⟩ : ZG) K S_check_number_within) := fun base Kb Nb => ⟨f_check_number_within, PySem.W.mg_of KX G a_check_number_within, k_check_number_within, (R_check_number_within base Kb Nb)⟩
  have M_Way__Way_even : ∀ base : Heap, K.In base → base.Ns mainGlobals mg → Mak l.prog w K mg base 5 "Way" z_Way (SpI (⟨Zl [z_WalkError, z_InvalidWay, z_UnknownPost, z_InvalidNumber, 0, 0, 0, 0, 0, z_NotationError, 0, z_DecodeError, 0, z_Way], []⟩ : ZG) K 13 S_Way_init) := fun base Kb Nb => ⟨PySem.W.mg_of KX G a_Way, f_Way_init, ⟨mk_Way, a_Way_init, i_Way_init, kc_Way⟩, (R_Way_init base Kb Nb)⟩
  have R_Way_even : ∀ base : Heap, K.In base → base.Ns mainGlobals mg → FnR l.prog w K mg base (L2.CX l.prog w) 7 f_Way_even (SpD (⟨Zl [z_WalkError, z_InvalidWay, z_UnknownPost, z_InvalidNumber, 0, 0, 0, 0, 0, z_NotationError, 0, z_DecodeError, 0, z_Way], []⟩ : ZG) K S_Way_even) := fun base Kb Nb => ok_Way_even F_Way_even T (G_check_number_within__Way_even base Kb Nb) (M_Way__Way_even base Kb Nb)
  have F_check_post := fun_mk (st := s_check_post) l_check_post c_check_post k_check_post
  have G_is_number_within__check_post : ∀ base : Heap, K.In base → base.Ns mainGlobals mg → Cal l.prog w K mg base 2 "is_number_within" (SpD (⟨Zl [z_WalkError, z_InvalidWay, z_UnknownPost, z_InvalidNumber, 0, 0, 0, 0, 0, z_NotationError, 0, z_DecodeError, 0, z_Way], []⟩ : ZG) K S_is_number_within) := fun base Kb Nb => ⟨f_is_number_within, PySem.W.mg_of KX G a_is_number_within, k_is_number_within, (R_is_number_within base Kb Nb)⟩
  have R_check_post : ∀ base : Heap, K.In base → base.Ns mainGlobals mg → FnR l.prog w K mg base (L2.CX l.prog w) 3 f_check_post (SpD (⟨Zl [z_WalkError, z_InvalidWay, z_UnknownPost, z_InvalidNumber, 0, 0, 0, 0, 0, z_NotationError, 0, z_DecodeError, 0, z_Way], []⟩ : ZG) K S_check_post) := fun base Kb Nb => ok_check_post F_check_post T (G_is_number_within__check_post base Kb Nb)
  have F_Way_with_post := fun_mk (st := s_Way_with_post) l_Way_with_post c_Way_with_post k_Way_with_post
  have G_check_post__Way_with_post : ∀ base : Heap, K.In base → base.Ns mainGlobals mg → Cal l.prog w K mg base 3 "check_post" (SpD (⟨Zl [z_WalkError, z_InvalidWay, z_UnknownPost, z_InvalidNumber, 0, 0, 0, 0, 0, z_NotationError, 0, z_DecodeError, 0, z_Way], []⟩ : ZG) K S_check_post) := fun base Kb Nb => ⟨f_check_post, PySem.W.mg_of KX G a_check_post, k_check_post, (R_check_post base Kb Nb)⟩
  have M_Way__Way_with_post : ∀ base : Heap, K.In base → base.Ns mainGlobals mg → Mak l.prog w K mg base 5 "Way" z_Way (SpI (⟨Zl [z_WalkError, z_InvalidWay, z_UnknownPost, z_InvalidNumber, 0, 0, 0, 0, 0, z_NotationError, 0, z_DecodeError, 0, z_Way], []⟩ : ZG) K 13 S_Way_init) := fun base Kb Nb => ⟨PySem.W.mg_of KX G a_Way, f_Way_init, ⟨mk_Way, a_Way_init, i_Way_init, kc_Way⟩, (R_Way_init base Kb Nb)⟩
  have R_Way_with_post : ∀ base : Heap, K.In base → base.Ns mainGlobals mg → FnR l.prog w K mg base (L2.CX l.prog w) 7 f_Way_with_post (SpD (⟨Zl [z_WalkError, z_InvalidWay, z_UnknownPost, z_InvalidNumber, 0, 0, 0, 0, 0, z_NotationError, 0, z_DecodeError, 0, z_Way], []⟩ : ZG) K S_Way_with_post) := fun base Kb Nb => ok_Way_with_post F_Way_with_post T (G_check_post__Way_with_post base Kb Nb) (M_Way__Way_with_post base Kb Nb)
  have F_law_way := fun_mk (st := s_law_way) l_law_way c_law_way k_law_way
  have K_Way_even__law_way : ∀ base : Heap, K.In base → base.Ns mainGlobals mg → Cmt l.prog w K mg base 7 z_Way "even" (SpD (⟨Zl [z_WalkError, z_InvalidWay, z_UnknownPost, z_InvalidNumber, 0, 0, 0, 0, 0, z_NotationError, 0, z_DecodeError, 0, z_Way], []⟩ : ZG) K S_Way_even) := fun base Kb Nb => ⟨_, w_Way_even, f_Way_even, ⟨cr_Way, cg_Way⟩, ⟨ca_Way_even, ⟨_, cc_Way_even⟩, cf_Way_even⟩, (R_Way_even base Kb Nb)⟩
  have D_Way_with_post__law_way : ∀ base : Heap, K.In base → base.Ns mainGlobals mg → Met l.prog w K mg base 7 z_Way "with_post" (SpD (⟨Zl [z_WalkError, z_InvalidWay, z_UnknownPost, z_InvalidNumber, 0, 0, 0, 0, 0, z_NotationError, 0, z_DecodeError, 0, z_Way], []⟩ : ZG) K S_Way_with_post) := fun base Kb Nb => ⟨T.o_Way.cl, f_Way_with_post, ⟨a_Way_with_post, i_Way_with_post, k_Way_with_post⟩, (R_Way_with_post base Kb Nb)⟩
  have R_law_way : ∀ base : Heap, K.In base → base.Ns mainGlobals mg → FnR l.prog w K mg base (L2.CX l.prog w) 8 f_law_way (SpD (⟨Zl [z_WalkError, z_InvalidWay, z_UnknownPost, z_InvalidNumber, 0, 0, 0, 0, 0, z_NotationError, 0, z_DecodeError, 0, z_Way], []⟩ : ZG) K S_law_way) := fun base Kb Nb => ok_law_way F_law_way T (K_Way_even__law_way base Kb Nb) (D_Way_with_post__law_way base Kb Nb)
  have F_law_drawn := fun_mk (st := s_law_drawn) l_law_drawn c_law_drawn k_law_drawn
  have G_law_capacity__law_drawn : ∀ base : Heap, K.In base → base.Ns mainGlobals mg → Cal l.prog w K mg base 3 "_law_capacity" (SpD (⟨Zl [z_WalkError, z_InvalidWay, z_UnknownPost, z_InvalidNumber, 0, 0, 0, 0, 0, z_NotationError, 0, z_DecodeError, 0, z_Way], []⟩ : ZG) K S_law_capacity) := fun base Kb Nb => ⟨f_law_capacity, PySem.W.mg_of KX G a_law_capacity, k_law_capacity, (R_law_capacity base Kb Nb)⟩
  have G_law_posts__law_drawn : ∀ base : Heap, K.In base → base.Ns mainGlobals mg → Cal l.prog w K mg base 3 "_law_posts" (SpD (⟨Zl [z_WalkError, z_InvalidWay, z_UnknownPost, z_InvalidNumber, 0, 0, 0, 0, 0, z_NotationError, 0, z_DecodeError, 0, z_Way], []⟩ : ZG) K S_law_posts) := fun base Kb Nb => ⟨f_law_posts, PySem.W.mg_of KX G a_law_posts, k_law_posts, (R_law_posts base Kb Nb)⟩
  have G_law_taken__law_drawn : ∀ base : Heap, K.In base → base.Ns mainGlobals mg → Cal l.prog w K mg base 2 "_law_taken" (SpD (⟨Zl [z_WalkError, z_InvalidWay, z_UnknownPost, z_InvalidNumber, 0, 0, 0, 0, 0, z_NotationError, 0, z_DecodeError, 0, z_Way], []⟩ : ZG) K S_next) := fun base Kb Nb => ⟨f_law_taken, PySem.W.mg_of KX G a_law_taken, k_law_taken, (R_law_taken base Kb Nb)⟩
  have G_law_way__law_drawn : ∀ base : Heap, K.In base → base.Ns mainGlobals mg → Cal l.prog w K mg base 8 "_law_way" (SpD (⟨Zl [z_WalkError, z_InvalidWay, z_UnknownPost, z_InvalidNumber, 0, 0, 0, 0, 0, z_NotationError, 0, z_DecodeError, 0, z_Way], []⟩ : ZG) K S_law_way) := fun base Kb Nb => ⟨f_law_way, PySem.W.mg_of KX G a_law_way, k_law_way, (R_law_way base Kb Nb)⟩
  have R_law_drawn : ∀ base : Heap, K.In base → base.Ns mainGlobals mg → FnR l.prog w K mg base (L2.CX l.prog w) 9 f_law_drawn (SpD (⟨Zl [z_WalkError, z_InvalidWay, z_UnknownPost, z_InvalidNumber, 0, 0, 0, 0, 0, z_NotationError, 0, z_DecodeError, 0, z_Way], []⟩ : ZG) K S_law_drawn) := fun base Kb Nb => ok_law_drawn F_law_drawn T (G_law_capacity__law_drawn base Kb Nb) (G_law_posts__law_drawn base Kb Nb) (G_law_taken__law_drawn base Kb Nb) (G_law_way__law_drawn base Kb Nb)
  have F_law_number := fun_mk (st := s_law_number) l_law_number c_law_number k_law_number
  have R_law_number : ∀ base : Heap, K.In base → base.Ns mainGlobals mg → FnR l.prog w K mg base (L2.CX l.prog w) 1 f_law_number (SpD (⟨Zl [z_WalkError, z_InvalidWay, z_UnknownPost, z_InvalidNumber, 0, 0, 0, 0, 0, z_NotationError, 0, z_DecodeError, 0, z_Way], []⟩ : ZG) K S_law_number) := fun base Kb Nb => ok_law_number F_law_number T
  have F_law_walked := fun_mk (st := s_law_walked) l_law_walked c_law_walked k_law_walked
  have R_law_walked : ∀ base : Heap, K.In base → base.Ns mainGlobals mg → FnR l.prog w K mg base (L2.CX l.prog w) 1 f_law_walked (SpD (⟨Zl [z_WalkError, z_InvalidWay, z_UnknownPost, z_InvalidNumber, 0, 0, 0, 0, 0, z_NotationError, 0, z_DecodeError, 0, z_Way], []⟩ : ZG) K S_law_walked) := fun base Kb Nb => ok_law_walked F_law_walked T
  have F_check_byte := fun_mk (st := s_check_byte) l_check_byte c_check_byte k_check_byte
  have X_DecodeError__check_byte : ∀ base : Heap, K.In base → base.Ns mainGlobals mg → Exo l.prog w K mg base 2 "DecodeError" z_DecodeError (SpX z_DecodeError ["offset"]) := fun base Kb Nb => ⟨PySem.W.mg_of KX G a_DecodeError, f_DecodeError_init, _, ["self", "offset"], oex_DecodeError, ini_DecodeError_init, tyf_DecodeError_init, ok_DecodeError_init l_DecodeError_init c_DecodeError_init SUP_DecodeError xn_DecodeError_offset, .all (fun us hl => match us, hl with | [_, _], _ => rfl)⟩
  have R_check_byte : ∀ base : Heap, K.In base → base.Ns mainGlobals mg → FnR l.prog w K mg base (L2.CX l.prog w) 4 f_check_byte (SpD (⟨Zl [z_WalkError, z_InvalidWay, z_UnknownPost, z_InvalidNumber, 0, 0, 0, 0, 0, z_NotationError, 0, z_DecodeError, 0, z_Way], []⟩ : ZG) K S_check_byte) := fun base Kb Nb => ok_check_byte F_check_byte T (X_DecodeError__check_byte base Kb Nb)
  have F_checksum := fun_mk (st := s_checksum) l_checksum c_checksum k_checksum
  have R_checksum : ∀ base : Heap, K.In base → base.Ns mainGlobals mg → FnR l.prog w K mg base (L2.CX l.prog w) 1 f_checksum (SpD (⟨Zl [z_WalkError, z_InvalidWay, z_UnknownPost, z_InvalidNumber, 0, 0, 0, 0, 0, z_NotationError, 0, z_DecodeError, 0, z_Way], []⟩ : ZG) K S_checksum) := fun base Kb Nb => ok_checksum F_checksum T
  have F_number_at := fun_mk (st := s_number_at) l_number_at c_number_at k_number_at
  have X_DecodeError__number_at : ∀ base : Heap, K.In base → base.Ns mainGlobals mg → Exo l.prog w K mg base 2 "DecodeError" z_DecodeError (SpX z_DecodeError ["offset"]) := fun base Kb Nb => ⟨PySem.W.mg_of KX G a_DecodeError, f_DecodeError_init, _, ["self", "offset"], oex_DecodeError, ini_DecodeError_init, tyf_DecodeError_init, ok_DecodeError_init l_DecodeError_init c_DecodeError_init SUP_DecodeError xn_DecodeError_offset, .all (fun us hl => match us, hl with | [_, _], _ => rfl)⟩
  have R_number_at : ∀ base : Heap, K.In base → base.Ns mainGlobals mg → FnR l.prog w K mg base (L2.CX l.prog w) 4 f_number_at (SpD (⟨Zl [z_WalkError, z_InvalidWay, z_UnknownPost, z_InvalidNumber, 0, 0, 0, 0, 0, z_NotationError, 0, z_DecodeError, 0, z_Way], []⟩ : ZG) K S_number_at) := fun base Kb Nb => ok_number_at F_number_at T (X_DecodeError__number_at base Kb Nb)
  have F_decode_way := fun_mk (st := s_decode_way) l_decode_way c_decode_way k_decode_way
  have G_check_byte__decode_way : ∀ base : Heap, K.In base → base.Ns mainGlobals mg → Cal l.prog w K mg base 4 "_check_byte" (SpD (⟨Zl [z_WalkError, z_InvalidWay, z_UnknownPost, z_InvalidNumber, 0, 0, 0, 0, 0, z_NotationError, 0, z_DecodeError, 0, z_Way], []⟩ : ZG) K S_check_byte) := fun base Kb Nb => ⟨f_check_byte, PySem.W.mg_of KX G a_check_byte, k_check_byte, (R_check_byte base Kb Nb)⟩
  have G_checksum__decode_way : ∀ base : Heap, K.In base → base.Ns mainGlobals mg → Cal l.prog w K mg base 1 "_checksum" (SpD (⟨Zl [z_WalkError, z_InvalidWay, z_UnknownPost, z_InvalidNumber, 0, 0, 0, 0, 0, z_NotationError, 0, z_DecodeError, 0, z_Way], []⟩ : ZG) K S_checksum) := fun base Kb Nb => ⟨f_checksum, PySem.W.mg_of KX G a_checksum, k_checksum, (R_checksum base Kb Nb)⟩
  have G_number_at__decode_way : ∀ base : Heap, K.In base → base.Ns mainGlobals mg → Cal l.prog w K mg base 4 "_number_at" (SpD (⟨Zl [z_WalkError, z_InvalidWay, z_UnknownPost, z_InvalidNumber, 0, 0, 0, 0, 0, z_NotationError, 0, z_DecodeError, 0, z_Way], []⟩ : ZG) K S_number_at) := fun base Kb Nb => ⟨f_number_at, PySem.W.mg_of KX G a_number_at, k_number_at, (R_number_at base Kb Nb)⟩
  have X_DecodeError__decode_way : ∀ base : Heap, K.In base → base.Ns mainGlobals mg → Exo l.prog w K mg base 2 "DecodeError" z_DecodeError (SpX z_DecodeError ["offset"]) := fun base Kb Nb => ⟨PySem.W.mg_of KX G a_DecodeError, f_DecodeError_init, _, ["self", "offset"], oex_DecodeError, ini_DecodeError_init, tyf_DecodeError_init, ok_DecodeError_init l_DecodeError_init c_DecodeError_init SUP_DecodeError xn_DecodeError_offset, .all (fun us hl => match us, hl with | [_, _], _ => rfl)⟩
  have M_Way__decode_way : ∀ base : Heap, K.In base → base.Ns mainGlobals mg → Mak l.prog w K mg base 5 "Way" z_Way (SpI (⟨Zl [z_WalkError, z_InvalidWay, z_UnknownPost, z_InvalidNumber, 0, 0, 0, 0, 0, z_NotationError, 0, z_DecodeError, 0, z_Way], []⟩ : ZG) K 13 S_Way_init) := fun base Kb Nb => ⟨PySem.W.mg_of KX G a_Way, f_Way_init, ⟨mk_Way, a_Way_init, i_Way_init, kc_Way⟩, (R_Way_init base Kb Nb)⟩
  have R_decode_way : ∀ base : Heap, K.In base → base.Ns mainGlobals mg → FnR l.prog w K mg base (L2.CX l.prog w) 7 f_decode_way (SpD (⟨Zl [z_WalkError, z_InvalidWay, z_UnknownPost, z_InvalidNumber, 0, 0, 0, 0, 0, z_NotationError, 0, z_DecodeError, 0, z_Way], []⟩ : ZG) K S_decode_way) := fun base Kb Nb => ok_decode_way F_decode_way T (G_check_byte__decode_way base Kb Nb) (G_checksum__decode_way base Kb Nb) (G_number_at__decode_way base Kb Nb) (X_DecodeError__decode_way base Kb Nb) (M_Way__decode_way base Kb Nb)
  have F_number_bytes := fun_mk (st := s_number_bytes) l_number_bytes c_number_bytes k_number_bytes
  have R_number_bytes : ∀ base : Heap, K.In base → base.Ns mainGlobals mg → FnR l.prog w K mg base (L2.CX l.prog w) 1 f_number_bytes (SpD (⟨Zl [z_WalkError, z_InvalidWay, z_UnknownPost, z_InvalidNumber, 0, 0, 0, 0, 0, z_NotationError, 0, z_DecodeError, 0, z_Way], []⟩ : ZG) K S_number_bytes) := fun base Kb Nb => ok_number_bytes F_number_bytes T
  have F_Way_len := fun_mk (st := s_Way_len) l_Way_len c_Way_len k_Way_len
  have R_Way_len : ∀ base : Heap, K.In base → base.Ns mainGlobals mg → FnR l.prog w K mg base (L2.CX l.prog w) 1 f_Way_len (SpD (⟨Zl [z_WalkError, z_InvalidWay, z_UnknownPost, z_InvalidNumber, 0, 0, 0, 0, 0, z_NotationError, 0, z_DecodeError, 0, z_Way], []⟩ : ZG) K S_Way_len) := fun base Kb Nb => ok_Way_len F_Way_len T
  have F_Way_capacity := fun_mk (st := s_Way_capacity) l_Way_capacity c_Way_capacity k_Way_capacity
  have R_Way_capacity : ∀ base : Heap, K.In base → base.Ns mainGlobals mg → FnR l.prog w K mg base (L2.CX l.prog w) 1 f_Way_capacity (SpD (⟨Zl [z_WalkError, z_InvalidWay, z_UnknownPost, z_InvalidNumber, 0, 0, 0, 0, 0, z_NotationError, 0, z_DecodeError, 0, z_Way], []⟩ : ZG) K S_Way_capacity) := fun base Kb Nb => ok_Way_capacity F_Way_capacity T
  have F_Way_posts := fun_mk (st := s_Way_posts) l_Way_posts c_Way_posts k_Way_posts
  have R_Way_posts : ∀ base : Heap, K.In base → base.Ns mainGlobals mg → FnR l.prog w K mg base (L2.CX l.prog w) 1 f_Way_posts (SpD (⟨Zl [z_WalkError, z_InvalidWay, z_UnknownPost, z_InvalidNumber, 0, 0, 0, 0, 0, z_NotationError, 0, z_DecodeError, 0, z_Way], []⟩ : ZG) K S_Way_posts) := fun base Kb Nb => ok_Way_posts F_Way_posts T
  have F_encode_way := fun_mk (st := s_encode_way) l_encode_way c_encode_way k_encode_way
  have G_checksum__encode_way : ∀ base : Heap, K.In base → base.Ns mainGlobals mg → Cal l.prog w K mg base 1 "_checksum" (SpD (⟨Zl [z_WalkError, z_InvalidWay, z_UnknownPost, z_InvalidNumber, 0, 0, 0, 0, 0, z_NotationError, 0, z_DecodeError, 0, z_Way], []⟩ : ZG) K S_checksum) := fun base Kb Nb => ⟨f_checksum, PySem.W.mg_of KX G a_checksum, k_checksum, (R_checksum base Kb Nb)⟩
  have G_number_bytes__encode_way : ∀ base : Heap, K.In base → base.Ns mainGlobals mg → Cal l.prog w K mg base 1 "_number_bytes" (SpD (⟨Zl [z_WalkError, z_InvalidWay, z_UnknownPost, z_InvalidNumber, 0, 0, 0, 0, 0, z_NotationError, 0, z_DecodeError, 0, z_Way], []⟩ : ZG) K S_number_bytes) := fun base Kb Nb => ⟨f_number_bytes, PySem.W.mg_of KX G a_number_bytes, k_number_bytes, (R_number_bytes base Kb Nb)⟩
  have L_Way__encode_way : ∀ base : Heap, K.In base → base.Ns mainGlobals mg → LenO l.prog w K mg base 1 z_Way (SpD (⟨Zl [z_WalkError, z_InvalidWay, z_UnknownPost, z_InvalidNumber, 0, 0, 0, 0, 0, z_NotationError, 0, z_DecodeError, 0, z_Way], []⟩ : ZG) K S_Way_len) := fun base Kb Nb => ⟨f_Way_len, a_Way_len, i_Way_len, (R_Way_len base Kb Nb)⟩
  have P_Way_capacity__encode_way : ∀ base : Heap, K.In base → base.Ns mainGlobals mg → Prp l.prog w K mg base 1 z_Way "capacity" (SpD (⟨Zl [z_WalkError, z_InvalidWay, z_UnknownPost, z_InvalidNumber, 0, 0, 0, 0, 0, z_NotationError, 0, z_DecodeError, 0, z_Way], []⟩ : ZG) K S_Way_capacity) := fun base Kb Nb => ⟨T.o_Way.cl, w_Way_capacity, f_Way_capacity, ⟨pa_Way_capacity, pg_Way_capacity, pt_Way_capacity, ⟨_, pr_Way_capacity⟩⟩, (R_Way_capacity base Kb Nb)⟩
  have P_Way_posts__encode_way : ∀ base : Heap, K.In base → base.Ns mainGlobals mg → Prp l.prog w K mg base 1 z_Way "posts" (SpD (⟨Zl [z_WalkError, z_InvalidWay, z_UnknownPost, z_InvalidNumber, 0, 0, 0, 0, 0, z_NotationError, 0, z_DecodeError, 0, z_Way], []⟩ : ZG) K S_Way_posts) := fun base Kb Nb => ⟨T.o_Way.cl, w_Way_posts, f_Way_posts, ⟨pa_Way_posts, pg_Way_posts, pt_Way_posts, ⟨_, pr_Way_posts⟩⟩, (R_Way_posts base Kb Nb)⟩
  have R_encode_way : ∀ base : Heap, K.In base → base.Ns mainGlobals mg → FnR l.prog w K mg base (L2.CX l.prog w) 3 f_encode_way (SpD (⟨Zl [z_WalkError, z_InvalidWay, z_UnknownPost, z_InvalidNumber, 0, 0, 0, 0, 0, z_NotationError, 0, z_DecodeError, 0, z_Way], []⟩ : ZG) K S_encode_way) := fun base Kb Nb => ok_encode_way F_encode_way T (G_checksum__encode_way base Kb Nb) (G_number_bytes__encode_way base Kb Nb) (L_Way__encode_way base Kb Nb) (P_Way_capacity__encode_way base Kb Nb) (P_Way_posts__encode_way base Kb Nb)
  have F_format_way := fun_mk (st := s_format_way) l_format_way c_format_way k_format_way
  have P_Way_capacity__format_way : ∀ base : Heap, K.In base → base.Ns mainGlobals mg → Prp l.prog w K mg base 1 z_Way "capacity" (SpD (⟨Zl [z_WalkError, z_InvalidWay, z_UnknownPost, z_InvalidNumber, 0, 0, 0, 0, 0, z_NotationError, 0, z_DecodeError, 0, z_Way], []⟩ : ZG) K S_Way_capacity) := fun base Kb Nb => ⟨T.o_Way.cl, w_Way_capacity, f_Way_capacity, ⟨pa_Way_capacity, pg_Way_capacity, pt_Way_capacity, ⟨_, pr_Way_capacity⟩⟩, (R_Way_capacity base Kb Nb)⟩
  have P_Way_posts__format_way : ∀ base : Heap, K.In base → base.Ns mainGlobals mg → Prp l.prog w K mg base 1 z_Way "posts" (SpD (⟨Zl [z_WalkError, z_InvalidWay, z_UnknownPost, z_InvalidNumber, 0, 0, 0, 0, 0, z_NotationError, 0, z_DecodeError, 0, z_Way], []⟩ : ZG) K S_Way_posts) := fun base Kb Nb => ⟨T.o_Way.cl, w_Way_posts, f_Way_posts, ⟨pa_Way_posts, pg_Way_posts, pt_Way_posts, ⟨_, pr_Way_posts⟩⟩, (R_Way_posts base Kb Nb)⟩
  have R_format_way : ∀ base : Heap, K.In base → base.Ns mainGlobals mg → FnR l.prog w K mg base (L2.CX l.prog w) 3 f_format_way (SpD (⟨Zl [z_WalkError, z_InvalidWay, z_UnknownPost, z_InvalidNumber, 0, 0, 0, 0, 0, z_NotationError, 0, z_DecodeError, 0, z_Way], []⟩ : ZG) K S_format_way) := fun base Kb Nb => ok_format_way F_format_way T (P_Way_capacity__format_way base Kb Nb) (P_Way_posts__format_way base Kb Nb)
  have F_log_line := fun_mk (st := s_log_line) l_log_line c_log_line k_log_line
  have R_log_line : ∀ base : Heap, K.In base → base.Ns mainGlobals mg → FnR l.prog w K mg base (L2.CX l.prog w) 1 f_log_line (SpD (⟨Zl [z_WalkError, z_InvalidWay, z_UnknownPost, z_InvalidNumber, 0, 0, 0, 0, 0, z_NotationError, 0, z_DecodeError, 0, z_Way], []⟩ : ZG) K S_log_line) := fun base Kb Nb => ok_log_line F_log_line T
  have F_Way_getitem := fun_mk (st := s_Way_getitem) l_Way_getitem c_Way_getitem k_Way_getitem
  have G_check_post__Way_getitem : ∀ base : Heap, K.In base → base.Ns mainGlobals mg → Cal l.prog w K mg base 3 "check_post" (SpD (⟨Zl [z_WalkError, z_InvalidWay, z_UnknownPost, z_InvalidNumber, 0, 0, 0, 0, 0, z_NotationError, 0, z_DecodeError, 0, z_Way], []⟩ : ZG) K S_check_post) := fun base Kb Nb => ⟨f_check_post, PySem.W.mg_of KX G a_check_post, k_check_post, (R_check_post base Kb Nb)⟩
  have R_Way_getitem : ∀ base : Heap, K.In base → base.Ns mainGlobals mg → FnR l.prog w K mg base (L2.CX l.prog w) 4 f_Way_getitem (SpD (⟨Zl [z_WalkError, z_InvalidWay, z_UnknownPost, z_InvalidNumber, 0, 0, 0, 0, 0, z_NotationError, 0, z_DecodeError, 0, z_Way], []⟩ : ZG) K S_Way_getitem) := fun base Kb Nb => ok_Way_getitem F_Way_getitem T (G_check_post__Way_getitem base Kb Nb)
  have F_taken := fun_mk (st := s_taken) l_taken c_taken k_taken
  have X_Way__taken : ∀ base : Heap, K.In base → base.Ns mainGlobals mg → GetO l.prog w K mg base 4 z_Way (SpD (⟨Zl [z_WalkError, z_InvalidWay, z_UnknownPost, z_InvalidNumber, 0, 0, 0, 0, 0, z_NotationError, 0, z_DecodeError, 0, z_Way], []⟩ : ZG) K S_Way_getitem) := fun base Kb Nb => ⟨f_Way_getitem, a_Way_getitem, fn_Way_getitem, i_Way_getitem, (R_Way_getitem base Kb Nb)⟩
  have P_Way_capacity__taken : ∀ base : Heap, K.In base → base.Ns mainGlobals mg → Prp l.prog w K mg base 1 z_Way "capacity" (SpD (⟨Zl [z_WalkError, z_InvalidWay, z_UnknownPost, z_InvalidNumber, 0, 0, 0, 0, 0, z_NotationError, 0, z_DecodeError, 0, z_Way], []⟩ : ZG) K S_Way_capacity) := fun base Kb Nb => ⟨T.o_Way.cl, w_Way_capacity, f_Way_capacity, ⟨pa_Way_capacity, pg_Way_capacity, pt_Way_capacity, ⟨_, pr_Way_capacity⟩⟩, (R_Way_capacity base Kb Nb)⟩
  have R_taken : ∀ base : Heap, K.In base → base.Ns mainGlobals mg → FnR l.prog w K mg base (L2.CX l.prog w) 6 f_taken (SpD (⟨Zl [z_WalkError, z_InvalidWay, z_UnknownPost, z_InvalidNumber, 0, 0, 0, 0, 0, z_NotationError, 0, z_DecodeError, 0, z_Way], []⟩ : ZG) K S_taken) := fun base Kb Nb => ok_taken F_taken T (X_Way__taken base Kb Nb) (P_Way_capacity__taken base Kb Nb)
  have F_after_leg := fun_mk (st := s_after_leg) l_after_leg c_after_leg k_after_leg
  have G_taken__after_leg : ∀ base : Heap, K.In base → base.Ns mainGlobals mg → Cal l.prog w K mg base 6 "taken" (SpD (⟨Zl [z_WalkError, z_InvalidWay, z_UnknownPost, z_InvalidNumber, 0, 0, 0, 0, 0, z_NotationError, 0, z_DecodeError, 0, z_Way], []⟩ : ZG) K S_taken) := fun base Kb Nb => ⟨f_taken, PySem.W.mg_of KX G a_taken, k_taken, (R_taken base Kb Nb)⟩
  have X_Way__after_leg : ∀ base : Heap, K.In base → base.Ns mainGlobals mg → GetO l.prog w K mg base 4 z_Way (SpD (⟨Zl [z_WalkError, z_InvalidWay, z_UnknownPost, z_InvalidNumber, 0, 0, 0, 0, 0, z_NotationError, 0, z_DecodeError, 0, z_Way], []⟩ : ZG) K S_Way_getitem) := fun base Kb Nb => ⟨f_Way_getitem, a_Way_getitem, fn_Way_getitem, i_Way_getitem, (R_Way_getitem base Kb Nb)⟩
  have R_after_leg : ∀ base : Heap, K.In base → base.Ns mainGlobals mg → FnR l.prog w K mg base (L2.CX l.prog w) 7 f_after_leg (SpD (⟨Zl [z_WalkError, z_InvalidWay, z_UnknownPost, z_InvalidNumber, 0, 0, 0, 0, 0, z_NotationError, 0, z_DecodeError, 0, z_Way], []⟩ : ZG) K S_after_leg) := fun base Kb Nb => ok_after_leg F_after_leg T (G_taken__after_leg base Kb Nb) (X_Way__after_leg base Kb Nb)
  have F_check_start := fun_mk (st := s_check_start) l_check_start c_check_start k_check_start
  have G_check_number_within__check_start : ∀ base : Heap, K.In base → base.Ns mainGlobals mg → Cal l.prog w K mg base 3 "check_number_within" (SpD (⟨Zl [z_WalkError, z_InvalidWay, z_UnknownPost, z_InvalidNumber, 0, 0, 0, 0, 0, z_NotationError, 0, z_DecodeError, 0, z_Way], []⟩ : ZG) K S_check_number_within) := fun base Kb Nb => ⟨f_check_number_within, PySem.W.mg_of KX G a_check_number_within, k_check_number_within, (R_check_number_within base Kb Nb)⟩
  have G_check_post__check_start : ∀ base : Heap, K.In base → base.Ns mainGlobals mg → Cal l.prog w K mg base 3 "check_post" (SpD (⟨Zl [z_WalkError, z_InvalidWay, z_UnknownPost, z_InvalidNumber, 0, 0, 0, 0, 0, z_NotationError, 0, z_DecodeError, 0, z_Way], []⟩ : ZG) K S_check_post) := fun base Kb Nb => ⟨f_check_post, PySem.W.mg_of KX G a_check_post, k_check_post, (R_check_post base Kb Nb)⟩
  have L_Way__check_start : ∀ base : Heap, K.In base → base.Ns mainGlobals mg → LenO l.prog w K mg base 1 z_Way (SpD (⟨Zl [z_WalkError, z_InvalidWay, z_UnknownPost, z_InvalidNumber, 0, 0, 0, 0, 0, z_NotationError, 0, z_DecodeError, 0, z_Way], []⟩ : ZG) K S_Way_len) := fun base Kb Nb => ⟨f_Way_len, a_Way_len, i_Way_len, (R_Way_len base Kb Nb)⟩
  have P_Way_capacity__check_start : ∀ base : Heap, K.In base → base.Ns mainGlobals mg → Prp l.prog w K mg base 1 z_Way "capacity" (SpD (⟨Zl [z_WalkError, z_InvalidWay, z_UnknownPost, z_InvalidNumber, 0, 0, 0, 0, 0, z_NotationError, 0, z_DecodeError, 0, z_Way], []⟩ : ZG) K S_Way_capacity) := fun base Kb Nb => ⟨T.o_Way.cl, w_Way_capacity, f_Way_capacity, ⟨pa_Way_capacity, pg_Way_capacity, pt_Way_capacity, ⟨_, pr_Way_capacity⟩⟩, (R_Way_capacity base Kb Nb)⟩
  have R_check_start : ∀ base : Heap, K.In base → base.Ns mainGlobals mg → FnR l.prog w K mg base (L2.CX l.prog w) 4 f_check_start (SpD (⟨Zl [z_WalkError, z_InvalidWay, z_UnknownPost, z_InvalidNumber, 0, 0, 0, 0, 0, z_NotationError, 0, z_DecodeError, 0, z_Way], []⟩ : ZG) K S_check_start) := fun base Kb Nb => ok_check_start F_check_start T (G_check_number_within__check_start base Kb Nb) (G_check_post__check_start base Kb Nb) (L_Way__check_start base Kb Nb) (P_Way_capacity__check_start base Kb Nb)
  have F_log_text := fun_mk (st := s_log_text) l_log_text c_log_text k_log_text
  have G_log_line__log_text : ∀ base : Heap, K.In base → base.Ns mainGlobals mg → Cal l.prog w K mg base 1 "_log_line" (SpD (⟨Zl [z_WalkError, z_InvalidWay, z_UnknownPost, z_InvalidNumber, 0, 0, 0, 0, 0, z_NotationError, 0, z_DecodeError, 0, z_Way], []⟩ : ZG) K S_log_line) := fun base Kb Nb => ⟨f_log_line, PySem.W.mg_of KX G a_log_line, k_log_line, (R_log_line base Kb Nb)⟩
  have G_after_leg__log_text : ∀ base : Heap, K.In base → base.Ns mainGlobals mg → Cal l.prog w K mg base 7 "after_leg" (SpD (⟨Zl [z_WalkError, z_InvalidWay, z_UnknownPost, z_InvalidNumber, 0, 0, 0, 0, 0, z_NotationError, 0, z_DecodeError, 0, z_Way], []⟩ : ZG) K S_after_leg) := fun base Kb Nb => ⟨f_after_leg, PySem.W.mg_of KX G a_after_leg, k_after_leg, (R_after_leg base Kb Nb)⟩
  have G_check_number_within__log_text : ∀ base : Heap, K.In base → base.Ns mainGlobals mg → Cal l.prog w K mg base 3 "check_number_within" (SpD (⟨Zl [z_WalkError, z_InvalidWay, z_UnknownPost, z_InvalidNumber, 0, 0, 0, 0, 0, z_NotationError, 0, z_DecodeError, 0, z_Way], []⟩ : ZG) K S_check_number_within) := fun base Kb Nb => ⟨f_check_number_within, PySem.W.mg_of KX G a_check_number_within, k_check_number_within, (R_check_number_within base Kb Nb)⟩
  have G_check_start__log_text : ∀ base : Heap, K.In base → base.Ns mainGlobals mg → Cal l.prog w K mg base 4 "check_start" (SpD (⟨Zl [z_WalkError, z_InvalidWay, z_UnknownPost, z_InvalidNumber, 0, 0, 0, 0, 0, z_NotationError, 0, z_DecodeError, 0, z_Way], []⟩ : ZG) K S_check_start) := fun base Kb Nb => ⟨f_check_start, PySem.W.mg_of KX G a_check_start, k_check_start, (R_check_start base Kb Nb)⟩
  have G_taken__log_text : ∀ base : Heap, K.In base → base.Ns mainGlobals mg → Cal l.prog w K mg base 6 "taken" (SpD (⟨Zl [z_WalkError, z_InvalidWay, z_UnknownPost, z_InvalidNumber, 0, 0, 0, 0, 0, z_NotationError, 0, z_DecodeError, 0, z_Way], []⟩ : ZG) K S_taken) := fun base Kb Nb => ⟨f_taken, PySem.W.mg_of KX G a_taken, k_taken, (R_taken base Kb Nb)⟩
  have L_Way__log_text : ∀ base : Heap, K.In base → base.Ns mainGlobals mg → LenO l.prog w K mg base 1 z_Way (SpD (⟨Zl [z_WalkError, z_InvalidWay, z_UnknownPost, z_InvalidNumber, 0, 0, 0, 0, 0, z_NotationError, 0, z_DecodeError, 0, z_Way], []⟩ : ZG) K S_Way_len) := fun base Kb Nb => ⟨f_Way_len, a_Way_len, i_Way_len, (R_Way_len base Kb Nb)⟩
  have R_log_text : ∀ base : Heap, K.In base → base.Ns mainGlobals mg → FnR l.prog w K mg base (L2.CX l.prog w) 8 f_log_text (SpD (⟨Zl [z_WalkError, z_InvalidWay, z_UnknownPost, z_InvalidNumber, 0, 0, 0, 0, 0, z_NotationError, 0, z_DecodeError, 0, z_Way], []⟩ : ZG) K S_log_text) := fun base Kb Nb => ok_log_text F_log_text T (G_log_line__log_text base Kb Nb) (G_after_leg__log_text base Kb Nb) (G_check_number_within__log_text base Kb Nb) (G_check_start__log_text base Kb Nb) (G_taken__log_text base Kb Nb) (L_Way__log_text base Kb Nb)
  have F_is_number_word := fun_mk (st := s_is_number_word) l_is_number_word c_is_number_word k_is_number_word
  have R_is_number_word : ∀ base : Heap, K.In base → base.Ns mainGlobals mg → FnR l.prog w K mg base (L2.CX l.prog w) 1 f_is_number_word (SpD (⟨Zl [z_WalkError, z_InvalidWay, z_UnknownPost, z_InvalidNumber, 0, 0, 0, 0, 0, z_NotationError, 0, z_DecodeError, 0, z_Way], []⟩ : ZG) K S_is_number_word) := fun base Kb Nb => ok_is_number_word F_is_number_word T
  have F_numbers := fun_mk (st := s_numbers) l_numbers c_numbers k_numbers
  have G_is_number_word__numbers : ∀ base : Heap, K.In base → base.Ns mainGlobals mg → Cal l.prog w K mg base 1 "_is_number_word" (SpD (⟨Zl [z_WalkError, z_InvalidWay, z_UnknownPost, z_InvalidNumber, 0, 0, 0, 0, 0, z_NotationError, 0, z_DecodeError, 0, z_Way], []⟩ : ZG) K S_is_number_word) := fun base Kb Nb => ⟨f_is_number_word, PySem.W.mg_of KX G a_is_number_word, k_is_number_word, (R_is_number_word base Kb Nb)⟩
  have X_NotationError__numbers : ∀ base : Heap, K.In base → base.Ns mainGlobals mg → Exo l.prog w K mg base 2 "NotationError" z_NotationError (SpX z_NotationError ["row", "word"]) := fun base Kb Nb => ⟨PySem.W.mg_of KX G a_NotationError, f_NotationError_init, _, ["self", "row", "word"], oex_NotationError, ini_NotationError_init, tyf_NotationError_init, ok_NotationError_init l_NotationError_init c_NotationError_init SUP_NotationError xn_NotationError_row xn_NotationError_word, .all (fun us hl => match us, hl with | [_, _, _], _ => rfl)⟩
  have R_numbers : ∀ base : Heap, K.In base → base.Ns mainGlobals mg → FnR l.prog w K mg base (L2.CX l.prog w) 4 f_numbers (SpD (⟨Zl [z_WalkError, z_InvalidWay, z_UnknownPost, z_InvalidNumber, 0, 0, 0, 0, 0, z_NotationError, 0, z_DecodeError, 0, z_Way], []⟩ : ZG) K S_numbers) := fun base Kb Nb => ok_numbers F_numbers T (G_is_number_word__numbers base Kb Nb) (X_NotationError__numbers base Kb Nb)
  have F_parse_way := fun_mk (st := s_parse_way) l_parse_way c_parse_way k_parse_way
  have G_numbers__parse_way : ∀ base : Heap, K.In base → base.Ns mainGlobals mg → Cal l.prog w K mg base 4 "_numbers" (SpD (⟨Zl [z_WalkError, z_InvalidWay, z_UnknownPost, z_InvalidNumber, 0, 0, 0, 0, 0, z_NotationError, 0, z_DecodeError, 0, z_Way], []⟩ : ZG) K S_numbers) := fun base Kb Nb => ⟨f_numbers, PySem.W.mg_of KX G a_numbers, k_numbers, (R_numbers base Kb Nb)⟩
  have X_NotationError__parse_way : ∀ base : Heap, K.In base → base.Ns mainGlobals mg → Exo l.prog w K mg base 2 "NotationError" z_NotationError (SpX z_NotationError ["row", "word"]) := fun base Kb Nb => ⟨PySem.W.mg_of KX G a_NotationError, f_NotationError_init, _, ["self", "row", "word"], oex_NotationError, ini_NotationError_init, tyf_NotationError_init, ok_NotationError_init l_NotationError_init c_NotationError_init SUP_NotationError xn_NotationError_row xn_NotationError_word, .all (fun us hl => match us, hl with | [_, _, _], _ => rfl)⟩
  have M_Way__parse_way : ∀ base : Heap, K.In base → base.Ns mainGlobals mg → Mak l.prog w K mg base 5 "Way" z_Way (SpI (⟨Zl [z_WalkError, z_InvalidWay, z_UnknownPost, z_InvalidNumber, 0, 0, 0, 0, 0, z_NotationError, 0, z_DecodeError, 0, z_Way], []⟩ : ZG) K 13 S_Way_init) := fun base Kb Nb => ⟨PySem.W.mg_of KX G a_Way, f_Way_init, ⟨mk_Way, a_Way_init, i_Way_init, kc_Way⟩, (R_Way_init base Kb Nb)⟩
  have R_parse_way : ∀ base : Heap, K.In base → base.Ns mainGlobals mg → FnR l.prog w K mg base (L2.CX l.prog w) 7 f_parse_way (SpD (⟨Zl [z_WalkError, z_InvalidWay, z_UnknownPost, z_InvalidNumber, 0, 0, 0, 0, 0, z_NotationError, 0, z_DecodeError, 0, z_Way], []⟩ : ZG) K S_parse_way) := fun base Kb Nb => ok_parse_way F_parse_way T (G_numbers__parse_way base Kb Nb) (X_NotationError__parse_way base Kb Nb) (M_Way__parse_way base Kb Nb)
  have F_Way_eq := fun_mk (st := s_Way_eq) l_Way_eq c_Way_eq k_Way_eq
  have R_Way_eq : ∀ base : Heap, K.In base → base.Ns mainGlobals mg → FnR l.prog w K mg base (L2.CX l.prog w) 1 f_Way_eq (SpD (⟨Zl [z_WalkError, z_InvalidWay, z_UnknownPost, z_InvalidNumber, 0, 0, 0, 0, 0, z_NotationError, 0, z_DecodeError, 0, z_Way], []⟩ : ZG) K S_Way_eq) := fun base Kb Nb => ok_Way_eq F_Way_eq T
  have G_law_drawn__law : ∀ base : Heap, K.In base → base.Ns mainGlobals mg → Cal l.prog w K mg base 9 "_law_drawn" (SpD (⟨Zl [z_WalkError, z_InvalidWay, z_UnknownPost, z_InvalidNumber, 0, 0, 0, 0, 0, z_NotationError, 0, z_DecodeError, 0, z_Way], []⟩ : ZG) K S_law_drawn) := fun base Kb Nb => ⟨f_law_drawn, PySem.W.mg_of KX G a_law_drawn, k_law_drawn, (R_law_drawn base Kb Nb)⟩
  have G_law_number__law : ∀ base : Heap, K.In base → base.Ns mainGlobals mg → Cal l.prog w K mg base 1 "_law_number" (SpD (⟨Zl [z_WalkError, z_InvalidWay, z_UnknownPost, z_InvalidNumber, 0, 0, 0, 0, 0, z_NotationError, 0, z_DecodeError, 0, z_Way], []⟩ : ZG) K S_law_number) := fun base Kb Nb => ⟨f_law_number, PySem.W.mg_of KX G a_law_number, k_law_number, (R_law_number base Kb Nb)⟩
  have G_law_taken__law : ∀ base : Heap, K.In base → base.Ns mainGlobals mg → Cal l.prog w K mg base 2 "_law_taken" (SpD (⟨Zl [z_WalkError, z_InvalidWay, z_UnknownPost, z_InvalidNumber, 0, 0, 0, 0, 0, z_NotationError, 0, z_DecodeError, 0, z_Way], []⟩ : ZG) K S_next) := fun base Kb Nb => ⟨f_law_taken, PySem.W.mg_of KX G a_law_taken, k_law_taken, (R_law_taken base Kb Nb)⟩
  have G_law_walked__law : ∀ base : Heap, K.In base → base.Ns mainGlobals mg → Cal l.prog w K mg base 1 "_law_walked" (SpD (⟨Zl [z_WalkError, z_InvalidWay, z_UnknownPost, z_InvalidNumber, 0, 0, 0, 0, 0, z_NotationError, 0, z_DecodeError, 0, z_Way], []⟩ : ZG) K S_law_walked) := fun base Kb Nb => ⟨f_law_walked, PySem.W.mg_of KX G a_law_walked, k_law_walked, (R_law_walked base Kb Nb)⟩
  have G_law_way__law : ∀ base : Heap, K.In base → base.Ns mainGlobals mg → Cal l.prog w K mg base 8 "_law_way" (SpD (⟨Zl [z_WalkError, z_InvalidWay, z_UnknownPost, z_InvalidNumber, 0, 0, 0, 0, 0, z_NotationError, 0, z_DecodeError, 0, z_Way], []⟩ : ZG) K S_law_way) := fun base Kb Nb => ⟨f_law_way, PySem.W.mg_of KX G a_law_way, k_law_way, (R_law_way base Kb Nb)⟩
  have G_decode_way__law : ∀ base : Heap, K.In base → base.Ns mainGlobals mg → Cal l.prog w K mg base 7 "decode_way" (SpD (⟨Zl [z_WalkError, z_InvalidWay, z_UnknownPost, z_InvalidNumber, 0, 0, 0, 0, 0, z_NotationError, 0, z_DecodeError, 0, z_Way], []⟩ : ZG) K S_decode_way) := fun base Kb Nb => ⟨f_decode_way, PySem.W.mg_of KX G a_decode_way, k_decode_way, (R_decode_way base Kb Nb)⟩
  have G_encode_way__law : ∀ base : Heap, K.In base → base.Ns mainGlobals mg → Cal l.prog w K mg base 3 "encode_way" (SpD (⟨Zl [z_WalkError, z_InvalidWay, z_UnknownPost, z_InvalidNumber, 0, 0, 0, 0, 0, z_NotationError, 0, z_DecodeError, 0, z_Way], []⟩ : ZG) K S_encode_way) := fun base Kb Nb => ⟨f_encode_way, PySem.W.mg_of KX G a_encode_way, k_encode_way, (R_encode_way base Kb Nb)⟩
  have G_format_way__law : ∀ base : Heap, K.In base → base.Ns mainGlobals mg → Cal l.prog w K mg base 3 "format_way" (SpD (⟨Zl [z_WalkError, z_InvalidWay, z_UnknownPost, z_InvalidNumber, 0, 0, 0, 0, 0, z_NotationError, 0, z_DecodeError, 0, z_Way], []⟩ : ZG) K S_format_way) := fun base Kb Nb => ⟨f_format_way, PySem.W.mg_of KX G a_format_way, k_format_way, (R_format_way base Kb Nb)⟩
  have G_log_text__law : ∀ base : Heap, K.In base → base.Ns mainGlobals mg → Cal l.prog w K mg base 8 "log_text" (SpD (⟨Zl [z_WalkError, z_InvalidWay, z_UnknownPost, z_InvalidNumber, 0, 0, 0, 0, 0, z_NotationError, 0, z_DecodeError, 0, z_Way], []⟩ : ZG) K S_log_text) := fun base Kb Nb => ⟨f_log_text, PySem.W.mg_of KX G a_log_text, k_log_text, (R_log_text base Kb Nb)⟩
  have G_parse_way__law : ∀ base : Heap, K.In base → base.Ns mainGlobals mg → Cal l.prog w K mg base 7 "parse_way" (SpD (⟨Zl [z_WalkError, z_InvalidWay, z_UnknownPost, z_InvalidNumber, 0, 0, 0, 0, 0, z_NotationError, 0, z_DecodeError, 0, z_Way], []⟩ : ZG) K S_parse_way) := fun base Kb Nb => ⟨f_parse_way, PySem.W.mg_of KX G a_parse_way, k_parse_way, (R_parse_way base Kb Nb)⟩
  have Q_Way__law : ∀ base : Heap, K.In base → base.Ns mainGlobals mg → EqO l.prog w K mg base 1 z_Way (SpD (⟨Zl [z_WalkError, z_InvalidWay, z_UnknownPost, z_InvalidNumber, 0, 0, 0, 0, 0, z_NotationError, 0, z_DecodeError, 0, z_Way], []⟩ : ZG) K S_Way_eq) := fun base Kb Nb => ⟨f_Way_eq, a_Way_eq, i_Way_eq, (R_Way_eq base Kb Nb)⟩
  have F_law := fun_mk (st := s_law) l_law c_law k_law
  have e := hfa.symm.trans (PySem.W.mg_of KX G a_law)
  cases e
  refine ⟨_, [], lawSp K (⟨Zl [z_WalkError, z_InvalidWay, z_UnknownPost, z_InvalidNumber, 0, 0, 0, 0, 0, z_NotationError, 0, z_DecodeError, 0, z_Way], []⟩ : ZG), fun p hp => (by cases hp), fun p hp => (by cases hp), fun p hp => (by cases hp), fun s v => .of_eq rfl, fun H a ns hl _ ht hS => ⟨_, rfl, a, ns, rfl, hS, hl, fun p hp => ?_, fun _ => rfl⟩, fun base Kb Nb hTB => ok_law F_law T (G_law_drawn__law base Kb Nb) (G_law_number__law base Kb Nb) (G_law_taken__law base Kb Nb) (G_law_walked__law base Kb Nb) (G_law_way__law base Kb Nb) (G_decode_way__law base Kb Nb) (G_encode_way__law base Kb Nb) (G_format_way__law base Kb Nb) (G_log_text__law base Kb Nb) (G_parse_way__law base Kb Nb) (Q_Way__law base Kb Nb) HB⟩
  cases hp
end K59
open PySem PySem.W PyProof.Rows
set_option maxHeartbeats 0 in
theorem PySem.Challenge.cw_oilwalk_k59_whole_logs_and_stored_ways_holds : PySem.Challenge.rw_oilwalk_k59_whole_logs_and_stored_ways.Holds := by
  w_on; o_law; k_head; (case hw => w_witness2)
  k_fill
  refine LamX.walk_ofTs (l := PySem.Challenge.rw_oilwalk_k59_whole_logs_and_stored_ways) (n := 63) (k := 10) (x := "_law_script") (CX := fun w => L2.CX PySem.Challenge.rw_oilwalk_k59_whole_logs_and_stored_ways.prog w) rfl (by decide) rfl ⟨rfl, by decide, by decide⟩ (fun w h Y => PySem.W.kIn_of Y) ?F (fun w H s e s2 z => by obtain ⟨_, _, _, _, _, _, _, _, _, _, _, _, z⟩ := z; exact z)
  case F =>
    intro w mg fa h Y KX G hmg
    refine' K59.all_mk K59.holds KX G hmg ?a_WalkError ?a_InvalidWay ?a_UnknownPost ?a_InvalidNumber ?a_NotationError ?a_DecodeError ?a_Way ?a_FIRST_CHECKSUM ?a_HEAD_SIZE ?a_MARK ?a_MOST_DIGITS ?a_MOST_LEGS_IN_A_LOG ?a_MOST_POSTS ?a_MOST_UNITS ?a_NUMBER_SIZE ?n_bool ?n_bytes ?n_enumerate ?n_int ?n_isinstance ?n_len ?n_list ?n_min ?n_range ?n_str ?n_sum ?n_tuple ?pgc_Way ?hdc_Way ?poc_Way ?sac_Way ?hac_Way ?hn_oc ?ht_oc ?hmc_Way ?ic_Way ?ty_Way ?nc_Way_NoneType ?nc_Way_bool ?nc_Way_int ?nc_Way_str ?nc_Way_tuple ?nc_Way_list ?nf_Way_NoneType ?nf_Way_bool ?nf_Way_int ?nf_Way_str ?nf_Way_tuple ?nf_Way_list ?x_na_Way__capacity ?x_na_Way__posts ?x_x_InvalidNumber ?x_k_InvalidNumber ?x_b_InvalidNumber ?x_t_InvalidNumber ?x_x_UnknownPost ?x_k_UnknownPost ?x_b_UnknownPost ?x_t_UnknownPost ?a_law_taken ?l_law_taken ?c_law_taken ?k_law_taken ?a_law_capacity ?l_law_capacity ?c_law_capacity ?k_law_capacity ?a_law_posts ?l_law_posts ?c_law_posts ?k_law_posts ?a_is_number ?l_is_number ?c_is_number ?k_is_number ?a_is_number_within ?l_is_number_within ?c_is_number_within ?k_is_number_within ?a_check_number_within ?l_check_number_within ?c_check_number_within ?k_check_number_within ?a_is_post ?l_is_post ?c_is_post ?k_is_post ?a_first_wrong ?l_first_wrong ?c_first_wrong ?k_first_wrong ?a_Way_init ?i_Way_init ?l_Way_init ?c_Way_init ?k_Way_init ?oex_InvalidWay ?ini_InvalidWay_init ?l_InvalidWay_init ?tyf_InvalidWay_init ?c_InvalidWay_init ?cdf_InvalidWay_init ?topsup ?cell_InvalidWay_init ?n_super ?tpany ?mro_InvalidWay ?ksi_InvalidWay ?ev_InvalidWay ?xn_InvalidWay_part ?xn_InvalidWay_index ?cr_Way ?cg_Way ?ca_Way_even ?cc_Way_even ?cf_Way_even ?l_Way_even ?c_Way_even ?k_Way_even ?mk_Way ?kc_Way ?a_check_post ?l_check_post ?c_check_post ?k_check_post ?a_Way_with_post ?i_Way_with_post ?l_Way_with_post ?c_Way_with_post ?k_Way_with_post ?a_law_way ?l_law_way ?c_law_way ?k_law_way ?a_law_drawn ?l_law_drawn ?c_law_drawn ?k_law_drawn ?a_law_number ?l_law_number ?c_law_number ?k_law_number ?a_law_walked ?l_law_walked ?c_law_walked ?k_law_walked ?a_check_byte ?l_check_byte ?c_check_byte ?k_check_byte ?oex_DecodeError ?ini_DecodeError_init ?l_DecodeError_init ?tyf_DecodeError_init ?c_DecodeError_init ?cdf_DecodeError_init ?cell_DecodeError_init ?mro_DecodeError ?ksi_DecodeError ?ev_DecodeError ?xn_DecodeError_offset ?a_checksum ?l_checksum ?c_checksum ?k_checksum ?a_number_at ?l_number_at ?c_number_at ?k_number_at ?a_decode_way ?l_decode_way ?c_decode_way ?k_decode_way ?a_number_bytes ?l_number_bytes ?c_number_bytes ?k_number_bytes ?a_Way_len ?i_Way_len ?l_Way_len ?c_Way_len ?k_Way_len ?pa_Way_capacity ?pg_Way_capacity ?pt_Way_capacity ?pr_Way_capacity ?l_Way_capacity ?c_Way_capacity ?k_Way_capacity ?pa_Way_posts ?pg_Way_posts ?pt_Way_posts ?pr_Way_posts ?l_Way_posts ?c_Way_posts ?k_Way_posts ?a_encode_way ?l_encode_way ?c_encode_way ?k_encode_way ?a_format_way ?l_format_way ?c_format_way ?k_format_way ?a_log_line ?l_log_line ?c_log_line ?k_log_line ?a_Way_getitem ?i_Way_getitem ?l_Way_getitem ?c_Way_getitem ?k_Way_getitem ?a_taken ?l_taken ?c_taken ?k_taken ?fn_Way_getitem ?a_after_leg ?l_after_leg ?c_after_leg ?k_after_leg ?a_check_start ?l_check_start ?c_check_start ?k_check_start ?a_log_text ?l_log_text ?c_log_text ?k_log_text ?a_is_number_word ?l_is_number_word ?c_is_number_word ?k_is_number_word ?a_numbers ?l_numbers ?c_numbers ?k_numbers ?oex_NotationError ?ini_NotationError_init ?l_NotationError_init ?tyf_NotationError_init ?c_NotationError_init ?cdf_NotationError_init ?cell_NotationError_init ?mro_NotationError ?ksi_NotationError ?ev_NotationError ?xn_NotationError_row ?xn_NotationError_word ?a_parse_way ?l_parse_way ?c_parse_way ?k_parse_way ?a_Way_eq ?i_Way_eq ?l_Way_eq ?c_Way_eq ?k_Way_eq ?a_law ?l_law ?c_law ?k_law
    (case a_WalkError => k_is)
    (case a_InvalidWay => k_is)
    (case a_UnknownPost => k_is)
    (case a_InvalidNumber => k_is)
    (case a_NotationError => k_is)
    (case a_DecodeError => k_is)
    (case a_Way => k_is)
    (case a_FIRST_CHECKSUM => k_is)
    (case a_HEAD_SIZE => k_is)
    (case a_MARK => k_is)
    (case a_MOST_DIGITS => k_is)
    (case a_MOST_LEGS_IN_A_LOG => k_is)
    (case a_MOST_POSTS => k_is)
    (case a_MOST_UNITS => k_is)
    (case a_NUMBER_SIZE => k_is)
    (case n_bool => k_is)
    (case n_bytes => k_is)
    (case n_enumerate => k_is)
    (case n_int => k_is)
    (case n_isinstance => k_is)
    (case n_len => k_is)
    (case n_list => k_is)
    (case n_min => k_is)
    (case n_range => k_is)
    (case n_str => k_is)
    (case n_sum => k_is)
    (case n_tuple => k_is)
    (case pgc_Way => k_is)
    (case hdc_Way => k_is)
    (case poc_Way => k_is)
    (case sac_Way => k_is)
    (case hac_Way => k_is)
    (case hn_oc => k_is)
    (case ht_oc => k_is)
    (case hmc_Way => k_is)
    (case ic_Way => k_is)
    (case ty_Way => k_is)
    (case nc_Way_NoneType => k_is)
    (case nc_Way_bool => k_is)
    (case nc_Way_int => k_is)
    (case nc_Way_str => k_is)
    (case nc_Way_tuple => k_is)
    (case nc_Way_list => k_is)
    (case nf_Way_NoneType => k_is)
    (case nf_Way_bool => k_is)
    (case nf_Way_int => k_is)
    (case nf_Way_str => k_is)
    (case nf_Way_tuple => k_is)
    (case nf_Way_list => k_is)
    (case x_na_Way__capacity => k_is)
    (case x_na_Way__posts => k_is)
    (case x_x_InvalidNumber => k_exc)
    (case x_k_InvalidNumber => k_is)
    (case x_b_InvalidNumber => k_is)
    (case x_t_InvalidNumber => k_is)
    (case x_x_UnknownPost => k_exc)
    (case x_k_UnknownPost => k_is)
    (case x_b_UnknownPost => k_is)
    (case x_t_UnknownPost => k_is)
    (case a_law_taken => k_is)
    (case l_law_taken => k_is)
    (case c_law_taken => k_is)
    (case k_law_taken => k_is)
    (case a_law_capacity => k_is)
    (case l_law_capacity => k_is)
    (case c_law_capacity => k_is)
    (case k_law_capacity => k_is)
    (case a_law_posts => k_is)
    (case l_law_posts => k_is)
    (case c_law_posts => k_is)
    (case k_law_posts => k_is)
    (case a_is_number => k_is)
    (case l_is_number => k_is)
    (case c_is_number => k_is)
    (case k_is_number => k_is)
    (case a_is_number_within => k_is)
    (case l_is_number_within => k_is)
    (case c_is_number_within => k_is)
    (case k_is_number_within => k_is)
    (case a_check_number_within => k_is)
    (case l_check_number_within => k_is)
    (case c_check_number_within => k_is)
    (case k_check_number_within => k_is)
    (case a_is_post => k_is)
    (case l_is_post => k_is)
    (case c_is_post => k_is)
    (case k_is_post => k_is)
    (case a_first_wrong => k_is)
    (case l_first_wrong => k_is)
    (case c_first_wrong => k_is)
    (case k_first_wrong => k_is)
    (case a_Way_init => k_is)
    (case i_Way_init => k_is)
    (case l_Way_init => k_is)
    (case c_Way_init => k_is)
    (case k_Way_init => k_is)
    (case oex_InvalidWay => exact ⟨⟨_, _, _, _, _, _, _, _, _, _, _, _, _, _, _, rfl, by decide +kernel⟩, by k_is, by k_is, by k_is, by k_is⟩)
    (case ini_InvalidWay_init => k_is)
    (case l_InvalidWay_init => rfl)
    (case tyf_InvalidWay_init => k_is)
    (case c_InvalidWay_init => k_is)
    (case cdf_InvalidWay_init => exact ⟨_, _, _, _, rfl, rfl, rfl, by decide +kernel⟩)
    (case topsup => rfl)
    (case cell_InvalidWay_init => exact ⟨_, rfl, rfl⟩)
    (case n_super => k_is)
    (case tpany => k_is)
    (case mro_InvalidWay => k_is)
    (case ksi_InvalidWay => rfl)
    (case ev_InvalidWay => k_is)
    (case xn_InvalidWay_part => k_is)
    (case xn_InvalidWay_index => k_is)
    (case cr_Way => k_is)
    (case cg_Way => k_is)
    (case ca_Way_even => k_is)
    (case cc_Way_even => k_is)
    (case cf_Way_even => k_is)
    (case l_Way_even => k_is)
    (case c_Way_even => k_is)
    (case k_Way_even => k_is)
    (case mk_Way => k_is)
    (case kc_Way => k_is)
    (case a_check_post => k_is)
    (case l_check_post => k_is)
    (case c_check_post => k_is)
    (case k_check_post => k_is)
    (case a_Way_with_post => k_is)
    (case i_Way_with_post => k_is)
    (case l_Way_with_post => k_is)
    (case c_Way_with_post => k_is)
    (case k_Way_with_post => k_is)
    (case a_law_way => k_is)
    (case l_law_way => k_is)
    (case c_law_way => k_is)
    (case k_law_way => k_is)
    (case a_law_drawn => k_is)
    (case l_law_drawn => k_is)
    (case c_law_drawn => k_is)
    (case k_law_drawn => k_is)
    (case a_law_number => k_is)
    (case l_law_number => k_is)
    (case c_law_number => k_is)
    (case k_law_number => k_is)
    (case a_law_walked => k_is)
    (case l_law_walked => k_is)
    (case c_law_walked => k_is)
    (case k_law_walked => k_is)
    (case a_check_byte => k_is)
    (case l_check_byte => k_is)
    (case c_check_byte => k_is)
    (case k_check_byte => k_is)
    (case oex_DecodeError => exact ⟨⟨_, _, _, _, _, _, _, _, _, _, _, _, _, _, _, rfl, by decide +kernel⟩, by k_is, by k_is, by k_is, by k_is⟩)
    (case ini_DecodeError_init => k_is)
    (case l_DecodeError_init => rfl)
    (case tyf_DecodeError_init => k_is)
    (case c_DecodeError_init => k_is)
    (case cdf_DecodeError_init => exact ⟨_, _, _, _, rfl, rfl, rfl, by decide +kernel⟩)
    (case cell_DecodeError_init => exact ⟨_, rfl, rfl⟩)
    (case mro_DecodeError => k_is)
    (case ksi_DecodeError => rfl)
    (case ev_DecodeError => k_is)
    (case xn_DecodeError_offset => k_is)
    (case a_checksum => k_is)
    (case l_checksum => k_is)
    (case c_checksum => k_is)
    (case k_checksum => k_is)
    (case a_number_at => k_is)
    (case l_number_at => k_is)
    (case c_number_at => k_is)
    (case k_number_at => k_is)
    (case a_decode_way => k_is)
    (case l_decode_way => k_is)
    (case c_decode_way => k_is)
    (case k_decode_way => k_is)
    (case a_number_bytes => k_is)
    (case l_number_bytes => k_is)
    (case c_number_bytes => k_is)
    (case k_number_bytes => k_is)
    (case a_Way_len => k_is)
    (case i_Way_len => k_is)
    (case l_Way_len => k_is)
    (case c_Way_len => k_is)
    (case k_Way_len => k_is)
    (case pa_Way_capacity => k_is)
    (case pg_Way_capacity => k_is)
    (case pt_Way_capacity => k_is)
    (case pr_Way_capacity => k_is)
    (case l_Way_capacity => k_is)
    (case c_Way_capacity => k_is)
    (case k_Way_capacity => k_is)
    (case pa_Way_posts => k_is)
    (case pg_Way_posts => k_is)
    (case pt_Way_posts => k_is)
    (case pr_Way_posts => k_is)
    (case l_Way_posts => k_is)
    (case c_Way_posts => k_is)
    (case k_Way_posts => k_is)
    (case a_encode_way => k_is)
    (case l_encode_way => k_is)
    (case c_encode_way => k_is)
    (case k_encode_way => k_is)
    (case a_format_way => k_is)
    (case l_format_way => k_is)
    (case c_format_way => k_is)
    (case k_format_way => k_is)
    (case a_log_line => k_is)
    (case l_log_line => k_is)
    (case c_log_line => k_is)
    (case k_log_line => k_is)
    (case a_Way_getitem => k_is)
    (case i_Way_getitem => k_is)
    (case l_Way_getitem => k_is)
    (case c_Way_getitem => k_is)
    (case k_Way_getitem => k_is)
    (case a_taken => k_is)
    (case l_taken => k_is)
    (case c_taken => k_is)
    (case k_taken => k_is)
    (case fn_Way_getitem => k_is)
    (case a_after_leg => k_is)
    (case l_after_leg => k_is)
    (case c_after_leg => k_is)
    (case k_after_leg => k_is)
    (case a_check_start => k_is)
    (case l_check_start => k_is)
    (case c_check_start => k_is)
    (case k_check_start => k_is)
    (case a_log_text => k_is)
    (case l_log_text => k_is)
    (case c_log_text => k_is)
    (case k_log_text => k_is)
    (case a_is_number_word => k_is)
    (case l_is_number_word => k_is)
    (case c_is_number_word => k_is)
    (case k_is_number_word => k_is)
    (case a_numbers => k_is)
    (case l_numbers => k_is)
    (case c_numbers => k_is)
    (case k_numbers => k_is)
    (case oex_NotationError => exact ⟨⟨_, _, _, _, _, _, _, _, _, _, _, _, _, _, _, rfl, by decide +kernel⟩, by k_is, by k_is, by k_is, by k_is⟩)
    (case ini_NotationError_init => k_is)
    (case l_NotationError_init => rfl)
    (case tyf_NotationError_init => k_is)
    (case c_NotationError_init => k_is)
    (case cdf_NotationError_init => exact ⟨_, _, _, _, rfl, rfl, rfl, by decide +kernel⟩)
    (case cell_NotationError_init => exact ⟨_, rfl, rfl⟩)
    (case mro_NotationError => k_is)
    (case ksi_NotationError => rfl)
    (case ev_NotationError => k_is)
    (case xn_NotationError_row => k_is)
    (case xn_NotationError_word => k_is)
    (case a_parse_way => k_is)
    (case l_parse_way => k_is)
    (case c_parse_way => k_is)
    (case k_parse_way => k_is)
    (case a_Way_eq => k_is)
    (case i_Way_eq => k_is)
    (case l_Way_eq => k_is)
    (case c_Way_eq => k_is)
    (case k_Way_eq => k_is)
    (case a_law => k_is)
    (case l_law => k_is)
    (case c_law => k_is)
    (case k_law => k_is)
